import PyProof.Rows.All
import Wide.All
import OpenK.AllK
import Wide.FinOn
import Lean
import PyProof.EqAt
import PyProof.EqKinds
import KE.KMinKey
import KE.KSortKey
import KE.KLam
import PyProof.Rows.MinMaxN
import PyProof.ListMulRoad
import KE.KUnpackStar
import KE.KIntText
import PyProof.CallStr
import KE.KDictSum
import KE.KSortTup
import PyProof.Walk
import PyProof.Rows.SortRuns
import PyProof.Rows.ChunkEnd
import PyProof.Rows.Range3
import PyProof.Rows.SeqGen
import PyProof.ConsumeWalk
import PyProof.ListRange
import PyProof.NeKinds
import PyProof.TupleCall
import PySem.Challenge.RW_slipcurve_k24_whole_few_can_be_near
set_option maxHeartbeats 3999000
open PySem renaming wpAny_bind→aa,wpAny_pure→ah,wpAny_callSpecial?_slot→bb,wpAny_field→bj,wpAny_call_entry→bo,wpAny_setField_rec→bt,sizeLine_eq→bu,wpAny_mono→bH,wpAny_holding→bP,wpAny_rule→bS,boot_len→bU,wpAny_seqItems→bX,wpAny_newObj_type→b7,wpAny_attempt→cr,wpAny_typeNameOfWhole_keyiter→cQ,wpAny_passesOwn→cX,wpAny_of_eq→df,wpAny_setField→dj,mem_of_lookup→dm,wpAny_Call_Name_kw→dv,wpAny_letGo→dA,builtinLookup_eq_fast→dE,wpAny_tryCatch→dJ,wpAny_isInstance→dL,tupleKind_room_in1→d8,wpAny_truthy_bool→eC,wpAny_dictEntries→eE,wpAny_standAt→eG,wpAny_pyIter_zip→eI,wpAny_loadName_local→eS,wpAny_execs_nil→eU,typeLookup_type→eV,wpAny_specialOf→eW,wpAny_updateSeq_pair→eX,isSubtype_type→fg,isSubtype_stop→fh,wpAny_newTuple→fk,wpAny_pyIter_tuple→fw,wpAny_onRaise→fG,plainId_quiet→fH,wpAny_pyIter_list→fJ,wpAny_pyIter_slot→fN,wpAny_Name→fS,call_meets→fT,wpAny_comprehension_free→f6,wpAny_loadPart'→gd,wpAny_dictEpoch→gf,codeAny_builtin→gi,wpAny_updateSeq→gj,seqIndex_of→gp,wpAny_notOrdered_dict→gE,wpAny_isOneOf_keyiter→gG,wpAny_pyIter_revIter→gL,wpAny_handled→gO,wpAny_newList→gU,wpAny_loadName_cell→gW,wpAny_loadName_free→gX,codeAny_mono→ij,callType_new→io,wpAny_getItem_heap→iq,list_append→iB,wpAny_throw→iH,typeIs_int→i4,call→i7
open List renaming length_map→ab,mem_cons_of_mem→aj,getElem?_map→am,size_toArray→ao,length_append→av,mem_append_right→aw,getElem?_eq_getElem→az,mem_cons→aA,mem_cons_self→aB,map_append→aD,replicate→aE,length_take→aF,getElem?_eq_some_iff→aG,mem_singleton→aH,mem_map→aI,mem_of_getElem?→aJ,mem_append_left→aL,mem_append→aM,take_of_length_le→aR,map_cons→aS,not_mem_nil→aU,zipWith→be,append_assoc→bf,lookup_cons→bg,mem_map_of_mem→bi,map_map→bn,range→br,take_length→bC,take_append_drop→bD,mem_filter→bG,replicate_succ→bN,map_congr_left→bO,append_nil→bQ,length_eq_zero_iff→bR,length_cons→bT,mem_range→bW,take_sublist→bZ,drop_eq_getElem_cons→b9,pairwise_iff_getElem→ca,filter_append→cf,dropLast_concat_getLast→ck,getElem?_cons_succ→cm,pairwise_map→cn,nodup_cons→cp,length_drop→cv,length_singleton→cB,length_filter_le→cD,extract_eq_take_drop→cE,length→cF,getElem?_of_mem→cN,drop_eq_nil_of_le→cV,length_nil→cZ,nodup_iff_pairwise_ne→c7,getD_eq_getElem?_getD→c8,flatten_cons→c9,nodup_append→db,all_eq_true→dk,getElem_of_mem→dn,filter_cons_of_pos→dq,filter_cons_of_neg→dt,forIn_cons→dw,find?_cons→dz,getElem?_eq_none→dI,getElem_mem→dN,length_dropLast→dO,getElem?_append_right→dR,any_cons→dS,filterMap_cons→dW,getElem?_append_left→dX,foldl_cons→dY,getElem?_take_of_lt→d6,take_zero→eA,getElem?_cons_zero→eB,mem_flatMap→eK,drop_length→eL,length_replicate→eM,concat_eq_append→eN,getElem?_set_ne→eQ,length_zipWith→fe,length_take_le→ff,forIn_nil→fj,drop_zero→fo,getElem?_drop→fB,ext_getElem?→fO,flatMap_cons→fP,foldl_append→fR,map_nil→fY,nil_sublist→f8,sublist_nil→f9,any_eq_true→f',of_mem_zip→gc,getElem?_set_self→gk,range_succ_eq_map→gu,map_id→gA,drop_drop→gC,eq_nil_or_concat→gD,map_take→gP,map_drop→gQ,sum_cons→gV,flatMap_append→hV,filter_sublist→hW,map_eq_nil_iff→hX,mem_filterMap→ig,forIn_toArray→ip,map_inj_right→iw,take_add_one→iC,length_range→iD,getElem_take→iE,nodup_range→iP,zipIdx_cons→iQ,foldl→i5,nil_append→i6,zipIdx_nil→i9,range_succ→jb,filter_map→jd,take_take→jf,all_cons→jk,take_nil→jm
open PySem.Heap renaming get?_push_of_some→ae,get?_push_size→aq,lt_size→au,SameBut→aW,size_push→bw,get?_update_self→cY,get?_update_other→gt,get?_update_ne→hU,ExtBut→iG
open PySem.W renaming Frag→af,mg_of→ba,nsIn→bK,mg_none_of→bL,fnOf→cH,keepIn→eh,codeIn→ek,methodObj→fI,OpenLaw→gh,cellsFrom_some→gn,kat_kind→iV,WalkO→jn,mroIn→jo
open Nat renaming le_refl→ag,lt_of_lt_of_le→aP,ne_of_lt→aT,le_trans→aZ,zero_le→a8,lt_irrefl→bV,add_sub_cancel→ci,ne_of_gt→cG,zero_add→cJ,lt_succ_of_lt→da,add_zero→d9,le_of_lt→eP,le_succ→fu,le_of_succ_le→fL,lt_succ_self→fZ,min_eq_left→ge,lt_of_le_of_lt→iu,sub_zero→iz,succ_le_succ→iL,succ_ne_self→iO,le_add_right→iR
open PyProof.Rows renaming wpS_bind→ai,wpS_pure→ak,callWith_type1→bx,wpS_forRange→cg,zipApart_new→cI,wpS_mono→cS,wpS_modify→dM,wpS_get→er,wpS_lift→fm,boot_tuple→fV,pairsOf_size→f7,get?_update_seq→gg,subscriptTail_builtinR→gq,mirror_perm→gz,pairsOf_toList→gH,listUpdate_at→gT,getElem?_mirror_all→hJ,seqEpoch_at→iJ,boot_range→iX,Subscript_→iY
open Or renaming inl→ap,inr→cR
open Int renaming emod_lt_of_pos→aC,emod_nonneg→aK,toNat_natCast→bE,le_trans→bJ,le_refl→bM,mul_le_mul_of_nonneg_right→cM,emod_eq_of_lt→dD,le_of_lt→dH,fdiv_eq_ediv_of_nonneg→fE,mul_comm→ir,zero_add→iA,lt_trichotomy→iF,mul_nonneg→jg
open Option.some renaming inj→aN,injEq→fQ
open PySem.Value renaming ref→aO,none→cU,int→h9,type→iW,str→ji,isStrOf→jj
open Bool renaming false_ne_true→aQ,false_eq_true→aX,eq_iff_iff→bI,and_eq_true→cw,or_eq_true→i8
open PySem.Builtin.SmallTypes renaming nextOf→aV,ownedTupleIsFree→bz,ownedTupleHandOut→cb,newRecord→je
open Array renaming getElem?_toList→aY,toList_append→bh,length_toList→bv,getElem?_eq_some_iff→cu,toList_extract→cL,perm_iff_toList_perm→dU,toList_reverse→eY,toList_map→iU,size_map→jh,toList→jp
open PySem.Str renaming ofString→bd
open Sum renaming inl→bp,inr→fW
open PySem.Heap.SameBut renaming update→bq
open PySem.PassesOwn renaming never→bA
open PySem.NameKind renaming free→bF,cell→cq
open PySem.F renaming plain_max_loop→bY,slot_zip_next→cK,slot_dict_keyiterator_next→cT,slot_tuple_iterator_next→c6,plainAttrs_list→du,slot_enumerate_next→dG,slot_list_append→ee,type_list_append→eg,args_zip_next_1→eD,entry_max_loop→eF,entry_zip_next→eJ,args_dict_keyiterator_next_1→eZ,entry_dict_keyiterator_next→fc,args_tuple_iterator_next_1→fi,slot_dict_setdefault→ft,entry_tuple_iterator_next→fz,args_enumerate_next_1→ga,entry_enumerate_next→gv,args_list_append_2→gK,args_object_init_2→gM,entry_list_append→g8,slot_list_append→ik,slot_dict_iter→iS
open ForInStep renaming yield→b8,done→et
open PySem.Obj renaming mapSeq→cj,data_mapFields→cC,isFreed_of_fields→dF,mapFields→fF,cls_mapFields→fM,data_mapDictKeys→gN
open PySem.Around renaming in1_units→cA,under_plainId→fb
open PySem.Calls renaming spliced_cons→cW,spliced_nil→dC,Name_function_global→dQ,loadGlobal_builtin→fX,callWith_builtin→gr,evalArgs_plain→gJ,call_len_list→gZ
open False renaming elim→de
open PySem.Paired renaming snoc→dg,mono→dB,length→dP
open Ne renaming symm→dh
open List.Perm renaming trans→dZ
open PySem.Builtin.List renaming listTooLong→d7
open List.Pairwise renaming imp_of_mem→ed,nil→fK,sublist→gB
open PySem.Builtin.Dict_items renaming ownsTuple→fq
open PySem.SeqAt.EqAt renaming of_refs→fA,int_str→ic,str_int→ie,same→i0
open PySem.Builtin.Builtins renaming bindParams→fC
open True renaming intro→fU
open Classical renaming propDecidable→gb,em→il
open PySem.Data renaming fields→gl
open PyProof renaming noPylong_small→gm
open Option renaming map_eq_some_iff→gw,isSome_some→im,getD_none→iK,getD_some→iN,toList→jl,none→jr
open PySem.Builtin.Dict renaming showsAll→gF
open List.cons renaming inj→gR
open PySem.SeqAt.RcNeAt renaming tuples→g9
open PySem.Shared renaming heap→iI
open PySem.IsL renaming update→iM
open Prod renaming ext→iT
open PySem.SeqAt renaming EqAt→iZ
open PySem.Draws renaming list→ja
open PyProof.Rows.SortSt renaming mk'→jc
open Sum.inl renaming inj→jq
open Nat.le renaming dest→jt
open PySem.W.KatTups renaming cons→ju
local macro_rules | `(tactic| trivial)=>`(tactic| first | exact .inl rfl | exact .inr rfl | assumption)
local macro_rules|`(#[$xs,*])=>do
 let a:=xs.getElems
 if h:a.size=0 then Lean.Macro.throwUnsupported else
 let s:=a[0].raw.getId.eraseMacroScopes.toString
 if s=="O" then `(by lia) else if s=="D" then `(by decide) else if s=="N" then `(by decide +kernel) else if s=="S" then `(⟨rfl,rfl,rfl,by decide +kernel,rfl,by decide +kernel,by decide +kernel⟩) else if s=="A" then `(Or.inl rfl) else if s=="M" then `(by simp) else
 match [("_____eb","zd"),("________eee","za9 zg"),("________eeee","zL"),("_","zil zw zB zan zdk zU zN zA zaa zgv zf zcH zeh zcI zc6 zby zax zap zbX z9 zf6 zdn zb0 zkz"),("_e__f","pvx"),("_________ereeeddrr","zF zaJ"),("___er","ya"),("___e","zp zbY zbq"),("____e","zR zad zar zgu zcK"),("_______eeeu","zP"),("____","ze zec"),("__e____efeert","zn"),("_____e","zck"),("______b","zcg"),("_____eer","za zo"),("________________eefeeeneedrr","zC"),("________efeeei","zaV"),("______feer","zaI"),("__e_efet","zi"),("____er","zc5"),("____________eeeeeerrrrr","zgx"),("_f","zcG"),("_____________efeeeeei","zaB"),("__f","zaN"),("_ef","zfi za1"),("__________eeee","zbo"),("______eerrr","zbw"),("______ferr","zba"),("_____________e___efeefeeeeerit","zbC"),("_______ee","zie"),("___","zf0"),("___fe","zas"),("_________feerr","zgE"),("_e___e_fferr","zbE"),("_______feerr","zef"),("__","zed zfv")].find? fun q=>(q.2.splitOn " ").contains s with
 |none=>Lean.Macro.throwUnsupported
 |some (p,_)=>do
  let mut r:=#[]
  let mut i:=1
  for c in p.toList do
   if c=='e' then
    r:=r.push (a[i]!)
    i:=i+1
   else if c=='b' then
    r:=r.push (←`((by exact $(a[i]!))))
    i:=i+1
   else r:=r.push (←match c with|'_'=>`(_)|'r'=>`((by rfl))|'d'=>`((by decide))|'f'=>`(rfl)|'t'=>`((by trivial))|'i'=>`((by intro _; rfl))|'u'=>`((fun _ _=>rfl))|'n'=>`(.nil)|'l'=>`(Or.inl rfl)|'o'=>`(Or.inr rfl)|_=>`(nomark _))
  return Lean.Syntax.mkApp (←`(@$(⟨a[0].raw⟩):ident)) r
set_option Elab.async false
set_option linter.all false
set_option maxRecDepth 100000
namespace L2
open PySem PySem.Spec PyProof.Rows
abbrev Key:=Sum Int Str
def zea:Key→Value→Bool
 | .inl k,v=>Value.isInt k v
 | .inr x,v=>jj x v
def zmh (w:World):Key→Int
 | .inl k=>hashInt k
 | .inr x=>hashStr w x
theorem z8:∀ {k:Key} {v:Value},zea k v=true→(∃ i t,k=bp i∧v=h9 i t)∨(∃ x t,k=fW x∧v=ji x t)
 | .inl i,v,h=>by
  obtain⟨t,e⟩:=Value.isInt_shape (k:=i) (v:=v) h;exact .inl ⟨i,t,rfl,e⟩
 | .inr x,v,h=>by
  obtain⟨t,e⟩:=Value.isStrOf_shape (x:=x) (v:=v) h;exact .inr ⟨x,t,rfl,e⟩
theorem zhp (i:Int) (t:Tok):zea (.inl i) (.int i t)=true:=by simp [zea,Value.isInt]
theorem zhq (x:Str) (t:Tok):zea (.inr x) (.str x t)=true:=by simp [zea,jj]
theorem zkN (a b:Int):decide ((bp a:Key)=bp b)=(a == b):=by
 by_cases e:a=b
 ·subst e; simp
 ·have h:¬ (bp a:Key)=bp b:=fun q=>e (jq q)
  rw [decide_eq_false h];exact (beq_eq_false_iff_ne.mpr e).symm
theorem zkO (a b:Str):decide ((fW a:Key)=fW b)=decide (a=b):=by
 by_cases e:a=b
 ·subst e; simp
 ·have h:¬ (fW a:Key)=fW b:=fun q=>e (Sum.inr.inj q)
  rw [decide_eq_false h,decide_eq_false e]
theorem zkP (a:Int) (b:Str):decide ((bp a:Key)=fW b)=false:=decide_eq_false (fun q=>nomatch q)
theorem zkQ (a:Str) (b:Int):decide ((fW a:Key)=bp b)=false:=decide_eq_false (fun q=>nomatch q)
def zam (prog:Program) (w:World):PySem.KeyKind prog w Key where
 is:=zea
 hash:=zmh w
 inj:=fun v a b ha hb=>by
  rcases z8 ha with ⟨i,t,rfl,rfl⟩ | ⟨x,t,rfl,rfl⟩
  ·rcases z8 hb with ⟨j,u,rfl,e⟩ | ⟨y,u,rfl,e⟩
   ·injection e with e1 _; rw [e1]
   ·exact nomatch e
  ·rcases z8 hb with ⟨j,u,rfl,e⟩ | ⟨y,u,rfl,e⟩
   ·exact nomatch e
   ·injection e with e1 _; rw [e1]
 byValue:=fun k v h=>by
  rcases z8 h with ⟨i,t,rfl,rfl⟩ | ⟨x,t,rfl,rfl⟩ <;> rfl
 pyHash:=fun hv h=>by
  rcases z8 hv with ⟨i,t,rfl,rfl⟩ | ⟨x,t,rfl,rfl⟩
  ·exact wpAny_pyHash_int h
  ·exact wpAny_pyHash_str h
 eqBool:=fun hu hv h=>by
  rcases z8 hu with ⟨i,t,rfl,rfl⟩ | ⟨x,t,rfl,rfl⟩
  ·rcases z8 hv with ⟨j,u,rfl,rfl⟩ | ⟨y,u,rfl,rfl⟩
   ·rw [zkN] at h; exact wpAny_eqBool_int h
   ·rw [zkP] at h; exact ic i t y u _ _ _ _ h
  ·rcases z8 hv with ⟨j,u,rfl,rfl⟩ | ⟨y,u,rfl,rfl⟩
   ·rw [zkQ] at h; exact ie x t j u _ _ _ _ h
   ·rw [zkO] at h; exact wpAny_eqBool_str h
 «strs»:=fun k x t v h=>by
  rcases z8 h with ⟨i,u,rfl,e⟩ | ⟨y,u,rfl,e⟩
  ·exact nomatch e
  ·injection e with e1 _
   subst e1;cases v <;> rfl
theorem ze5 (prog:Program) (w:World) (i:Int) (t:Tok):(zam prog w).is (.inl i) (.int i t)=true:=zhp i t
theorem ze6 (prog:Program) (w:World) (x:Str) (t:Tok):(zam prog w).is (.inr x) (.str x t)=true:=zhq x t
inductive V where
 | non | bl (b:Bool) | int (i:Int) | str (x:Str) | byt (b:Array UInt8) | flt (b:UInt64) | ref (a:Addr) | ty (n:String)
 deriving DecidableEq
def RelV:V→Value→Prop
 | .non,u=>u=cU
 | .bl b,u=>u=Value.bool b
 | .int i,u=>∃ t,u=h9 i t
 | .str x,u=>∃ t,u=ji x t
 | .byt b,u=>∃ t,u=Value.bytes b t
 | .flt b,u=>∃ t,u=Value.float b t
 | .ref a,u=>u=aO a
 | .ty n,u=>u=iW n
abbrev zG:List V→List Value→Prop:=Paired RelV
theorem zG.length {xs:List V} {us:List Value} (r:zG xs us):xs.length=us.length:=dP r
theorem zG.get:∀ {xs:List V} {us:List Value} {i:Nat} {x:V},zG xs us→xs[i]? = some x→∃ u,us[i]? = some u∧RelV x u
 | _,_,_,_,.nil,e=>by simp at e
 | _,_,0,_,.cons r _,e=>by simp at e; subst e; exact⟨_,rfl,r⟩
 | _,_,i+1,x,.cons _ t,e=>by
  obtain⟨u,h1,h2⟩:=zG.get (i:=i) (x:=x) t (by simpa using e);exact⟨u,by simpa using h1,h2⟩
theorem zG.append:∀ {xs ys:List V} {us ws:List Value},zG xs us→zG ys ws→zG (xs++ys) (us++ws)
 | _,_,_,_,.nil,s=>s
 | _,_,_,_,.cons r t,s=>.cons r (zG.append t s)
theorem zG.take:∀ {xs:List V} {us:List Value} (n:Nat),zG xs us→zG (xs.take n) (us.take n)
 | _,_,0,_=>.nil
 | _,_,_+1,.nil=>.nil
 | _,_,n+1,.cons r t=>.cons r (zG.take n t)
theorem zG.drop:∀ {xs:List V} {us:List Value} (n:Nat),zG xs us→zG (xs.drop n) (us.drop n)
 | _,_,0,r=>r
 | _,_,_+1,.nil=>.nil
 | _,_,n+1,.cons _ t=>zG.drop n t
def zdX:Option V→Option Value→Prop
 | some v,some u=>RelV v u
 | none,none=>True
 | _,_=>False
def KV {κ:Type}:List (κ×V)→List (κ×Value)→Prop:=Paired fun (p:κ×V) (q:κ×Value)=>p.1=q.1∧RelV p.2 q.2
def kV:Key→V
 | .inl i=>.int i
 | .inr x=>.str x
inductive HO where
 | lst (xs:List V)
 | tup (xs:List V)
 | dK (jw:List (Key×V)) | dT (jw:List (List Key×V))
 | set (S:Int→Bool) (n:Nat)
 | ins (C dx:Addr) (fs:List (Str×V))
 | own (x:Addr)
 | xd (fs:List (Str×V))
 | met (f x:Addr)
 | rng (lo hi:Int)
 | frz (o:Obj) (u:HO)
 | tbl (ps:Array Value)
 | ext (φ:Heap→Prop)
abbrev Hp:=Addr→Option HO
def jA (H:Hp) (a:Addr) (o:HO):Hp:=fun b=>if b=a then some o else H b
theorem zb {H:Hp} {a:Addr} {o:HO}:jA H a o a=some o:=by unfold jA; rw [if_pos rfl]
theorem zm {H:Hp} {a b:Addr} {o:HO} (h:b≠a):jA H a o b=H b:=by unfold jA; rw [if_neg h]
theorem zkx {H:Hp} {a b:Addr} {o u:HO} (h:H a=some o) (h':H b=some u) (d:o≠u):a≠b:=by
 intro e; subst e; rw [h] at h'; exact d (aN h')
theorem zu {H:Hp} {a b:Addr} {o:HO} (h:H a=some o) (h':H b=none):a≠b:=by
 intro e; subst e; rw [h] at h'; cases h'
section
variable (P:Program) (w:World)
def zai (H:Hp) (h:Heap) (a:Addr):HO→Prop
 | .lst xs=>xs.length≤sizeLine∧∃ (jx:List Value) (n:Nat),zG xs jx∧h.get? a=some { cls:=.type "list",data:=.seq jx.toArray n }
 | .tup xs=>xs.length≤sizeLine∧∃ jx:List Value,zG xs jx∧IsTup h a jx.toArray
 | .dK jw=>jw.length≤sizeLine∧(a == sysModules)=false∧∃ vs,KV jw vs∧h.DictOf (zam P w) a vs
 | .dT jw=>jw.length≤sizeLine∧(a == sysModules)=false∧∃ xs:List (List Key×Addr×Value),
   Paired (fun (p:List Key×V) (q:List Key×Addr×Value)=>p.1=q.1∧H q.2.1=some (.tup (p.1.map kV))∧RelV p.2 q.2.2) jw xs ∧
   ∃ o es ep,h.get? a=some o∧o.ExactDict∧o.data = .dict es ep∧es.toList=xs.map (entryOfKey (tupleKind (zam P w)))∧(xs.map (·.1)).Nodup
 | .set S n=>h.SetOf (intKind P w) a S n
 | .ins C dx fs=>H dx=some (.own a)∧fs.length≤1000∧dx≠a∧h.get? a=some (PySem.W.instObj C dx) ∧
   ∃ mA,h.Ns1 dx mA∧(∀ f,zdX (fs.lookup f) (mA f))∧PySem.Within mA (fs.map (·.1))
 | .own _=>∃ o,h.get? a=some o
 | .xd fs=>∃ mA,h.Ns1 a mA∧∀ f,zdX (fs.lookup f) (mA f)
 | .rng lo hi=>∃ t u v,h.get? a=some { cls:=.type "range",data:=.fields #[.int lo t,.int hi u,.int 1 v] }
 | .frz o u=>h.get? a=some o∧zai H h a u
 | .tbl ps=>h.get? a=some { cls:=.none,data:=.fields ps }
 | .met f x=>h.get? a=some (fI (.ref f) (.ref x))
 | .ext φ=>φ h∧(∃ o,h.get? a=some o)∧∀ h1 h2:Heap,φ h1→(∀ o,h1.get? a=some o→h2.get? a=some o)→φ h2
def HOk (H:Hp) (h:Heap):Prop:=∀ a o,H a=some o→zai P w H h a o
end
section
variable {P:Program} {w:World} {H H':Hp} {h h':Heap} {a:Addr} {o:HO}
theorem zai.lt (x:zai P w H h a o):a < h.objs.size:=by
 cases o with
 | lst xs=>obtain⟨_,_,_,_,e⟩:=x; exact au e
 | tup xs=>obtain⟨_,_,_,p⟩:=x; exact p.lt
 | dK jw=>obtain⟨_,_,_,_,o,_,_,e,_⟩:=x; exact au e
 | dT jw=>obtain⟨_,_,_,_,o,_,_,e,_⟩:=x; exact au e
 | set S n=>obtain⟨o,_,_,_,e,_⟩:=x; exact au e
 | ins C dx fs=>obtain⟨_,_,_,e,_⟩:=x; exact au e
 | own y=>obtain⟨_,e⟩:=x; exact au e
 | xd fs=>obtain⟨_,⟨_,_,_,e,_⟩,_⟩:=x; exact au e
 | rng lo hi=>obtain⟨_,_,_,e⟩:=x; exact au e
 | frz ob u=>obtain⟨e,_⟩:=x; exact au e
 | tbl ps=>exact au (show h.get? a=some _ from x)
 | met f y=>exact au (show h.get? a=some _ from x)
 | ext φ=>obtain⟨_,⟨_,e⟩,_⟩:=x; exact au e
theorem Paired.mapP {α β:Type} {F G:α→β→Prop}:∀ {l₁:List α} {l₂:List β},Paired F l₁ l₂→(∀ a b,F a b→G a b)→Paired G l₁ l₂
 | _,_,.nil,_=>.nil
 | _,_,.cons r t,f=>.cons (f _ _ r) (Paired.mapP t f)
theorem zai.stay (x:zai P w H h a o) (k:∀ b u,(b=a∨H b=some (.own a))→h.get? b=some u→h'.get? b=some u)
  (ho:∀ b,H b=some (.own a)→H' b=some (.own a)) (ht:∀ b xs,H b=some (.tup xs)→H' b=some (.tup xs)):zai P w H' h' a o:=by
 induction o with
 | lst xs=>obtain⟨z,jx,n,r,e⟩:=x; exact⟨z,jx,n,r,k _ _ (.inl rfl) e⟩
 | tup xs=>obtain⟨z,jx,r,ob,e,c⟩:=x; exact⟨z,jx,r,ob,k _ _ (.inl rfl) e,c⟩
 | dK jw=>obtain⟨z,y,vs,r,ob,es,ep,e,c⟩:=x; exact⟨z,y,vs,r,ob,es,ep,k _ _ (.inl rfl) e,c⟩
 | dT jw =>
  obtain⟨z,y,xs,r,ob,es,ep,e,c⟩:=x;exact⟨z,y,xs,Paired.mapP r fun p q z=>⟨z.1,ht _ _ z.2.1,z.2.2⟩,ob,es,ep,k _ _ (.inl rfl) e,c⟩
 | set S n=>obtain⟨ob,es,ep,t,e,c⟩:=x; exact⟨ob,es,ep,t,k _ _ (.inl rfl) e,c⟩
 | ins C dx fs =>
  obtain⟨d,z,ne,e,mA,⟨od,es,ep,e2,c⟩,r⟩:=x;exact⟨ho _ d,z,ne,k _ _ (.inl rfl) e,mA,⟨od,es,ep,k _ _ (.inr d) e2,c⟩,r⟩
 | own y=>obtain⟨ob,e⟩:=x; exact⟨ob,k _ _ (.inl rfl) e⟩
 | xd fs=>obtain⟨mA,⟨od,es,ep,e,c⟩,r⟩:=x; exact⟨mA,⟨od,es,ep,k _ _ (.inl rfl) e,c⟩,r⟩
 | rng lo hi=>obtain⟨t,u,v,e⟩:=x; exact⟨t,u,v,k _ _ (.inl rfl) e⟩
 | frz ob u ih=>obtain⟨e,q⟩:=x; exact⟨k _ _ (.inl rfl) e,ih q⟩
 | tbl ps =>
  have e:h.get? a=some { cls:=.none,data:=.fields ps }:=x;show h'.get? a=some { cls:=.none,data:=.fields ps };exact k a _ (.inl rfl) e
 | met f y =>
  have e:h.get? a=some (fI (.ref f) (.ref y)):=x;show h'.get? a=some (fI (.ref f) (.ref y));exact k a _ (.inl rfl) e
 | ext φ=>obtain⟨p,⟨o,e⟩,st⟩:=x; exact⟨st _ _ p fun o q=>k _ _ (.inl rfl) q,⟨o,k _ _ (.inl rfl) e⟩,st⟩
theorem HOk.lt (x:HOk P w H h) (e:H a=some o):a < h.objs.size:=(x a o e).lt
theorem HOk.fresh (x:HOk P w H h) (e:h.objs.size≤a):H a=none:=by
 cases q:H a with
 | none=>rfl
 | some u=>exact absurd (aP (x.lt q) e) (bV _)
theorem HOk.kept (x:HOk P w H h) (k:∀ b u,h.get? b=some u→h'.get? b=some u):HOk P w H h':=fun a o e =>
 (x a o e).stay (fun b u _ q=>k b u q) (fun _ q=>q) fun _ _ q=>q
theorem HOk.laid (x:HOk P w H h) (k:∀ b u,h.get? b=some u→h'.get? b=some u) (hp:h.objs.size≤a) (new:zai P w (jA H a o) h' a o):HOk P w (jA H a o) h':=fun b u e=>by
 have hn:=x.fresh hp;by_cases hb:b=a
 ·subst hb; rw [zb] at e; cases e; exact new
 ·rw [zm hb] at e;exact (x b u e).stay (fun c v _ q=>k c v q) (fun c q=>by rw [zm (zu q hn)]; exact q) fun c xs q=>by rw [zm (zu q hn)]; exact q
end
def Rd (H:Hp) (a:Addr) (u:HO):Prop:=H a=some u∨∃ o,H a=some (.frz o u)
theorem Rd.ok {P:Program} {w:World} {H:Hp} {h:Heap} {a:Addr} {u:HO} (r:Rd H a u) (x:HOk P w H h):zai P w H h a u:=by
 rcases r with r | ⟨o,r⟩
 ·exact x a u r
 ·obtain⟨_,q⟩:=x a _ r;exact q
def Mut:Option HO→Prop
 | some (.lst _)=>True
 | some (.dK _)=>True
 | some (.dT _)=>True
 | some (.set _ _)=>True
 | some (.ins _ _ _)=>True
 | some (.ext _)=>True
 | _=>False
section
variable {P:Program} {w:World} {H:Hp} {h h':Heap} {x e:Addr} {o':HO}
theorem HOk.write (ok:HOk P w H h) (mu:Mut (H x)) (he:e=x∨H e=some (.own x)) (k:∀ b u,b≠e→h.get? b=some u→h'.get? b=some u) (ub:∃ u,h'.get? e=some u)
  (new:zai P w (jA H x o') h' x o'):HOk P w (jA H x o') h':=fun b u q=>by
 have uH:∀ c y,H c=some (.own y)→c≠x:=fun c y r z=>by subst z; rw [r] at mu; exact mu
 have xA:∀ c xs,H c=some (.tup xs)→c≠x:=fun c xs r z=>by subst z; rw [r] at mu; exact mu
 by_cases hb:b=x
 ·subst hb; rw [zb] at q; cases q; exact new
 ·rw [zm hb] at q;by_cases sF:b=e
  ·have q':H b=some (.own x):=by
    rcases he with z | z
    ·exact absurd (sF.trans z) hb
    ·rw [sF]; exact z
   rw [q] at q'; cases q';obtain⟨v,hv⟩:=ub;exact⟨v,by rw [sF]; exact hv⟩
  ·refine (ok b u q).stay (fun c v hc r=>k c v ?_ r) (fun c r=>by rw [zm (uH c b r)]; exact r) fun c xs r=>by rw [zm (xA c xs r)]; exact r
   rcases hc with rfl | hc
   ·exact sF
   ·rintro rfl;rcases he with z | z
    ·exact uH c b hc z
    ·rw [hc] at z; cases z; exact hb rfl
end
structure Un (fs ex:List Addr) (H H':Hp) (h h':Heap):Prop where
 keep:∀ b o,h.get? b=some o→H b=none→b∉fs→b∉ex→h'.get? b=some o
 slot:∀ b o,h.get? b=some o→H b=none→b∈fs→b∉ex→∃ sl,h'.get? b=some { o with slots:=sl }
 free:∀ b o,h.get? b=some o→H b=none→b∉ex→H' b=none
 there:∀ b o,h.get? b=some o→b∉ex→∃ o',h'.get? b=some o'
 tups:∀ b xs,H b=some (.tup xs)→H' b=some (.tup xs)
 frzs:∀ b o u,H b=some (.frz o u)→H' b=some (.frz o u)
 tbls:∀ b ps,H b=some (.tbl ps)→∃ more,H' b=some (.tbl (ps++more))
section
variable {fs fs' ex ex':List Addr} {H H1 H2:Hp} {h h1 h2 h':Heap} {a x e:Addr} {o:HO}
theorem Un.any (u:Un fs ex H H1 h h1) {b:Addr} {ob:Obj} (q:h.get? b=some ob) (n:H b=none) (hx:b∉ex):∃ sl,h1.get? b=some { ob with slots:=sl }:=by
 by_cases hb:b∈fs
 ·exact u.slot b ob q n hb hx
 ·exact⟨ob.slots,u.keep b ob q n hb hx⟩
theorem Un.kept (k:∀ b u,h.get? b=some u→h'.get? b=some u):Un fs ex H H h h' :=
 ⟨fun b ob q _ _ _=>k b ob q,fun b ob q _ _ _=>⟨ob.slots,k b ob q⟩,fun _ _ _ n _=>n,fun b ob q _=>⟨ob,k b ob q⟩,fun _ _ q=>q,fun _ _ _ q=>q,fun _ ps q=>⟨#[],by rw [q]; simp⟩⟩
theorem Un.refl:Un fs ex H H h h:=Un.kept fun _ _ q=>q
theorem Un.laid (k:∀ b u,h.get? b=some u→h'.get? b=some u) (hp:h.objs.size≤a) (hn:H a=none):Un fs ex H (jA H a o) h h' where
 keep:=fun b u q _ _ _=>k b u q
 slot:=fun b u q _ _ _=>⟨u.slots,k b u q⟩
 free:=fun b u q n _=>by rw [zm (aT (aP (au q) hp))]; exact n
 there:=fun b u q _=>⟨u,k b u q⟩
 tups:=fun b xs q=>by rw [zm (zu q hn)]; exact q
 frzs:=fun b u xs q=>by rw [zm (zu q hn)]; exact q
 tbls:=fun b ps q=>⟨#[],by rw [zm (zu q hn),q]; simp⟩
theorem Un.write (mu:Mut (H x)) (he:e=x∨H e=some (.own x)) (k:∀ b u,b≠e→h.get? b=some u→h'.get? b=some u) (ub:∃ u,h'.get? e=some u):Un fs ex H (jA H x o) h h':=by
 have hx:∀ b,H b=none→b≠x:=fun b n z=>by subst z; rw [n] at mu; exact mu
 have hb:∀ b,H b=none→b≠e:=fun b n z=>by
  subst z;rcases he with r | r
  ·exact hx b n r
  ·rw [n] at r; cases r
 have hm:∀ b u,H b=some u→¬ Mut (some u)→b≠x:=fun b u q nm z=>by subst z; rw [q] at mu; exact nm mu
 refine⟨fun b u q n _ _=>k b u (hb b n) q,fun b u q n _ _=>⟨u.slots,k b u (hb b n) q⟩,fun b u q n _=>by rw [zm (hx b n)]; exact n,fun b u q _=>?_,
  fun b xs q=>by rw [zm (hm b _ q fun z=>z)]; exact q,fun b u xs q=>by rw [zm (hm b _ q fun z=>z)]; exact q,fun b ps q=>⟨#[],by rw [zm (hm b _ q fun z=>z),q]; simp⟩⟩
 by_cases sF:b=e
 ·subst sF; exact ub
 ·exact⟨u,k b u sF q⟩
end
def trk (h:Heap) (H:Hp):List Addr:=(br h.objs.size).filter fun a=>(H a).isSome
def zdY (h:Heap) (H:Hp):Heap:=PySem.W.hideAll h (trk h H)
theorem zhr (h:Heap) (H:Hp):(zdY h H).objs.size=h.objs.size:=PySem.W.hideAll_size _ _
theorem zid {h:Heap} {H:Hp} {b:Addr} {o:Obj} (e:h.get? b=some o) (n:H b=none):(zdY h H).get? b=some o :=
 PySem.W.hideAll_get _ e fun hm=>by
  have q:(H b).isSome=true:=(bG.mp hm).2;rw [n] at q; simp at q
theorem zjB {h:Heap} {H:Hp} {b:Addr} {o:Obj} (e:(zdY h H).get? b=some o):h.get? b=some o∧H b=none:=by
 have e':h.get? b=some o:=PySem.W.of_hideAll (trk h H) e;refine⟨e',?_⟩;cases q:H b with
 | none=>rfl
 | some x =>
  have hm:b∈trk h H:=bG.mpr ⟨bW.mpr (au e'),by simp [q]⟩;have z:(zdY h H).get? b=none:=PySem.W.hideAll_none (trk h H) hm;rw [z] at e; cases e
structure Mod (K:af) (mg:Str→Option Value) (base:Heap):Prop where
 kin:K.In base
 glob:base.Ns mainGlobals mg
 blt:∃ mb,base.Ns builtinsNs mb∧∀ x:Str,x≠"__name__"→mb x=bootBuiltins x
 nolimit:base.NoLimit
structure Cx where
 prog:Program
 w:World
 K:af
 mg:Str→Option Value
 base:Heap
 A:Around
 N:List Str
 s₀:Shared
 H₀:Hp
 env:Env
 outer:List Env
 stack:List Env
 ex:List Addr
 fn:Str→Bool
 calm:Bool
 pn:List (Addr×Obj)
 xe:Value→Shared→Prop
def frs (l:List Env):List Addr:=l.filterMap (·.frame)
abbrev Cx.fs (X:Cx):List Addr:=frs X.outer
def Vis (sc:Scope) (x:Str):Prop:=sc.names.lookup x=some .local∨sc.names.lookup x=some .cell∨sc.names.lookup x=some .free
def Loc (sc:Scope) (x:Str):Prop:=sc.names.lookup x=some .local∨sc.names.lookup x=some .cell
def Look (env:Env) (h:Heap) (m:Str→Option Value) (x:Str) (u:Value):Prop :=
 (env.kindOf x=some .local∧m x=some u)∨((env.kindOf x=some .cell∨env.kindOf x=some .free)∧∃ c,env.cells.lookup x=some c∧h.IsCell c (some u))
structure Cx.Ok (X:Cx):Prop where
 mod:Mod X.K X.mg X.base
 kind:X.env.scope.kind = .function
 glob:X.env.globals=mainGlobals
 blt:X.env.builtins=builtinsNs
 above:X.s₀.heap.objs.size≤X.env.locals
 inj:∀ x y c,X.env.cells.lookup x=some c→X.env.cells.lookup y=some c→x=y
 has:∀ x,(X.env.kindOf x=some .cell∨X.env.kindOf x=some .free)→∃ c,X.env.cells.lookup x=some c
 cab:∀ x c,X.fn x=true→X.env.cells.lookup x=some c→X.s₀.heap.objs.size≤c
 hd:X.calm=true→X.A.handled=none
 frames:X.A.frames=some X.stack
 stk:X.stack=X.outer∨(X.stack=X.env :: X.outer∧X.env.frame=some X.env.locals)
 exf:∀ b∈X.ex,b≠X.env.locals∧∀ x c,X.env.cells.lookup x=some c→c≠b
 bs:∀ b o,X.base.get? b=some o→X.s₀.heap.get? b=some o∧X.H₀ b=none
 bsz:X.base.objs.size≤X.s₀.heap.objs.size
 noex:∀ b o,X.base.get? b=some o→b∉X.ex
 exfs:∀ b∈X.ex,b∉X.fs
 funs:X.s₀.heap.FunFrames X.base X.outer
 frf:∀ b∈X.fs,X.H₀ b=none
structure Inv (X:Cx) (jv:List (Addr×Obj)) (σ:List (Option V)) (H:Hp) (s:Shared):Prop where
 ok:X.Ok
 os:s.os=X.s₀.os
 bare:AllBare s.gens
 base:Un X.fs X.ex X.H₀ H X.s₀.heap s.heap
 loc:∃ m,s.heap.Ns X.env.locals m∧∀ (i:Nat) (x:Str) (v:V),X.N[i]? = some x→σ[i]? = some (some v)→Vis X.env.scope x→∃ u,RelV v u∧Look X.env s.heap m x u
 cell:∀ x c,X.env.cells.lookup x=some c→∃ v,s.heap.IsCell c v
 free:H X.env.locals=none
 freeC:∀ x c,X.env.cells.lookup x=some c→H c=none
 pin:∀ p∈X.pn++jv,s.heap.get? p.1=some p.2∧H p.1=none∧p.1≠X.env.locals∧p.1∉X.fs∧∀ v,p.2.data≠.cell v
 hok:HOk X.prog X.w H s.heap
 len:σ.length=X.N.length
section
variable {X:Cx} {jv:List (Addr×Obj)} {σ:List (Option V)} {H H':Hp} {s:Shared} {h':Heap}
theorem Cx.Ok.nofr (ok:X.Ok) {b:Addr} {o:Obj} (e:X.base.get? b=some o):b∉X.fs:=fun hb=>by
 have:=(ok.funs.mem hb).1;rw [e] at this; cases this
theorem Inv.bs (I:Inv X jv σ H s):∀ b o,X.base.get? b=some o→s.heap.get? b=some o∧H b=none:=fun b o e =>
 ⟨I.base.keep b o (I.ok.bs b o e).1 (I.ok.bs b o e).2 (I.ok.nofr e) (I.ok.noex b o e),I.base.free b o (I.ok.bs b o e).1 (I.ok.bs b o e).2 (I.ok.noex b o e)⟩
theorem Inv.bk (I:Inv X jv σ H s):∀ b o,X.base.get? b=some o→s.heap.get? b=some o:=fun b o e=>(I.bs b o e).1
theorem Inv.mod (I:Inv X jv σ H s):Mod X.K X.mg X.base:=I.ok.mod
theorem Inv.kIn (I:Inv X jv σ H s):X.K.In s.heap:=I.ok.mod.kin.keeps I.bk
theorem Inv.nolimit (I:Inv X jv σ H s):s.heap.NoLimit:=I.ok.mod.nolimit.keeps I.bk
theorem Inv.lt (I:Inv X jv σ H s):X.env.locals < s.heap.objs.size:=let ⟨_,hn,_⟩:=I.loc; hn.lt
theorem Inv.sz (I:Inv X jv σ H s):X.s₀.heap.objs.size≤s.heap.objs.size:=aZ I.ok.above (eP I.lt)
theorem Inv.nofs (I:Inv X jv σ H s) {a:Addr} (h:s.heap.objs.size≤a):a∉X.fs:=fun hb=>by
 obtain⟨_,o,ho,_⟩:=I.ok.funs.mem hb;exact absurd (aP (au ho) (aZ I.sz h)) (bV _)
theorem Inv.cne (I:Inv X jv σ H s):∀ x c,X.env.cells.lookup x=some c→c≠X.env.locals:=fun x c e z=>by
 obtain⟨v,o,ho,hd⟩:=I.cell x c e;obtain⟨m,⟨o',es,ep,pP,qS,_⟩,_⟩:=I.loc;rw [z,pP] at ho; cases ho; rw [qS] at hd; cases hd
theorem Inv.funs (I:Inv X jv σ H s):s.heap.FunFrames X.base X.outer:=by
 have all:∀ (l:List Env),(∀ b∈frs l,b∈X.fs)→X.s₀.heap.FunFrames X.base l→s.heap.FunFrames X.base l:=by
  intro l;induction l with
  | nil=>intro _ _; trivial
  | cons env r ih =>
   intro hs hl;obtain⟨hk,⟨L,o,hf,hn,ho,hd⟩,hr⟩:=hl;have hL:L∈X.fs:=hs L (by unfold frs; rw [dW,hf]; exact aB);obtain⟨sl,e⟩:=I.base.slot L o ho (I.ok.frf L hL) hL fun z=>I.ok.exfs L z hL
   exact⟨hk,⟨L,_,hf,hn,e,hd⟩,ih (fun b hb=>hs b (by unfold frs; rw [dW,hf]; exact aj _ hb)) hr⟩
 exact all X.outer (fun _ hb=>hb) I.ok.funs
theorem Inv.stack (I:Inv X jv σ H s):s.heap.FunFrames X.base X.stack:=by
 rcases I.ok.stk with e | ⟨e,hf⟩
 ·rw [e]; exact I.funs
 ·rw [e];obtain⟨m,hn,_⟩:=I.loc;refine .cons (by rw [I.ok.kind]; decide) hf hn ?_ I.funs;exact Heap.get?_none_of_le (aZ I.ok.bsz I.ok.above)
theorem Inv.stkSub (I:Inv X jv σ H s):∀ b∈frs X.stack,b∈X.env.locals :: X.fs:=fun b hb=>by
 rcases I.ok.stk with e | ⟨e,hf⟩
 ·rw [e] at hb; exact aj _ hb
 ·rw [e] at hb;unfold frs at hb;rw [dW,hf] at hb;exact hb
theorem Inv.stkFree (I:Inv X jv σ H s):∀ b∈frs X.stack,H b=none:=fun b hb=>by
 rcases aA.mp (I.stkSub b hb) with e | hb
 ·rw [e]; exact I.free
 ·obtain⟨_,o,ho,_⟩:=I.ok.funs.mem hb;exact I.base.free b o ho (I.ok.frf b hb) fun z=>I.ok.exfs b z hb
theorem Inv.step {g':Array GenState} {t':Nat} {d':Drawn} {ch:List Addr} (I:Inv X jv σ H s)
  (nU:∀ b∈ch,(b∈X.ex∨X.s₀.heap.objs.size≤b)∧b≠X.env.locals∧(∀ x c,X.env.cells.lookup x=some c→c≠b)∧∀ p∈X.pn++jv,p.1≠b)
  (keep:∀ b o,b≠X.env.locals→b∉X.fs→b∉ch→s.heap.get? b=some o→H b=none→h'.get? b=some o)
  (slot:∀ b o,b≠X.env.locals→b∈X.fs→b∉ch→s.heap.get? b=some o→H b=none→∃ sl,h'.get? b=some { o with slots:=sl }) (free:∀ b o,b∉ch→s.heap.get? b=some o→H b=none→H' b=none)
  (there:∀ b o,b∉ch→s.heap.get? b=some o→∃ o',h'.get? b=some o')
  (tups:∀ b xs,H b=some (.tup xs)→H' b=some (.tup xs)) (frzs:∀ b o u,H b=some (.frz o u)→H' b=some (.frz o u)) (tbls:∀ b ps,H b=some (.tbl ps)→∃ more,H' b=some (.tbl (ps++more)))
  (ns:∀ m,s.heap.Ns X.env.locals m→h'.Ns X.env.locals m) (hok:HOk X.prog X.w H' h') (hg:AllBare g') :
  Inv X jv σ H' { s with heap:=h',gens:=g',drawn:=d',toks:=t' }:=by
 have neL:∀ b o,X.s₀.heap.get? b=some o→b≠X.env.locals:=fun b o e=>aT (aP (au e) I.ok.above)
 have wy:∀ b o,X.s₀.heap.get? b=some o→b∉X.ex→b∉ch:=fun b o e hx hb=>by
  rcases (nU b hb).1 with z | z
  ·exact hx z
  ·exact absurd (aP (au e) z) (bV _)
 have cellK:∀ x c,X.env.cells.lookup x=some c→∀ v,s.heap.IsCell c v→h'.IsCell c v:=fun x c e v ⟨o,ho,hd⟩=>by
  have uI:c∉ch:=fun z=>(nU c z).2.2.1 x c e rfl
  by_cases hc:c∈X.fs
  ·obtain⟨sl,q⟩:=slot c o (I.cne x c e) hc uI ho (I.freeC x c e);exact⟨_,q,hd⟩
  ·exact⟨o,keep c o (I.cne x c e) hc uI ho (I.freeC x c e),hd⟩
 refine⟨I.ok,I.os,hg,⟨fun b o e n hb hx=>?_,fun b o e n hb hx=>?_,fun b o e n hx=>?_,fun b o e hx=>?_,fun b xs e=>tups b xs (I.base.tups b xs e),fun b o xs e=>frzs b o xs (I.base.frzs b o xs e),fun b ps e=>?_⟩,?_,fun x c e=>?_,?_,fun x c e=>?_,fun p hp=>?_,hok,I.len⟩
 ·exact keep b o (neL b o e) hb (wy b o e hx) (I.base.keep b o e n hb hx) (I.base.free b o e n hx)
 ·obtain⟨sl,e1⟩:=I.base.slot b o e n hb hx;obtain⟨sl',e2⟩:=slot b _ (neL b o e) hb (wy b o e hx) e1 (I.base.free b o e n hx);exact⟨sl',e2⟩
 ·obtain⟨o',e1⟩:=I.base.there b o e hx;exact free b o' (wy b o e hx) e1 (I.base.free b o e n hx)
 ·obtain⟨o',e1⟩:=I.base.there b o e hx;exact there b o' (wy b o e hx) e1
 ·obtain⟨m1,e1⟩:=I.base.tbls b ps e;obtain⟨m2,e2⟩:=tbls b _ e1;exact⟨m1++m2,by rw [e2,Array.append_assoc]⟩
 ·obtain⟨m,hn,hl⟩:=I.loc;refine⟨m,ns m hn,fun i x v e1 e2 e3=>?_⟩;obtain⟨u,r,l⟩:=hl i x v e1 e2 e3;refine⟨u,r,?_⟩;rcases l with l | ⟨k,c,e,z⟩
  ·exact .inl l
  ·exact .inr ⟨k,c,e,cellK x c e _ z⟩
 ·obtain⟨v,z⟩:=I.cell x c e;exact⟨v,cellK x c e v z⟩
 ·obtain⟨m,⟨o,_,_,ho,_⟩,_⟩:=I.loc;exact free _ o (fun z=>(nU _ z).2.1 rfl) ho I.free
 ·obtain⟨v,o,ho,hd⟩:=I.cell x c e;exact free c o (fun z=>(nU c z).2.2.1 x c e rfl) ho (I.freeC x c e)
 ·obtain⟨e,n,ne,nf,d⟩:=I.pin p hp;have uI:p.1∉ch:=fun z=>(nU p.1 z).2.2.2 p hp rfl
  exact⟨keep p.1 p.2 ne nf uI e n,free p.1 p.2 uI e n,ne,nf,d⟩
theorem Inv.un {t':Nat} (I:Inv X jv σ H s) (u:Un X.fs [] H H' s.heap h') (hok:HOk X.prog X.w H' h'):Inv X jv σ H' { s with heap:=h',toks:=t' }:=by
 obtain⟨m,⟨o,es,ep,ho,r⟩,_⟩:=id I.loc;obtain⟨sl,hL⟩:=u.any ho I.free #[M];exact I.step (g':=s.gens) (d':=s.drawn) (ch:=[]) (fun _ z=>nomatch z) (fun b o _ hb _ e n=>u.keep b o e n hb #[M]) (fun b o _ hb _ e n=>u.slot b o e n hb #[M]) (fun b o _ e n=>u.free b o e n #[M]) (fun b o _ e=>u.there b o e #[M]) u.tups u.frzs u.tbls (fun m' hm=>by
  obtain⟨o',qH,wA,pP,r'⟩:=hm;rw [ho] at pP; cases pP;exact⟨_,qH,wA,hL,r'⟩) hok I.bare
theorem Inv.call {g':Array GenState} {t':Nat} {d':Drawn} {ch:List Addr} (I:Inv X jv σ H s) (u:Un (frs X.stack) ch H H' s.heap h') (hok:HOk X.prog X.w H' h') (hg:AllBare g')
  (nU:∀ b∈ch,(b∈X.ex∨X.s₀.heap.objs.size≤b)∧b≠X.env.locals∧(∀ x c,X.env.cells.lookup x=some c→c≠b)∧∀ p∈X.pn++jv,p.1≠b) :
  Inv X jv σ H' { s with heap:=h',gens:=g',drawn:=d',toks:=t' }:=by
 obtain⟨m,⟨o,es,ep,ho,r⟩,_⟩:=id I.loc;obtain⟨sl,hL⟩:=u.any ho I.free fun z=>(nU _ z).2.1 rfl
 exact I.step (ch:=ch) nU (fun b o hL hb hc e n=>u.keep b o e n (fun z=>(aA.mp (I.stkSub b z)).elim hL hb) hc) (fun b o _ _ hc e n=>u.any e n hc) (fun b o hc e n=>u.free b o e n hc) (fun b o hc e=>u.there b o e hc) u.tups u.frzs u.tbls (fun m' hm=>by
  obtain⟨o',qH,wA,pP,r'⟩:=hm;rw [ho] at pP; cases pP;exact⟨_,qH,wA,hL,r'⟩) hok hg
theorem Inv.turned {t':Nat} {it:Addr} (I:Inv X jv σ H s) (k:∀ b o,b≠it→s.heap.get? b=some o→h'.get? b=some o) (hn:H it=none) (hL:it≠X.env.locals)
  (h1:it∈X.ex∨X.s₀.heap.objs.size≤it) (h2:∀ x c,X.env.cells.lookup x=some c→c≠it) (h3:∀ p∈X.pn++jv,p.1≠it):Inv X jv σ H { s with heap:=h',toks:=t' }:=by
 have oD:∀ b u,H b=some u→b≠it:=fun b u e z=>by rw [z,hn] at e; cases e
 refine I.step (g':=s.gens) (d':=s.drawn) (ch:=[it]) (fun b hb=>?_) (fun b o _ _ hc e _=>k b o (fun z=>hc (by simp [z])) e) (fun b o _ _ hc e _=>⟨o.slots,k b o (fun z=>hc (by simp [z])) e⟩) (fun _ _ _ _ n=>n)
  (fun b o hc e=>⟨o,k b o (fun z=>hc (by simp [z])) e⟩) (fun _ _ e=>e) (fun _ _ _ e=>e) (fun b ps e=>⟨#[],by rw [e]; simp⟩) (fun m hm=>?_) (fun b u e=>?_) I.bare
 ·have e:b=it:=by simpa using hb
  subst e;exact⟨h1,hL,h2,h3⟩
 ·obtain⟨o,es,ep,ho,r⟩:=hm;exact⟨o,es,ep,k _ o (dh hL) ho,r⟩
 ·refine (I.hok b u e).stay (fun c v hc q=>k c v ?_ q) (fun _ q=>q) fun _ _ q=>q
  rcases hc with z | z
  ·rw [z]; exact oD b u e
  ·exact oD c _ z
theorem Inv.tok (I:Inv X jv σ H s) (t:Nat):Inv X jv σ H { s with toks:=t }:=I.un (h':=s.heap) (t':=t) Un.refl I.hok
theorem Inv.kept {t':Nat} (I:Inv X jv σ H s) (k:∀ b u,s.heap.get? b=some u→h'.get? b=some u):Inv X jv σ H { s with heap:=h',toks:=t' }:=I.un (Un.kept k) (I.hok.kept k)
theorem Inv.laid {a:Addr} {o:HO} {t':Nat} (I:Inv X jv σ H s) (k:∀ b u,s.heap.get? b=some u→h'.get? b=some u) (hp:s.heap.objs.size≤a) (new:zai X.prog X.w (jA H a o) h' a o) :
  Inv X jv σ (jA H a o) { s with heap:=h',toks:=t' }:=I.un (Un.laid k hp (I.hok.fresh hp)) (I.hok.laid k hp new)
theorem Inv.write {x e:Addr} {o:HO} {t':Nat} (I:Inv X jv σ H s) (mu:Mut (H x)) (he:e=x∨H e=some (.own x)) (k:∀ b u,b≠e→s.heap.get? b=some u→h'.get? b=some u) (ub:∃ u,h'.get? e=some u)
  (new:zai X.prog X.w (jA H x o) h' x o):Inv X jv σ (jA H x o) { s with heap:=h',toks:=t' }:=I.un (Un.write mu he k ub) (I.hok.write mu he k ub new)
theorem Inv.weak {σ':List (Option V)} (I:Inv X jv σ H s) (hl:σ'.length=σ.length) (w:∀ (i:Nat) v,σ'[i]? = some (some v)→σ[i]? = some (some v)):Inv X jv σ' H s :=
 ⟨I.ok,I.os,I.bare,I.base,let ⟨m,hn,qT⟩:=I.loc; ⟨m,hn,fun i x v e1 e2 e3=>qT i x v e1 (w i v e2) e3⟩,I.cell,I.free,I.freeC,I.pin,I.hok,hl.trans I.len⟩
theorem Inv.pins_of {lB:List (Addr×Obj)} (I:Inv X jv σ H s) (h:∀ p∈lB,s.heap.get? p.1=some p.2∧H p.1=none∧p.1≠X.env.locals∧p.1∉X.fs∧∀ v,p.2.data≠.cell v):Inv X lB σ H s :=
 ⟨I.ok,I.os,I.bare,I.base,I.loc,I.cell,I.free,I.freeC,fun p hp=>(aM.mp hp).elim (fun z=>I.pin p (aL _ z)) (h p),I.hok,I.len⟩
theorem ze7 {N:List Str} (hN:N.Nodup) {i j:Nat} {x:Str} (a:N[i]? = some x) (b:N[j]? = some x):i=j:=by
 obtain⟨h1,e1⟩:=aG.mp a;obtain⟨h2,e2⟩:=aG.mp b;exact (List.getElem_inj hN).mp (e1.trans e2.symm)
theorem zeb {M:Model} {A:Around} {E:Value→Shared→Prop} {i:Nat} {x:Str} {v:V} {u:Value} {Q:Unit→Shared→Prop} (I:Inv X jv σ H s) (hN:X.N.Nodup) (hi:X.N[i]? = some x) (hx:Loc X.env.scope x) (r:RelV v u)
  (h:∀ s',Inv X jv (σ.set i (some v)) H s'→(∃ a,aW a s.heap s'.heap∧(a=X.env.locals∨X.env.cells.lookup x=some a))→Q () s') (hf:X.fn x=true∨X.env.scope.names.lookup x=some .local:=by first | exact .inl rfl | exact .inr rfl | assumption):wpAny M A (storeName X.env x u) Q E s:=by
 obtain⟨m,hn,hl⟩:=id I.loc;have xB:(X.env.scope.kind == .class || (X.env.scope.kind == .module && X.env.locals != X.env.globals))=false:=by rw [I.ok.kind]; rfl
 have hiσ:i < σ.length:=by rw [I.len]; exact (aG.mp hi).1
 have cne:=I.cne;have tracked:∀ {a:Addr} {h':Heap},(∃ o,s.heap.get? a=some o∧H a=none)→aW a s.heap h'→HOk X.prog X.w H h':=fun {a h'} ha hs b ob e=>by
  obtain⟨_,_,nv⟩:=ha;refine (I.hok b ob e).stay (fun c w' hc q=>(hs.2 c ?_).trans q) (fun _ q=>q) fun _ _ q=>q
  rintro rfl;rcases hc with rfl | hc
  ·rw [nv] at e; cases e
  ·rw [nv] at hc; cases hc
 rcases hx with hk | hk
 ·refine wpAny_storeName_local hk hn (fun h' xC hs=>?_) xB;obtain⟨oL,_,_,uJ,_⟩:=id hn;refine h _ ⟨I.ok,I.os,I.bare,⟨fun b o e n hb hx=>?_,fun b o e n hb hx=>?_,I.base.free,fun b o e hx=>?_,I.base.tups,I.base.frzs,I.base.tbls⟩,⟨_,xC,fun j y v' e1 e2 e3=>?_⟩,fun y c e=>?_,I.free,I.freeC,fun p hp=>?_,tracked ⟨oL,uJ,I.free⟩ hs,by simpa using I.len⟩ ⟨_,hs,.inl rfl⟩
  ·exact (hs.2 b (aT (aP (au e) I.ok.above))).trans (I.base.keep b o e n hb hx)
  ·obtain⟨sl,e1⟩:=I.base.slot b o e n hb hx;exact⟨sl,(hs.2 b (aT (aP (au e) I.ok.above))).trans e1⟩
  ·obtain⟨o',e1⟩:=I.base.there b o e hx;exact⟨o',(hs.2 b (aT (aP (au e) I.ok.above))).trans e1⟩
  ·by_cases hj:j=i
   ·subst hj;rw [hi] at e1; cases e1;rw [gk hiσ] at e2;cases e2;exact⟨u,r,.inl ⟨hk,#[M]⟩⟩
   ·rw [eQ (dh hj)] at e2;obtain⟨u',r',q⟩:=hl j y v' e1 e2 e3;refine⟨u',r',?_⟩;rcases q with ⟨k,e⟩ | ⟨k,c,e,z⟩
    ·refine .inl ⟨k,?_⟩;have:y≠x:=fun e=>hj (ze7 hN e1 (e ▸ hi))
     simp [this,e]
    ·exact .inr ⟨k,c,e,z.sameBut hs (cne y c e)⟩
  ·obtain⟨w',z⟩:=I.cell y c e;exact⟨w',z.sameBut hs (cne y c e)⟩
  ·obtain⟨e,n,ne,nf,d⟩:=I.pin p hp;exact⟨(hs.2 p.1 ne).trans e,n,ne,nf,d⟩
 ·have uc:X.fn x=true:=by
   rcases hf with z | z
   ·exact z
   ·rw [z] at hk; cases hk
  obtain⟨c,hc⟩:=I.ok.has x (.inl hk);obtain⟨w',z⟩:=I.cell x c hc;refine wpAny_storeName_cell I.ok.kind hk hc z (fun h' jB hs=>?_);obtain⟨oc,uK,xD⟩:=id z;refine h { s with heap:=h' } ⟨I.ok,I.os,I.bare,⟨fun b o e n hb hx=>?_,fun b o e n hb hx=>?_,I.base.free,fun b o e hx=>?_,I.base.tups,I.base.frzs,I.base.tbls⟩,⟨m,hn.sameBut hs (dh (cne x c hc)),fun j y v' e1 e2 e3=>?_⟩,fun y c' e=>?_,I.free,I.freeC,fun p hp=>?_,tracked ⟨oc,uK,I.freeC x c hc⟩ hs,by simpa using I.len⟩ ⟨c,hs,.inr hc⟩
  ·exact (hs.2 b (aT (aP (au e) (I.ok.cab x c uc hc)))).trans (I.base.keep b o e n hb hx)
  ·obtain⟨sl,e1⟩:=I.base.slot b o e n hb hx;exact⟨sl,(hs.2 b (aT (aP (au e) (I.ok.cab x c uc hc)))).trans e1⟩
  ·obtain⟨o',e1⟩:=I.base.there b o e hx;exact⟨o',(hs.2 b (aT (aP (au e) (I.ok.cab x c uc hc)))).trans e1⟩
  ·by_cases hj:j=i
   ·subst hj;rw [hi] at e1; cases e1;rw [gk hiσ] at e2;cases e2;exact⟨u,r,.inr ⟨.inl hk,c,hc,jB⟩⟩
   ·rw [eQ (dh hj)] at e2;obtain⟨u',r',q⟩:=hl j y v' e1 e2 e3;refine⟨u',r',?_⟩;rcases q with q | ⟨k,c',e,z'⟩
    ·exact .inl q
    ·refine .inr ⟨k,c',e,z'.sameBut hs ?_⟩;rintro rfl;exact hj (ze7 hN e1 (I.ok.inj _ _ _ e hc ▸ hi))
  ·by_cases j9:c'=c
   ·subst j9; exact⟨_,jB⟩
   ·obtain⟨w2,z2⟩:=I.cell y c' e;exact⟨w2,z2.sameBut hs j9⟩
  ·obtain⟨e,n,ne,nf,d⟩:=I.pin p hp;refine⟨(hs.2 p.1 ?_).trans e,n,ne,nf,d⟩;intro q;rw [q,uK] at e;have q':oc=p.2:=aN e;exact d w' (by rw [← q']; exact xD)
theorem zdi {M:Model} {A:Around} {E:Value→Shared→Prop} {i:Nat} {x:Str} {v:V} {u:Value} {Q:Unit→Shared→Prop} (I:Inv X jv σ H s) (hN:X.N.Nodup) (hi:X.N[i]? = some x) (hx:Loc X.env.scope x) (r:RelV v u)
  (h:∀ s',Inv X jv (σ.set i (some v)) H s'→Q () s') (hf:X.fn x=true∨X.env.scope.names.lookup x=some .local:=by first | exact .inl rfl | exact .inr rfl | assumption):wpAny M A (storeName X.env x u) Q E s :=
 zeb I hN hi hx r (fun s' I' _=>h s' I') hf
theorem Inv.call' {s':Shared} {ch:List Addr} (I:Inv X jv σ H s) (ho:s'.os=s.os) (u:Un (frs X.stack) ch H H' s.heap s'.heap) (hok:HOk X.prog X.w H' s'.heap) (hg:AllBare s'.gens)
  (nU:∀ b∈ch,(b∈X.ex∨X.s₀.heap.objs.size≤b)∧b≠X.env.locals∧(∀ x c,X.env.cells.lookup x=some c→c≠b)∧∀ p∈X.pn++jv,p.1≠b):Inv X jv σ H' s':=by
 obtain⟨h',g',d',t',o'⟩:=s';have e:o'=s.os:=ho;subst e;exact I.call (g':=g') (t':=t') (d':=d') u hok hg nU
end
abbrev XK:=Value→Option Addr→Hp→Prop
abbrev St:=List (Option V)
abbrev VK:=V→Hp→Prop
abbrev TE:=St→Hp→VK→Prop
abbrev TT:=St→Hp→(Bool→Hp→Prop)→Prop
abbrev TA:=St→Hp→(List V→Hp→Prop)→Prop
structure Ends where
 nx:St→Hp→Prop
 rt:VK
 bk:St→Hp→Prop:=fun _ _=>False
 ct:St→Hp→Prop:=fun _ _=>False
abbrev TS:=Ends→St→Hp→Prop
def EP (X:Cx) (jv:List (Addr×Obj)) (σ:St) (Q:VK) (u:Value) (s':Shared):Prop:=∃ v H',Inv X jv σ H' s'∧RelV v u∧Q v H'
def TP (X:Cx) (jv:List (Addr×Obj)) (σ:St) (Q:Bool→Hp→Prop) (b:Bool) (s':Shared):Prop:=∃ H',Inv X jv σ H' s'∧Q b H'
def AP (X:Cx) (jv:List (Addr×Obj)) (σ:St) (Q:List V→Hp→Prop) (us:List Value) (s':Shared):Prop:=∃ vs H',Inv X jv σ H' s'∧zG vs us∧Q vs H'
def SP (X:Cx) (jv:List (Addr×Obj)) (D:Ends) (f:Flow) (s':Shared):Prop :=
 match f with
 | .next=>∃ σ' H',Inv X jv σ' H' s'∧D.nx σ' H'
 | .brk=>∃ σ' H',Inv X jv σ' H' s'∧D.bk σ' H'
 | .cont=>∃ σ' H',Inv X jv σ' H' s'∧D.ct σ' H'
 | .ret u=>∃ v σ' H',Inv X jv σ' H' s'∧RelV v u∧D.rt v H'
def PE (X:Cx) (e:Expr) (t:TE):Prop :=
 ∀ (jv:List (Addr×Obj)) (s:Shared) (σ:St) (H:Hp) (Q:VK),Inv X jv σ H s→t σ H Q→wpAny (model X.prog X.w) X.A (eval e X.env) (EP X jv σ Q) X.xe s
def PT (X:Cx) (e:Expr) (t:TT):Prop :=
 ∀ (jv:List (Addr×Obj)) (s:Shared) (σ:St) (H:Hp) (Q:Bool→Hp→Prop),Inv X jv σ H s→t σ H Q→wpAny (model X.prog X.w) X.A (isTrue e X.env (eval e X.env)) (TP X jv σ Q) X.xe s
def PW (X:Cx) (e:Expr) (t:TT):Prop :=
 ∀ (whole:Sem Value) (jv:List (Addr×Obj)) (s:Shared) (σ:St) (H:Hp) (Q:Bool→Hp→Prop),Inv X jv σ H s→t σ H Q→wpAny (model X.prog X.w) X.A (isTrue e X.env whole) (TP X jv σ Q) X.xe s
theorem PW.pt {X:Cx} {e:Expr} {t:TT} (h:PW X e t):PT X e t:=h _
def PA (X:Cx) (es:List Expr) (t:TA):Prop :=
 ∀ (pos:Pos) (jv:List (Addr×Obj)) (s:Shared) (σ:St) (H:Hp) (Q:List V→Hp→Prop),Inv X jv σ H s→t σ H Q→wpAny (model X.prog X.w) X.A (spliced (backTo pos (starEach es X.env))) (AP X jv σ Q) X.xe s
def PS (X:Cx) (st:Stmt) (t:TS):Prop :=
 ∀ (jv:List (Addr×Obj)) (s:Shared) (σ:St) (H:Hp) (D:Ends),Inv X jv σ H s→t D σ H→wpAny (model X.prog X.w) X.A (exec st X.env) (SP X jv D) X.xe s
def PSs (X:Cx) (st:List Stmt) (t:TS):Prop :=
 ∀ (jv:List (Addr×Obj)) (s:Shared) (σ:St) (H:Hp) (D:Ends),Inv X jv σ H s→t D σ H→wpAny (model X.prog X.w) X.A (execs st X.env) (SP X jv D) X.xe s
theorem thn {α:Type} {t:Sem α} {Q Q':α→Shared→Prop} {M:Model} {A:Around} {E:Value→Shared→Prop} {s:Shared} (h:wpAny M A t Q E s) (hQ:∀ a s,Q a s→Q' a s):wpAny M A t Q' E s:=bH h hQ fun _ _ x=>x
section
variable {X:Cx}
def zlL (i:Nat):TE:=fun σ H Q=>∃ v,σ[i]? = some (some v)∧Q v H
def tC (v:V):TE:=fun _ H Q=>Q v H
theorem zkR {i:Nat} {x:Str} {pos:Pos} (hN:X.N[i]? = some x) (hv:Vis X.env.scope x) (hd:(x == ("__debug__" : Str))=false:=by decide) (nA:(x == ("__classdict__" : Str))=false:=by decide):PE X (.Name x pos) (zlL i):=by
 intro jv s σ H Q I h;obtain⟨v,e,h⟩:=h;obtain⟨m,hn,hl⟩:=I.loc;obtain⟨u,r,l⟩:=hl i x v hN e hv;have fin:EP X jv σ Q u s:=⟨v,H,I,r,h⟩;rcases l with ⟨hk,hm⟩ | ⟨hk,c,hc,ky⟩
 ·exact fS (eS I.ok.kind hk hn hm fin) hd
 ·rcases hk with hk | hk
  ·exact fS (gW I.ok.kind hk hc ky fin) hd
  ·exact fS (gX I.ok.kind hk hc ky fin nA) hd
theorem ze {i j pos}:PE X (.Constant (.int i) j pos) (tC (.int i)):=fun _ _ _ H _ I h=>wpAny_Constant_int ⟨.int i,H,I.tok _,⟨_,rfl⟩,h⟩
theorem zec {b j pos}:PE X (.Constant (.bool b) j pos) (tC (.bl b)):=fun _ _ _ H _ I h=>Constant_bool ⟨.bl b,H,I,rfl,h⟩
theorem zf0 {j pos}:PE X (.Constant .none j pos) (tC .non):=fun _ _ _ H _ I h=>Constant_none ⟨.non,H,I,rfl,h⟩
def Gl (X:Cx) (x:Str):Prop:=X.env.kindOf x=some .globalImplicit
theorem zjC {E:Value→Shared→Prop} {jv:List (Addr×Obj)} {s:Shared} {σ:St} {H:Hp} {x:Str} {u:Value} {pos:Pos} {Q:Value→Shared→Prop} (I:Inv X jv σ H s) (hg:Gl X x) (hm:X.mg x=some u) (h:Q u s)
  (hd:(x == ("__debug__" : Str))=false:=by decide):wpAny (model X.prog X.w) X.A (eval (.Name x pos) X.env) Q E s :=
 dQ I.ok.kind hg (Calls.loadGlobal_global (by rw [I.ok.glob]; exact I.mod.glob.keeps I.bk) hm h) hd
theorem zbj {E:Value→Shared→Prop} {jv:List (Addr×Obj)} {s:Shared} {σ:St} {H:Hp} {x:Str} {u:Value} {pos:Pos} {Q:Value→Shared→Prop} (I:Inv X jv σ H s) (hg:Gl X x) (hm:X.mg x=none) (hv:bootBuiltins x=some u) (h:Q u s)
  (hn:x≠"__name__":=by decide) (hd:(x == ("__debug__" : Str))=false:=by decide):wpAny (model X.prog X.w) X.A (eval (.Name x pos) X.env) Q E s:=by
 obtain⟨mb,h1,h2⟩:=I.mod.blt;exact dQ I.ok.kind hg (fX (by rw [I.ok.glob]; exact I.mod.glob.keeps I.bk) hm (by rw [I.ok.blt]; exact h1.keeps I.bk) ((h2 x hn).trans hv) h) hd
variable {a b:Expr} {ta tb:TE} {pos:Pos}
variable {tA tB':TT} {rest:List Expr}
def zmi (t u:TT):TT:=fun σ H Q=>t σ H fun c H1=>if c=true then u σ H1 Q else Q false H1
def zmj (t:TT):TT:=fun σ H Q=>t σ H fun c H1=>Q (!c) H1
theorem zgu (ha:PT X a tA):PW X (.BoolOp .And [a] pos) tA:=by
 intro wh jv s σ H Q I h;refine isTrue_and (thn (ha jv s σ H Q I h) fun c s1 e=>?_);cases c with
 | true=>exact isTrue_and_nil e
 | false=>exact e
theorem zie (ha:PT X a tA) (hb:PW X (.BoolOp .And (b :: rest) pos) tB'):PW X (.BoolOp .And (a :: b :: rest) pos) (zmi tA tB'):=by
 intro wh jv s σ H Q I h;refine isTrue_and (thn (ha jv s σ H _ I h) fun c s1 ⟨H1,I1,q1⟩=>?_);cases c with
 | true=>exact hb wh jv s1 σ H1 Q I1 q1
 | false=>exact⟨H1,I1,q1⟩
theorem zkS (ha:PT X a tA):PT X (.UnaryOp .Not a pos) (zmj tA):=by
 intro jv s σ H Q I h;exact isTrue_not (ha jv s σ H (fun c H1=>Q (!c) H1) I h)
def tIf (t:TT) (ta tb:TE):TE:=fun σ H Q=>t σ H fun c H1=>if c=true then ta σ H1 Q else tb σ H1 Q
theorem zif {c:Expr} (hc:PT X c tA) (ha:PE X a ta) (hb:PE X b tb):PE X (.IfExp c a b pos) (tIf tA ta tb):=by
 intro jv s σ H Q I h;refine wpAny_IfExp (thn (hc jv s σ H _ I h) fun d s1 ⟨H1,I1,q1⟩=>?_);cases d with
 | true=>exact ha jv s1 σ H1 Q I1 q1
 | false=>exact hb jv s1 σ H1 Q I1 q1
end
def jy (K:af) (H:Hp) (a:Addr) (xs:List V):Prop :=
 Rd H a (.lst xs) ∨
  ∃ (o:Obj) (jx:Array Value) (n:Nat),K.lookup a=some o∧o.cls = .type "list"∧o.dict=none∧o.data = .seq jx n∧jx.size≤sizeLine∧zG xs jx.toList
def jI (K:af) (H:Hp) (a:Addr) (xs:List V):Prop :=
 Rd H a (.tup xs) ∨
  ∃ (o:Obj) (jx:Array Value) (n:Nat),K.lookup a=some o∧o.cls = .type "tuple"∧o.data = .seq jx n∧jx.size≤sizeLine∧zG xs jx.toList
def zmk:Value→Option V
 | .none=>some .non
 | .bool b=>some (.bl b)
 | .int i _=>some (.int i)
 | .str x _=>some (.str x)
 | .bytes b _=>some (.byt b)
 | .float b _=>some (.flt b)
 | .ref a=>some (.ref a)
 | .type n=>some (.ty n)
 | _=>none
theorem RelV.abs {x:V} {u:Value} (r:RelV x u):zmk u=some x:=by
 cases x with
 | non=>cases r; rfl
 | bl _=>cases r; rfl
 | int _=>obtain⟨t,rfl⟩:=r; rfl
 | str _=>obtain⟨t,rfl⟩:=r; rfl
 | byt _=>obtain⟨t,rfl⟩:=r; rfl
 | flt _=>obtain⟨t,rfl⟩:=r; rfl
 | ref _=>cases r; rfl
 | ty _=>cases r; rfl
theorem RelV.inj {x y:V} {u:Value} (r:RelV x u) (q:RelV y u):x=y:=aN (r.abs.symm.trans q.abs)
theorem zG.inj:∀ {xs ys:List V} {us:List Value},zG xs us→zG ys us→xs=ys
 | _,_,_,.nil,.nil=>rfl
 | _,_,_,.cons r t,.cons r' t'=>by rw [r.inj r',zG.inj t t']
section
variable {X:Cx} {jv:List (Addr×Obj)} {σ:St} {H:Hp} {s:Shared} {a:Addr} {xs ys:List V}
theorem jy.of {K:af} (h:H a=some (.lst xs)):jy K H a xs:=.inl (.inl h)
theorem jI.of {K:af} (h:H a=some (.tup xs)):jI K H a xs:=.inl (.inl h)
theorem Inv.list (I:Inv X jv σ H s) (h:jy X.K H a xs):∃ jx:List Value,zG xs jx∧PlainL s.heap a jx.toArray∧xs.length≤sizeLine:=by
 rcases h with h | ⟨o,jx,n,hk,hc,hd,hs,hz,r⟩
 ·obtain⟨z,jx,n,r,e⟩:=h.ok I.hok;exact⟨jx,r,⟨_,n,e,rfl,rfl,rfl⟩,z⟩
 ·refine⟨jx.toList,r,⟨o,n,I.kIn a o hk,hc,hd,by simpa using hs⟩,?_⟩;have e:=r.length;simp only [bv] at e;lia
theorem Inv.tuple (I:Inv X jv σ H s) (h:jI X.K H a xs):∃ jx:List Value,zG xs jx∧IsTup s.heap a jx.toArray∧xs.length≤sizeLine:=by
 rcases h with h | ⟨o,jx,n,hk,hc,hs,hz,r⟩
 ·obtain⟨z,jx,r,p⟩:=h.ok I.hok;exact⟨jx,r,p,z⟩
 ·refine⟨jx.toList,r,⟨o,I.kIn a o hk,hc,n,by simpa using hs⟩,?_⟩;have e:=r.length;simp only [bv] at e;lia
theorem Inv.list_inj (I:Inv X jv σ H s) (h:jy X.K H a xs) (h':jy X.K H a ys):xs=ys:=by
 obtain⟨jx,r,⟨o,n,e,_,_,d⟩,_⟩:=I.list h;obtain⟨its',r',⟨o',n',e',_,_,d'⟩,_⟩:=I.list h';rw [e] at e'; cases e';rw [d] at d';injection d' with d1 _
 have:jx=its':=by simpa using congrArg jp d1
 subst this;exact r.inj r'
theorem Inv.tuple_inj (I:Inv X jv σ H s) (h:jI X.K H a xs) (h':jI X.K H a ys):xs=ys:=by
 obtain⟨jx,r,⟨o,e,_,n,d⟩,_⟩:=I.tuple h;obtain⟨its',r',⟨o',e',_,n',d'⟩,_⟩:=I.tuple h';rw [e] at e'; cases e';rw [d] at d';injection d' with d1 _
 have:jx=its':=by simpa using congrArg jp d1
 subst this;exact r.inj r'
end
abbrev Cx.wish (X:Cx) (E:Value→Shared→Prop):Cx:={ X with xe:=E }
abbrev Cx.nox (X:Cx):Cx:=X.wish fun _ _=>False
theorem Cx.Ok.wish {X:Cx} (ok:X.Ok) (E:Value→Shared→Prop):(X.wish E).Ok :=
 ⟨ok.mod,ok.kind,ok.glob,ok.blt,ok.above,ok.inj,ok.has,ok.cab,ok.hd,ok.frames,ok.stk,ok.exf,ok.bs,ok.bsz,ok.noex,ok.exfs,ok.funs,ok.frf⟩
theorem Cx.Ok.unwish {X:Cx} {E:Value→Shared→Prop} (ok:(X.wish E).Ok):X.Ok :=
 ⟨ok.mod,ok.kind,ok.glob,ok.blt,ok.above,ok.inj,ok.has,ok.cab,ok.hd,ok.frames,ok.stk,ok.exf,ok.bs,ok.bsz,ok.noex,ok.exfs,ok.funs,ok.frf⟩
section
variable {X:Cx} {jv:List (Addr×Obj)} {σ:St} {H:Hp} {s:Shared} {E:Value→Shared→Prop}
theorem Inv.wish (I:Inv X jv σ H s) (E:Value→Shared→Prop):Inv (X.wish E) jv σ H s:=⟨I.ok.wish E,I.os,I.bare,I.base,I.loc,I.cell,I.free,I.freeC,I.pin,I.hok,I.len⟩
theorem Inv.unwish (I:Inv (X.wish E) jv σ H s):Inv X jv σ H s:=⟨I.ok.unwish,I.os,I.bare,I.base,I.loc,I.cell,I.free,I.freeC,I.pin,I.hok,I.len⟩
theorem SP.unwish {D:Ends} {f:Flow} {s':Shared} (h:SP (X.wish E) jv D f s'):SP X jv D f s':=by
 cases f with
 | next=>obtain⟨σ',H',I,q⟩:=h; exact⟨σ',H',I.unwish,q⟩
 | brk=>obtain⟨σ',H',I,q⟩:=h; exact⟨σ',H',I.unwish,q⟩
 | cont=>obtain⟨σ',H',I,q⟩:=h; exact⟨σ',H',I.unwish,q⟩
 | ret u=>obtain⟨v,σ',H',I,r,q⟩:=h; exact⟨v,σ',H',I.unwish,r,q⟩
theorem PSs.nox {st:List Stmt} {t:TS} (h:PSs X.nox st t):PSs X st t:=fun jv s σ H D I hw =>
 bH (h jv s σ H D (I.wish _) hw) (fun _ _ q=>q.unwish) fun _ _ z=>de z
end
section
variable {X:Cx} {st:Stmt} {rest:List Stmt} {t u:TS} {e:Expr} {te:TE} {pos:Pos}
def zlM:TS:=fun D σ H=>D.nx σ H
def zaL (t u:TS):TS:=fun D σ H=>t { D with nx:=u D } σ H
theorem zan:PSs X [] zlM:=fun _ _ σ H _ I h=>eU ⟨σ,H,I,h⟩
theorem zd (h1:PS X st t) (h2:PSs X rest u):PSs X (st :: rest) (zaL t u):=by
 intro jv s σ H D I h;refine wpAny_execs_cons (thn (h1 jv s σ H { D with nx:=u D } I h) fun f s1 q=>?_);cases f with
 | next =>
  obtain⟨σ',H',I',q⟩:=q;exact h2 jv s1 σ' H' D I' q
 | ret v=>exact q
 | brk=>exact q
 | cont=>exact q
theorem zp (h1:PS X st t):PSs X [st] t:=by
 intro jv s σ H D I h;refine wpAny_execs_cons (thn (h1 jv s σ H D I h) fun f s1 q=>?_);cases f with
 | next=>exact eU q
 | ret v=>exact q
 | brk=>exact q
 | cont=>exact q
theorem Inv.quiet {jv:List (Addr×Obj)} {σ:St} {H:Hp} {s:Shared} (I:Inv X jv σ H s):interactive X.env=false:=by simp [interactive,I.ok.kind]
def zlN (te:TE):TS:=fun D σ H=>te σ H fun _ H1=>D.nx σ H1
theorem zc5 (he:PE X e te) (hs:swapsWith e none pos.line X.env=pure false:=by rfl):PS X (.Expr e pos) (zlN te):=by
 intro jv s σ H D I h;exact wpAny_Expr_any (thn (he jv s σ H _ I h) fun v s1 ⟨x,H1,I1,r1,q1⟩=>⟨σ,H1,I1,q1⟩) I.quiet hs
def zml (te:TE):TS:=fun D σ H=>te σ H D.rt
theorem zR (he:PE X e te):PS X (.Return (some e) pos) (zml te):=by
 intro jv s σ H D I h;exact wpAny_Return_some (thn (he jv s σ H _ I h) fun v s1 ⟨x,H1,I1,r1,q1⟩=>⟨x,σ,H1,I1,r1,q1⟩)
def zmm (c:TT) (t u:TS):TS:=fun D σ H=>c σ H fun b H1=>if b=true then t D σ H1 else u D σ H1
theorem za9 {c:Expr} {a b:List Stmt} {tc:TT} (hc:PT X c tc) (ha:PSs X a t) (hb:PSs X b u):PS X (.If c a b pos) (zmm tc t u):=by
 intro jv s σ H D I h;refine wpAny_If (thn (hc jv s σ H _ I h) fun d s1 ⟨H1,I1,q1⟩=>?_);cases d with
 | true=>exact ha jv s1 σ H1 D I1 q1
 | false=>exact hb jv s1 σ H1 D I1 q1
def zkT:TS:=fun _ _ _=>False
theorem zed {sts:List Stmt}:PSs X sts zkT:=fun _ _ _ _ _ _ h=>h.elim
end
abbrev TG:=V→St→Hp→(St→Hp→Prop)→Prop
abbrev TGs:=List V→St→Hp→(St→Hp→Prop)→Prop
def PG (X:Cx) (target:Expr) (t:TG):Prop :=
 ∀ (jv:List (Addr×Obj)) (s:Shared) (σ:St) (H:Hp) (v:V) (u:Value) (Q:St→Hp→Prop),Inv X jv σ H s→RelV v u→t v σ H Q →
  wpAny (model X.prog X.w) X.A (assign target X.env u) (fun _ s'=>∃ σ' H',Inv X jv σ' H' s'∧Q σ' H') X.xe s
def PGs (X:Cx) (ts:List Expr) (t:TGs):Prop :=
 ∀ (jv:List (Addr×Obj)) (s:Shared) (σ:St) (H:Hp) (vs:List V) (us:List Value) (Q:St→Hp→Prop),Inv X jv σ H s→zG vs us→t vs σ H Q →
  wpAny (model X.prog X.w) X.A (assignInOrder ((assignEach ts X.env).map (·.2)) us) (fun _ s'=>∃ σ' H',Inv X jv σ' H' s'∧Q σ' H') X.xe s
abbrev TIp:=V→V→Hp→VK→Prop
def PIp (X:Cx) (op:Operator) (t:TIp):Prop :=
 ∀ (jv:List (Addr×Obj)) (s:Shared) (σ:St) (H:Hp) (x y:V) (v u:Value) (Q:VK),Inv X jv σ H s→RelV x v→RelV y u→t x y H Q →
  wpAny (model X.prog X.w) X.A (inplaceOp op v u) (EP X jv σ Q) X.xe s
section
variable {X:Cx} {pos:Pos}
def zaM (i:Nat):TG:=fun v σ H Q=>Q (σ.set i (some v)) H
theorem zi {i:Nat} {x:Str} (hN:X.N.Nodup) (hi:X.N[i]? = some x) (hx:Loc X.env.scope x) (hf:X.fn x=true∨X.env.scope.names.lookup x=some .local:=by first | exact .inl rfl | exact .inr rfl | assumption):PG X (.Name x pos) (zaM i):=by
 intro jv s σ H v u Q I r h;exact wpAny_assign_Name (zdi I hN hi hx r (fun s' I'=>⟨_,H,I',h⟩) hf)
def zhs:TGs:=fun vs σ H Q=>vs = []∧Q σ H
def zce (t:TG) (u:TGs):TGs:=fun vs σ H Q=>∃ v r,vs=v :: r∧t v σ H fun σ' H'=>u r σ' H' Q
theorem z9:PGs X [] zhs:=by
 intro jv s σ H vs us Q I r h;obtain⟨e,h⟩:=h;subst e;cases r;exact assignInOrder_nil ⟨σ,H,I,h⟩
theorem zo {e:Expr} {es:List Expr} {t:TG} {u:TGs} (h1:PG X e t) (h2:PGs X es u)
  (hs:(assignEach (e :: es) X.env).map (·.2)=assign e X.env :: (assignEach es X.env).map (·.2):=by rfl):PGs X (e :: es) (zce t u):=by
 intro jv s σ H vs us Q I r h;obtain⟨v,vr,e1,h⟩:=h;subst e1;cases r with
 | cons r rr =>
  rw [hs];refine assignInOrder_cons (thn (h1 jv s σ H _ _ _ I r h) fun _ s1 ⟨σ1,H1,I1,q1⟩=>?_);exact h2 jv s1 σ1 H1 _ _ Q I1 rr q1
def zf1 (K:af) (n:Nat) (t:TGs):TG:=fun v σ H Q=>∃ a xs,v = .ref a∧jI K H a xs∧xs.length=n∧t xs σ H Q
theorem zba {es:List Expr} {k:Nat} {t:TGs} {n:Nat} (hc:X.calm=true) (h:PGs X es t)
  (hn:(assignEach es X.env).length=n:=by rfl) (ml:(assignEach es X.env).findIdx? (·.1)=none:=by rfl):PG X (.Tuple es k pos) (zf1 X.K n t):=by
 intro jv s σ H v u Q I r hw;obtain⟨a,xs,e1,hq,hl,hw⟩:=hw;subst e1;cases r;obtain⟨jx,rv,ht,hz⟩:=I.tuple hq;refine assign_Tuple_tuple (I.ok.hd hc) ht (by simp [hn,← hl,rv.length]) ml fun h' hx=>?_
 have I1:Inv X jv σ H { s with heap:=h' }:=I.kept (t':=s.toks) fun b o e=>hx b o (aT (au e)) e
 exact h jv _ σ H xs _ Q I1 (by simpa using rv) hw
def zf2 (te:TE) (g:TG):TS:=fun D σ H=>te σ H fun x H1=>g x σ H1 D.nx
theorem zbw {tg e:Expr} {te:TE} {g:TG} (he:PE X e te) (hg:PG X tg g) (hs:swapsWithSole [tg] e pos.line X.env=pure false:=by rfl) (hw:swappedStores [tg] e X.env=pure none:=by rfl)
  (h1:(assignEach [tg] X.env).map (·.2) = [assign tg X.env]:=by rfl):PS X (.Assign [tg] e pos) (zf2 te g):=by
 intro jv s σ H D I h;refine wpAny_Assign_stores (thn (he jv s σ H _ I h) fun v s1 ⟨x,H1,I1,r1,q1⟩=>?_) hs hw;rw [h1];exact thn (hg jv s1 σ H1 x v _ I1 r1 q1) fun _ s2 q=>q
theorem zn {i:Nat} {x:Str} {e:Expr} {te:TE} {pos':Pos} (hN:X.N.Nodup) (hi:X.N[i]? = some x) (hx:Loc X.env.scope x) (he:PE X e te) (hs:swapsWith e (some (.Name x pos')) pos.line X.env=pure false:=by rfl) (hf:X.fn x=true∨X.env.scope.names.lookup x=some .local:=by first | exact .inl rfl | exact .inr rfl | assumption) :
  PS X (.Assign [.Name x pos'] e pos) (zf2 te (zaM i)):=by
 intro jv s σ H D I h;refine wpAny_Assign_Name (thn (he jv s σ H _ I h) fun v s1 ⟨y,H1,I1,r1,q1⟩=>?_) hs;exact zdi I1 hN hi hx r1 (fun s2 I2=>⟨_,H1,I2,q1⟩) hf
def zmn (i:Nat) (te:TE) (ti:TIp):TS:=fun D σ H=>∃ x,σ[i]? = some (some x)∧te σ H fun y H1=>ti x y H1 fun z H2=>D.nx (σ.set i (some z)) H2
theorem zkU {i:Nat} {x:Str} {e:Expr} {te:TE} {op:Operator} {ti:TIp} {pos':Pos} (hN:X.N.Nodup) (hi:X.N[i]? = some x) (hx:Loc X.env.scope x) (he:PE X e te) (ho:PIp X op ti) (hf:X.fn x=true∨X.env.scope.names.lookup x=some .local:=by first | exact .inl rfl | exact .inr rfl | assumption) :
  PS X (.AugAssign (.Name x pos') op e pos) (zmn i te ti):=by
 intro jv s σ H D I h;obtain⟨v,e1,h⟩:=h;obtain⟨m,hn,hl⟩:=I.loc;have vis:Vis X.env.scope x:=by rcases hx with k | k; exact .inl k; exact .inr (.inl k)
 obtain⟨u,r,l⟩:=hl i x v hi e1 vis;refine wpAny_AugAssign_Name ?_;have go:wpAny (model X.prog X.w) X.A (eval e X.env) (fun w s₂=>wpAny (model X.prog X.w) X.A (inplaceOp op u w) (fun r s₃=>wpAny (model X.prog X.w) X.A (storeName X.env x r) (fun _=>SP X jv D .next) X.xe s₃) X.xe s₂) X.xe s:=by
  refine thn (he jv s σ H _ I h) fun w s1 ⟨y,H1,I1,r1,q1⟩=>?_
  refine thn (ho jv s1 σ H1 v y u w _ I1 r r1 q1) fun z s2 ⟨zv,H2,I2,r2,q2⟩=>?_
  exact zdi I2 hN hi hx r2 (fun s3 I3=>⟨_,H2,I3,q2⟩) hf
 rcases l with ⟨hk,hm⟩ | ⟨hk,c,hc,ky⟩
 ·exact eS I.ok.kind hk hn hm go
 ·rcases hk with hk | hk
  ·exact gW I.ok.kind hk hc ky go
  ·rcases hx with k | k
   ·have:X.env.scope.names.lookup x=some .free:=hk;rw [k] at this; cases this
   ·have:X.env.scope.names.lookup x=some .free:=hk;rw [k] at this; cases this
def zig (c:TT) (tb:TS):TS:=fun D σ H=>∃ W:Nat→St→Hp→Prop,(∃ m,W m σ H)∧∀ m σ H,W m σ H →
 c σ H fun b H1=>if b=true then ∃ N:St→Hp→Prop,(∀ σ' H',N σ' H'→∃ m',m' < m∧W m' σ' H')∧tb { D with nx:=N,ct:=N,bk:=D.nx } σ H1 else D.nx σ H1
theorem zih {c:Expr} {body:List Stmt} {tc:TT} {tb:TS} (hp:PassesOwn (model X.prog X.w) X.A X.env X.xe) (hc:PT X c tc) (hb:PSs X body tb):PS X (.While c body [] pos) (zig tc tb):=by
 intro jv s σ H D I h;obtain⟨W,⟨m0,w0⟩,turn⟩:=h;refine wpAny_While (codeAny_whileLoop (fun n s'=>∃ σ' H',Inv X jv σ' H' s'∧W n σ' H') ?_ m0 ⟨σ,H,I,w0⟩);rintro n s1 ⟨σ1,H1,I1,w1⟩;refine cX hp (thn (hc jv s1 σ1 H1 _ I1 (turn n σ1 H1 w1)) fun b s2 ⟨H2,I2,q2⟩=>?_);cases b with
 | true =>
  obtain⟨N,hN,q2⟩:=q2;rw [if_pos rfl];refine cX hp (thn (hb jv s2 σ1 H2 _ I2 q2) fun f s3 q3=>?_);cases f with
  | next =>
   obtain⟨σ3,H3,I3,n3⟩:=q3;obtain⟨m',hm,w3⟩:=hN σ3 H3 n3;exact⟨m',hm,σ3,H3,I3,w3⟩
  | cont =>
   obtain⟨σ3,H3,I3,n3⟩:=q3;obtain⟨m',hm,w3⟩:=hN σ3 H3 n3;exact⟨m',hm,σ3,H3,I3,w3⟩
  | brk=>exact q3
  | ret v=>exact q3
 | false =>
  rw [if_neg aQ];exact eU ⟨σ1,H2,I2,q2⟩
end
structure It where
 go:Nat→Hp→Prop
 yld:Nat→Hp→V→Hp→Prop
 stop:Nat→Hp→Prop
def zbO (X:Cx) (jv:List (Addr×Obj)) (H:Hp) (b:Addr):Prop :=
 H b=none∧b≠X.env.locals∧b∉X.fs∧(b∈X.ex∨X.s₀.heap.objs.size≤b)∧(∀ x c,X.env.cells.lookup x=some c→c≠b)∧∀ p∈X.pn++jv,p.1≠b
theorem Inv.fpOk {X:Cx} {jv:List (Addr×Obj)} {σ:St} {H H':Hp} {s:Shared} {b:Addr} (I:Inv X jv σ H s) (hb:s.heap.objs.size≤b) (hn:H' b=none):zbO X jv H' b:=by
 refine⟨hn,cG (aP I.lt hb),I.nofs hb,.inr (aZ I.sz hb),fun x c e z=>?_,fun p hp z=>?_⟩
 ·obtain⟨v,q⟩:=I.cell x c e;exact absurd (aP q.lt (by rw [z]; exact hb)) (bV _)
 ·exact absurd (aP (au (I.pin p hp).1) (by rw [z]; exact hb)) (bV _)
structure Turn (P:Program) (w:World) (K:af) (tg:Expr) (J:It) (fp:List Addr) (it:Addr) (tn:Nat→Heap→Prop):Prop where
 mem:it∈fp
 obj:∀ i h,tn i h→∀ b∈fp,∃ o,h.get? b=some o∧∀ v,o.data≠.cell v
 keep:∀ i h h',tn i h→(∀ b∈fp,∀ o,h.get? b=some o→h'.get? b=some o)→tn i h'
 item:∀ (X:Cx),X.prog=P→X.w=w→X.K=K→X.calm=true→∀ (i:Nat) (jv:List (Addr×Obj)) (s:Shared) (σ:St) (H:Hp) (E:Value→Shared→Prop),Inv X jv σ H s→(∀ b∈fp,zbO X jv H b)→tn i s.heap→J.go i H →
  wpAny (model P w) X.A (pyNext (.ref it)) (fun r s1=>∃ u,r=some u ∧
   wpAny (model P w) X.A (letOwnedTupleGo tg (.ref it) u) (fun _ s2=>∃ x H',Inv X jv σ H' s2∧RelV x u∧J.yld i H x H'∧tn (i+1) s2.heap∧∀ b∈fp,H' b=none) E s1) E s
 done:∀ (X:Cx),X.prog=P→X.w=w→X.K=K→X.calm=true→∀ (i:Nat) (jv:List (Addr×Obj)) (s:Shared) (σ:St) (H:Hp) (E:Value→Shared→Prop),Inv X jv σ H s→(∀ b∈fp,zbO X jv H b)→tn i s.heap→J.stop i H →
  wpAny (model P w) X.A (pyNext (.ref it)) (fun r s1=>r=none∧Inv X jv σ H s1) E s
 self:∀ (A:Around) (i:Nat) (s:Shared) (Q:Value→Shared→Prop) (E:Value→Shared→Prop),tn i s.heap→Q (.ref it) s→wpAny (model P w) A (pyIter (.ref it)) Q E s
abbrev TI:=St→Hp→(It→Hp→Prop)→Prop
def PIE (X:Cx) (jv:List (Addr×Obj)) (σ:St) (tg:Expr) (R:It→Hp→Prop) (sG:Value) (s2:Shared):Prop :=
 ∃ (it:Addr) (fp:List Addr) (tn:Nat→Heap→Prop) (J:It) (H':Hp),sG = .ref it∧Inv X jv σ H' s2∧Turn X.prog X.w X.K tg J fp it tn∧tn 0 s2.heap∧(∀ b∈fp,zbO X jv H' b)∧R J H'
def PI (X:Cx) (tg iter:Expr) (wi:TI):Prop :=
 ∀ (jv:List (Addr×Obj)) (s:Shared) (σ:St) (H:Hp) (R:It→Hp→Prop),Inv X jv σ H s→wi σ H R →
  wpAny (model X.prog X.w) X.A (eval iter X.env) (fun v s1=>wpAny (model X.prog X.w) X.A (pyIter v) (PIE X jv σ tg R) X.xe s1) X.xe s
theorem ze8 {M:Model} {A:Around} {E:Value→Shared→Prop} {s:Shared} {tg:Expr} {it:Addr} {u:Value} {o:Obj} {n:String} {vs:Array Value} {Q:Unit→Shared→Prop} (ho:s.heap.get? it=some o) (hc:o.cls = .type n) (hd:o.data = .fields vs)
  (hn:["enumerate","zip","dict_itemiterator","dict_reverseitemiterator","odict_iterator","itertools.zip_longest","itertools.pairwise"].contains n=false) (hQ:Q () s):wpAny M A (letOwnedTupleGo tg (.ref it) u) Q E s:=by
 unfold letOwnedTupleGo;cases tg <;> first
  | exact ah hQ
  | (cases u <;> first
    | exact ah hQ
    | (refine aa (wpAny_load ho ?_)
       rw [hc,hd];show wpAny M A (if (["enumerate","zip","dict_itemiterator","dict_reverseitemiterator","odict_iterator","itertools.zip_longest","itertools.pairwise"].contains n && vs[0]? == some (rawInt _))=true then _ else _) Q E s;rw [if_neg (by intro h; rw [hn,Bool.false_and] at h; cases h)];exact ah hQ))
def Itl (K:af) (a:Addr):It :=
 ⟨fun i H=>∃ xs x,jy K H a xs∧xs[i]? = some x,fun i H x H'=>H'=H∧∀ xs,jy K H a xs→xs[i]? = some x,fun i H=>∃ xs,jy K H a xs∧xs.length≤i⟩
def Itt (K:af) (a:Addr):It :=
 ⟨fun i H=>∃ xs x,jI K H a xs∧xs[i]? = some x,fun i H x H'=>H'=H∧∀ xs,jI K H a xs→xs[i]? = some x,fun i H=>∃ xs,jI K H a xs∧xs.length≤i⟩
def Itr (lo:Int) (n:Nat):It:=⟨fun i _=>i < n,fun i H x H'=>H'=H∧x = .int (lo+i),fun i _=>n≤i⟩
theorem zee {P:Program} {w:World} {K:af} {tg:Expr} (a it:Addr):Turn P w K tg (Itl K a) [it] it (fun i h=>h.IsListIter it a i) where
 mem:=by simp
 obj:=fun i h st b hb=>by
  have e:b=it:=by simpa using hb
  subst e;obtain⟨o,e,c,d⟩:=st;exact⟨o,e,fun v z=>by rw [d] at z; cases z⟩
 keep:=fun i h h' st k=>st.at fun o e=>k it #[M] o e
 item:=by
  intro X hP hw hK hc i jv s σ H E I hf st hg;subst hP hw hK;obtain⟨xs,x,hq,hx⟩:=hg;obtain⟨jx,rv,p,hz⟩:=I.list hq;obtain⟨u,hu,ru⟩:=rv.get hx;obtain⟨f0,f1,f2,f3,f4,f5⟩:=hf it #[M];refine wpAny_pyNext_list_item st p.isList (x:=u) (by simpa using hu) fun h' jz sb=>?_
  have I1:Inv X jv σ H { s with heap:=h' }:=I.turned (t':=s.toks) (fun b o hb e=>(sb.2 b hb).trans e) f0 f1 f3 f4 f5;obtain⟨o,e,c,d⟩:=id jz;exact⟨u,rfl,ze8 (s:={ s with heap:=h' }) e c d #[D] ⟨x,H,I1,ru,⟨rfl,fun ys hy=>by rw [I.list_inj hy hq]; exact hx⟩,jz,fun b hb=>(hf b hb).1⟩⟩
 done:=by
  intro X hP hw hK hc i jv s σ H E I hf st hg;subst hP hw hK;obtain⟨xs,hq,hx⟩:=hg;obtain⟨jx,rv,p,hz⟩:=I.list hq;obtain⟨f0,f1,f2,f3,f4,f5⟩:=hf it #[M];have hl:=rv.length;exact wpAny_pyNext_list_end (I.ok.hd hc) st p.isList (by simp; lia) fun h' eb=>⟨rfl,I.turned (t':=s.toks) (fun b o hb e=>eb b o hb e) f0 f1 f3 f4 f5⟩
 self:=fun _ _ _ _ _ st h=>wpAny_pyIter_listiter st h
theorem zdj {P:Program} {w:World} {K:af} {tg:Expr} (a it:Addr):Turn P w K tg (Itt K a) [it] it (fun i h=>h.IsTupleIter it a i) where
 mem:=by simp
 obj:=fun i h st b hb=>by
  have e:b=it:=by simpa using hb
  subst e;obtain⟨o,e,c,d⟩:=st;exact⟨o,e,fun v z=>by rw [d] at z; cases z⟩
 keep:=fun i h h' st k=>st.at fun o e=>k it #[M] o e
 item:=by
  intro X hP hw hK hc i jv s σ H E I hf st hg;subst hP hw hK;obtain⟨xs,x,hq,hx⟩:=hg;obtain⟨jx,rv,p,hz⟩:=I.tuple hq;obtain⟨u,hu,ru⟩:=rv.get hx;obtain⟨f0,f1,f2,f3,f4,f5⟩:=hf it #[M];refine wpAny_pyNext_tuple_item st (show s.heap.IsTuple a jx.toArray from p) (x:=u) (by simpa using hu) fun h' jz sb=>?_
  have I1:Inv X jv σ H { s with heap:=h' }:=I.turned (t':=s.toks) (fun b o hb e=>(sb.2 b hb).trans e) f0 f1 f3 f4 f5;obtain⟨o,e,c,d⟩:=id jz;exact⟨u,rfl,ze8 (s:={ s with heap:=h' }) e c d #[D] ⟨x,H,I1,ru,⟨rfl,fun ys hy=>by rw [I.tuple_inj hy hq]; exact hx⟩,jz,fun b hb=>(hf b hb).1⟩⟩
 done:=by
  intro X hP hw hK hc i jv s σ H E I hf st hg;subst hP hw hK;obtain⟨xs,hq,hx⟩:=hg;obtain⟨jx,rv,p,hz⟩:=I.tuple hq;obtain⟨f0,f1,f2,f3,f4,f5⟩:=hf it #[M];have hl:=rv.length;exact wpAny_pyNext_tuple_end (I.ok.hd hc) st (show s.heap.IsTuple a jx.toArray from p) (by simp; lia) fun h' eb=>⟨rfl,I.turned (t':=s.toks) (fun b o hb e=>eb b o hb e) f0 f1 f3 f4 f5⟩
 self:=fun _ _ _ _ _ st h=>wpAny_pyIter_tupleiter st h
theorem zf3 {P:Program} {w:World} {K:af} {tg:Expr} (it:Addr) (lo:Int) (n:Nat):Turn P w K tg (Itr lo n) [it] it (fun i h=>IsRangeIter h it (lo+(i:Nat)*1) ((n:Int) - (i:Nat)) 1) where
 mem:=by simp
 obj:=fun i h st b hb=>by
  have e:b=it:=by simpa using hb
  subst e;exact⟨_,st,fun v z=>by
   have z':gl _=Data.cell v:=z;cases z'⟩
 keep:=fun i h h' st k=>k it #[M] _ st
 item:=by
  intro X hP hw hK hc i jv s σ H E I hf st hg;subst hP hw hK;obtain⟨f0,f1,f2,f3,f4,f5⟩:=hf it #[M];have W:=Walks.range (prog:=X.prog) (w:=X.w) (I.ok.hd hc) it lo 1 n;refine W.item i s _ _ hg st fun v h' tk hv jz kk=>?_
  obtain⟨t,rfl⟩:=hv;have I1:Inv X jv σ H { s with heap:=h',toks:=tk }:=I.turned (fun b o hb e=>kk b o (by simpa using hb) e) f0 f1 f3 f4 f5;refine⟨_,rfl,ze8 (s:={ s with heap:=h',toks:=tk }) (n:="range_iterator") jz rfl rfl #[D] ⟨.int (lo+i),H,I1,⟨t,?_⟩,⟨rfl,rfl⟩,jz,fun b hb=>(hf b hb).1⟩⟩;rw [Int.mul_one]
 done:=by
  intro X hP hw hK hc i jv s σ H E I hf st hg;subst hP hw hK;obtain⟨f0,f1,f2,f3,f4,f5⟩:=hf it #[M];exact wpAny_pyNext_range_end (I.ok.hd hc) st (by have:n≤i:=hg; lia) fun h' eb=>⟨rfl,I.turned (t':=s.toks) (fun b o hb e=>eb b o hb e) f0 f1 f3 f4 f5⟩
 self:=fun _ _ _ _ _ st h=>wpAny_pyIter_rangeiter st h
section
variable {X:Cx} {tg:Expr}
def zky (K:af) (tl:TE):TI:=fun σ H R=>tl σ H fun x H1=>∃ a,x = .ref a∧(∃ xs,jy K H1 a xs)∧R (Itl K a) H1
def zmo (K:af) (tl:TE):TI:=fun σ H R=>tl σ H fun x H1=>∃ a,x = .ref a∧(∃ xs,jI K H1 a xs)∧R (Itt K a) H1
theorem zar {l:Expr} {tl:TE} (hl:PE X l tl):PI X tg l (zky X.K tl):=by
 intro jv s σ H R I h;refine thn (hl jv s σ H _ I h) fun v s1 ⟨x,H1,I1,r1,q1⟩=>?_
 obtain⟨a,e,⟨xs,hq⟩,q⟩:=q1;subst e;cases r1;obtain⟨jx,rv,p,hz⟩:=I1.list hq;refine fJ p.isList ?_;refine⟨s1.heap.objs.size,[s1.heap.objs.size],_,_,H1,rfl,I1.kept (t':=s1.toks) fun b o e=>ae _ e,zee a _,⟨_,aq _ rfl,rfl,rfl⟩,fun b hb=>?_,q⟩;have e:b=s1.heap.objs.size:=by simpa using hb
 subst e;exact I1.fpOk (ag _) (I1.hok.fresh (ag _))
theorem zkV {l:Expr} {tl:TE} (hl:PE X l tl):PI X tg l (zmo X.K tl):=by
 intro jv s σ H R I h;refine thn (hl jv s σ H _ I h) fun v s1 ⟨x,H1,I1,r1,q1⟩=>?_
 obtain⟨a,e,⟨xs,hq⟩,q⟩:=q1;subst e;cases r1;obtain⟨jx,rv,p,hz⟩:=I1.tuple hq;refine fw (show s1.heap.IsTuple a jx.toArray from p) ?_;refine⟨s1.heap.objs.size,[s1.heap.objs.size],_,_,H1,rfl,I1.kept (t':=s1.toks) fun b o e=>ae _ e,zdj a _,⟨_,aq _ rfl,rfl,rfl⟩,fun b hb=>?_,q⟩;have e:b=s1.heap.objs.size:=by simpa using hb
 subst e;exact I1.fpOk (ag _) (I1.hok.fresh (ag _))
theorem ze9 {jv:List (Addr×Obj)} {σ:St} {H:Hp} {s:Shared} {R:It→Hp→Prop} {E:Value→Shared→Prop} {lo hi:Int} {t u v:Tok} {tk:Nat} (I:Inv X jv σ H s) (h1:-(2 ^ 62)≤lo) (h2:lo < 2 ^ 62) (h3:-(2 ^ 62)≤hi) (h4:hi < 2 ^ 62)
  (q:R (Itr lo (hi - lo).toNat) H):wpAny (model X.prog X.w) X.A (pyIter (.ref s.heap.objs.size)) (PIE X jv σ tg R) E { s with heap:=s.heap.push { cls:=.type "range",data:=.fields #[.int lo t,.int hi u,.int 1 v] },toks:=tk }:=by
 refine wpAny_pyIter_range (IsRange.new ..) (small_one h1 h2 h3 h4) ?_;have I1:Inv X jv σ H { s with heap:=s.heap.push { cls:=.type "range",data:=.fields #[.int lo t,.int hi u,.int 1 v] },toks:=tk }:=I.kept fun b o e=>ae _ e
 refine⟨(s.heap.push { cls:=.type "range",data:=.fields #[.int lo t,.int hi u,.int 1 v] }).objs.size,[(s.heap.push { cls:=.type "range",data:=.fields #[.int lo t,.int hi u,.int 1 v] }).objs.size],_,_,H,rfl,
  I1.kept (t':=tk) fun b o e=>ae _ e,zf3 _ lo (hi - lo).toNat,?_,fun b hb=>?_,q⟩
 ·have e1:lo+((0:Nat):Int)*1=lo:=by simp
  have e2:(((hi - lo).toNat:Nat):Int) - ((0:Nat):Int)=Builtin.Range.rangeSize lo hi 1:=by rw [rangeSize_one]; split <;> lia
  show IsRangeIter _ _ (lo+((0:Nat):Int)*1) ((((hi - lo).toNat:Nat):Int) - ((0:Nat):Int)) 1;rw [e1,e2];exact aq _ rfl
 ·have e:b=(s.heap.push { cls:=.type "range",data:=.fields #[.int lo t,.int hi u,.int 1 v] }).objs.size:=by simpa using hb
  subst e;exact I1.fpOk (ag _) (I1.hok.fresh (ag _))
def zlO (ta:TA):TI:=fun σ H R=>ta σ H fun vs H1=>∃ j:Int,vs = [.int j]∧-(2 ^ 62)≤j∧j < 2 ^ 62∧R (Itr 0 j.toNat) H1
def zlP (ta:TA):TI:=fun σ H R=>ta σ H fun vs H1=>∃ i j:Int,vs = [.int i,.int j]∧(-(2 ^ 62)≤i∧i < 2 ^ 62∧-(2 ^ 62)≤j∧j < 2 ^ 62)∧R (Itr i (j - i).toNat) H1
theorem zaI {a:Expr} {ta:TA} {p pos:Pos} (hg:Gl X "range") (hm:X.mg "range" = none) (ha:PA X [a] ta) (hs:starEach [a] X.env = [(false,eval a X.env)]:=by rfl):PI X tg (.Call (.Name "range" p) [a] [] pos) (zlO ta):=by
 intro jv s σ H R I h;refine Call_ (zbj I hg hm iX (bx (thn (ha pos jv s σ H _ I h) fun us s1 ⟨vs,H1,I1,r1,q1⟩=>?_) hs rfl));obtain⟨j,e,q1,q2,q⟩:=q1;subst e;cases r1 with
 | cons r rr =>
  cases rr;obtain⟨t,rfl⟩:=r;exact call_range_1 (ze9 I1 #[O] #[O] q1 q2 (by simpa using q))
theorem zef {a b:Expr} {ta:TA} {p pos:Pos} (hg:Gl X "range") (hm:X.mg "range" = none) (ha:PA X [a,b] ta) (hs:starEach [a,b] X.env = [(false,eval a X.env),(false,eval b X.env)]:=by rfl) (k8:starEach [b] X.env = [(false,eval b X.env)]:=by rfl) :
  PI X tg (.Call (.Name "range" p) [a,b] [] pos) (zlP ta):=by
 intro jv s σ H R I h;refine Call_ (zbj I hg hm iX (bx (thn (ha pos jv s σ H _ I h) fun us s1 ⟨vs,H1,I1,r1,q1⟩=>?_) (by rw [hs,k8]) (by rw [k8]; rfl)));obtain⟨i,j,e,⟨q1,q2,q3,q4⟩,q⟩:=q1;subst e;cases r1 with
 | cons r rr =>
  cases rr with
  | cons r' rr =>
   cases rr;obtain⟨t,rfl⟩:=r;obtain⟨t',rfl⟩:=r';exact call_range_2 (ze9 I1 q1 q2 q3 q4 q)
def zmp (wi:TI) (g:TG) (tb:TS):TS:=fun D σ H=>wi σ H fun J H1=>∃ W:Nat→Nat→St→Hp→Prop,(∃ m,W 0 m σ H1)∧∀ i m σ H,W i m σ H →
 (J.stop i H∧D.nx σ H)∨(J.go i H∧∃ N:St→Hp→Prop,(∀ σ' H',N σ' H'→∃ m',m' < m∧W (i+1) m' σ' H')∧∀ x H',J.yld i H x H'→g x σ H' fun σ2 H2=>tb { D with nx:=N,ct:=N,bk:=D.nx } σ2 H2)
def zbP (fp:List Addr) (h:Heap):List (Addr×Obj):=fp.filterMap fun b=>(h.get? b).map fun o=>(b,o)
theorem zbx {fp:List Addr} {h:Heap} {b:Addr} {o:Obj} (hb:b∈fp) (e:h.get? b=some o):(b,o)∈zbP fp h:=ig.mpr ⟨b,hb,by rw [e]; rfl⟩
theorem zeg {fp:List Addr} {h:Heap} {p:Addr×Obj} (hp:p∈zbP fp h):p.1∈fp∧h.get? p.1=some p.2:=by
 obtain⟨b,hb,e⟩:=ig.mp hp;cases q:h.get? b with
 | none=>rw [q] at e; cases e
 | some o =>
  rw [q] at e;have e':(b,o)=p:=aN e;subst e';exact⟨hb,q⟩
theorem Inv.pinned {jv:List (Addr×Obj)} {σ:St} {H:Hp} {s:Shared} {fp:List Addr} (I:Inv X jv σ H s) (hf:∀ b∈fp,zbO X jv H b) (ho:∀ b∈fp,∃ o,s.heap.get? b=some o∧∀ v,o.data≠.cell v):Inv X (jv++zbP fp s.heap) σ H s :=
 I.pins_of fun p hp=>(aM.mp hp).elim (fun z=>I.pin p (aw _ z)) fun z=>by
  obtain⟨hb,e⟩:=zeg z;obtain⟨f0,f1,f2,_⟩:=hf p.1 hb;obtain⟨o,e',d⟩:=ho p.1 hb;rw [e] at e'; cases e';exact⟨e,f0,f1,f2,d⟩
theorem Inv.unpinned {jv pl:List (Addr×Obj)} {σ:St} {H:Hp} {s:Shared} (I:Inv X (jv++pl) σ H s):Inv X jv σ H s:=I.pins_of fun p hp=>I.pin p (aw _ (aL _ hp))
theorem zaV {iter:Expr} {body:List Stmt} {wi:TI} {g:TG} {tb:TS} {pos:Pos} (hp:PassesOwn (model X.prog X.w) X.A X.env X.xe) (hc:X.calm=true) (hi:PI X tg iter wi) (hg:PG X tg g) (hb:PSs X body tb)
  (hs:∀ x,foldedSetIterable iter X.env x=pure x:=by intro _; rfl):PS X (.For tg iter body [] pos) (zmp wi g tb):=by
 intro jv s σ H D I h;refine wpAny_For (thn (hi jv s σ H _ I h) fun v s1 h1=>thn h1 fun sG s2 h2=>?_) hs;obtain⟨it,fp,tn,J,H2,e,I2,T,jT,f2,W,⟨m0,w0⟩,turn⟩:=h2;subst e;have sH:∀ {H':Hp},(∀ b∈fp,H' b=none)→∀ b∈fp,zbO X jv H' b:=fun hn b hb=>⟨hn b hb,(f2 b hb).2⟩
 refine codeAny_forLoop_any (fun n s'=>∃ i σ' H',Inv X jv σ' H' s'∧tn i s'.heap∧(∀ b∈fp,H' b=none)∧W i n σ' H') ?_ m0 ⟨0,σ,H2,I2,jT,fun b hb=>(f2 b hb).1,w0⟩;rintro n s3 ⟨i,σ3,H3,I3,wB,fr3,w3⟩;rcases turn i n σ3 H3 w3 with ⟨stop,qn⟩ | ⟨go,N,hN,step⟩
 ·refine cX hp (thn (T.done X rfl rfl rfl hc i jv s3 σ3 H3 X.xe I3 (sH fr3) wB stop) fun r s4 ⟨hr,I4⟩=>?_);subst hr;exact eU ⟨σ3,H3,I4,qn⟩
 ·refine cX hp (thn (T.item X rfl rfl rfl hc i jv s3 σ3 H3 X.xe I3 (sH fr3) wB go) fun r s4 ⟨u,hr,h4⟩=>?_);subst hr;refine cX hp (thn h4 fun _ s5 ⟨x,H5,I5,r5,y5,ud,fr5⟩=>?_);have I5':=I5.pinned (sH fr5) (T.obj _ _ ud);refine cX hp (thn (hg _ s5 σ3 H5 x u _ I5' r5 (step x H5 y5)) fun _ s6 ⟨σ6,H6,I6,q6⟩=>?_);refine cX hp (thn (hb _ s6 σ6 H6 _ I6 q6) fun f s7 q7=>?_);have again:∀ {σ7:St} {H7:Hp},Inv X (jv++zbP fp s5.heap) σ7 H7 s7→N σ7 H7→∃ m,m < n∧∃ i σ' H',Inv X jv σ' H' s7∧tn i s7.heap∧(∀ b∈fp,H' b=none)∧W i m σ' H':=fun {σ7 H7} I7 n7=>by
   obtain⟨m',hm,w7⟩:=hN σ7 H7 n7;refine⟨m',hm,i+1,σ7,H7,I7.unpinned,T.keep _ _ _ ud fun b hb o e=>(I7.pin (b,o) (aw _ (aw _ (zbx hb e)))).1,fun b hb=>?_,w7⟩;obtain⟨o,e,d⟩:=T.obj _ _ ud b hb;exact (I7.pin (b,o) (aw _ (aw _ (zbx hb e)))).2.1
  cases f with
  | next=>obtain⟨σ7,H7,I7,n7⟩:=q7; exact again I7 n7
  | cont=>obtain⟨σ7,H7,I7,n7⟩:=q7; exact again I7 n7
  | brk=>obtain⟨σ7,H7,I7,q7⟩:=q7; exact⟨σ7,H7,I7.unpinned,q7⟩
  | ret v=>obtain⟨x7,σ7,H7,I7,r7,q7⟩:=q7; exact⟨x7,σ7,H7,I7.unpinned,r7,q7⟩
end
theorem zii {K:af} {a:Addr} {xs:List V} {g:TG} {tb:TS} {D:Ends} {σ:St} {H:Hp} (Pv:Nat→St→Hp→Prop) (h0:Pv 0 σ H) (hl:∀ i σ H,i≤xs.length→Pv i σ H→jy K H a xs)
  (hs:∀ i x σ H,xs[i]? = some x→Pv i σ H→g x σ H fun σ2 H2=>tb { D with nx:=Pv (i+1),ct:=Pv (i+1),bk:=D.nx } σ2 H2) (hd:∀ σ H,Pv xs.length σ H→D.nx σ H) :
  ∃ W:Nat→Nat→St→Hp→Prop,(∃ m,W 0 m σ H)∧∀ i m σ H,W i m σ H →
   ((Itl K a).stop i H∧D.nx σ H)∨((Itl K a).go i H∧∃ N:St→Hp→Prop,(∀ σ' H',N σ' H'→∃ m',m' < m∧W (i+1) m' σ' H')∧∀ x H',(Itl K a).yld i H x H'→g x σ H' fun σ2 H2=>tb { D with nx:=N,ct:=N,bk:=D.nx } σ2 H2):=by
 refine⟨fun i m σ H=>m=xs.length - i∧i≤xs.length∧Pv i σ H,⟨xs.length,#[M],a8 _,h0⟩,?_⟩;rintro i m σ H ⟨rfl,hi,p⟩;have q:=hl i σ H hi p;by_cases jN:i < xs.length
 ·refine .inr ⟨⟨xs,xs[i],q,by simp [jN]⟩,Pv (i+1),fun σ' H' p'=>⟨xs.length - (i+1),#[O],rfl,jN,p'⟩,fun x H' y=>?_⟩;obtain⟨e,y⟩:=y;subst e;exact hs i x σ _ (y xs q) p
 ·have e:i=xs.length:=by lia
  subst e;exact .inl ⟨⟨xs,q,ag _⟩,hd σ H p⟩
theorem zjD {K:af} {a:Addr} {xs:List V} {g:TG} {tb:TS} {D:Ends} {σ:St} {H:Hp} (Pv:Nat→St→Hp→Prop) (h0:Pv 0 σ H) (hl:∀ i σ H,i≤xs.length→Pv i σ H→jI K H a xs)
  (hs:∀ i x σ H,xs[i]? = some x→Pv i σ H→g x σ H fun σ2 H2=>tb { D with nx:=Pv (i+1),ct:=Pv (i+1),bk:=D.nx } σ2 H2) (hd:∀ σ H,Pv xs.length σ H→D.nx σ H) :
  ∃ W:Nat→Nat→St→Hp→Prop,(∃ m,W 0 m σ H)∧∀ i m σ H,W i m σ H →
   ((Itt K a).stop i H∧D.nx σ H)∨((Itt K a).go i H∧∃ N:St→Hp→Prop,(∀ σ' H',N σ' H'→∃ m',m' < m∧W (i+1) m' σ' H')∧∀ x H',(Itt K a).yld i H x H'→g x σ H' fun σ2 H2=>tb { D with nx:=N,ct:=N,bk:=D.nx } σ2 H2):=by
 refine⟨fun i m σ H=>m=xs.length - i∧i≤xs.length∧Pv i σ H,⟨xs.length,#[M],a8 _,h0⟩,?_⟩;rintro i m σ H ⟨rfl,hi,p⟩;have q:=hl i σ H hi p;by_cases jN:i < xs.length
 ·refine .inr ⟨⟨xs,xs[i],q,by simp [jN]⟩,Pv (i+1),fun σ' H' p'=>⟨xs.length - (i+1),#[O],rfl,jN,p'⟩,fun x H' y=>?_⟩;obtain⟨e,y⟩:=y;subst e;exact hs i x σ _ (y xs q) p
 ·have e:i=xs.length:=by lia
  subst e;exact .inl ⟨⟨xs,q,ag _⟩,hd σ H p⟩
theorem zht {lo:Int} {n:Nat} {g:TG} {tb:TS} {D:Ends} {σ:St} {H:Hp} (Pv:Nat→St→Hp→Prop) (h0:Pv 0 σ H)
  (hs:∀ i σ H,i < n→Pv i σ H→g (.int (lo+i)) σ H fun σ2 H2=>tb { D with nx:=Pv (i+1),ct:=Pv (i+1),bk:=D.nx } σ2 H2) (hd:∀ σ H,Pv n σ H→D.nx σ H) :
  ∃ W:Nat→Nat→St→Hp→Prop,(∃ m,W 0 m σ H)∧∀ i m σ H,W i m σ H →
   ((Itr lo n).stop i H∧D.nx σ H)∨((Itr lo n).go i H∧∃ N:St→Hp→Prop,(∀ σ' H',N σ' H'→∃ m',m' < m∧W (i+1) m' σ' H')∧∀ x H',(Itr lo n).yld i H x H'→g x σ H' fun σ2 H2=>tb { D with nx:=N,ct:=N,bk:=D.nx } σ2 H2):=by
 refine⟨fun i m σ H=>m=n - i∧i≤n∧Pv i σ H,⟨n,#[M],a8 _,h0⟩,?_⟩;rintro i m σ H ⟨rfl,hi,p⟩;by_cases jN:i < n
 ·refine .inr ⟨jN,Pv (i+1),fun σ' H' p'=>⟨n - (i+1),#[O],rfl,jN,p'⟩,fun x H' y=>?_⟩;obtain⟨e,y⟩:=y;subst e y;exact hs i σ _ jN p
 ·have e:i=n:=by lia
  subst e;exact .inl ⟨ag _,hd σ H p⟩
theorem zij {c:TT} {tb:TS} {D:Ends} {σ:St} {H:Hp} (Pv:St→Hp→Prop) (μ:St→Hp→Nat) (h0:Pv σ H)
  (hs:∀ σ H,Pv σ H→c σ H fun b H1=>if b=true then tb { D with nx:=fun σ' H'=>Pv σ' H'∧μ σ' H' < μ σ H,ct:=fun σ' H'=>Pv σ' H'∧μ σ' H' < μ σ H,bk:=D.nx } σ H1 else D.nx σ H1)
  (mono:∀ σ H Q Q',(∀ b H1,Q b H1→Q' b H1)→c σ H Q→c σ H Q'):zig c tb D σ H:=by
 refine⟨fun m σ H=>m=μ σ H∧Pv σ H,⟨_,rfl,h0⟩,?_⟩;rintro m σ H ⟨rfl,p⟩;refine mono σ H _ _ (fun b H1 q=>?_) (hs σ H p);cases b with
 | true=>exact⟨_,fun σ' H' ⟨p',l⟩=>⟨_,l,rfl,p'⟩,q⟩
 | false=>exact q
abbrev R2:=V→V→Hp→VK→Prop
def OpR (X:Cx) (f:Value→Value→Sem Value) (r:R2):Prop :=
 ∀ (jv:List (Addr×Obj)) (s:Shared) (σ:St) (H:Hp) (x y:V) (v u:Value) (Q:VK),Inv X jv σ H s→RelV x v→RelV y u→r x y H Q →
  wpAny (model X.prog X.w) X.A (f v u) (EP X jv σ Q) X.xe s
def UnR (X:Cx) (f:Value→Sem Value) (r:V→Hp→VK→Prop):Prop :=
 ∀ (jv:List (Addr×Obj)) (s:Shared) (σ:St) (H:Hp) (x:V) (v:Value) (Q:VK),Inv X jv σ H s→RelV x v→r x H Q →
  wpAny (model X.prog X.w) X.A (f v) (EP X jv σ Q) X.xe s
def zbn (X:Cx) (f:Value) (r:List V→Hp→VK→Prop):Prop :=
 ∀ (jv:List (Addr×Obj)) (s:Shared) (σ:St) (H:Hp) (xs:List V) (us:List Value) (Q:VK),Inv X jv σ H s→zG xs us→r xs H Q →
  wpAny (model X.prog X.w) X.A (call f us) (EP X jv σ Q) X.xe s
def tOp (r:R2) (ta tb:TE):TE:=fun σ H Q=>ta σ H fun x H1=>tb σ H1 fun y H2=>r x y H2 Q
def tUn (r:V→Hp→VK→Prop) (ta:TE):TE:=fun σ H Q=>ta σ H fun x H1=>r x H1 Q
def rI (C:Int→Int→Prop) (g:Int→Int→V):R2:=fun x y H Q=>∃ i j,x = .int i∧y = .int j∧C i j∧Q (g i j) H
def rI0 (g:Int→Int→V):R2:=fun x y H Q=>∃ i j,x = .int i∧y = .int j∧Q (g i j) H
def rU (g:Int→V):V→Hp→VK→Prop:=fun x H Q=>∃ i,x = .int i∧Q (g i) H
section
variable {X:Cx} {a b c:Expr} {ta tb tc:TE} {pos:Pos}
theorem zlQ (ha:PE X a ta) (hb:PE X b tb) {jv:List (Addr×Obj)} {s:Shared} {σ:St} {H:Hp} {R:V→V→Hp→Prop} (I:Inv X jv σ H s)
  (h:ta σ H fun x H1=>tb σ H1 fun y H2=>R x y H2) {Q:Value→Shared→Prop} {f:Value→Value→Sem Value}
  (hf:∀ v u s2 x y H2,Inv X jv σ H2 s2→RelV x v→RelV y u→R x y H2→wpAny (model X.prog X.w) X.A (f v u) Q X.xe s2) :
  wpAny (model X.prog X.w) X.A (eval a X.env) (fun v s₁=>wpAny (model X.prog X.w) X.A (eval b X.env) (fun u s₂=>wpAny (model X.prog X.w) X.A (f v u) Q X.xe s₂) X.xe s₁) X.xe s:=by
 refine thn (ha jv s σ H _ I h) fun v s1 ⟨x,H1,I1,r1,q1⟩=>?_
 refine thn (hb jv s1 σ H1 _ I1 q1) fun u s2 ⟨y,H2,I2,r2,q2⟩=>?_
 exact hf v u s2 x y H2 I2 r1 r2 q2
theorem zg {op:Operator} {r:R2} (ho:OpR X (binaryOp op) r) (ha:PE X a ta) (hb:PE X b tb):PE X (.BinOp a op b pos) (tOp r ta tb):=by
 intro jv s σ H Q I h;exact wpAny_BinOp (zlQ ha hb I h fun v u s2 x y H2 I2 rx ry q=>ho jv s2 σ H2 x y v u Q I2 rx ry q)
theorem zlR {op:UnaryOp} {r:V→Hp→VK→Prop} (ho:UnR X (unaryOp op) r) (ha:PE X a ta):PE X (.UnaryOp op a pos) (tUn r ta):=by
 intro jv s σ H Q I h;exact UnaryOp_ (thn (ha jv s σ H _ I h) fun v s1 ⟨x,H1,I1,r1,q1⟩=>ho jv s1 σ H1 x v Q I1 r1 q1)
theorem opI {f:Value→Value→Sem Value} {C:Int→Int→Prop} {g:Int→Int→Int}
  (rule:∀ (i j:Int) (t u:Tok) (s:Shared) (Q:Value→Shared→Prop) (E:Value→Shared→Prop),C i j→Q (.int (g i j) s.toks) { s with toks:=s.toks+1 }→wpAny (model X.prog X.w) X.A (f (.int i t) (.int j u)) Q E s) :
  OpR X f (rI C fun i j=>.int (g i j)):=by
 intro jv s σ H x y v u Q I rx ry h;obtain⟨i,j,rfl,rfl,hc,q⟩:=h;obtain⟨t,rfl⟩:=rx;obtain⟨t',rfl⟩:=ry;exact rule i j t t' s _ _ hc ⟨.int (g i j),H,I.tok _,⟨_,rfl⟩,q⟩
theorem zlS {f:Value→Value→Sem Value} {g:Int→Int→Int}
  (rule:∀ (i j:Int) (t u:Tok) (s:Shared) (Q:Value→Shared→Prop) (E:Value→Shared→Prop),Q (.int (g i j) s.toks) { s with toks:=s.toks+1 }→wpAny (model X.prog X.w) X.A (f (.int i t) (.int j u)) Q E s) :
  OpR X f (rI0 fun i j=>.int (g i j)):=by
 intro jv s σ H x y v u Q I rx ry h;obtain⟨i,j,rfl,rfl,q⟩:=h;obtain⟨t,rfl⟩:=rx;obtain⟨t',rfl⟩:=ry;exact rule i j t t' s _ _ ⟨.int (g i j),H,I.tok _,⟨_,rfl⟩,q⟩
theorem zjE {f:Value→Value→Sem Value} {g:Int→Int→Bool}
  (rule:∀ (i j:Int) (t u:Tok) (s:Shared) (Q:Value→Shared→Prop) (E:Value→Shared→Prop),Q (.bool (g i j)) s→wpAny (model X.prog X.w) X.A (f (.int i t) (.int j u)) Q E s) :
  OpR X f (rI0 fun i j=>.bl (g i j)):=by
 intro jv s σ H x y v u Q I rx ry h;obtain⟨i,j,rfl,rfl,q⟩:=h;obtain⟨t,rfl⟩:=rx;obtain⟨t',rfl⟩:=ry;exact rule i j t t' s _ _ ⟨.bl (g i j),H,I,rfl,q⟩
def zlT (i j:Int):Prop:=0 < j∧j < 1073741824
def zmq (i j:Int):Prop:=0≤j∧j≤1000000∧i.natAbs < 2 ^ 64
def zkW (i j:Int):Prop:=(-(2 ^ 64) < i∧i < 2 ^ 64)∨(-(2 ^ 64) < j∧j < 2 ^ 64)
theorem zkW.ok {i j:Int} (h:zkW i j):IntMulOk i j:=by
 rcases h with ⟨h1,h2⟩ | ⟨h1,h2⟩
 ·exact .of_left (intBits_le_64 h1 h2)
 ·exact .of_right (intBits_le_64 h1 h2)
theorem zU:OpR X (binaryOp .Add) (rI0 fun i j=>.int (i+j)):=zlS fun _ _ _ _ _ _ _ q=>add_int q
theorem zby:OpR X (binaryOp .Sub) (rI0 fun i j=>.int (i - j)):=zlS fun _ _ _ _ _ _ _ q=>sub_int q
theorem zN:OpR X (binaryOp .Mult) (rI zkW fun i j=>.int (i*j)):=opI fun _ _ _ _ _ _ _ hc q=>mul_int q hc.ok
theorem zc6:OpR X (binaryOp .FloorDiv) (rI zlT fun i j=>.int (i / j)):=opI fun i j _ _ _ _ _ hc q=>by
 have h1:(0:Int) < j:=hc.1;have h2:j < 1073741824:=hc.2;exact floordiv_int #[O] (by rw [fE i #[O]]; exact q) (.inl (gm #[O]))
theorem zA:OpR X (binaryOp .Mod) (rI (fun _ j=>0 < j) fun i j=>.int (i % j)):=opI fun i j _ _ _ _ _ hc q=>by
 have h1:(0:Int) < j:=hc;exact mod_int' #[O] (by rw [Int.fmod_eq_emod_of_nonneg i #[O]]; exact q)
theorem zkX:OpR X (binaryOp .Pow) (rI zmq fun i j=>.int (i ^ j.toNat)):=opI fun _ _ _ _ _ _ _ hc q=>pow_int_small hc.1 hc.2.1 hc.2.2 q
theorem zik:OpR X (inplaceOp .FloorDiv) (rI zlT fun i j=>.int (i / j)):=opI fun i j _ _ _ _ _ hc q=>by
 have h1:(0:Int) < j:=hc.1;have h2:j < 1073741824:=hc.2;exact ifloordiv_int #[O] (by rw [fE i #[O]]; exact q) (.inl (gm #[O]))
theorem unI {f:Value→Sem Value} {g:Int→Int}
  (rule:∀ (i:Int) (t:Tok) (s:Shared) (Q:Value→Shared→Prop) (E:Value→Shared→Prop),Q (.int (g i) s.toks) { s with toks:=s.toks+1 }→wpAny (model X.prog X.w) X.A (f (.int i t)) Q E s) :
  UnR X f (rU fun i=>.int (g i)):=by
 intro jv s σ H x v Q I rx h;obtain⟨i,rfl,q⟩:=h;obtain⟨t,rfl⟩:=rx;exact rule i t s _ _ ⟨.int (g i),H,I.tok _,⟨_,rfl⟩,q⟩
theorem zkY:UnR X (unaryOp .USub) (rU fun i=>.int (-i)):=unI fun _ _ _ _ _ q=>neg_int q
end
def zlU:V→V→Bool
 | .non,.non=>true | .non,.int _=>true | .int _,.non=>true | .non,.bl _=>true | .bl _,.non=>true | .non,.str _=>true | .str _,.non=>true
 | .int _,.int _=>true | .bl _,.bl _=>true | .str _,.str _=>true | .byt _,.byt _=>true
 | .int _,.str _=>true | .str _,.int _=>true | .bl _,.str _=>true | .str _,.bl _=>true
 | _,_=>false
def rEq:R2:=fun x y H Q=>zlU x y=true∧Q (.bl (decide (x=y))) H
theorem zjF {i j:Int}:decide (V.int i=V.int j)=(i == j):=by
 rw [bI];simp
theorem zkZ {i j:Bool}:decide (V.bl i=V.bl j)=(i == j):=by
 rw [bI];simp
theorem zjG {i j:Str}:decide (V.str i=V.str j)=(i == j):=by
 rw [bI];simp
theorem zjH {i j:Array UInt8}:decide (V.byt i=V.byt j)=(i.toList == j.toList):=by
 rw [bI];cases i;cases j;simp
section
variable {X:Cx} {a b c:Expr} {ta tb tc:TE} {pos:Pos}
theorem zav {jv:List (Addr×Obj)} {σ:St} {H:Hp} {s:Shared} {Q:VK} {k k':Bool} (I:Inv X jv σ H s) (q:Q (.bl k) H) (e:k=k'):EP X jv σ Q (.bool k') s:=by
 subst e;exact⟨.bl k,H,I,rfl,q⟩
theorem zdk:OpR X (compareOp .Eq) rEq:=by
 intro jv s σ H x y v u Q I rx ry h;obtain⟨hs,q⟩:=h;cases x with
 | non =>
  cases rx;cases y with
  | non=>cases ry; exact PySem.EqNone.eq_none_none (zav I q #[M])
  | bl j=>cases ry; exact PySem.EqNone.eq_none_bool (zav I q #[M])
  | int j=>obtain⟨t',rfl⟩:=ry; exact PySem.EqNone.eq_none_int (zav I q #[M])
  | str j=>obtain⟨t',rfl⟩:=ry; exact PySem.EqNone.eq_none_str (zav I q #[M])
  | _=>exact absurd (show false=true from hs) aQ
 | bl i =>
  cases rx;cases y with
  | non=>cases ry; exact PySem.EqNone.eq_bool_none (zav I q #[M])
  | bl j=>cases ry; exact eq_bool (zav I q zkZ)
  | str j=>obtain⟨t',rfl⟩:=ry; exact PySem.EqMixed.eq_bool_str (zav I q #[M])
  | _=>exact absurd (show false=true from hs) aQ
 | int i =>
  obtain⟨t,rfl⟩:=rx;cases y with
  | non=>cases ry; exact PySem.EqNone.eq_int_none (zav I q #[M])
  | int j=>obtain⟨t',rfl⟩:=ry; exact eq_int (zav I q zjF)
  | str j=>obtain⟨t',rfl⟩:=ry; exact PySem.EqMixed.eq_int_str (zav I q #[M])
  | _=>exact absurd (show false=true from hs) aQ
 | str i =>
  obtain⟨t,rfl⟩:=rx;cases y with
  | non=>cases ry; exact PySem.EqNone.eq_str_none (zav I q #[M])
  | bl j=>cases ry; exact PySem.EqMixed.eq_str_bool (zav I q #[M])
  | int j=>obtain⟨t',rfl⟩:=ry; exact PySem.EqMixed.eq_str_int (zav I q #[M])
  | str j=>obtain⟨t',rfl⟩:=ry; exact eq_str (zav I q zjG)
  | _=>exact absurd (show false=true from hs) aQ
 | byt i =>
  obtain⟨t,rfl⟩:=rx;cases y with
  | byt j=>obtain⟨t',rfl⟩:=ry; exact PySem.W.eq_bytes (zav I q zjH)
  | _=>exact absurd (show false=true from hs) aQ
 | _=>cases y <;> exact absurd (show false=true from hs) aQ
theorem zil:OpR X (compareOp .Lt) (rI0 fun i j=>.bl (decide (i < j))):=zjE fun _ _ _ _ _ _ _ q=>lt_int q
theorem zkz:OpR X (compareOp .LtE) (rI0 fun i j=>.bl (decide (i≤j))):=zjE fun _ _ _ _ _ _ _ q=>le_int q
theorem zeh:OpR X (compareOp .Gt) (rI0 fun i j=>.bl (decide (j < i))):=zjE fun _ _ _ _ _ _ _ q=>gt_int q
theorem zgv:OpR X (compareOp .GtE) (rI0 fun i j=>.bl (decide (j≤i))):=zjE fun _ _ _ _ _ _ _ q=>ge_int q
theorem zjI:OpR X (compareOp .IsNot) (fun x y H Q=>y = .non∧Q (.bl (!decide (x = .non))) H):=by
 intro jv s σ H x y v u Q I rx ry h;obtain⟨rfl,q⟩:=h;cases ry;refine isnot_none_gen (zav I q ?_);cases x <;> first
  | (cases rx; rfl)
  | (obtain⟨t,rfl⟩:=rx; rfl)
theorem zZ (b:Expr) {op:CmpOp} (h:op≠.In:=by decide) (h2:op≠.NotIn:=by decide):behindInMarks op b=false:=by
 have e1:(op == CmpOp.In)=false:=by cases op <;> first | rfl | exact absurd rfl h
 have e2:(op == CmpOp.NotIn)=false:=by cases op <;> first | rfl | exact absurd rfl h2
 cases b <;> simp [behindInMarks,e1,e2]
def zkA (t:TE):TT:=fun σ H Q=>t σ H fun x H'=>∃ k,x = .bl k∧Q k H'
theorem zL {op:CmpOp} {r:R2} (ho:OpR X (compareOp op) r) (ha:PE X a ta) (hb:PE X b tb) (hm:behindInMarks op b=false):PT X (.Compare a [op] [b] pos) (zkA (tOp r ta tb)):=by
 intro jv s σ H Q I h;refine wpAny_isTrue_Compare1 (thn (ha jv s σ H _ I h) fun v s1 ⟨x,H1,I1,r1,q1⟩=>thn (hb jv s1 σ H1 _ I1 q1) fun u s2 ⟨y,H2,I2,r2,q2⟩ =>
  thn (ho jv s2 σ H2 x y v u _ I2 r1 r2 q2) fun c s3 ⟨z,H3,I3,r3,k,e,q3⟩=>?_) hm
 subst e;cases r3;exact eC ⟨H3,I3,q3⟩
def zk0 (r r':R2) (ta tb tc:TE):TE:=fun σ H Q=>ta σ H fun x H1=>tb σ H1 fun y H2=>r x y H2 fun z H3=>∃ k,z = .bl k ∧
 (if k=true then tc σ H3 fun w' H4=>r' y w' H4 Q else Q (.bl false) H3)
theorem zim {op xE:CmpOp} {r r':R2} (ho:OpR X (compareOp op) r) (pP:OpR X (compareOp xE) r') (ha:PE X a ta) (hb:PE X b tb) (hc:PE X c tc)
  (hm:lastMarks [op,xE] [b,c]=false:=by with_unfolding_all rfl):PT X (.Compare a [op,xE] [b,c] pos) (zkA (zk0 r r' ta tb tc)):=by
 intro jv s σ H Q I h;refine isTrue_chain (thn (ha jv s σ H _ I h) fun v s1 ⟨x,H1,I1,r1,q1⟩=>test_link (thn (hb jv s1 σ H1 _ I1 q1) fun u s2 ⟨y,H2,I2,r2,q2⟩ =>
  thn (ho jv s2 σ H2 x y v u _ I2 r1 r2 q2) fun d s3 ⟨z,H3,I3,r3,k,e,q3⟩=>?_)) hm
 subst e;cases r3;refine eC ?_;cases k with
 | false =>
  obtain⟨k',e',q'⟩:=q3;cases e';exact ite_ff ⟨H3,I3,q'⟩
 | true =>
  refine ite_tt (test_last (thn (hc jv s3 σ H3 _ I3 q3) fun w' s4 ⟨z',H4,I4,r4,q4⟩=>thn (pP jv s4 σ H4 y z' u w' _ I4 r2 r4 q4) fun d' s5 ⟨z2,H5,I5,r5,k2,e2,q5⟩=>?_));subst e2;cases r5;exact eC ⟨H5,I5,q5⟩
theorem zeD:(sizeLine:Nat) < 2 ^ 63:=by rw [bu]; decide
theorem vals1 {x:V} {us:List Value} (r:zG [x] us):∃ u,us = [u]∧RelV x u:=by
 cases r with
 | cons r1 r2=>cases r2; exact⟨_,rfl,r1⟩
theorem vals2 {x y:V} {us:List Value} (r:zG [x,y] us):∃ u w',us = [u,w']∧RelV x u∧RelV y w':=by
 cases r with
 | cons r1 r2 =>
  cases r2 with
  | cons r3 r4=>cases r4; exact⟨_,_,rfl,r1,r3⟩
theorem zcG (hc:X.calm=true):zbn X (.builtin "min") (fun xs H Q=>∃ i j,xs = [.int i,.int j]∧Q (.int (if j < i then j else i)) H):=by
 intro jv s σ H xs us Q I r h;obtain⟨i,j,rfl,q⟩:=h;obtain⟨u,w',rfl,⟨t,rfl⟩,⟨t',rfl⟩⟩:=vals2 r;refine min_two_ints (I.ok.hd hc) fun h' tk k=>⟨_,H,I.kept k,?_,q⟩
 by_cases hj:j < i
 ·rw [if_pos hj,if_pos hj]; exact⟨_,rfl⟩
 ·rw [if_neg hj,if_neg hj]; exact⟨_,rfl⟩
end
theorem zdX.some_of {v:V} {o:Option Value} (r:zdX (some v) o):∃ u,o=some u∧RelV v u:=by
 cases o with
 | none=>exact (show False from r).elim
 | some u=>exact⟨u,rfl,r⟩
structure Room (k:Nat) (A:Around):Prop where
 hd:A.handled=none
 dp:A.depth+3*k+5 < recursionLimit
 un:A.units+16*k+200 < cLine
theorem Room.mono {j k:Nat} {A:Around} (r:Room k A) (h:j≤k):Room j A:=⟨r.hd,by have:=r.dp; lia,by have:=r.un; lia⟩
theorem Room.deeper {k:Nat} {A:Around} (r:Room (k+1) A) (env:Env):Room k (A.deeper env) :=
 ⟨r.hd,by have:=r.dp; show A.depth+1+3*k+5 < _; lia,by have:=r.un; show A.units+3+16*k+200 < _; lia⟩
theorem Room.depth {k:Nat} {A:Around} (r:Room k A):A.depth < recursionLimit:=by have:=r.dp; lia
theorem Room.units {k:Nat} {A:Around} (r:Room k A):A.units+64 < cLine:=by have:=r.un; lia
def zmr:TA:=fun _ H Q=>Q [] H
def zkB (ta:TE) (tr:TA):TA:=fun σ H Q=>ta σ H fun x H1=>tr σ H1 fun xs H2=>Q (x :: xs) H2
section
variable {X:Cx} {e:Expr} {es:List Expr} {te:TE} {t:TA} {pos:Pos}
theorem zf:PA X [] zmr:=fun _ _ _ _ H Q I h=>dC ⟨[],H,I,.nil,h⟩
theorem za (ha:PE X e te) (hr:PA X es t) (hs:starEach (e :: es) X.env=(false,eval e X.env) :: starEach es X.env:=by rfl):PA X (e :: es) (zkB te t):=by
 intro pos jv s σ H Q I h;rw [hs];show wpAny _ _ (spliced ((false,eval e X.env) :: backTo pos (starEach es X.env))) _ _ s;refine cW (thn (ha jv s σ H _ I h) fun u s1 ⟨x,H1,I1,r1,q1⟩=>?_);exact thn (hr pos jv s1 σ H1 _ I1 q1) fun us s2 ⟨xs,H2,I2,r2,q2⟩=>⟨x :: xs,H2,I2,.cons r1 r2,q2⟩
theorem ya {X:Cx} {e:Expr} {te:TE} (a:PE X e te) (b:starEach [e] X.env=(false,eval e X.env) :: starEach [] X.env):PA X [e] (zkB te zmr):=za a zf b
def zms (t:TA):TE:=fun σ H Q=>t σ H fun xs H1=>xs.length≤sizeLine∧∀ p,H1 p=none→Q (.ref p) (jA H1 p (.tup xs))
def zjJ (t:TA):TE:=fun σ H Q=>t σ H fun xs H1=>xs.length≤sizeLine∧∀ p,H1 p=none→Q (.ref p) (jA H1 p (.lst xs))
theorem zck {x1} (h:PA X es t):PE X (.Tuple es x1 pos) (zms t):=by
 intro jv s σ H Q I hq;refine wpAny_Tuple_spliced (thn (h pos jv s σ H _ I hq) fun us s1 ⟨xs,H1,I1,r,z,q⟩=>⟨by rw [← r.length]; exact z,?_⟩);have hf:H1 s1.heap.objs.size=none:=I1.hok.fresh (ag _);refine⟨.ref s1.heap.objs.size,jA H1 s1.heap.objs.size (.tup xs),I1.laid (t':=s1.toks) (fun b u e=>ae _ e) (ag _) ?_,rfl,q _ hf⟩;exact⟨z,us,r,⟨_,aq _ rfl,rfl,_,rfl⟩⟩
theorem zad (h:PA X es t):PE X (.List es pos) (zjJ t):=by
 intro jv s σ H Q I hq;refine wpAny_List_spliced (thn (h pos jv s σ H _ I hq) fun us s1 ⟨xs,H1,I1,r,z,q⟩=>⟨by rw [← r.length]; exact z,?_⟩);have hf:H1 s1.heap.objs.size=none:=I1.hok.fresh (ag _);refine⟨.ref s1.heap.objs.size,jA H1 s1.heap.objs.size (.lst xs),I1.laid (t':=s1.toks) (fun b u e=>ae _ e) (ag _) ?_,rfl,q _ hf⟩;exact⟨z,us,0,r,aq _ rfl⟩
end
abbrev Sp:=List V→Hp→VK→XK→Prop
abbrev CXT:=List Env→Hp→Shared→XK→Value→Shared→Prop
structure Env0 (P:Program) (w:World) (K:af) (mg:Str→Option Value) (base:Heap) (A:Around) (outer:List Env) (s:Shared) (H:Hp):Prop where
 frames:A.frames=some outer
 mod:Mod K mg base
 bs:∀ b o,base.get? b=some o→s.heap.get? b=some o∧H b=none
 bsz:base.objs.size≤s.heap.objs.size
 funs:s.heap.FunFrames base outer
 frf:∀ b∈frs outer,H b=none
 hok:HOk P w H s.heap
 bare:AllBare s.gens
def CE (outer:List Env) (P:Program) (w:World) (H:Hp) (s:Shared) (Q:VK) (u:Value) (s':Shared):Prop :=
 ∃ v H',s'.os=s.os∧AllBare s'.gens∧Un (frs outer) [] H H' s.heap s'.heap∧HOk P w H' s'.heap∧RelV v u∧Q v H'
def CR (CX:CXT) (outer:List Env) (P:Program) (w:World) (H:Hp) (s:Shared) (Q:VK) (E:XK) (r:Result) (s':Shared):Prop :=
 match r with
 | .ok (.ret u)=>CE outer P w H s Q u s'
 | .ok _=>False
 | .error e=>CX outer H s E e s'
structure FnOk (P:Program) (w:World) (K:af) (mg:Str→Option Value) (base:Heap) (CX:CXT) (k:Nat) (f:Addr) (fd:FuncData) (ps:List Str) (sp:Sp):Prop where
 len:∀ vs H Q E,sp vs H Q E→vs.length=ps.length
 run:∀ (A:Around) (outer:List Env) (s:Shared) (H:Hp) (args:Args) (us:List Value) (vs:List V) (Q:VK) (E:XK),Room k A→Env0 P w K mg base A outer s H→BindsTo s fd args (ps.zip us)→zG vs us→sp vs H Q E →
  codeAny (model P w) A (.call (.ref f) args) (CR CX outer P w H s Q E) s
section
variable {X:Cx} {jv:List (Addr×Obj)} {σ:St} {H:Hp} {s s':Shared}
theorem Inv.env0 (I:Inv X jv σ H s):Env0 X.prog X.w X.K X.mg X.base X.A X.stack s H :=
 ⟨I.ok.frames,I.ok.mod,I.bs,aZ I.ok.bsz I.sz,I.stack,I.stkFree,I.hok,I.bare⟩
theorem Inv.after {Q:VK} {u:Value} (I:Inv X jv σ H s) (h:CE X.stack X.prog X.w H s Q u s'):EP X jv σ Q u s':=by
 obtain⟨v,H',os,bare,un,hok,r,q⟩:=h;obtain⟨hh,g,d,t,os'⟩:=s';obtain rfl:os'=s.os:=os;exact⟨v,H',I.call (h':=hh) (g':=g) (d':=d) (t':=t) (ch:=[]) un hok bare (fun b z=>absurd z #[M]),r,q⟩
end
def zlV (sp:Sp) (rT:List V) (E:XK) (t:TA):TE:=fun σ H Q=>t σ H fun vs H1=>sp (vs++rT) H1 Q E
def Binds (K:af) (fd:FuncData) (ps:List Str) (ds:List Value):Prop :=
 ∀ (s:Shared) (us:List Value),K.In s.heap→(us++ds).length=ps.length→BindsTo s fd ⟨us,[]⟩ (ps.zip (us++ds))
theorem Binds.all {K:af} {fd:FuncData} {ps:List Str} (h:∀ us:List Value,us.length=ps.length→bindArgs fd ⟨us,[]⟩=pure (ps.zip us)):Binds K fd ps []:=fun s us _ hl=>by
 rw [bQ] at hl ⊢;exact .of_eq (h us hl)
def zf4 (CX:CXT) (X:Cx) (E:XK):Prop:=∀ (jv:List (Addr×Obj)) (σ:St) (H:Hp) (s:Shared) (e:Value) (s':Shared),Inv X jv σ H s→CX X.stack H s E e s'→X.xe e s'
section
variable {X:Cx} {CX:CXT} {k:Nat} {f C:Addr} {fd:FuncData} {ps:List Str} {sp:Sp} {rT:List V} {ds:List Value} {E:XK} {x m:Str} {p pos apos:Pos} {e o:Expr} {es:List Expr} {ta:TE} {t:TA}
theorem zk1 {jv:List (Addr×Obj)} {σ:St} {H:Hp} {s:Shared} {Q:VK} {us:List Value} {vs:List V} (F:FnOk X.prog X.w X.K X.mg X.base CX k f fd ps sp) (hr:Room k X.A) (hb:Binds X.K fd ps ds) (hd:zG rT ds) (hx:zf4 CX X E)
  (I:Inv X jv σ H s) (r:zG vs us) (h:sp (vs++rT) H Q E):wpAny (model X.prog X.w) X.A (call (.ref f) us) (EP X jv σ Q) X.xe s:=by
 have r2:zG (vs++rT) (us++ds):=r.append hd;have hl:(us++ds).length=ps.length:=by rw [← r2.length]; exact F.len _ _ _ _ h
 refine wpAny_call (ij (F.run X.A X.stack s H ⟨us,[]⟩ (us++ds) (vs++rT) Q E hr I.env0 (hb s us I.kIn hl) r2 h) fun r s' hq=>?_);cases r with
 | error e=>exact hx jv σ H s e s' I hq
 | ok fl =>
  cases fl with
  | ret u=>exact I.after hq
  | next=>exact de hq
  | brk=>exact de hq
  | cont=>exact de hq
theorem zC (F:FnOk X.prog X.w X.K X.mg X.base CX k f fd ps sp) (hr:Room k X.A) (hg:Gl X x) (hm:X.mg x=some (.ref f)) (hk:eh X.K (.ref f)=true) (hb:Binds X.K fd ps ds) (hd:zG rT ds) (hx:zf4 CX X E)
  (ha:PA X (e :: es) t) (uL:(x == ("__debug__" : Str))=false:=by decide) (he:starEach (e :: es) X.env=(false,eval e X.env) :: starEach es X.env:=by rfl) (lC:(backTo pos (starEach es X.env)).any (·.1)=false:=by rfl) :
  PE X (.Call (.Name x p) (e :: es) [] pos) (zlV sp rT E t):=by
 intro jv s σ H Q I h;refine dv (zjC I hg hm ?_ uL);refine PySem.W.callWith_K (h₀:=X.base) I.ok.mod.kin hk (thn (ha pos jv s σ H _ I h) fun us s1 ⟨vs,H1,I1,r,q⟩=>⟨I1.kIn,?_⟩) he lC;exact zk1 F hr hb hd hx I1 r q
end
structure FnScope (N P:List Str) (sc:Scope):Prop where
 kind:sc.kind = .function
 co:sc.isCoroutine=false
 gen:sc.isGenerator=false
 nd:N.Nodup
 pre:N.take P.length=P
 par:∀ x∈P,sc.names.lookup x=some .local∨sc.names.lookup x=some .cell
 nofree:∀ y∈sc.names,y.2≠.free
theorem zei {kindOf:Str→Option NameKind} {x:Str}:∀ {binds:List (Str×Value)} {m:Str→Option Value},(∀ v,(x,v)∉binds)→bindL kindOf binds m x=m x
 | [],_,_=>rfl
 | (n,v) :: r,m,h=>by
  unfold bindL;rw [zei fun w hw=>h w (aj _ hw)];split
  ·have:x≠n:=by rintro rfl; exact h v aB
   simp [this]
  ·rfl
theorem zej {kindOf:Str→Option NameKind} {x:Str}:∀ {binds:List (Str×Value)} {m:Str→Option Value},(∀ v,(x,v)∉binds)→bindC kindOf binds m x=m x
 | [],_,_=>rfl
 | (n,v) :: r,m,h=>by
  unfold bindC;rw [zej fun w hw=>h w (aj _ hw)];split
  ·rfl
  ·have:x≠n:=by rintro rfl; exact h v aB
   simp [this]
theorem zek {kindOf:Str→Option NameKind} {x:Str} {v:Value}:∀ {P:List Str} {vs:List Value} {i:Nat} {m:Str→Option Value},P.Nodup→P[i]? = some x→vs[i]? = some v→kindOf x=some .local →
  bindL kindOf (P.zip vs) m x=some v
 | [],_,_,_,_,h,_,_=>by simp at h
 | _ :: _,[],_,_,_,_,h,_=>by simp at h
 | p :: P,w :: vs,0,m,nd,h1,h2,hk=>by
  simp at h1 h2; subst h1; subst h2;show bindL kindOf ((p,w) :: P.zip vs) m p=_;unfold bindL;rw [zei fun v hv=>(cp.mp nd).1 (gc hv).1,if_pos hk];simp
 | p :: P,w :: vs,i+1,m,nd,h1,h2,hk=>by
  show bindL kindOf ((p,w) :: P.zip vs) m x=_;unfold bindL;exact zek (i:=i) (cp.mp nd).2 (by simpa using h1) (by simpa using h2) hk
theorem zel {kindOf:Str→Option NameKind} {x:Str} {v:Value}:∀ {P:List Str} {vs:List Value} {i:Nat} {m:Str→Option Value},P.Nodup→P[i]? = some x→vs[i]? = some v→kindOf x≠some .local →
  bindC kindOf (P.zip vs) m x=some v
 | [],_,_,_,_,h,_,_=>by simp at h
 | _ :: _,[],_,_,_,_,h,_=>by simp at h
 | p :: P,w :: vs,0,m,nd,h1,h2,hk=>by
  simp at h1 h2; subst h1; subst h2;show bindC kindOf ((p,w) :: P.zip vs) m p=_;unfold bindC;rw [zej fun v hv=>(cp.mp nd).1 (gc hv).1,if_neg hk];simp
 | p :: P,w :: vs,i+1,m,nd,h1,h2,hk=>by
  show bindC kindOf ((p,w) :: P.zip vs) m x=_;unfold bindC;exact zel (i:=i) (cp.mp nd).2 (by simpa using h1) (by simpa using h2) hk
def start (N:List Str) (vs:List V):St:=vs.map some++aE (N.length - vs.length) none
def zf5 (CX:CXT) (P:Program) (w:World) (K:af) (mg:Str→Option Value) (base:Heap) (N:List Str) (qual:Str) (scope:Scope) (f:Addr) (cd:Value) (A:Around) (outer:List Env) (s:Shared) (H:Hp) (E:XK):Cx where
 prog:=P
 w:=w
 K:=K
 mg:=mg
 base:=base
 A:=A.deeper (envOfC qual scope s.heap.objs.size f cd)
 N:=N
 s₀:=s
 H₀:=H
 env:=envOfC qual scope s.heap.objs.size f cd
 outer:=outer
 stack:=envOfC qual scope s.heap.objs.size f cd :: outer
 ex:=[]
 calm:=true
 fn:=fun _=>true
 pn:=[]
 xe:=fun e s'=>wpAny (model P w) (A.deeper (envOfC qual scope s.heap.objs.size f cd)) (leaving (envOfC qual scope s.heap.objs.size f cd) e) (fun _ sI=>CX outer H s E e sI) (fun e' sI=>CX outer H s E e' sI) s'
theorem zfa {sc:Scope} {n:Nat} {x:Str} (h:sc.names.lookup x=some .cell):∃ c,(cellsFrom n sc.names []).lookup x=some c:=by
 have q:=gn sc.names n [] (.inl h);exact Option.isSome_iff_exists.mp q
theorem zhu {CX:CXT} {P:Program} {w:World} {K:af} {mg:Str→Option Value} {base:Heap} {N ps:List Str} {qual:Str} {scope:Scope} {f:Addr} {cd:Value} {A:Around} {outer:List Env} {s s1:Shared} {H:Hp} {E:XK} {us:List Value} {vs:List V}
  (S:FnScope N ps scope) (hd:A.handled=none) (e0:Env0 P w K mg base A outer s H) (hl:vs.length=ps.length) (r:zG vs us)
  (x:InCallC s s.heap.objs.size (bindL (envOfC qual scope s.heap.objs.size f cd).kindOf (ps.zip us) fun _=>none) (cellsFrom (s.heap.objs.size+1) scope.names []) (bindC (envOfC qual scope s.heap.objs.size f cd).kindOf (ps.zip us) fun _=>none) s1) :
  Inv (zf5 CX P w K mg base N qual scope f cd A outer s H E) [] (start N vs) H s1:=by
 have lC:ps.length≤N.length:=by have:=congrArg cF S.pre; rw [aF] at this; lia
 obtain⟨h1,tk,rfl,hk⟩:=x.done;have rV:∀ b:Addr,b∉(zf5 CX P w K mg base N qual scope f cd A outer s H E).ex:=fun b z=>absurd (show b∈([]:List Addr) from z) #[M]
 refine⟨⟨e0.mod,S.kind,rfl,rfl,ag _,fun y z c h1 h2=>?_,fun y hy=>?_,fun y c _ h=>?_,fun _=>hd,Around.frames_deeper e0.frames,.inr ⟨rfl,rfl⟩,fun b z=>absurd z (rV b),e0.bs,e0.bsz,fun b _ _=>rV b,fun b z=>absurd z (rV b),e0.funs,e0.frf⟩,
  rfl,e0.bare,Un.kept hk,⟨_,x.toInCall.ns,fun i y v h1 h2 h3=>?_⟩,fun y c h=>⟨_,x.cell y c h⟩,e0.hok.fresh (ag _),fun y c h=>?_,fun p hp=>absurd (show p∈([]:List (Addr×Obj)) from hp) #[M],e0.hok.kept hk,?_⟩
 ·exact name_of_addr x.apart (dm h1) (dm h2)
 ·have hy:scope.names.lookup y=some .cell∨scope.names.lookup y=some .free:=hy;rcases hy with hy | hy
  ·exact zfa hy
  ·exact absurd rfl (S.nofree _ (dm hy))
 ·exact eP (x.above y c (dm h))
 ·have hi:i < vs.length:=by
   unfold start at h2;by_cases hi:i < vs.length
   ·exact hi
   ·rw [dR (by simpa using hi)] at h2;rw [List.getElem?_replicate] at h2;split at h2 <;> cases h2
  have ha:vs[i]? = some v:=by
   unfold start at h2;rw [dX (by simpa using hi),am] at h2;cases e:vs[i]? with
   | none=>rw [e] at h2; cases h2
   | some a=>rw [e] at h2; cases h2; rfl
  obtain⟨u,hu,rv⟩:=r.get ha;have hp:ps[i]? = some y:=by
   rw [← S.pre,d6 #[O]]; exact h1
  have ndP:ps.Nodup:=by rw [← S.pre]; exact S.nd.sublist (bZ _ _)
  refine⟨u,rv,?_⟩;rcases S.par y (aJ hp) with k | k
  ·exact .inl ⟨k,zek ndP hp hu k⟩
  ·obtain⟨c,e⟩:=zfa (n:=s.heap.objs.size+1) k;refine .inr ⟨.inl k,c,e,?_⟩;have q:=x.cell y c e;rw [zel ndP hp hu (by show scope.names.lookup y≠_; rw [k]; decide)] at q;exact q
 ·exact e0.hok.fresh (eP (x.above y c (dm h)))
 ·unfold start;show _=N.length;rw [av,ab,eM];lia
theorem zkC {CX:CXT} {P:Program} {w:World} {K:af} {mg:Str→Option Value} {base:Heap} {k:Nat} {f:Addr} {name qual:Str} {params:Arguments} {body:List Stmt} {scope:Scope} {dV kV doc pm jW ct oc:Value} {an od:Option Addr}
  {qU:Array (Option Value)} {N ps:List Str} {sp:Sp} (lk:K.lookup f=some ⟨oc,od,.func (cH name qual params body scope dV kV doc pm an jW ct),qU⟩) (nA:ek K jW qual=true) (S:FnScope N ps scope)
  (len:∀ vs H Q E,sp vs H Q E→vs.length=ps.length)
  (nB:∀ (A:Around) (outer:List Env) (s:Shared) (H:Hp) (vs:List V) (Q:VK) (E:XK),Room k (A.deeper (envOfC qual scope s.heap.objs.size f jW))→sp vs H Q E →
   ∃ t,PSs (zf5 CX P w K mg base N qual scope f jW A outer s H E) body t∧t { nx:=fun _ H'=>Q .non H',rt:=Q } (start N vs) H) :
  FnOk P w K mg base CX (k+1) f (cH name qual params body scope dV kV doc pm an jW ct) ps sp:=by
 refine⟨len,fun A outer s H args us vs Q E hr e0 hb r pF=>?_⟩;have hl:=len _ _ _ _ pF;have KX:K.In s.heap:=e0.mod.kin.keeps fun b o e=>(e0.bs b o e).1
 have lim:s.heap.NoLimit:=e0.mod.nolimit.keeps fun b o e=>(e0.bs b o e).1
 have nC:∀ y∈ps.zip us,scope.names.lookup y.1=some .local∨(scope.names.lookup y.1=some .cell∧((cellsFrom (s.heap.objs.size+1) scope.names []).lookup y.1).isSome=true):=fun ⟨n,v⟩ hy=>by
  rcases S.par n (gc hy).1 with q | q
  ·exact .inl q
  ·exact .inr ⟨q,gn _ _ _ (.inl q)⟩
 refine codeAny_call_function hr.depth (KX _ _ lk) rfl S.co S.gen rfl (PySem.W.codeRec_of KX nA) (hb _ _ _ _ ?_);refine wpAny_newFunctionEnv_cells S.kind nC fun env he s1 x=>?_
 subst he;refine⟨lim.keeps x.toInCall.keep,codeAny_func ?_⟩;obtain⟨t,ht,hq⟩:=nB A outer s H vs Q E (hr.deeper _) pF;have I:Inv (zf5 CX P w K mg base N qual scope f jW A outer s H E) [] (start N vs) H s1:=zhu S hr.hd e0 hl r x;refine bH (ht [] s1 (start N vs) H _ I hq) (fun fl s' hs=>?_) fun e s' hs=>hs
 have fin:∀ {σ':St} {H':Hp} {v:V} {u:Value},Inv (zf5 CX P w K mg base N qual scope f jW A outer s H E) [] σ' H' s'→RelV v u→Q v H'→CE outer P w H s Q u s' :=
  fun {σ' H' v u} J rv q=>⟨v,H',J.os,J.bare,J.base,J.hok,rv,q⟩
 cases fl with
 | ret u =>
  obtain⟨v,σ',H',J,rv,q⟩:=hs;exact fin J rv q
 | next =>
  obtain⟨σ',H',J,q⟩:=hs;exact fin (v:=V.non) (u:=cU) J rfl q
 | brk =>
  obtain⟨_,_,_,q⟩:=hs;exact de q
 | cont =>
  obtain⟨_,_,_,q⟩:=hs;exact de q
section
variable {X:Cx} {x:Str} {p pos:Pos} {e:Expr} {es:List Expr} {t:TA} {id T:String} {r:List V→Hp→VK→Prop}
def tCB (r:List V→Hp→VK→Prop) (t:TA):TE:=fun σ H Q=>t σ H fun vs H1=>r vs H1 Q
theorem zF (hc:zbn X (.builtin id) r) (hg:Gl X x) (hm:X.mg x=none) (hv:bootBuiltins x=some (.builtin id)) (ha:PA X (e :: es) t) (hn:x≠"__name__":=by decide) (uL:(x == ("__debug__" : Str))=false:=by decide)
  (he:starEach (e :: es) X.env=(false,eval e X.env) :: starEach es X.env:=by rfl) (lC:(backTo pos (starEach es X.env)).any (·.1)=false:=by rfl):PE X (.Call (.Name x p) (e :: es) [] pos) (tCB r t):=by
 intro jv s σ H Q I h;refine dv (zbj I hg hm hv ?_ hn uL);exact PyProof.Rows.callWith_builtin1 (thn (ha pos jv s σ H _ I h) fun us s1 ⟨vs,H1,I1,r1,q1⟩=>hc jv s1 σ H1 vs us Q I1 r1 q1) he lC
theorem zaJ (hc:zbn X (.type T) r) (hg:Gl X x) (hm:X.mg x=none) (hv:bootBuiltins x=some (.type T)) (ha:PA X (e :: es) t) (hn:x≠"__name__":=by decide) (uL:(x == ("__debug__" : Str))=false:=by decide)
  (he:starEach (e :: es) X.env=(false,eval e X.env) :: starEach es X.env:=by rfl) (lC:(backTo pos (starEach es X.env)).any (·.1)=false:=by rfl):PE X (.Call (.Name x p) (e :: es) [] pos) (tCB r t):=by
 intro jv s σ H Q I h;refine dv (zbj I hg hm hv ?_ hn uL);exact bx (thn (ha pos jv s σ H _ I h) fun us s1 ⟨vs,H1,I1,r1,q1⟩=>hc jv s1 σ H1 vs us Q I1 r1 q1) he lC
end
end L2
namespace HT
open PySem PyProof.Rows
section
variable {prog:Program} {w:World} {A:Around} {E:Value→Shared→Prop} {s:Shared}
def sIx (n d:Nat):Option Int→Nat
 | none=>d
 | some v=>if v < 0 then (v+(n:Int)).toNat else min v.toNat n
theorem sIx_none (n d:Nat):sIx n d none=d:=rfl
theorem sIx_nat (n d k:Nat):sIx n d (some (k:Int))=min k n:=by
 show (if (k:Int) < 0 then ((k:Int)+(n:Int)).toNat else min (k:Int).toNat n)=min k n;rw [if_neg #[O],bE]
end
end HT
namespace L2
open PySem PySem.Spec PyProof.Rows
abbrev TO:=St→Hp→(Option Int→Hp→Prop)→Prop
def PO (X:Cx) (e:Option Expr) (t:TO):Prop :=
 ∀ (jv:List (Addr×Obj)) (s:Shared) (σ:St) (H:Hp) (Q:Option Int→Hp→Prop),Inv X jv σ H s→t σ H Q →
  wpAny (model X.prog X.w) X.A (evalPart e X.env) (fun u s'=>∃ o H',Inv X jv σ H' s'∧IsPart u o∧Q o H') X.xe s
def zjK:TO:=fun _ H Q=>Q none H
def zlW (t:TE):TO:=fun σ H Q=>t σ H fun x H1=>∃ i,x = .int i∧Q (some i) H1
theorem intsAre_of {ns:List Int}:∀ {us:List Value},zG (ns.map V.int) us→IntsAre us ns:=by
 induction ns with
 | nil=>intro us r; rw [fY] at r; cases r; exact .nil
 | cons n ns ih =>
  intro us r;rw [aS] at r;cases r with
  | cons r1 r2 =>
   obtain⟨t,e⟩:=r1;subst e;exact .cons n t (ih r2)
section
variable {X:Cx} {e:Expr} {te:TE} {lo hi:Option Expr} {tl th:TO} {pos p2:Pos}
theorem zbX:PO X none zjK:=by
 intro jv s σ H Q I h;rw [evalPart_none];exact ah ⟨none,H,I,.none,h⟩
theorem zbY (h:PE X e te):PO X (some e) (zlW te):=by
 intro jv s σ H Q I hw;rw [evalPart_some];refine thn (h jv s σ H _ I hw) fun u s1 ⟨x,H1,I1,r1,q1⟩=>?_
 obtain⟨i,rfl,q⟩:=q1;obtain⟨t,rfl⟩:=r1;exact⟨some i,H1,I1,.int i t,q⟩
def SlR (X:Cx) (r:V→Option Int→Option Int→Hp→VK→Prop):Prop :=
 ∀ (jv:List (Addr×Obj)) (s:Shared) (σ:St) (H:Hp) (x:V) (v vl vu:Value) (lo hi:Option Int) (sl:Addr) (Q:VK),Inv X jv σ H s→RelV x v→s.heap.IsSliceOf sl vl vu .none→IsPart vl lo→IsPart vu hi→r x lo hi H Q →
  ∃ T id,typeLookup (.type T) "__getitem__" = pure (some (.builtin id))∧s.TypeIs v T∧wpAny (model X.prog X.w) X.A (getItem v (.ref sl)) (EP X jv σ Q) X.xe s
def tSl (r:V→Option Int→Option Int→Hp→VK→Prop) (te:TE) (tl th:TO):TE:=fun σ H Q=>te σ H fun x H1=>tl σ H1 fun l H2=>th σ H2 fun u H3=>r x l u H3 Q
theorem zbo {r:V→Option Int→Option Int→Hp→VK→Prop} (hr:SlR X r) (he:PE X e te) (hl:PO X lo tl) (hu:PO X hi th):PE X (.Subscript e (.Slice lo hi none p2) pos) (tSl r te tl th):=by
 intro jv s σ H Q I h;refine iY (thn (he jv s σ H _ I h) fun v s1 ⟨x,H1,I1,r1,q1⟩=>?_);refine wpAny_Slice (thn (hl jv s1 σ H1 _ I1 q1) fun vl s2 ⟨l,H2,I2,pl,q2⟩=>thn (hu jv s2 σ H2 _ I2 q2) fun vu s3 ⟨u,H3,I3,pu,q3⟩=>?_);rw [evalPart_none];refine ah ?_;have I4:Inv X jv σ H3 { s3 with heap:=s3.heap.push { cls:=.type "slice",data:=.fields #[vl,vu,.none] } }:=I3.kept (t':=s3.toks) fun b ob q=>ae _ q
 obtain⟨T,id,hT,ht,hg⟩:=hr jv { s3 with heap:=s3.heap.push { cls:=.type "slice",data:=.fields #[vl,vu,.none] } } σ H3 x v vl vu l u s3.heap.objs.size Q I4 r1 (Heap.IsSliceOf.new ..) pl pu q3;show wpAny (model X.prog X.w) X.A (subscriptTail e (.Slice lo hi none p2) v (.ref s3.heap.objs.size)) (EP X jv σ Q) X.xe { s3 with heap:=s3.heap.push { cls:=.type "slice",data:=.fields #[vl,vu,.none] } };exact tail_any (ops:=[.ref s3.heap.objs.size,v]) ht hT hg (by with_unfolding_all rfl)
def zdl (xs:List V) (lo hi:Option Int):List V:=(xs.drop (HT.sIx xs.length 0 lo)).take (HT.sIx xs.length xs.length hi - HT.sIx xs.length 0 lo)
theorem zfb (xs:List V) (lo hi:Option Int):(zdl xs lo hi).length≤xs.length:=by
 unfold zdl;rw [aF,cv];lia
end
def ixN (n:Nat) (i:Int):Option Nat:=if 0≤i then (if i < n then some i.toNat else none) else if -(n:Int)≤i then some (i+n).toNat else none
def atI {α:Type} (xs:List α) (i:Int):Option α:=(ixN xs.length i).bind fun j=>xs[j]?
theorem zjL {n:Nat} {i:Int} {j:Nat} (h:ixN n i=some j):seqIndex? i n=some j∧j < n∧-(n:Int)≤i∧i < n:=by
 unfold ixN at h;by_cases h0:0≤i
 ·rw [if_pos h0] at h;by_cases h1:i < n
  ·rw [if_pos h1] at h;have e:i.toNat=j:=aN h;exact⟨by rw [gp h0 h1,e],#[O],#[O],h1⟩
  ·rw [if_neg h1] at h; cases h
 ·rw [if_neg h0] at h;by_cases h1:-(n:Int)≤i
  ·rw [if_pos h1] at h;have e:(i+n).toNat=j:=aN h;exact⟨by rw [seqIndex_neg #[O] h1,e],#[O],h1,#[O]⟩
  ·rw [if_neg h1] at h; cases h
theorem zgw {α:Type} {xs:List α} {i:Int} {v:α} (h:atI xs i=some v):∃ j,seqIndex? i xs.length=some j∧xs[j]? = some v∧j < xs.length∧-(xs.length:Int)≤i∧i < xs.length:=by
 unfold atI at h;cases e:ixN xs.length i with
 | none=>rw [e] at h; cases h
 | some j =>
  rw [e] at h;obtain⟨h1,h2,h3,h4⟩:=zjL e;exact⟨j,h1,h,h2,h3,h4⟩
theorem zbz {α:Type} {xs:List α} {j:Nat} {v:α} (h:xs[j]? = some v):atI xs (j:Int)=some v:=by
 have hj:j < xs.length:=(aG.mp h).1;have e:ixN xs.length (j:Int)=some j:=by
  unfold ixN;rw [if_pos #[O],if_pos #[O]]; simp
 unfold atI; rw [e]; exact h
def zjM (b:Expr):Prop:=∀ o i,subscripted b false o i=operate [o,i] (getItem o i)
def IxR (X:Cx) (r:R2):Prop :=
 ∀ (value slice:Expr) (jv:List (Addr×Obj)) (s:Shared) (σ:St) (H:Hp) (x y:V) (v u:Value) (Q:VK),Inv X jv σ H s→RelV x v→RelV y u→r x y H Q →
  subscripted slice false v u=operate [v,u] (getItem v u)→wpAny (model X.prog X.w) X.A (subscriptTail value slice v u) (EP X jv σ Q) X.xe s
def MtR (X:Cx) (id:String) (r:V→List V→Hp→VK→Prop):Prop :=
 ∀ (jv:List (Addr×Obj)) (s:Shared) (σ:St) (H:Hp) (x:V) (xs:List V) (v:Value) (us:List Value) (Q:VK),Inv X jv σ H s→RelV x v→zG xs us→r x xs H Q →
  wpAny (model X.prog X.w) X.A (call (.builtin id) (v :: us)) (EP X jv σ Q) X.xe s
section
variable {X:Cx} {a b:Expr} {ta tb:TE} {pos:Pos}
theorem zP {r:R2} (hr:IxR X r) (ha:PE X a ta) (hb:PE X b tb) (hs:zjM b):PE X (.Subscript a b pos) (tOp r ta tb):=by
 intro jv s σ H Q I h;exact iY (zlQ ha hb I h fun v u s2 x y H2 I2 rx ry q=>hr a b jv s2 σ H2 x y v u Q I2 rx ry q (hs _ _))
def zlX (K:af):R2:=fun x y H Q=>∃ p xs i v,x = .ref p∧y = .int i∧jy K H p xs∧atI xs i=some v∧Q v H
def zmt (K:af):R2:=fun x y H Q=>∃ p xs i v,x = .ref p∧y = .int i∧jI K H p xs∧atI xs i=some v∧Q v H
theorem zB:IxR X (zlX X.K):=by
 intro value slice jv s σ H x y v u Q I rx ry h hs;obtain⟨p,xs,i,z,rfl,rfl,hq,he,q⟩:=h;cases rx;obtain⟨t,rfl⟩:=ry;obtain⟨jx,r,pl,hz⟩:=I.list hq;obtain⟨j,h1,h2,h3,h4,h5⟩:=zgw he;obtain⟨w,ew,nj⟩:=r.get h2;have hl:=r.length;have hn:=zeD;have fin:EP X jv σ Q w s:=⟨z,H,I,nj,q⟩;by_cases h0:0≤i
 ·have hj:i.toNat=j:=by
   rw [gp h0 h5] at h1;exact aN h1
  exact item_listR pl.isList h0 #[O] (by rw [hj]; simpa using ew) fin hs
 ·have hj:(i+(jx.toArray.size:Int)).toNat=j:=by
   rw [seqIndex_neg #[O] h4] at h1;rw [ao,← hl];exact aN h1
  exact gq (x:=w) pl.isList.typeIs slot_list_getitem.lookup
   (wpAny_getItem_list_neg (Q:=fun r s'=>r=w∧EP X jv σ Q r s') pl.isList #[O] (by rw [ao] <;> lia) #[O] (by rw [hj]; simpa using ew) ⟨rfl,fin⟩) hs
theorem zcH:IxR X (zmt X.K):=by
 intro value slice jv s σ H x y v u Q I rx ry h hs;obtain⟨p,xs,i,z,rfl,rfl,hq,he,q⟩:=h;cases rx;obtain⟨t,rfl⟩:=ry;obtain⟨jx,r,pl,hz⟩:=I.tuple hq;obtain⟨j,h1,h2,h3,h4,h5⟩:=zgw he;obtain⟨w,ew,nj⟩:=r.get h2;have hl:=r.length;have hn:=zeD;have fin:EP X jv σ Q w s:=⟨z,H,I,nj,q⟩;exact gq (x:=w) pl.typeIs slot_tuple_getitem.lookup
  (getItem_tuple (j:=j) (Q:=fun r s'=>r=w∧EP X jv σ Q r s') pl #[O] #[O] (by rw [ao,← hl]; exact h1) (by simpa using ew) ⟨rfl,fin⟩) hs
theorem zeE (lo hi:Option Int) (n:Nat):(sliceBounds lo hi none n).1=((HT.sIx n 0 lo:Nat):Int)∧(sliceBounds lo hi none n).2.1=((HT.sIx n n hi:Nat):Int)∧(sliceBounds lo hi none n).2.2=1:=by
 refine⟨?_,?_,rfl⟩
 ·cases lo with
  | none=>simp [sliceBounds,HT.sIx]
  | some i =>
   simp only [sliceBounds,HT.sIx,iK,show (1:Int) > 0 by decide,if_true];by_cases h:i < 0
   ·simp only [h,if_true] <;> lia
   ·simp only [h,if_false] <;> lia
 ·cases hi with
  | none=>simp [sliceBounds,HT.sIx]
  | some i =>
   simp only [sliceBounds,HT.sIx,iK,show (1:Int) > 0 by decide,if_true];by_cases h:i < 0
   ·simp only [h,if_true] <;> lia
   ·simp only [h,if_false] <;> lia
theorem zdZ (jx:List Value) (lo hi:Option Int):slicePick jx.toArray lo hi none=((jx.drop (HT.sIx jx.length 0 lo)).take (HT.sIx jx.length jx.length hi - HT.sIx jx.length 0 lo)).toArray:=by
 obtain⟨h1,h2,h3⟩:=zeE lo hi jx.toArray.size;unfold slicePick;rw [h1,h2,h3];simp only [sliceRange_one,pick_run,ao] <;> rfl
def zlY (K:af):V→Option Int→Option Int→Hp→VK→Prop:=fun x lo hi H Q=>∃ a xs,x = .ref a∧jy K H a xs∧∀ p,H p=none→Q (.ref p) (jA H p (.lst (zdl xs lo hi)))
theorem zbZ:SlR X (zlY X.K):=by
 intro jv s σ H x v vl vu lo hi sl Q I rx hs pl pu h;obtain⟨a,xs,rfl,hx,q⟩:=h;cases rx;obtain⟨jx,r,ht,hz⟩:=I.list hx;have jE:=r.length;refine⟨"list",_,slot_list_getitem.lookup,ht.isList.typeIs,?_⟩;refine wpAny_getItem_list_slice ht.isList hs pl pu .none #[M] ?_ (by rw [ao] <;> lia);rw [zdZ,← jE];refine⟨.ref s.heap.objs.size,_,I.laid (t':=s.toks) (o:=.lst (zdl xs lo hi)) (fun b ob q=>ae _ q) (ag _) ?_,rfl,q _ (I.hok.fresh (ag _))⟩;exact⟨aZ (zfb xs lo hi) hz,_,0,(r.drop (HT.sIx xs.length 0 lo)).take (HT.sIx xs.length xs.length hi - HT.sIx xs.length 0 lo),aq _ rfl⟩
def zbQ:V→Bool
 | .non=>true
 | .bl _=>true
 | .int _=>true
 | .str _=>true
 | _=>false
def eqV:V→V→Bool
 | .non,.non=>true
 | .bl a,.bl b=>a == b
 | .bl a,.int b=>(if a then 1 else 0) == b
 | .int a,.bl b=>a == (if b then 1 else 0)
 | .int a,.int b=>a == b
 | .str a,.str b=>a == b
 | _,_=>false
theorem zin {A:Around} {s:Shared} {y x:V} {u v:Value} (ry:RelV y u) (rx:RelV x v) (fy:zbQ y=true) (fx:zbQ x=true):iZ A s u v (eqV y x):=by
 cases y with
 | non =>
  cases ry;cases x with
  | non=>cases rx; exact i0 _
  | bl b=>cases rx; exact SeqAt.EqAt.none_bool b
  | int b=>obtain⟨t,rfl⟩:=rx; exact SeqAt.EqAt.none_int b t
  | str b=>obtain⟨t,rfl⟩:=rx; exact SeqAt.EqAt.none_str b t
  | _=>exact absurd (show false=true from fx) aQ
 | bl a =>
  cases ry;cases x with
  | non=>cases rx; exact SeqAt.EqAt.bool_none a
  | bl b=>cases rx; exact SeqAt.EqAt.bool_bool a b
  | int b=>obtain⟨t,rfl⟩:=rx; exact SeqAt.EqAt.bool_int a b t
  | str b=>obtain⟨t,rfl⟩:=rx; exact SeqAt.EqAt.bool_str a b t
  | _=>exact absurd (show false=true from fx) aQ
 | int a =>
  obtain⟨t',rfl⟩:=ry;cases x with
  | non=>cases rx; exact SeqAt.EqAt.int_none a t'
  | bl b=>cases rx; exact SeqAt.EqAt.int_bool a t' b
  | int b=>obtain⟨t,rfl⟩:=rx; exact SeqAt.EqAt.int_int a t' b t
  | str b=>obtain⟨t,rfl⟩:=rx; exact ic a t' b t
  | _=>exact absurd (show false=true from fx) aQ
 | str a =>
  obtain⟨t',rfl⟩:=ry;cases x with
  | non=>cases rx; exact SeqAt.EqAt.str_none a t'
  | bl b=>cases rx; exact SeqAt.EqAt.str_bool a t' b
  | int b=>obtain⟨t,rfl⟩:=rx; exact ie a t' b t
  | str b=>obtain⟨t,rfl⟩:=rx; exact SeqAt.EqAt.str_str a t' b t
  | _=>exact absurd (show false=true from fx) aQ
 | _=>exact absurd (show false=true from fy) aQ
def eqU (x:V) (u:Value):Bool:=match u with
 | .none=>eqV .non x
 | .bool b=>eqV (.bl b) x
 | .int i _=>eqV (.int i) x
 | .str z _=>eqV (.str z) x
 | _=>false
theorem zio {x y:V} {u:Value} (r:RelV y u) (f:zbQ y=true):eqU x u=eqV y x:=by
 cases y with
 | non=>cases r; rfl
 | bl b=>cases r; rfl
 | int i=>obtain⟨t,rfl⟩:=r; rfl
 | str z=>obtain⟨t,rfl⟩:=r; rfl
 | _=>exact absurd (show false=true from f) aQ
theorem zeF {x:V}:∀ {xs:List V} {us:List Value},zG xs us→xs.all zbQ=true→us.any (eqU x)=xs.any fun y=>eqV y x
 | _,_,.nil,_=>rfl
 | y :: xs,u :: us,.cons r t,f=>by
  rw [jk,cw] at f;rw [dS,dS,zio r f.1,zeF t f.2]
theorem zdm {A:Around} {s:Shared} {x:V} {v:Value} (rx:RelV x v) (fx:zbQ x=true):∀ {xs:List V} {us:List Value},zG xs us→xs.all zbQ=true→∀ u∈us,iZ A s u v (eqU x u)
 | _,_,.nil,_=>fun u hu=>by cases hu
 | y :: xs,u :: us,.cons r t,f=>fun u' hu=>by
  rw [jk,cw] at f;rcases aA.mp hu with rfl | hu
  ·rw [zio r f.1]; exact zin r rx f.1 fx
  ·exact zdm rx fx t f.2 u' hu
def inV (x:V) (xs:List V):Bool:=xs.any fun y=>eqV y x
def rIn (K:af) (neg:Bool):R2:=fun x y H Q=>∃ p xs,y = .ref p∧(jy K H p xs∨jI K H p xs)∧zbQ x=true∧xs.all zbQ=true∧Q (.bl (if neg then !inV x xs else inV x xs)) H
theorem zhv:OpR X (compareOp .In) (rIn X.K false):=by
 intro jv s σ H x y v u Q I rx ry h;obtain⟨p,xs,rfl,hq,fx,fs,q⟩:=h;cases ry;rcases hq with hq | hq
 ·obtain⟨jx,r,pl,hz⟩:=I.list hq;refine SeqAt.in_listAt (eqU x) pl.isList (fun w hw=>zdm rx fx r fs w (by simpa using hw)) ⟨.bl _,H,I,rfl,?_⟩;rw [show jx.toArray.any (eqU x)=jx.any (eqU x) by simp,zeF r fs];exact q
 ·obtain⟨jx,r,pl,hz⟩:=I.tuple hq;refine SeqAt.in_tupleAt (eqU x) pl (fun w hw=>zdm rx fx r fs w (by simpa using hw)) ⟨.bl _,H,I,rfl,?_⟩;rw [show jx.toArray.any (eqU x)=jx.any (eqU x) by simp,zeF r fs];exact q
theorem zw:zbn X (.builtin "len") (fun xs H Q=>∃ p ys,xs = [.ref p]∧(jy X.K H p ys∨jI X.K H p ys)∧Q (.int ys.length) H):=by
 intro jv s σ H xs us Q I r h;obtain⟨p,ys,rfl,hq,q⟩:=h;obtain⟨u,rfl,rx⟩:=vals1 r;cases rx;have hn:=zeD;rcases hq with hq | hq
 ·obtain⟨jx,r',pl,hz⟩:=I.list hq;have jE:=r'.length;exact gZ pl.isList (by simp only [ao] <;> lia) ⟨.int ys.length,H,I.tok _,⟨s.toks+1,by rw [ao,jE]⟩,q⟩
 ·obtain⟨jx,r',pl,hz⟩:=I.tuple hq;have jE:=r'.length;exact len_tuple pl (by simp only [ao] <;> lia) ⟨.int ys.length,H,I.tok _,⟨s.toks+1,by rw [ao,jE]⟩,q⟩
theorem zeG:zbn X (.type "list") (fun xs H Q=>∃ p ys,xs = [.ref p]∧(jy X.K H p ys∨jI X.K H p ys)∧∀ l,H l=none→Q (.ref l) (jA H l (.lst ys))):=by
 intro jv s σ H xs us Q I r h;obtain⟨p,ys,rfl,hq,q⟩:=h;obtain⟨u,rfl,rx⟩:=vals1 r;cases rx;have fin:∀ (jx:List Value),zG ys jx→ys.length≤sizeLine→∀ (h':Heap) (c':Nat),(∀ b o',s.heap.get? b=some o'→h'.get? b=some o') →
   h'.get? s.heap.objs.size=some { cls:=.type "list",dict:=none,data:=.seq jx.toArray c',slots:=#[] }→EP X jv σ Q (.ref s.heap.objs.size) { s with heap:=h' }:=fun jx r' hz h' c' kp e =>
  ⟨.ref s.heap.objs.size,_,I.laid (t':=s.toks) kp (ag _) (show zai X.prog X.w _ h' _ (.lst ys) from ⟨hz,jx,c',r',e⟩),rfl,q _ (I.hok.fresh (ag _))⟩
 rcases hq with hq | hq
 ·obtain⟨jx,r',pl,hz⟩:=I.list hq;have jE:=r'.length;obtain⟨o,ho,hc,n,hd⟩:=pl.isList;exact call_list_seq p (.inl rfl) ho hc hd (fun h' c' kp e=>fin jx r' hz h' c' kp e) (by simp only [ao] <;> lia)
 ·obtain⟨jx,r',pl,hz⟩:=I.tuple hq;have jE:=r'.length;obtain⟨o,ho,hc,n,hd⟩:=pl;exact call_list_seq p (.inr rfl) ho hc hd (fun h' c' kp e=>fin jx r' hz h' c' kp e) (by simp only [ao] <;> lia)
theorem zax:zbn X (.type "tuple") (fun xs H Q=>∃ p ys,xs = [.ref p]∧((jy X.K H p ys∧∀ l,H l=none→Q (.ref l) (jA H l (.tup ys)))∨(jI X.K H p ys∧Q (.ref p) H))):=by
 intro jv s σ H xs us Q I r h;obtain⟨p,ys,rfl,h⟩:=h;obtain⟨u,rfl,rx⟩:=vals1 r;cases rx;rcases h with ⟨hq,q⟩ | ⟨hq,q⟩
 ·obtain⟨jx,r',pl,hz⟩:=I.list hq;have jE:=r'.length;refine call_tuple_list pl.isList (fun h' kp=>?_) (by simp only [ao] <;> lia);have I1:Inv X jv σ H { s with heap:=h' }:=I.kept (t':=s.toks) kp;have I2:Inv X jv σ (jA H h'.objs.size (.tup ys)) { s with heap:=h'.push { cls:=.type "tuple",data:=.seq jx.toArray } } :=
   I1.laid (t':=s.toks) (fun b o e=>ae _ e) (ag _) (show zai X.prog X.w _ _ _ (.tup ys) from ⟨hz,jx,r',IsTup.new _ _⟩)
  exact⟨.ref h'.objs.size,_,I2,rfl,q _ (I1.hok.fresh (ag _))⟩
 ·obtain⟨jx,r',pl,hz⟩:=I.tuple hq;exact call_tuple_same pl ⟨.ref p,H,I,rfl,q⟩
def tyV (K:af) (T:String) (x:V) (H:Hp):Prop:=match x with
 | .str _=>T = "str"
 | .int _=>T = "int"
 | .ref p=>(T = "list"∧∃ xs,jy K H p xs)∨(T = "tuple"∧∃ o,K.lookup p=some o∧o.cls = .type "tuple"∧o.dict=none) ∨
   (T = "dict"∧((∃ jw,H p=some (.dK jw))∨∃ jw,H p=some (.dT jw)))∨(T = "set"∧∃ S n,H p=some (.set S n))
 | _=>False
theorem zk2 {jv:List (Addr×Obj)} {σ:St} {H:Hp} {s:Shared} {T:String} {x:V} {v:Value} (I:Inv X jv σ H s) (r:RelV x v) (ty:tyV X.K T x H) :
  s.TypeIs v T∧∀ a,v = .ref a→∃ ob,s.heap.get? a=some ob∧ob.dict=none:=by
 cases x with
 | str z =>
  obtain⟨t,rfl⟩:=r;cases (show T = "str" from ty);exact⟨typeIs_str s z t,fun _ e=>nomatch e⟩
 | int i =>
  obtain⟨t,rfl⟩:=r;cases (show T = "int" from ty);exact⟨i4 s i t,fun _ e=>nomatch e⟩
 | ref p =>
  cases r;rcases ty with ⟨rfl,xs,hq⟩ | ⟨rfl,o,hk,hc,hd⟩ | ⟨rfl,hk⟩ | ⟨rfl,S,n,hk⟩
  ·obtain⟨jx,_,pl,_⟩:=I.list hq;refine⟨pl.isList.typeIs,fun a e=>?_⟩;cases e;obtain⟨o,n,e,c,hd,_⟩:=pl;exact⟨o,e,hd⟩
  ·refine⟨⟨o,I.kIn p o hk,hc⟩,fun a e=>?_⟩;cases e;exact⟨o,I.kIn _ o hk,hd⟩
  ·have z:∃ o,s.heap.get? p=some o∧o.ExactDict:=by
    rcases hk with ⟨jw,hk⟩ | ⟨jw,hk⟩
    ·obtain⟨_,_,_,_,o,_,_,e,ex,_⟩:=I.hok p _ hk;exact⟨o,e,ex⟩
    ·obtain⟨_,_,_,_,o,_,_,e,ex,_⟩:=I.hok p _ hk;exact⟨o,e,ex⟩
   obtain⟨o,e,ex⟩:=z;refine⟨⟨o,e,ex.1⟩,fun a e2=>?_⟩;cases e2;exact⟨o,e,ex.2.1⟩
  ·obtain⟨o,_,_,_,e,ex,_⟩:=I.hok p _ hk;refine⟨⟨o,e,ex.1⟩,fun a e2=>?_⟩;cases e2;exact⟨o,e,ex.2.1⟩
 | _=>exact de ty
def tBM (K:af) (T:String) (r:V→List V→Hp→VK→Prop) (to:TE) (t:TA):TE:=fun σ H Q=>to σ H fun x H1=>tyV K T x H1∧t σ H1 fun xs H2=>r x xs H2 Q
variable {o e:Expr} {es:List Expr} {to:TE} {t:TA} {name:Str} {apos j5:Pos} {T id:String} {r:V→List V→Hp→VK→Prop}
theorem zgx (pa:PlainAttrs T) (slot:Slot T name id) (xF:typeOf (.builtin id)=pure (.type "method_descriptor")) (hm:MtR X id r) (ho:PE X o to) (ha:PA X (e :: es) t)
  (pQ:attributeBase o name X.env (eval o X.env)=eval o X.env:=by rfl)
  (sJ:((backTo j5 (starEach (e :: es) X.env)).all (fun x=>!x.1) && (backToKw j5 (keywordEach [] X.env)).all (fun x=>x.1.isSome)
   && decide ((e :: es).length+([]:List Keyword).length+(if ([]:List Keyword).isEmpty then 0 else 1) < 30))=true:=by rfl)
  (pR:(apos.endLine == j5.line)=true:=by rfl) (hs:starEach (e :: es) X.env=(false,eval e X.env) :: starEach es X.env:=by rfl) (nZ:(backTo j5 (starEach es X.env)).any (·.1)=false:=by rfl) :
  PE X (.Call (.Attribute o name apos) (e :: es) [] j5) (tBM X.K T r to t):=by
 intro jv s σ H Q I h;refine wpAny_Call_method_late pQ sJ pR rfl (thn (ho jv s σ H _ I h) fun v s1 ⟨x,H1,I1,r1,ty,q1⟩=>?_);obtain⟨h1,h2⟩:=zk2 I1 r1 ty;refine⟨T,id,pa,slot,xF,h1,h2,?_⟩;have hA:=ha j5 jv s1 σ H1 _ I1 q1;rw [hs] at hA ⊢;refine gr (by show (false || (backTo j5 (starEach es X.env)).any (·.1))=false; rw [nZ] <;> rfl) (gJ ?_);exact thn hA fun us s2 ⟨vs,H2,I2,r2,q2⟩=>hm jv s2 σ H2 x vs v us Q I2 r1 r2 q2
end
def MtM (X:Cx) (id:String) (r:V→List V→Hp→VK→Prop):Prop :=
 ∀ (jv:List (Addr×Obj)) (s:Shared) (σ:St) (H:Hp) (x:V) (xs:List V) (v:Value) (us:List Value) (Q:VK),Inv X jv σ H s→RelV x v→zG xs us→r x xs H Q →
  wpAny (model X.prog X.w) X.A (call (.builtin id) (v :: us)) (EP X jv σ Q) X.xe s
theorem zG.one:∀ {x:V} {us:List Value},zG [x] us→∃ u,us = [u]∧RelV x u
 | _,_,.cons r .nil=>⟨_,rfl,r⟩
theorem zG.eraseIdx:∀ {xs:List V} {us:List Value} (i:Nat),zG xs us→zG (xs.eraseIdx i) (us.eraseIdx i)
 | _,_,_,.nil=>.nil
 | _,_,0,.cons _ t=>t
 | _,_,i+1,.cons r t=>.cons r (zG.eraseIdx i t)
theorem zG.rep {xs:List V} {us:List Value} (h:zG xs us):∀ k:Nat,zG (aE k xs).flatten (aE k us).flatten
 | 0=>.nil
 | k+1=>by
  rw [bN,bN,c9,c9];exact zG.append h (zG.rep h k)
theorem zem {α:Type}:∀ (l:List α) (i:Nat),(l.eraseIdx i).length≤l.length
 | [],_=>ag _
 | _ :: _,0=>fu _
 | _ :: r,i+1=>iL (zem r i)
theorem foldl_rep (jx:List Value):∀ (k:Nat) (acc:List Value),
  i5 (fun x1 x2=>x1++x2) acc.toArray (aE k jx.toArray)=(acc++(aE k jx).flatten).toArray
 | 0,acc=>by simp
 | k+1,acc=>by
  have e:acc.toArray++jx.toArray=(acc++jx).toArray:=by simp
  have e2:(acc++jx)++(aE k jx).flatten=acc++(aE (k+1) jx).flatten:=by
   rw [bN,c9,bf]
  rw [← e2,← foldl_rep jx k (acc++jx),← e,bN,dY]
section
variable {X:Cx} {jv:List (Addr×Obj)} {σ:St} {H:Hp} {s:Shared} {l b:Addr} {xs ys zs:List V}
theorem Inv.lset {jx its':List Value} {n:Nat} {f:Array Value→Array Value} {t':Nat} (I:Inv X jv σ H s) (hH:H l=some (.lst xs))
  (e:s.heap.get? l=some { cls:=.type "list",data:=.seq jx.toArray n }) (hf:f jx.toArray=its'.toArray) (hv:zG ys its') (hz:ys.length≤sizeLine) :
  Inv X jv σ (jA H l (.lst ys)) { s with heap:=s.heap.update l (cj f),toks:=t' }:=by
 have q:=iM e f;rw [hf] at q;refine I.write (x:=l) (e:=l) (by rw [hH]; exact trivial) (.inl rfl) (fun b' u hb hu=>(gt s.heap (cj f) (dh hb)).trans hu) ⟨_,q⟩ ?_;exact⟨hz,its',_,hv,q⟩
theorem Inv.lnew {jx:List Value} {t':Nat} (I:Inv X jv σ H s) (hv:zG ys jx) (hz:ys.length≤sizeLine) :
  Inv X jv σ (jA H s.heap.objs.size (.lst ys)) { s with heap:=s.heap.push { cls:=.type "list",data:=.seq jx.toArray },toks:=t' } :=
 I.laid (fun _ _ q=>ae _ q) (ag _) ⟨hz,jx,0,hv,aq _ rfl⟩
theorem Inv.fresh (I:Inv X jv σ H s):H s.heap.objs.size=none:=I.hok.fresh (ag _)
theorem Inv.lstM (I:Inv X jv σ H s) (hH:H l=some (.lst xs)):xs.length≤sizeLine∧∃ (jx:List Value) (n:Nat),zG xs jx∧xs.length=jx.length∧s.heap.get? l=some { cls:=.type "list",data:=.seq jx.toArray n }:=by
 obtain⟨z,jx,n,r,e⟩:=I.hok l _ hH;exact⟨z,jx,n,r,r.length,e⟩
theorem ziq {n:Nat} (h:n≤sizeLine):d7 n=false:=by
 unfold d7;exact decide_eq_false #[O]
end
section
variable {X:Cx}
def zjN:V→List V→Hp→VK→Prop:=fun x vs H Q=>∃ l xs y,x = .ref l∧vs = [y]∧H l=some (.lst xs)∧xs.length < sizeLine∧Q .non (jA H l (.lst (xs++[y])))
theorem zcI:MtM X "list.append" zjN:=by
 intro jv s σ H x vs v us Q I rx rv h;obtain⟨l,xs,y,rfl,rfl,hH,hz,q⟩:=h;cases rx;obtain⟨u,rfl,ru⟩:=rv.one;obtain⟨z,jx,n,r,hl,e⟩:=I.lstM hH;refine fT ik ⟨_,e,rfl⟩ g8 (gK _ _) (iB l jx.toArray n u (by rw [ao]; lia)) ⟨e,?_⟩;refine⟨.non,_,I.lset (its':=jx++[u]) hH e #[M] (r.append (.cons ru .nil)) ?_,rfl,q⟩;rw [av,cB];lia
def zk3:V→List V→Hp→VK→Prop:=fun x vs H Q=>∃ l xs i k y,x = .ref l∧vs = [.int i]∧H l=some (.lst xs)∧-(2 ^ 63)≤i∧i < 2 ^ 63∧seqIndex? i xs.length=some k∧xs[k]? = some y∧Q y (jA H l (.lst (xs.eraseIdx k)))
theorem zir:MtM X "list.pop" zk3:=by
 intro jv s σ H x vs v us Q I rx rv h;obtain⟨l,xs,i,k,y,rfl,rfl,hH,h1,h2,hk,hy,q⟩:=h;cases rx;obtain⟨u,rfl,ru⟩:=rv.one;obtain⟨t,rfl⟩:=ru;obtain⟨z,jx,n,r,hl,e⟩:=I.lstM hH;obtain⟨w,hw,nj⟩:=r.get hy;refine fT F.slot_list_pop ⟨_,e,rfl⟩ F.entry_list_pop (F.args_list_pop_2 _ _)
  (MeetsSeq.list_pop_at l jx.toArray n i t k w (fitsIndex_both h1 h2) (by rw [ao,← hl]; exact hk) (by rw [← aY]; exact hw) (by rw [ao]; lia)) ⟨e,?_⟩
 refine⟨y,_,I.lset (its':=jx.eraseIdx k) hH e ?_ (r.eraseIdx k) ?_,nj,q⟩
 ·show jx.toArray.eraseIdxIfInBounds k=(jx.eraseIdx k).toArray;rw [List.eraseIdxIfInBounds_toArray]
 ·have:=zem xs k;lia
def zmu:R2:=fun x y H Q=>∃ l b xs zs,x = .ref l∧y = .ref b∧H l=some (.lst xs)∧H b=some (.lst zs)∧xs.length+zs.length≤sizeLine∧∀ p,H p=none→Q (.ref p) (jA H p (.lst (xs++zs)))
theorem zdn:OpR X (binaryOp .Add) zmu:=by
 intro jv s σ H x y v u Q I rx ry h;obtain⟨l,b,xs,zs,rfl,rfl,hH,hB,hz,q⟩:=h;cases rx;cases ry;obtain⟨z,jx,n,r,hl,e⟩:=I.lstM hH;obtain⟨z2,kg,n2,r2,mV,e2⟩:=I.lstM hB;refine PySem.P.add_list e e2 ?_ (by rw [ao,ao]; lia);have ea:jx.toArray++kg.toArray=(jx++kg).toArray:=by simp
 rw [ea];exact⟨.ref _,_,I.lnew (t':=s.toks) (r.append r2) (by rw [av]; lia),rfl,q _ I.fresh⟩
def zmv:R2:=fun x y H Q=>∃ l k xs,x = .ref l∧y = .int k∧H l=some (.lst xs)∧-(2 ^ 63)≤k∧k < 2 ^ 63∧xs.length*k.toNat≤sizeLine ∧
 ∀ p,H p=none→Q (.ref p) (jA H p (.lst (aE k.toNat xs).flatten))
theorem len_rep {α:Type} (xs:List α) (k:Nat):(aE k xs).flatten.length=k*xs.length:=by
 induction k with
 | zero=>simp
 | succ k ih=>rw [bN,c9,av,ih,Nat.succ_mul,Nat.add_comm]
theorem zf6:OpR X (binaryOp .Mult) zmv:=by
 intro jv s σ H x y v u Q I rx ry h;obtain⟨l,k,xs,rfl,rfl,hH,h1,h2,hz,q⟩:=h;cases rx;obtain⟨t,rfl⟩:=ry;obtain⟨z,jx,n,r,hl,e⟩:=I.lstM hH;have jE:jx.toArray.size*k.toNat≤sizeLine:=by rw [ao,← hl]; exact hz
 have xG:¬ jx.toArray.size*k.toNat > (2 ^ 63 - 1) / 8:=by
  have:(sizeLine:Nat)≤(2 ^ 63 - 1) / 8:=by decide
  lia
 have sL:¬ (!Builtin.List.listFitsIndex k)=true:=by
  rw [fitsIndex_both h1 h2];exact aQ
 have uM:¬ d7 (jx.toArray.size*k.toNat)=true:=by
  rw [ziq jE];exact aQ
 have oV:i5 (fun x1 x2=>x1++x2) #[] (aE (if jx.toArray.isEmpty=true then 0 else k.toNat) jx.toArray)=(aE k.toNat jx).flatten.toArray:=by
  have f0:∀ m:Nat,i5 (fun x1 x2=>x1++x2) #[] (aE m jx.toArray)=(aE m jx).flatten.toArray:=fun m=>by
   have:=foldl_rep jx m [];rw [i6] at this;exact this
  rw [f0];cases jx with
  | nil=>simp
  | cons a r'=>rw [if_neg #[M]]
 refine wpAny_binaryOp_repeat_ref (T:="list") (U:="int") #[D] ⟨_,e,rfl⟩ (fun s'=>i4 s' k t) noFill_list_mul F.fills_int_mul F.slot_int_rmul repeat_list F.slot_int_index.lookup
  (fT F.slot_int_rmul (i4 s k t) F.entry_int_rmul (F.args_int_rmul_2 _ _) (int___rmul___int_list k t l jx.toArray n)
   ⟨e,rfl,⟨_,e,rfl⟩,fT F.slot_list_mul ⟨_,e,rfl⟩ F.entry_list_mul (F.args_list_mul_2 _ _) (AutoListH.list___mul___list_int_3 l jx.toArray n k t sL xG uM) ⟨e,?_⟩⟩)
 rw [oV];exact⟨.ref _,_,I.lnew (t':=s.toks) (r.rep k.toNat) (by rw [len_rep,Nat.mul_comm]; exact hz),rfl,q _ I.fresh⟩
end
end L2
namespace Att
open PySem PySem.W PySem.Calls PyProof.Rows
theorem zcY {P:Params} {h:Heap}:∀ (ns:List Int) (vs:List Value),WellAll P h vs (ns.map WData.int)→IntsAre vs ns:=by
 intro ns;induction ns with
 | nil =>
  intro vs w;rw [fY] at w;cases w;exact .nil
 | cons n ns ih =>
  intro vs w;rw [aS] at w;cases w with
  | cons a b =>
   cases a;exact .cons _ _ (ih _ b)
theorem zhw {l:OpenLaw} {n:Nat} (hn:l.most=some n) {P:Params} {h:Heap} {args:List WData} {vals:List Value}
  (qV:l.row.toRowW.claim.pre args=true) (xH:WellAll P h vals args) :
  ∃ a vs ns,vals = [aO a]∧args = [WData.list (ns.map WData.int)]∧h.get? a=some { cls:=.type "list",data:=.seq vs.toArray }∧IntsAre vs ns∧ns.length≤n:=by
 have hsh:WShape.hasAll [] args [.list .int]=true:=(pre_splitW qV).1;have hc:l.pre.holds [] { args:=args }=true:=(pre_splitW qV).2;obtain⟨d,r,rfl,h1,h2⟩:=hasAllW_cons hsh;obtain rfl:=hasAllW_nil h2;obtain⟨xs,rfl,h3⟩:=hasW_list h1;obtain⟨ns,rfl⟩:=items_int h3;have jE:ns.length≤n:=by
  unfold OpenLaw.pre at hc;have h4:(WTm.not (.lt (.lit (.int (n:Int))) (.len (.arg 0)))).holds [] { args:=[.list (ns.map .int)] }=true:=by
   have h4:=(holds_andW hc).1;rw [hn] at h4;exact h4
  have h5:=condW_of h4 (w_not (w_lt w_lit (w_len_list (w_arg rfl))));rw [ab] at h5;refine Nat.le_of_not_lt fun q=>?_
  have q':(n:Int) < ((ns.length:Nat):Int):=by lia
  first
   | (rw [decide_eq_true q'] at h5; exact absurd h5 #[D])
   | (simp at h5; lia)
 cases xH with
 | cons w1 w2 =>
  cases w2;cases w1 with
  | list ho mv=>exact⟨_,_,ns,rfl,rfl,ho,zcY ns _ mv,jE⟩
theorem zhx (l:OpenLaw) (args:List WData):l.row.toRowW.claim.post args (.bool true) args=true :=
 postW_of (r:=l.row.toRowW) (X:=(true == true))
  (show WShape.has [] (.bool true) .bool=true by first | rfl | decide | simp [WShape.has,WShape.arms,WShape.armsAll])
  (show (WTm.eq .res (.lit (.bool true))).value [] { args:=args,res:=some (.bool true),after:=args }=some (.bool (true == true)) from w_eq_bool (w_res rfl) w_lit) rfl
theorem attach_call {l:OpenLaw} {n:Nat} {q:Program} {loose:List Str} {XP:(Str→Option Value)→Heap→Prop} {YP:World→Heap→Prop} {d:DefRec}
  (hn:l.most=some n) (uN:d.params.defaults = [])
  (call:∀ (w:World) (s₀ s₁:Shared) (mg mb:Str→Option Value) (fa:Addr) (o:Obj) (pm cd doc:Value) (a:Addr) (vs:List Value) (ns:List Int),
   Ground q loose [] XP w s₀ mg mb s₁.heap→YP w s₁.heap →
   s₁.heap.get? fa=some o→o.data = .func (docDef d.name d.params d.body d.scope pm cd doc)→s₁.heap.CodeRec cd d.name→mg d.name=some (.ref fa) →
   s₁.heap.get? a=some { cls:=.type "list",data:=.seq vs.toArray }→IntsAre vs ns→ns.length≤n→s₁.gens = #[] →
   codeAny (model l.prog w) callerA (.call (.ref fa) ⟨[.ref a],[]⟩) (fun r s'=>r = .ok (.ret (.bool true))∧OldK s₁.heap s'.heap∧s'.os=s₁.os∧AllBare s'.gens) s₁) :
  WalkO q loose XP YP l.row.toRowW d [] (fun f vs=>i7 f vs):=by
 intro w s₀ s₁ mg mb G Y fa o pm cd doc dV kV ho hd nA hD n4 hg args vals as qV hlay hrd xH lD;obtain rfl:dV = .none:=Dflts.none hD uN;obtain rfl:kV = .none:=Dflts.noKw hD;obtain⟨a,vs,ns,rfl,rfl,sM,hints,jE⟩:=zhw hn qV xH;refine enter_call (ij (call w s₀ s₁ mg mb fa o pm cd doc a vs ns G Y ho (fd_plain hd) nA n4 sM hints jE hg) fun r s' hq=>?_);obtain⟨rfl,h2,h3,h4⟩:=hq;exact⟨.inl ⟨.bool true,.bool true,[],rfl,fun _=>rfl,.bool true,zhx l _,fun _=>⟨fK,fun _ hm=>(nomatch hm)⟩⟩,h2,h3,h4⟩
end Att
namespace L2
open PySem PySem.Spec PyProof.Rows
theorem zen:∀ {vs:List Value} {ns:List Int},IntsAre vs ns→zG (ns.map V.int) vs
 | _,_,.nil=>.nil
 | _,_,.cons n t h=>.cons ⟨t,rfl⟩ (zen h)
def zbe (s:Stmt):Arguments:=match s with
 | .FunctionDef _ a _ _ _ _ _ _ _ _=>a
 | _=>{ posonlyargs:=[],args:=[],vararg:=none,kwonlyargs:=[],kw_defaults:=[],kwarg:=none,defaults:=[] }
def zaZ (s:Stmt):List Stmt:=match s with
 | .FunctionDef _ _ b _ _ _ _ _ _ _=>b
 | _=>[]
def zh (s:Stmt):Scope:=match s with
 | .FunctionDef _ _ _ _ _ _ sc _ _ _=>sc
 | _=>{ kind:=.function,names:=[],isGenerator:=false,isCoroutine:=false }
abbrev CX0:CXT:=fun _ _ _ _ _ _=>False
abbrev E0:XK:=fun _ _ _=>False
theorem zaa {X:Cx}:zf4 CX0 X E0:=fun _ _ _ _ _ _ _ h=>h.elim
structure Fun (K:af) (x qual:Str) (st:Stmt) (f:Addr) (fd:FuncData):Prop where
 ex:∃ (oc:Value) (od:Option Addr) (kV doc pm:Value) (an:Option Addr) (jW ct:Value) (qU:Array (Option Value)),
  fd=cH x qual (zbe st) (zaZ st) (zh st) .none kV doc pm an jW ct∧K.lookup f=some ⟨oc,od,.func fd,qU⟩∧ek K jW qual=true
 kp:eh K (.ref f)=true
section
variable {P:Program} {w:World} {K:af} {mg:Str→Option Value} {base:Heap}
theorem Fun.ok {x qual:Str} {st:Stmt} {f:Addr} {fd:FuncData} {N ps:List Str} {k:Nat} {sp:Sp} (F:Fun K x qual st f fd) (S:FnScope N ps (zh st)) (len:∀ vs H Q E,sp vs H Q E→vs.length=ps.length)
  (nB:∀ (jW:Value) (A:Around) (outer:List Env) (s:Shared) (H:Hp) (vs:List V) (Q:VK) (E:XK),Room k (A.deeper (envOfC qual (zh st) s.heap.objs.size f jW))→sp vs H Q E →
   ∃ t,PSs (zf5 CX0 P w K mg base N qual (zh st) f jW A outer s H E).nox (zaZ st) t∧t { nx:=fun _ H'=>Q .non H',rt:=Q } (start N vs) H):FnOk P w K mg base CX0 (k+1) f fd ps sp:=by
 obtain⟨oc,od,kV,doc,pm,an,jW,ct,qU,rfl,lk,nA⟩:=F.ex;refine zkC lk nA S len fun A outer s H vs Q E hr pF=>?_
 obtain⟨t,h,q⟩:=nB jW A outer s H vs Q E hr pF;exact⟨t,h.nox,q⟩
theorem Fun.binds {x qual:Str} {st:Stmt} {f:Addr} {fd:FuncData} {ps:List Str} (F:Fun K x qual st f fd)
  (h:∀ (kV doc pm:Value) (an:Option Addr) (jW ct:Value) (us:List Value),us.length=ps.length→bindArgs (cH x qual (zbe st) (zaZ st) (zh st) .none kV doc pm an jW ct) ⟨us,[]⟩=pure (ps.zip us)):Binds K fd ps []:=by
 obtain⟨oc,od,kV,doc,pm,an,jW,ct,qU,rfl,lk,nA⟩:=F.ex;exact .all (h kV doc pm an jW ct)
theorem zis {x qual:Str} {st:Stmt} {f:Addr} {oc:Value} {od an:Option Addr} {qU:Array (Option Value)} {kV doc pm jW ct:Value} (l:K.lookup f=some ⟨oc,od,.func (cH x qual (zbe st) (zaZ st) (zh st) .none kV doc pm an jW ct),qU⟩)
  (c:ek K jW qual=true) (k:eh K (.ref f)=true):Fun K x qual st f (cH x qual (zbe st) (zaZ st) (zh st) .none kV doc pm an jW ct):=⟨⟨oc,od,kV,doc,pm,an,jW,ct,qU,rfl,l,c⟩,k⟩
end
theorem zit {A B:Prop} (h:B):if false=true then A else B:=by
 rw [if_neg aQ];exact h
theorem zmw {A B:Prop} (h:A):if true=true then A else B:=by
 rw [if_pos rfl];exact h
theorem zbd {c A B:Prop} [Decidable c] (h1:c→A) (h2:¬ c→B):if c then A else B:=by
 by_cases h:c
 ·rw [if_pos h];exact h1 h
 ·rw [if_neg h];exact h2 h
def zy (H H':Hp):Prop:=∀ b o,H b=some o→H' b=some o
theorem zy.trans {H H1 H2:Hp} (a:zy H H1) (b:zy H1 H2):zy H H2:=fun c o h=>b c o (a c o h)
theorem zy.free {H H':Hp} (e:zy H H') {l:Addr} (h:H' l=jr):H l=jr:=by
 cases q:H l with
 | none=>rfl
 | some o =>
  rw [e l o q] at h;cases h
theorem zy.seq {K:af} {H H':Hp} {a:Addr} {xs:List V} (e:zy H H') (h:jy K H a xs):jy K H' a xs:=by
 rcases h with (h | ⟨o,h⟩) | h
 ·exact .inl (.inl (e _ _ h))
 ·exact .inl (.inr ⟨o,e _ _ h⟩)
 ·exact .inr h
end L2
section
namespace L2
open PySem
abbrev Ends.n (D:Ends) (N:St→Hp→Prop):Ends:={ D with nx:=N }
section
variable {r1 r2 r3 r4 r5 r6 r7 r8 r9 r10 r11 r12 r13 r14 r15:TS} {D:Ends} {σ:St} {H:Hp}
theorem zjO (h:let N2:=r2 D; r1 (D.n N2) σ H):(zaL r1 r2) D σ H:=h
theorem ziu (h:let N3:=r3 D; let N2:=r2 (D.n N3); r1 (D.n N2) σ H):(zaL r1 (zaL r2 r3)) D σ H:=h
theorem zk4 (h:let N4:=r4 D; let N3:=r3 (D.n N4); let N2:=r2 (D.n N3); r1 (D.n N2) σ H):(zaL r1 (zaL r2 (zaL r3 r4))) D σ H:=h
theorem zlZ (h:let N5:=r5 D; let N4:=r4 (D.n N5); let N3:=r3 (D.n N4); let N2:=r2 (D.n N3); r1 (D.n N2) σ H):(zaL r1 (zaL r2 (zaL r3 (zaL r4 r5)))) D σ H:=h
theorem zmx (h:let N6:=r6 D; let N5:=r5 (D.n N6); let N4:=r4 (D.n N5); let N3:=r3 (D.n N4); let N2:=r2 (D.n N3); r1 (D.n N2) σ H):(zaL r1 (zaL r2 (zaL r3 (zaL r4 (zaL r5 r6))))) D σ H:=h
theorem zl0 (h:let N7:=r7 D; let N6:=r6 (D.n N7); let N5:=r5 (D.n N6); let N4:=r4 (D.n N5); let N3:=r3 (D.n N4); let N2:=r2 (D.n N3); r1 (D.n N2) σ H):(zaL r1 (zaL r2 (zaL r3 (zaL r4 (zaL r5 (zaL r6 r7)))))) D σ H:=h
theorem zl1 (h:let N8:=r8 D; let N7:=r7 (D.n N8); let N6:=r6 (D.n N7); let N5:=r5 (D.n N6); let N4:=r4 (D.n N5); let N3:=r3 (D.n N4); let N2:=r2 (D.n N3); r1 (D.n N2) σ H):(zaL r1 (zaL r2 (zaL r3 (zaL r4 (zaL r5 (zaL r6 (zaL r7 r8))))))) D σ H:=h
theorem zbp {X0:Cx} {B:List PySem.Stmt} (h:let X:=X0; ∃ t,PSs X B t∧t D σ H):∃ t,PSs X0 B t∧t D σ H:=h
end
end L2
end
section
namespace L2
open PySem PySem.Spec PyProof.Rows
def zV (cs:List (Str×Addr)):List (Str×NameKind)→List (Str×Addr)→List (Str×Addr)
 | [],acc=>acc
 | (n,k) :: r,acc=>if k == .free then zV cs r ((n,(cs.lookup n).getD 0) :: acc) else zV cs r acc
theorem zbk {scope:Scope} {env:Env} (h:∀ y∈scope.names,y.2 = .free→∃ c,env.cells.lookup y.1=some c) :
  closureFor scope env=pure (zV env.cells scope.names []):=by
 have go:∀ (names:List (Str×NameKind)) (acc:List (Str×Addr)),(∀ y∈names,y.2 = .free→∃ c,env.cells.lookup y.1=some c) →
   (forIn names acc (fun (x:Str×NameKind) (cs:List (Str×Addr))=>(if (x.2 == bF)=true then do
    let a ← cellOf env x.1
    pure (b8 ((x.1,a) :: cs)) else pure (b8 cs):Sem (ForInStep (List (Str×Addr))))))=(pure (zV env.cells names acc):Sem _):=by
  intro names;induction names with
  | nil=>intro acc _; rfl
  | cons y r ih =>
   intro acc hy;obtain⟨n,k⟩:=y;rw [dw];cases hk:(k == bF) with
   | true =>
    obtain⟨c,hc⟩:=hy (n,k) aB (by simpa using hk);have ky:cellOf env n=pure c:=by
     unfold cellOf;have jB:env.cells.lookup n=some c:=hc;rw [jB]
    simp only [hk,if_true,ky];have e:=ih ((n,c) :: acc) fun y sN=>hy y (aj _ sN)
    have jB:env.cells.lookup n=some c:=hc;simp only [zV,hk,if_true,jB,iN];exact e
   | false =>
    simp only [hk,aX,if_false];have e:=ih acc fun y sN=>hy y (aj _ sN)
    simp only [zV,hk,aX,if_false];exact e
 have e:=go scope.names [] h;unfold closureFor;show (forIn scope.names [] _ >>= fun cs=>pure cs)=_
 first
  | (rw [e]; rfl)
  | (simp only []; rw [e]; rfl)
  | (have e':=e; simp at e' ⊢; exact e')
theorem za0 {cs:List (Str×Addr)}:∀ (names:List (Str×NameKind)) (acc:List (Str×Addr)),
  (∀ y∈names,y.2 = .free→∃ c,cs.lookup y.1=some c)→(∀ x c,acc.lookup x=some c→cs.lookup x=some c) →
  ∀ x c,(zV cs names acc).lookup x=some c→cs.lookup x=some c
 | [],acc,_,h,x,c,e=>h x c e
 | (n,k) :: r,acc,hy,h,x,c,e=>by
  have hr:∀ y∈r,y.2 = .free→∃ c,cs.lookup y.1=some c:=fun y sN=>hy y (aj _ sN)
  unfold zV at e;cases hk:(k == bF) with
  | false =>
   rw [hk] at e;exact za0 r acc hr h x c e
  | true =>
   rw [hk] at e;obtain⟨d,hd⟩:=hy (n,k) aB (by simpa using hk);have qS:cs.lookup n=some d:=hd;refine za0 r _ hr (fun x c e'=>?_) x c e;rw [qS,iN,bg] at e';cases hx:(x == n) with
   | true =>
    rw [hx] at e';have:x=n:=by simpa using hx
    subst this;rw [qS];exact e'
   | false =>
    rw [hx] at e';exact h x c e'
theorem zbb {cs:List (Str×Addr)}:∀ (names:List (Str×NameKind)) (acc:List (Str×Addr)) (x:Str),
  ((∃ c,acc.lookup x=some c)∨(x,bF)∈names)→∃ c,(zV cs names acc).lookup x=some c
 | [],acc,x,h=>by
  rcases h with h | h
  ·exact h
  ·cases h
 | (n,k) :: r,acc,x,h=>by
  unfold zV;cases hk:(k == bF) with
  | false =>
   refine zbb r acc x ?_;rcases h with h | h
   ·exact .inl h
   ·rcases aA.mp h with h | h
    ·cases h;exact absurd hk #[D]
    ·exact .inr h
  | true =>
   refine zbb r _ x ?_;cases hx:(x == n) with
   | true=>exact .inl ⟨_,by rw [bg,hx]⟩
   | false =>
    rcases h with ⟨c,h⟩ | h
    ·exact .inl ⟨c,by rw [bg,hx]; exact h⟩
    ·rcases aA.mp h with h | h
     ·cases h;simp at hx
     ·exact .inr h
theorem lookup_mem {α:Type}:∀ {l:List (Str×α)} {x:Str} {k:α},l.lookup x=some k→(x,k)∈l
 | [],x,k,h=>by simp at h
 | (n,j) :: r,x,k,h=>by
  rw [bg] at h;cases hx:(x == n) with
  | true =>
   rw [hx] at h;have:x=n:=by simpa using hx
   subst this;cases h;exact aB
  | false =>
   rw [hx] at h;exact aj _ (lookup_mem h)
theorem za5 {env:Env}:∀ {names:List (Str×NameKind)} {x:Str},names.lookup x=some .free →
  (names.map fun (n,k)=>if (k == bF && env.scope.kind == .function && env.kindOf n == some .cell) then (n,cq) else (n,k)).lookup x=some .cell ∨
  (names.map fun (n,k)=>if (k == bF && env.scope.kind == .function && env.kindOf n == some .cell) then (n,cq) else (n,k)).lookup x=some .free
 | [],_,h=>by simp at h
 | (n,k) :: r,x,h=>by
  have ih:=@za5 env r x;simp only [aS];cases hx:x == n with
  | true =>
   simp only [bg,hx] at h; cases h;by_cases hc:(bF == bF && env.scope.kind == .function && env.kindOf n == some .cell)=true
   ·rw [if_pos hc]; left; simp only [bg,hx]
   ·rw [if_neg hc]; right; simp only [bg,hx]
  | false =>
   simp only [bg,hx] at h; rcases il ((k == bF && env.scope.kind == .function && env.kindOf n == some .cell)=true) with hc | hc
   ·exact (by rw [if_pos hc]; simp only [bg,hx]; exact ih h)
   ·exact (by rw [if_neg hc]; simp only [bg,hx]; exact ih h)
theorem zcp {env:Env}:∀ {names:List (Str×NameKind)} {x:Str},
  ((names.map fun (n,k)=>if (k == bF && env.scope.kind == .function && env.kindOf n == some .cell) then (n,cq) else (n,k)).lookup x=some .cell ∨
  (names.map fun (n,k)=>if (k == bF && env.scope.kind == .function && env.kindOf n == some .cell) then (n,cq) else (n,k)).lookup x=some .free) →
  names.lookup x=some .free∨names.lookup x=some .cell
 | [],_,h=>by simp at h
 | (n,k) :: r,x,h=>by
  have ih:=@zcp env r x;simp only [aS] at h;cases hx:x == n with
  | true =>
   rcases il ((k == bF && env.scope.kind == .function && env.kindOf n == some .cell)=true) with hc | hc
   ·have hk:k = .free:=by
     simp only [cw] at hc; simpa using hc.1.1
    subst hk;exact .inl (by simp only [bg,hx])
   ·rw [if_neg hc] at h;simp only [bg,hx] at h ⊢;rcases h with h | h
    ·exact .inr h
    ·exact .inl h
  | false =>
   rcases il ((k == bF && env.scope.kind == .function && env.kindOf n == some .cell)=true) with hc | hc
   ·rw [if_pos hc] at h;simp only [bg,hx] at h ⊢;exact ih h
   ·rw [if_neg hc] at h;simp only [bg,hx] at h ⊢;exact ih h
theorem zeH:∀ (names:List (Str×NameKind)) (n:Nat) (acc:List (Str×Addr)) (x:Str),(x,cq)∉names→(cellsFrom n names acc).lookup x=acc.lookup x
 | [],_,_,_,_=>rfl
 | (y,k) :: r,n,acc,x,h=>by
  have hr:(x,cq)∉r:=fun z=>h (aj _ z)
  unfold cellsFrom;split
  ·rename_i hk
   have qI:k = .cell:=by simpa using hk
   rw [zeH r _ _ x hr,bg];cases hx:(x == y) with
   | true =>
    have:x=y:=by simpa using hx
    subst this;subst qI;exact absurd aB h
   | false=>rfl
  ·exact zeH r _ _ x hr
theorem zeI:∀ (names:List (Str×NameKind)) (n:Nat) (acc:List (Str×Addr)) (x:Str),(x,cq)∈names→∃ c,(cellsFrom n names acc).lookup x=some c∧n≤c
 | (y,k) :: r,n,acc,x,h=>by
  by_cases hr:(x,cq)∈r
  ·unfold cellsFrom;split
   ·obtain⟨c,e,l⟩:=zeI r (n+1) ((y,n) :: acc) x hr;exact⟨c,e,#[O]⟩
   ·exact zeI r n acc x hr
  ·rcases aA.mp h with e | e
   ·cases e;unfold cellsFrom;rw [if_pos #[D],zeH r _ _ _ hr,bg,beq_self_eq_true];exact⟨n,rfl,ag _⟩
   ·exact absurd e hr
structure CO (h:Heap) (lo:Nat) (old cs:List (Str×Addr)):Prop where
 each:∀ x c,cs.lookup x=some c→(h.IsCell c none∧lo≤c)∨(old.lookup x=some c∧c < lo)
 inj:∀ x y c,cs.lookup x=some c→cs.lookup y=some c→x=y
theorem ziv {lo:Nat} {old:List (Str×Addr)}:∀ (names:List (Str×NameKind)) (h:Heap) (acc:List (Str×Addr)),CO h lo old acc→lo≤h.objs.size→CO (pushCells h names) lo old (cellsFrom h.objs.size names acc)
 | [],_,_,a,_=>a
 | (y,k) :: r,h,acc,a,hl=>by
  unfold pushCells cellsFrom;split
  ·have lt:∀ x c,acc.lookup x=some c→c < h.objs.size:=fun x c e=>(a.each x c e).elim (fun z=>z.1.lt) fun z=>aP z.2 hl
   have key:∀ x c,List.lookup x ((y,h.objs.size) :: acc)=some c→(x=y∧c=h.objs.size)∨acc.lookup x=some c:=fun x c e=>by
    rw [bg] at e;cases hx:(x == y) with
    | true =>
     rw [hx] at e;exact .inl ⟨by simpa using hx,(aN e).symm⟩
    | false =>
     rw [hx] at e;exact .inr e
   have:=ziv (lo:=lo) (old:=old) r (h.push { cls:=.type "cell",data:=.cell none }) ((y,h.objs.size) :: acc) ⟨fun x c e=>?_,fun x z c e1 e2=>?_⟩ (by rw [bw]; lia)
   ·rw [bw] at this;exact this
   ·rcases key x c e with ⟨_,rfl⟩ | e
    ·exact .inl ⟨⟨_,aq _ rfl,rfl⟩,hl⟩
    ·rcases a.each x c e with z | z
     ·exact .inl ⟨z.1.keeps fun b o e=>ae _ e,z.2⟩
     ·exact .inr z
   ·rcases key x c e1 with ⟨p1,q1⟩ | f1 <;> rcases key z c e2 with ⟨p2,q2⟩ | f2
    ·exact p1.trans p2.symm
    ·exact absurd (lt _ _ f2) (by rw [q1]; exact bV _)
    ·exact absurd (lt _ _ f1) (by rw [q2]; exact bV _)
    ·exact a.inj x z c f1 f2
  ·exact ziv r h acc a hl
theorem zhy {M:Model} {A:Around} {E:Value→Shared→Prop} {s:Shared} {scope:Scope} {globals:Addr} {closure:List (Str×Addr)} {qual:Str} {env:Env} {Q:Env→Shared→Prop}
  (h:Q (newEnv scope s.heap.objs.size globals (cellsFrom (s.heap.objs.size+1) scope.names closure) qual none .none (some env) builtinsNs) { s with heap:=pushCells (s.heap.push { cls:=.type "dict",data:=.dict #[] }) scope.names }) :
  wpAny M A (newFunctionEnv scope globals closure [] qual none .none (some env)) Q E s:=by
 (simp only [newFunctionEnv,im,if_true])
 (refine aa (wpAny_alloc ?_))
 (refine aa (wpAny_layCells _ (fun name kind cells=>by cases hkc:kind == cq <;> simp [hkc]) _ _ _ _ ?_))
 rw [show ({ s with heap:=s.heap.push { cls:=.type "dict",data:=.dict #[] } }:Shared).heap.objs.size=s.heap.objs.size+1 from bw ..]
 (exact aa (ah (ah h)))
abbrev zH (X:Cx) (N':List Str) (scope:Scope) (s₃:Shared) (H₃:Hp) (ex:List Addr) (jv:List (Addr×Obj)):Cx :=
 { X with N:=N',s₀:=s₃,H₀:=H₃,env:=compEnvC scope (cellsFrom (s₃.heap.objs.size+1) scope.names (zV X.env.cells scope.names [])) s₃.heap.objs.size X.env,outer:=X.stack,stack:=X.stack,ex:=ex,fn:=fun x=>scope.names.lookup x == some .cell,pn:=X.pn++jv,xe:=fun _ _=>False }
def zf7 (ifs:List Expr) (env:Env):Sem Bool :=
 forIn ifs true fun c r=>if r=true then do let ok ← isTrue c env (eval c env); pure (b8 ok) else pure (b8 r)
def zcZ (X:Cx) (ifs:List Expr) (t:TT):Prop :=
 ∀ (jv:List (Addr×Obj)) (s:Shared) (σ:St) (H:Hp) (Q:Bool→Hp→Prop),Inv X jv σ H s→t σ H Q→wpAny (model X.prog X.w) X.A (zf7 ifs X.env) (TP X jv σ Q) X.xe s
def zk5:TT:=fun _ H Q=>Q true H
theorem zap {X:Cx}:zcZ X [] zk5:=fun _ _ _ H _ I h=>ah ⟨H,I,h⟩
theorem zbq {X:Cx} {c:Expr} {t:TT} (h:PT X c t):zcZ X [c] t:=by
 intro jv s σ H Q I hw;unfold zf7;rw [dw];simp only [if_true];exact aa (aa (thn (h jv s σ H _ I hw) fun b s1 q=>ah (ah q)))
structure CompSc (X:Cx) (N':List Str) (ix:List (Option Nat)) (scope:Scope):Prop where
 kind:scope.kind = .function
 cells:∀ y∈scope.names,y.2 = .cell→scope.names.lookup y.1=some .cell
 names:∀ y∈scope.names,y.2 = .local→scope.names.lookup y.1=some .local
 free:∀ y∈scope.names,y.2 = .free→X.env.kindOf y.1=some .cell∨X.env.kindOf y.1=some .free
 len:N'.length=ix.length
 cap:∀ j i:Nat,ix[j]? = some (some i)→∃ x,N'[j]? = some x∧X.N[i]? = some x∧scope.names.lookup x=some .free
def zgy (ue:Scope) (oN N':List Str) (ix:List (Option Nat)) (scope:Scope):Bool :=
 (scope.kind == .function) && (scope.names.all fun y=>y.2 != .cell || scope.names.lookup y.1 == some .cell) && (scope.names.all fun y=>y.2 != .local || scope.names.lookup y.1 == some .local) &&
 (scope.names.all fun y=>y.2 != .free || (ue.names.lookup y.1 == some .cell || ue.names.lookup y.1 == some .free)) && (N'.length == ix.length) &&
 ((br ix.length).all fun j=>match ix[j]? with
  | some (some i)=>(match N'[j]? with
   | some x=>oN[i]? == some x && scope.names.lookup x == some .free
   | none=>false)
  | _=>true)
theorem CompSc.of {X:Cx} {N':List Str} {ix:List (Option Nat)} {scope:Scope} (ue:Scope) (oN:List Str) (h1:X.env.scope=ue) (h2:X.N=oN) (hb:zgy ue oN N' ix scope=true):CompSc X N' ix scope:=by
 unfold zgy at hb;simp only [cw,dk] at hb;obtain⟨⟨⟨⟨⟨a,b⟩,c⟩,d⟩,e⟩,f⟩:=hb;refine⟨?_,fun y hy hl=>?_,fun y hy hl=>?_,fun y hy hf=>?_,by simpa using e,fun j i hj=>?_⟩
 ·revert a
  cases scope.kind <;> first | (intro _; rfl) | (intro h; exact absurd h #[D])
 ·have:=b y hy;rw [hl] at this;simpa using this
 ·have:=c y hy;rw [hl] at this;simpa using this
 ·have:=d y hy;rw [hf] at this;have e1:X.env.kindOf y.1=ue.names.lookup y.1:=by rw [← h1]; rfl
  rw [e1];simpa using this
 ·have jN:j < ix.length:=(aG.mp hj).1;have:=f j (bW.mpr jN);rw [hj] at this;cases hN:N'[j]? with
  | none =>
   rw [hN] at this;simp at this
  | some x =>
   rw [hN] at this;refine⟨x,rfl,?_⟩;rw [h2];simpa using this
def zcq (ix:List (Option Nat)) (σ:St):St:=ix.map fun o=>match o with
 | none=>none
 | some i=>(σ[i]?).join
theorem Inv.track {X:Cx} {jv:List (Addr×Obj)} {σ:St} {H:Hp} {s:Shared} {D:Addr} {o:HO} (I:Inv X jv σ H s) (hn:H D=none) (hs:X.s₀.heap.objs.size≤D) (hL:X.env.locals≠D)
  (hC:∀ x c,X.env.cells.lookup x=some c→c≠D) (hp:∀ p∈X.pn++jv,p.1≠D) (ok:zai X.prog X.w (jA H D o) s.heap D o):Inv X jv σ (jA H D o) s:=by
 have ne:∀ b u,H b=some u→b≠D:=fun b u e=>zu e hn
 refine⟨I.ok,I.os,I.bare,⟨I.base.keep,I.base.slot,fun b u e n hx=>?_,I.base.there,fun b xs e=>?_,fun b u xs e=>?_,fun b ps e=>?_⟩,I.loc,I.cell,?_,fun x c e=>?_,fun p nD=>?_,fun b u e=>?_,I.len⟩
 ·have:b≠D:=aT (aP (au e) hs);rw [zm this];exact I.base.free b u e n hx
 ·have:=I.base.tups b xs e;rw [zm (ne b _ this)];exact this
 ·have:=I.base.frzs b u xs e;rw [zm (ne b _ this)];exact this
 ·obtain⟨more,q⟩:=I.base.tbls b ps e;exact⟨more,by rw [zm (ne b _ q)]; exact q⟩
 ·rw [zm hL];exact I.free
 ·rw [zm (hC x c e)];exact I.freeC x c e
 ·obtain⟨a1,a2,a3⟩:=I.pin p nD;exact⟨a1,by rw [zm (hp p nD)]; exact a2,a3⟩
 ·by_cases hb:b=D
  ·subst hb;rw [zb] at e;cases e;exact ok
  ·rw [zm hb] at e;exact (I.hok b u e).stay (fun c v _ q=>q) (fun c q=>by rw [zm (ne c _ q)]; exact q) fun c xs q=>by rw [zm (ne c _ q)]; exact q
def cGo (g:TG) (ts:TT) (te:TE) (σ0:St) (J:It) (Q:VK) (H1:Hp):Prop :=
 ∃ W:Nat→Nat→List V→Hp→Prop,(∃ m,W 0 m [] H1)∧∀ i m ys H,W i m ys H →
  (J.stop i H∧∀ D,H D=none→Q (.ref D) (jA H D (.lst ys))) ∨
  (J.go i H∧∃ N:List V→Hp→Prop,(∀ nE H',N nE H'→∃ m',m' < m∧W (i+1) m' nE H')∧∀ x H',J.yld i H x H'→g x σ0 H' fun σ2 H2=>ts σ2 H2 fun b H3 =>
   if b=true then te σ2 H3 fun y H4=>ys.length < sizeLine∧N (ys++[y]) H4 else N ys H3)
def zkD (ix:List (Option Nat)) (wi:TI) (g:TG) (ts:TT) (te:TE):TE:=fun σ H Q=>wi σ H fun J H1=>cGo g ts te (zcq ix σ) J Q H1
theorem zeJ {J:It} {n:Nat} {g:TG} {ts:TT} {te:TE} {σ0:St} {Q:VK} {H:Hp} (Pv:Nat→List V→Hp→Prop) (h0:Pv 0 [] H) (qW:∀ i ys H,i < n→Pv i ys H→J.go i H) (ml:∀ ys H,Pv n ys H→J.stop n H)
  (hs:∀ i x ys H H',i < n→Pv i ys H→J.yld i H x H'→g x σ0 H' fun σ2 H2=>ts σ2 H2 fun b H3=>if b=true then te σ2 H3 fun y H4=>ys.length < sizeLine∧Pv (i+1) (ys++[y]) H4 else Pv (i+1) ys H3)
  (hd:∀ ys H D,Pv n ys H→H D=none→Q (.ref D) (jA H D (.lst ys))):cGo g ts te σ0 J Q H:=by
 refine⟨fun i m ys H=>m=n - i∧i≤n∧Pv i ys H,⟨n,#[M],a8 _,h0⟩,?_⟩;rintro i m ys H ⟨rfl,hi,p⟩;by_cases jN:i < n
 ·exact .inr ⟨qW i ys H jN p,Pv (i+1),fun nE H' p'=>⟨n - (i+1),#[O],rfl,jN,p'⟩,fun x H' y=>hs i x ys H H' jN p y⟩
 ·have e:i=n:=by lia
  subst e;exact .inl ⟨ml ys H p,fun D hD=>hd ys H D p hD⟩
theorem zk6 {J:It} {n:Nat} {g:TG} {tb:TS} {D:Ends} {σ:St} {H:Hp} (Pv:Nat→St→Hp→Prop) (h0:Pv 0 σ H) (qW:∀ i σ H,i < n→Pv i σ H→J.go i H) (ml:∀ σ H,Pv n σ H→J.stop n H)
  (hs:∀ i x σ H H',i < n→Pv i σ H→J.yld i H x H'→g x σ H' fun σ2 H2=>tb { D with nx:=Pv (i+1),ct:=Pv (i+1),bk:=D.nx } σ2 H2) (hd:∀ σ H,Pv n σ H→D.nx σ H) :
  ∃ W:Nat→Nat→St→Hp→Prop,(∃ m,W 0 m σ H)∧∀ i m σ H,W i m σ H →
   (J.stop i H∧D.nx σ H)∨(J.go i H∧∃ N:St→Hp→Prop,(∀ σ' H',N σ' H'→∃ m',m' < m∧W (i+1) m' σ' H')∧∀ x H',J.yld i H x H'→g x σ H' fun σ2 H2=>tb { D with nx:=N,ct:=N,bk:=D.nx } σ2 H2):=by
 refine⟨fun i m σ H=>m=n - i∧i≤n∧Pv i σ H,⟨n,#[M],a8 _,h0⟩,?_⟩;rintro i m σ H ⟨rfl,hi,p⟩;by_cases jN:i < n
 ·exact .inr ⟨qW i σ H jN p,Pv (i+1),fun σ' H' p'=>⟨n - (i+1),#[O],rfl,jN,p'⟩,fun x H' y=>hs i x σ H H' jN p y⟩
 ·have e:i=n:=by lia
  subst e;exact .inl ⟨ml σ H p,hd σ H p⟩
end L2
end
section
namespace L2
open PySem
abbrev Lp (J:It) (g:TG) (tb:TS) (D:Ends) (σ:St) (H:Hp):Prop:=∃ W:Nat→Nat→St→Hp→Prop,(∃ m,W 0 m σ H)∧∀ i m σ H,W i m σ H→(J.stop i H∧D.nx σ H)∨(J.go i H∧∃ N:St→Hp→Prop,(∀ σ' H',N σ' H'→∃ m',m' < m∧W (i+1) m' σ' H')∧∀ x H',J.yld i H x H'→g x σ H' fun σ2 H2=>tb { D with nx:=N,ct:=N,bk:=D.nx } σ2 H2)
abbrev Ends.l (D:Ends) (Pv:Nat→St→Hp→Prop) (i:Nat):Ends:={ D with nx:=Pv (i+1),ct:=Pv (i+1),bk:=D.nx }
section
variable {g:TG} {tb:TS} {D:Ends} {σ:St} {H:Hp} (Pv:Nat→St→Hp→Prop) {n:Nat} {K:af} {a:Addr} {xs:List V}
theorem zgz {J:It} (h0:Pv 0 σ H) (qW:∀ i σ H,i < n→Pv i σ H→J.go i H) (ml:∀ σ H,Pv n σ H→J.stop n H) (hs:let N:=D.l Pv; let T:=tb; ∀ i x σ H H',i < n→Pv i σ H→J.yld i H x H'→g x σ H' (T (N i))) (hd:∀ σ H,Pv n σ H→D.nx σ H):Lp J g tb D σ H:=zk6 Pv h0 qW ml hs hd
theorem zbr (h0:Pv 0 σ H) (hl:∀ i σ H,i≤xs.length→Pv i σ H→jy K H a xs) (hs:let N:=D.l Pv; let T:=tb; ∀ i x σ H,xs[i]? = some x→Pv i σ H→g x σ H (T (N i))) (hd:∀ σ H,Pv xs.length σ H→D.nx σ H):Lp (Itl K a) g tb D σ H:=zii Pv h0 hl hs hd
theorem ziw (h0:Pv 0 σ H) (hl:∀ i σ H,i≤xs.length→Pv i σ H→jI K H a xs) (hs:let N:=D.l Pv; let T:=tb; ∀ i x σ H,xs[i]? = some x→Pv i σ H→g x σ H (T (N i))) (hd:∀ σ H,Pv xs.length σ H→D.nx σ H):Lp (Itt K a) g tb D σ H:=zjD Pv h0 hl hs hd
theorem zaF {lo:Int} (h0:Pv 0 σ H) (hs:let N:=D.l Pv; let T:=tb; ∀ i σ H,i < n→Pv i σ H→g (.int (lo+i)) σ H (T (N i))) (hd:∀ σ H,Pv n σ H→D.nx σ H):Lp (Itr lo n) g tb D σ H:=zht Pv h0 hs hd
end
theorem zab {J:It} {n:Nat} {g:TG} {ts:TT} {te:TE} {σ0:St} {Q:VK} {H:Hp} (Pv:Nat→List V→Hp→Prop) (h0:Pv 0 [] H) (qW:∀ i ys H,i < n→Pv i ys H→J.go i H) (ml:∀ ys H,Pv n ys H→J.stop n H)
  (hs:let S:=σ0; let T:=ts; let E:=te; ∀ i x ys H H',i < n→Pv i ys H→J.yld i H x H'→g x S H' fun σ2 H2=>T σ2 H2 fun b H3=>if b=true then E σ2 H3 fun y H4=>ys.length < sizeLine∧Pv (i+1) (ys++[y]) H4 else Pv (i+1) ys H3)
  (hd:∀ ys H D,Pv n ys H→H D=none→Q (.ref D) (jA H D (.lst ys))):cGo g ts te σ0 J Q H:=zeJ Pv h0 qW ml hs hd
end L2
end
section
namespace L2
end L2
end
section
namespace L2
open PySem PySem.Spec PyProof.Rows
abbrev TM:=List V→St→Hp→(List V→Hp→Prop)→Prop
abbrev zc0 (jx:List Value) (nn:Nat):Obj:={ cls:=.type "list",data:=.seq jx.toArray nn }
structure AccAt (Y:Cx) (jv:List (Addr×Obj)) (H:Hp) (s:Shared) (D:Addr) (ys:List V) (jx:List Value) (nn:Nat):Prop where
 fp:zbO Y jv H D
 here:s.heap.get? D=some (zc0 jx nn)
 vals:zG ys jx
 len:ys.length≤sizeLine
def zeK (js:List Nat) (σ:St):Prop:=∀ j∈js,∀ v,σ[j]?≠some (some v)
def Kp (js:List Nat) (σ σ2:St):Prop:=σ2.length=σ.length∧∀ j,j∉js→σ2[j]? = σ[j]?
theorem Kp.refl {js:List Nat} {σ:St}:Kp js σ σ:=⟨rfl,fun _ _=>rfl⟩
theorem Kp.set {js:List Nat} {σ σ2:St} {i:Nat} {v:Option V} (hi:i∈js) (h:Kp js σ σ2):Kp js σ (σ2.set i v):=by
 refine⟨by rw [List.length_set]; exact h.1,fun j hj=>?_⟩;rw [eQ (fun z=>hj (by rw [← z]; exact hi))];exact h.2 j hj
def GS (js:List Nat) (g:TG):Prop:=∀ (σ σ1:St) (x:V) (H:Hp) (Q:St→Hp→Prop),Kp js σ σ1→g x σ1 H Q→g x σ1 H fun σ2 H2=>Kp js σ σ2∧Q σ2 H2
def GSs (js:List Nat) (g:TGs):Prop:=∀ (σ σ1:St) (xs:List V) (H:Hp) (Q:St→Hp→Prop),Kp js σ σ1→g xs σ1 H Q→g xs σ1 H fun σ2 H2=>Kp js σ σ2∧Q σ2 H2
theorem zgA {js:List Nat} {i:Nat} (hi:i∈js):GS js (zaM i):=fun σ σ1 x H Q hw h=>⟨hw.set hi,h⟩
theorem zgB {js:List Nat}:GSs js zhs:=fun σ σ1 xs H Q hw h=>⟨h.1,hw,h.2⟩
theorem zdo {js:List Nat} {i:Nat} {u:TGs} (hi:i∈js) (h2:GSs js u):GSs js (zce (zaM i) u):=fun σ σ1 xs H Q hw h=>by
 obtain⟨v,r,e,h⟩:=h;exact⟨v,r,e,h2 σ _ r H Q (hw.set hi) h⟩
theorem zix {js:List Nat} {K:af} {n:Nat} {t:TGs} (h:GSs js t):GS js (zf1 K n t):=fun σ σ1 x H Q hw hg=>by
 obtain⟨a,xs,e,hq,hl,hg⟩:=hg;exact⟨a,xs,e,hq,hl,h σ σ1 xs H Q hw hg⟩
theorem Inv.fewer {X:Cx} {jv lB:List (Addr×Obj)} {σ:St} {H:Hp} {s:Shared} (I:Inv X jv σ H s) (h:∀ p∈lB,p∈jv):Inv X lB σ H s :=
 I.pins_of fun p hp=>I.pin p (aw _ (h p hp))
section
variable {Y:Cx} {jv:List (Addr×Obj)} {σ:St} {H:Hp} {s:Shared} {D:Addr} {ys:List V} {jx:List Value} {nn:Nat}
theorem AccAt.pin (a:AccAt Y jv H s D ys jx nn) (I:Inv Y jv σ H s):Inv Y (jv++[(D,zc0 jx nn)]) σ H s :=
 I.pins_of fun p hp=>by
  rcases (aM.mp hp) with hp | hp
  ·exact I.pin p (aw _ hp)
  ·obtain rfl:p=(D,zc0 jx nn):=by simpa using hp
   obtain⟨a0,a1,a2,_⟩:=a.fp;exact⟨a.here,a0,a1,a2,fun v z=>by cases z⟩
theorem AccAt.back {lB:List (Addr×Obj)} {σ':St} {H':Hp} {s':Shared} (a:AccAt Y jv H s D ys jx nn) (I:Inv Y lB σ' H' s') (hm:(D,zc0 jx nn)∈lB):AccAt Y jv H' s' D ys jx nn:=by
 have p:=I.pin (D,zc0 jx nn) (aw _ hm);exact⟨⟨p.2.1,a.fp.2⟩,p.1,a.vals,a.len⟩
end
def PM (Y:Cx) (D:Addr) (js:List Nat) (mk:Sem Fin→Sem Fin) (tm:TM):Prop :=
 ∀ (last:Sem Fin) (jv:List (Addr×Obj)) (s:Shared) (σ:St) (H:Hp) (ys:List V) (jx:List Value) (nn:Nat) (Q:List V→Hp→Prop) (Φ:Fin→Shared→Prop),Inv Y jv σ H s→AccAt Y jv H s D ys jx nn→zeK js σ→tm ys σ H Q →
  (∀ (s':Shared) (nE:List V) (its':List Value) (sO:Nat) (H':Hp),Inv Y jv σ H' s'→AccAt Y jv H' s' D nE its' sO→Q nE H'→wpAny (model Y.prog Y.w) Y.A last Φ (fun _ _=>False) s') →
  wpAny (model Y.prog Y.w) Y.A (mk last) Φ (fun _ _=>False) s
def zeo (elt:Expr) (acc:Value) (env:Env) (last:Sem Fin):Sem Fin:=(eval elt env >>= fun x=>call (.builtin "list.append") [acc,x] >>= fun _=>pure ()) >>= fun _=>last
def zgC (e iter:Expr) (d:Nat) (acc:Value) (env:Env) (last:Sem Fin):Sem Fin :=
 eval iter env >>= fun x=>standAt iter.pos >>= fun _=>foldedSetIterable iter env x >>= fun x=>holding [x] (pyIter x) >>= fun sG=>runOwn (.compStart e d sG acc env) env >>= fun _=>last
def ziy (te:TE):TM:=fun ys σ H Q=>te σ H fun y H4=>ys.length < sizeLine∧Q (ys++[y]) H4
def cIn (g:TG) (ts:TT) (tm:TM) (σ:St) (J:It) (Q:List V→Hp→Prop) (ys:List V) (H1:Hp):Prop :=
 ∃ W:Nat→Nat→List V→Hp→Prop,(∃ m,W 0 m ys H1)∧∀ i m ys H,W i m ys H →
  (J.stop i H∧Q ys H) ∨
  (J.go i H∧∃ N:List V→Hp→Prop,(∀ nE H',N nE H'→∃ m',m' < m∧W (i+1) m' nE H')∧∀ x H',J.yld i H x H'→g x σ H' fun σ2 H2=>ts σ2 H2 fun b H3 =>
   if b=true then tm ys σ2 H3 N else N ys H3)
def ziz (wi:TI) (g:TG) (ts:TT) (tm:TM):TM:=fun ys σ H Q=>wi σ H fun J H1=>cIn g ts tm σ J Q ys H1
def zf8 (ix:List (Option Nat)) (wi:TI) (g:TG) (ts:TT) (tm:TM):TE:=fun σ H Q=>wi σ H fun J H1=>cIn g ts tm (zcq ix σ) J (fun ys H'=>∀ D,H' D=none→Q (.ref D) (jA H' D (.lst ys))) [] H1
theorem thx {α:Type} {X:Cx} {m:Sem α} {P Q:α→Shared→Prop} {E:Value→Shared→Prop} {s:Shared} (hx:X.xe=fun _ _=>False) (h:wpAny (model X.prog X.w) X.A m P X.xe s) (k:∀ a s',P a s'→Q a s'):wpAny (model X.prog X.w) X.A m Q E s :=
 bH h k fun _ _ z=>by rw [hx] at z; exact z.elim
theorem zf9 {Y:Cx} {D:Addr} {elt:Expr} {te:TE} (hx:Y.xe=fun _ _=>False) (he:PE Y elt te):PM Y D [] (zeo elt (.ref D) Y.env) (ziy te):=by
 intro last jv s σ H ys jx nn Q Φ I a no h k;unfold zeo;refine aa (aa (thx hx (he (jv++[(D,zc0 jx nn)]) s σ H _ (a.pin I) h) fun yv s1 ⟨y,H1,I1,r1,hz,q1⟩=>aa ?_));have a1:=a.back I1 (aw _ aB);have J1:Inv Y jv σ H1 s1:=I1.fewer fun p hp=>aL _ hp
 have xI:=a1.vals.length;refine fT ik ⟨_,a1.here,rfl⟩ g8 (gK _ _) (iB D jx.toArray nn yv (by rw [ao]; lia)) ⟨a1.here,?_⟩;refine ah ?_;have q:=iM a1.here (·.push yv);have k10:∀ b o,b≠D→s1.heap.get? b=some o→(s1.heap.update D (cj (·.push yv))).get? b=some o:=fun b o hb e=>(gt s1.heap (cj (·.push yv)) (dh hb)).trans e
 obtain⟨b0,b1,b2,b3,b4,b5⟩:=a1.fp;have I11:Inv Y jv σ H1 { s1 with heap:=s1.heap.update D (cj (·.push yv)) }:=J1.turned (t':=s1.toks) k10 b0 b1 b3 b4 b5;have e1:jx.toArray.push yv=(jx++[yv]).toArray:=by simp
 rw [e1] at q;refine k _ (ys++[y]) (jx++[yv]) _ H1 I11 ⟨a1.fp,q,a1.vals.append (.cons r1 .nil),?_⟩ q1;rw [av,cB];lia
section
variable {Y:Cx} {D:Addr} {js js':List Nat} {elt:Expr} {gens:List Comprehension} {scope:Scope} {pos:Pos} {d:Nat} {tg:Expr} {ifs:List Expr} {p:Pos} {mk:Sem Fin→Sem Fin} {g:TG} {ts:TT} {tm:TM}
def zbA (tg:Expr) (ifs:List Expr) (p:Pos) (mk:Sem Fin→Sem Fin) (c:Code) (it:Value) (env:Env):Sem Fin :=
 standAt p >>= fun _=>pyNext it >>= fun r=>match r with
  | none=>pure (.done .next)
  | some v=>letOwnedTupleGo tg it v >>= fun _=>assign tg env v >>= fun _=>zf7 ifs env >>= fun ok=>if ok=true then mk (again c) else again c
theorem zgD (hc:Y.calm=true) (hx:Y.xe=fun _ _=>False) (qX:GS js g) (lO:∀ j∈js,j∉js') (hg:PG Y tg g) (ht:zcZ Y ifs ts) (hm:PM Y D js' mk tm)
  (kZ:∀ it,compTurn (.ListComp elt gens scope pos) d it (.ref D) Y.env=zbA tg ifs p mk (.compLoop (.ListComp elt gens scope pos) d it (.ref D) Y.env) it Y.env)
  {jv:List (Addr×Obj)} {σ:St} {H2:Hp} {s2:Shared} {it:Addr} {fp:List Addr} {tn:Nat→Heap→Prop} {J:It} {Q:List V→Hp→Prop} {R:Result→Shared→Prop} {ys:List V} {jx:List Value} {nn:Nat}
  (I2:Inv Y jv σ H2 s2) (a2:AccAt Y jv H2 s2 D ys jx nn) (no:zeK (js++js') σ) (T:Turn Y.prog Y.w Y.K tg J fp it tn) (jT:tn 0 s2.heap) (f2:∀ b∈fp,zbO Y jv H2 b) (fD:∀ b∈fp,b≠D) (q:cIn g ts tm σ J Q ys H2)
  (hR:∀ (s':Shared) (nE:List V) (its':List Value) (sO:Nat) (H':Hp),Inv Y jv σ H' s'→AccAt Y jv H' s' D nE its' sO→Q nE H'→R (.ok .next) s') :
  codeAny (model Y.prog Y.w) Y.A (.compLoop (.ListComp elt gens scope pos) d (.ref it) (.ref D) Y.env) R s2:=by
 obtain⟨W,⟨m0,w0⟩,turn⟩:=q;have uf:∀ {H':Hp} {jx:List Value} {nn:Nat},(∀ b∈fp,H' b=none)→∀ b∈fp,zbO Y (jv++[(D,zc0 jx nn)]) H' b:=fun {H' jx nn} hn b hb=>by
  obtain⟨_,a1,a2,a3,a4,a5⟩:=f2 b hb;refine⟨hn b hb,a1,a2,a3,a4,fun p hp=>?_⟩;rcases (aM.mp hp) with hp | hp
  ·exact a5 p (aL _ hp)
  ·rcases (aM.mp hp) with hp | hp
   ·exact a5 p (aw _ hp)
   ·obtain rfl:p=(D,zc0 jx nn):=by simpa using hp
    exact (fD b hb).symm
 refine codeAny_loop rfl (fun n s'=>∃ i ys H' jx nn,Inv Y jv σ H' s'∧tn i s'.heap∧(∀ b∈fp,H' b=none)∧AccAt Y jv H' s' D ys jx nn∧W i n ys H') ?_ m0
  ⟨0,ys,H2,jx,nn,I2,jT,fun b hb=>(f2 b hb).1,a2,w0⟩
 rintro n s5 ⟨i,ys,H5,jx,nn,I5,ud,fr5,a5,w5⟩;show wpAny _ Y.A ((compTurn (.ListComp elt gens scope pos) d (.ref it) (.ref D) Y.env).onRaise (fun x=>do noteFrame x Y.env; theTreesLotGoes x)) _ _ s5;refine wpAny_noted ?_;rw [kZ];unfold zbA;have I5p:=a5.pin I5
 (refine aa (eG (aa ?_)))
 rcases turn i n ys H5 w5 with ⟨stop,qn⟩ | ⟨go,N,hN,step⟩
 ·refine bH (T.done Y rfl rfl rfl hc i _ s5 _ H5 (fun _ _=>False) I5p (uf fr5) ud stop) (fun r s6 ⟨hr,I6⟩=>?_) fun _ _ z=>z.elim
  subst hr;exact ah (hR s6 ys jx nn H5 (I6.fewer fun p hp=>aL _ hp) (a5.back I6 (aw _ aB)) qn)
 ·refine bH (T.item Y rfl rfl rfl hc i _ s5 _ H5 (fun _ _=>False) I5p (uf fr5) ud go) (fun r s6 ⟨u,hr,h6⟩=>?_) fun _ _ z=>z.elim
  subst hr;refine aa (bH h6 (fun _ s7 ⟨x,H7,I7,r7,y7,xJ,fr7⟩=>?_) fun _ _ z=>z.elim);have I7':=I7.pinned (uf fr7) (T.obj _ _ xJ);refine aa (thx hx (hg _ s7 _ H7 x u _ I7' r7 (qX σ σ x H7 _ Kp.refl (step x H7 y7))) fun _ s8 ⟨σ8,H8,I8,kp,q8⟩=>?_);refine aa (thx hx (ht _ s8 σ8 H8 _ I8 q8) fun ok s9 ⟨H9,I9,q9⟩=>?_);have mD:(D,zc0 jx nn)∈(jv++[(D,zc0 jx nn)])++zbP fp s7.heap:=aL _ (aw _ aB);have a9:=a5.back I9 mD;have K9:Inv Y (jv++zbP fp s7.heap) σ8 H9 s9:=I9.fewer fun p hp=>(aM.mp hp).elim (fun z=>aL _ (aL _ z)) fun z=>aw _ z
  have wk:∀ (j:Nat) v,σ[j]? = some (some v)→σ8[j]? = some (some v):=fun j v e=>by
   have hj:j∉js:=fun z=>no j (aL _ z) v e
   rw [kp.2 j hj];exact e
  have back:∀ {H':Hp} {s':Shared},Inv Y (jv++zbP fp s7.heap) σ8 H' s'→Inv Y jv σ H' s'∧tn (i+1) s'.heap∧∀ b∈fp,H' b=none:=fun {H' s'} I'=>by
   refine⟨(I'.fewer fun p hp=>aL _ hp).weak kp.1.symm wk,T.keep _ _ _ xJ fun b hb o e=>(I'.pin (b,o) (aw _ (aw _ (zbx hb e)))).1,fun b hb=>?_⟩;obtain⟨o,e,d⟩:=T.obj _ _ xJ b hb;exact (I'.pin (b,o) (aw _ (aw _ (zbx hb e)))).2.1
  cases ok with
  | false =>
   rw [if_neg aQ] at q9 ⊢;obtain⟨m',uO,w9⟩:=hN _ _ q9;obtain⟨b1,b2,b3⟩:=back K9;exact ah ⟨rfl,m',uO,i+1,ys,H9,jx,nn,b1,b2,b3,a9,w9⟩
  | true =>
   rw [if_pos rfl] at q9 ⊢;have a9':AccAt Y (jv++zbP fp s7.heap) H9 s9 D ys jx nn:=by
    obtain⟨b0,b1,b2,b3,b4,b5⟩:=a9.fp;refine⟨⟨b0,b1,b2,b3,b4,fun p hp=>?_⟩,a9.here,a9.vals,a9.len⟩;rcases (aM.mp hp) with hp | hp
    ·exact b5 p (aL _ hp)
    ·rcases (aM.mp hp) with hp | hp
     ·exact b5 p (aw _ hp)
     ·exact fD _ (zeg hp).1
   have no':zeK js' σ8:=fun j hj v e=>by
    have lE:j∉js:=fun z=>lO j z hj
    rw [kp.2 j lE] at e;exact no j (aw _ hj) v e
   refine bH (hm (again _) _ s9 σ8 H9 ys jx nn N (fun fin s'=>match fin with | .done f=>R (.ok f) s' | .again c'=>c'=_∧∃ m,m < n∧_) K9 a9' no' q9 fun s' nE its' sO H' I' a' n'=>?_) (fun _ _ z=>z) fun _ _ z=>z.elim
   obtain⟨m',uO,w'⟩:=hN _ _ n';obtain⟨b1,b2,b3⟩:=back I';obtain⟨c0,c1,c2,c3,c4,c5⟩:=a'.fp;refine ah ⟨rfl,m',uO,i+1,nE,H',its',sO,b1,b2,b3,⟨⟨c0,c1,c2,c3,c4,fun p hp=>?_⟩,a'.here,a'.vals,a'.len⟩,w'⟩;rcases (aM.mp hp) with hp | hp
   ·exact c5 p (aL _ hp)
   ·exact c5 p (aw _ (aL _ hp))
theorem zfc {prog:Program} {w:World} {A:Around} {R:Result→Shared→Prop} {s:Shared} {iter:Expr} {it acc:Value} {env:Env} (hd:gens[d]? = some ⟨tg,iter,ifs,0⟩)
  (h0:codeAny (model prog w) A (.compLoop (.ListComp elt gens scope pos) d it acc env) R s)
  (h:wpAny (model prog w) A (pyIter it) (fun xK s'=>codeAny (model prog w) A (.compLoop (.ListComp elt gens scope pos) d xK acc env) R s') (fun _ _=>False) s) :
  codeAny (model prog w) A (.compStart (.ListComp elt gens scope pos) d it acc env) R s:=by
 refine codeAny_of_tree ?_;show wpAny _ _ ((compStart (.ListComp elt gens scope pos) d it acc env).onRaise (fun x=>do noteFrame x env; standAt theWindowsPlace)) _ _ s;refine wpAny_notedAt ?_;unfold compStart;have e1:(clausesOf (.ListComp elt gens scope pos))[d]? = some ⟨tg,iter,ifs,0⟩:=hd;rw [e1]
 (show wpAny _ _ (ask >>= _) _ _ s)
 (refine aa (wpAny_askSetting (wpAny_ite ?_)))
 split
 ·first
   | (exact aa (ah (ah ⟨rfl,h0⟩)))
   | (exact ah ⟨rfl,h0⟩)
 ·first
   | exact aa (bS (aa (eG (aa (bH h (fun xK s' h'=>ah (And.intro rfl h')) fun _ _ x=>x.elim)))))
   | (refine aa (bS ?_); show wpAny _ _ (standAt iter.pos >>= _) _ _ s; exact aa (eG (aa (bH h (fun xK s' h'=>ah (And.intro rfl h')) fun _ _ x=>x.elim))))
theorem zk7 {iter:Expr} {wi:TI} (hc:Y.calm=true) (hx:Y.xe=fun _ _=>False) (qX:GS js g) (lO:∀ j∈js,j∉js') (hi:PI Y tg iter wi) (hg:PG Y tg g) (ht:zcZ Y ifs ts) (hm:PM Y D js' mk tm) (hd:gens[d]? = some ⟨tg,iter,ifs,0⟩)
  (kZ:∀ it,compTurn (.ListComp elt gens scope pos) d it (.ref D) Y.env=zbA tg ifs p mk (.compLoop (.ListComp elt gens scope pos) d it (.ref D) Y.env) it Y.env)
  (hs:∀ x,foldedSetIterable iter Y.env x=pure x:=by intro _; rfl) :
  PM Y D (js++js') (zgC (.ListComp elt gens scope pos) iter d (.ref D) Y.env) (ziz wi g ts tm):=by
 intro last jv s σ H ys jx nn Q Φ I a no h k;unfold zgC;refine aa (thx hx (hi (jv++[(D,zc0 jx nn)]) s σ H _ (a.pin I) h) fun v s1 h1=>aa (eG (aa ?_)));rw [hs v];refine ah (aa (bP (thx hx h1 fun sG s2 h2=>?_)));obtain⟨it,fp,tn,J,H2,e,I2,T,jT,f2,q⟩:=h2;subst e;have a2:=a.back I2 (aw _ aB);have J2:Inv Y jv σ H2 s2:=I2.fewer fun p hp=>aL _ hp
 have xM:∀ b∈fp,zbO Y jv H2 b:=fun b hb=>by
  obtain⟨c0,c1,c2,c3,c4,c5⟩:=f2 b hb;refine⟨c0,c1,c2,c3,c4,fun p hp=>?_⟩;rcases (aM.mp hp) with hp | hp
  ·exact c5 p (aL _ hp)
  ·exact c5 p (aw _ (aL _ hp))
 have fD:∀ b∈fp,b≠D:=fun b hb=>((f2 b hb).2.2.2.2.2 (D,zc0 jx nn) (aw _ (aw _ aB))).symm
 have loop:codeAny (model Y.prog Y.w) Y.A (.compLoop (.ListComp elt gens scope pos) d (.ref it) (.ref D) Y.env) (fun r s'=>match r with | .ok f=>wpAny (model Y.prog Y.w) Y.A last Φ (fun _ _=>False) s' | .error e=>cameBackBy (model Y.prog Y.w) Y.A Y.env (fun _ _=>False) e s') s2 :=
  zgD hc hx qX lO hg ht hm kZ J2 a2 no T jT xM fD q fun s' nE its' sO H' I' a' q'=>k s' nE its' sO H' I' a' q'
 exact aa (wpAny_runOwn (zfc hd loop (T.self _ 0 _ _ _ jT loop)))
end
section
variable {X:Cx} {elt tg iter:Expr} {ifs:List Expr} {gs:List Comprehension} {scope:Scope} {pos:Pos} {N':List Str} {ix:List (Option Nat)} {js js':List Nat} {g:TG} {ts:TT} {tm:TM} {mk:Addr→Env→Sem Fin→Sem Fin}
theorem zcR {jv:List (Addr×Obj)} {σ:St} {H2:Hp} {s2:Shared} {it:Addr} {fp:List Addr} {tn:Nat→Heap→Prop} {J:It} {Q:VK} {E:Value→Shared→Prop} {RR:Value→Addr→Result→Shared→Prop}
  (SC:CompSc X N' ix scope) (hc:X.calm=true) (qX:GS js g) (lO:∀ j∈js,j∉js') (qY:∀ j∈js++js',ix[j]? = some none)
  (hg:∀ s₃ H₃ ex jv,PG (zH X N' scope s₃ H₃ ex jv) tg g) (ht:∀ s₃ H₃ ex jv,zcZ (zH X N' scope s₃ H₃ ex jv) ifs ts) (hm:∀ s₃ H₃ ex jv D,PM (zH X N' scope s₃ H₃ ex jv) D js' (mk D (zH X N' scope s₃ H₃ ex jv).env) tm)
  (kZ:∀ it D env,compTurn (.ListComp elt (⟨tg,iter,ifs,0⟩ :: gs) scope pos) 0 it (.ref D) env=zbA tg ifs iter.pos (mk D env) (.compLoop (.ListComp elt (⟨tg,iter,ifs,0⟩ :: gs) scope pos) 0 it (.ref D) env) it env)
  (I2:Inv X jv σ H2 s2) (T:Turn X.prog X.w X.K tg J fp it tn) (jT:tn 0 s2.heap) (f2:∀ b∈fp,zbO X jv H2 b) (q:cIn g ts tm (zcq ix σ) J (fun ys H'=>∀ D,H' D=none→Q (.ref D) (jA H' D (.lst ys))) [] H2)
  (hRR:∀ (D C:Addr) (s':Shared) (ys:List V) (H':Hp) (m:Str→Option Value),Inv X jv σ (jA H' D (.lst ys)) s'→zbO X jv (jA H' D (.lst ys)) C→s'.heap.Ns C m→Q (.ref D) (jA H' D (.lst ys))→RR (.ref D) C (.ok .next) s') :
  wpAny (model X.prog X.w) X.A (newList []) (fun acc s₃=>wpAny (model X.prog X.w) X.A (newFunctionEnv scope X.env.globals (zV X.env.cells scope.names []) [] X.env.qual none .none (some X.env)) (fun uP s₄ =>
   codeAny (model X.prog X.w) X.A (.compStart (.ListComp elt (⟨tg,iter,ifs,0⟩ :: gs) scope pos) 0 (.ref it) acc { uP with scope:=relabel scope X.env }) (RR acc uP.locals) s₄) E s₃) E s2:=by
 have uQ:∀ y∈scope.names,y.2 = .free→∃ c,X.env.cells.lookup y.1=some c:=fun y hy hf=>I2.ok.has y.1 (SC.free y hy hf)
 have nV:∀ x c,(zV X.env.cells scope.names []).lookup x=some c→X.env.cells.lookup x=some c:=za0 scope.names [] uQ (fun x c e=>by simp at e);refine b7 (zhy ?_);have I3:Inv X jv σ H2 { s2 with heap:=s2.heap.push { cls:=.type "list",dict:=none,data:=.seq ([]:List Value).toArray } }:=I2.kept (t':=s2.toks) fun b o e=>ae _ e
 have hD3:(s2.heap.push { cls:=.type "list",dict:=none,data:=.seq ([]:List Value).toArray }).get? s2.heap.objs.size=some { cls:=.type "list",dict:=none,data:=.seq ([]:List Value).toArray }:=aq _ rfl;have uR:tn 0 (s2.heap.push { cls:=.type "list",dict:=none,data:=.seq ([]:List Value).toArray }):=T.keep _ _ _ jT fun b hb o e=>ae _ e
 have uS:(s2.heap.push { cls:=.type "list",dict:=none,data:=.seq ([]:List Value).toArray }).objs.size=s2.heap.objs.size+1:=bw _ _;generalize hh3:s2.heap.push { cls:=.type "list",dict:=none,data:=.seq ([]:List Value).toArray }=h3 at *;have xN:=T.obj _ _ jT;have rW:∀ b∈fp,b < s2.heap.objs.size:=fun b hb=>by obtain⟨o,e,_⟩:=xN b hb; exact au e
 have stk:∀ b∈frs X.stack,b=X.env.locals∨b∈X.fs:=fun b hb=>aA.mp (I2.stkSub b hb)
 have uT:zbO X jv H2 s2.heap.objs.size:=I2.fpOk (ag _) I2.fresh;have oW:∀ b∈s2.heap.objs.size :: fp,zbO X jv H2 b:=fun b hb=>by
  rcases (aA.mp hb) with e | hb
  ·rw [e]; exact uT
  ·exact f2 b hb
 have sP:∀ b∈s2.heap.objs.size :: fp,b < h3.objs.size:=fun b hb=>by
  rw [uS];rcases (aA.mp hb) with e | hb; · rw [e]; exact fZ _
  ·exact da (rW b hb)
 have rX:∀ b∈s2.heap.objs.size :: fp,b∉frs X.stack:=fun b hb z=>by
  obtain⟨_,a1,a2,_⟩:=oW b hb;rcases stk b z with e | e
  ·exact a1 e
  ·exact a2 e
 have hns₁:(pushCells (h3.push { cls:=.type "dict",data:=.dict #[] }) scope.names).Ns h3.objs.size (fun _=>none):=(Heap.Ns.new h3 (.type "dict")).keeps (pushCells_keeps _ _);have old:∀ b o,h3.get? b=some o→(pushCells (h3.push { cls:=.type "dict",data:=.dict #[] }) scope.names).get? b=some o:=fun b o e=>pushCells_keeps _ _ b o (ae _ e)
 have xO:∀ x c,X.env.cells.lookup x=some c→c < h3.objs.size:=fun x c e=>by
  obtain⟨v,q⟩:=I3.cell x c e;exact q.lt
 have co:CO (pushCells (h3.push { cls:=.type "dict",data:=.dict #[] }) scope.names) (h3.objs.size+1) (zV X.env.cells scope.names []) (cellsFrom (h3.objs.size+1) scope.names (zV X.env.cells scope.names [])):=by
  have:=ziv (lo:=h3.objs.size+1) (old:=zV X.env.cells scope.names []) scope.names (h3.push { cls:=.type "dict",data:=.dict #[] }) (zV X.env.cells scope.names [])
   ⟨fun x c e=>.inr ⟨e,da (xO x c (nV x c e))⟩,fun x y c e1 e2=>I2.ok.inj x y c (nV x c e1) (nV y c e2)⟩ (by rw [bw]; exact ag _)
  rw [bw] at this;exact this
 generalize pushCells (h3.push { cls:=.type "dict",data:=.dict #[] }) scope.names=h₁ at hns₁ old co ⊢;have xP:∀ {x c},(cellsFrom (h3.objs.size+1) scope.names (zV X.env.cells scope.names [])).lookup x=some c→(h₁.IsCell c none∧h3.objs.size+1≤c)∨X.env.cells.lookup x=some c:=fun {x c} e=>(co.each x c e).elim .inl fun z=>.inr (nV x c z.1)
 have cfr:∀ x,scope.names.lookup x=some .free→(cellsFrom (h3.objs.size+1) scope.names (zV X.env.cells scope.names [])).lookup x=(zV X.env.cells scope.names []).lookup x:=fun x hx=>zeH _ _ _ _ fun z=>by
  have:=SC.cells _ z rfl;rw [hx] at this;cases this
 let s3:Shared:={ s2 with heap:=h3 }
 let Y:Cx:=zH X N' scope s3 H2 (s2.heap.objs.size :: fp) jv
 have pG:Inv X jv σ H2 s3:=I3;have okY:Y.Ok:=by
  refine⟨I2.ok.mod,SC.kind,I2.ok.glob,I2.ok.blt,ag _,co.inj,fun x hx=>?_,fun x c z e=>?_,I2.ok.hd,I2.ok.frames,.inl rfl,fun b hb=>?_,fun b o e=>pG.bs b o e,?_,fun b o e hb=>?_,rX,pG.stack,pG.stkFree⟩
  ·have oX:=zcp (env:=X.env) (names:=scope.names) (x:=x) hx;rcases oX with oX | oX
   ·obtain⟨c,e⟩:=zbb (cs:=X.env.cells) scope.names [] x (.inr (lookup_mem oX));exact⟨c,(cfr x oX).trans e⟩
   ·obtain⟨c,e,_⟩:=zeI scope.names (h3.objs.size+1) (zV X.env.cells scope.names []) x (lookup_mem oX);exact⟨c,e⟩
  ·obtain⟨c',e',l'⟩:=zeI scope.names (h3.objs.size+1) (zV X.env.cells scope.names []) x (lookup_mem (by have z':(scope.names.lookup x == some cq)=true:=z; simpa using z'));have e2:(cellsFrom (h3.objs.size+1) scope.names (zV X.env.cells scope.names [])).lookup x=some c:=e;rw [e'] at e2;cases e2;exact fL l'
  ·refine⟨aT (sP b hb),fun x c e=>(xP e).elim (fun z y=>?_) fun z=>(oW b hb).2.2.2.2.1 x c z⟩;subst y;exact bV _ (aP (sP _ hb) (fL z.2))
  ·exact aZ I2.ok.bsz pG.sz
  ·obtain⟨_,_,_,a3,_⟩:=oW b hb;rcases a3 with z | z
   ·exact I2.ok.noex b o e z
   ·have:=(I2.ok.bs b o e).1;exact absurd (aP (au this) z) (bV _)
 have xQ:Inv Y [] (zcq ix σ) H2 { s3 with heap:=h₁ }:=by
  refine⟨okY,rfl,I2.bare,Un.kept old,⟨_,hns₁,fun j x v e1 e2 e3=>?_⟩,fun x c e=>?_,pG.fresh,fun x c e=>(xP e).elim (fun z=>pG.hok.fresh (fL z.2)) fun z=>I2.freeC x c z,fun p hp=>?_,pG.hok.kept old,?_⟩
  ·unfold zcq at e2;rw [am] at e2;cases hj:ix[j]? with
   | none=>rw [hj] at e2; simp at e2
   | some oi =>
    rw [hj] at e2;cases oi with
    | none=>simp at e2
    | some i =>
     obtain⟨y,h1,h2,wC⟩:=SC.cap j i hj;have hxy:y=x:=by
      have uU:N'[j]? = some x:=e1;rw [h1] at uU;exact aN uU
     subst hxy;have qJ:(σ[i]?).join=some v:=by simpa using e2
     have xR:σ[i]? = some (some v):=by
      cases hs:σ[i]? with
      | none=>rw [hs] at qJ; simp at qJ
      | some w=>rw [hs] at qJ; simp at qJ; rw [qJ]
     obtain⟨m,hn,hl⟩:=pG.loc;have hk:=SC.free (y,.free) (lookup_mem wC) rfl;have xS:Vis X.env.scope y:=hk.elim (fun z=>.inr (.inl z)) fun z=>.inr (.inr z)
     obtain⟨u,r,l⟩:=hl i y v h2 xR xS;refine⟨u,r,.inr ⟨za5 wC,?_⟩⟩;obtain⟨c,j9⟩:=zbb (cs:=X.env.cells) scope.names [] y (.inr (lookup_mem wC));refine⟨c,(cfr y wC).trans j9,?_⟩;rcases l with ⟨qI,_⟩ | ⟨_,c',jB,ky⟩
     ·rcases hk with hk | hk
      ·have mW:X.env.kindOf y=some .cell:=hk;rw [mW] at qI; cases qI
      ·have mW:X.env.kindOf y=some .free:=hk;rw [mW] at qI; cases qI
     ·have:=nV y c j9;rw [jB] at this;cases this;obtain⟨o,ho,hd⟩:=ky;exact⟨o,old _ _ ho,hd⟩
  ·rcases xP e with z | z
   ·exact⟨_,z.1⟩
   ·obtain⟨v,o,ho,hd⟩:=pG.cell x c z;exact⟨v,o,old _ _ ho,hd⟩
  ·have nD:p∈X.pn++jv:=by
    have:p∈(X.pn++jv)++([]:List (Addr×Obj)):=hp;simpa using this
   obtain⟨a1,a2,a3,a4,a5⟩:=pG.pin p nD;exact⟨old _ _ a1,a2,aT (au a1),fun z=>(stk _ z).elim a3 a4,a5⟩
  ·unfold zcq;rw [ab];exact SC.len.symm
 have uf:∀ {H':Hp},(∀ b∈s2.heap.objs.size :: fp,H' b=none)→∀ b∈s2.heap.objs.size :: fp,zbO Y [] H' b:=fun {H'} hn b hb=>by
  obtain⟨_,a1,a2,a3,a4,a5⟩:=oW b hb;refine⟨hn b hb,aT (sP b hb),rX b hb,.inl hb,(okY.exf b hb).2,fun p hp=>?_⟩;have:p∈(X.pn++jv)++([]:List (Addr×Obj)):=hp;exact a5 p (by simpa using this)
 have nn2:∀ b∈s2.heap.objs.size :: fp,H2 b=none:=fun b hb=>(oW b hb).1
 have rV:zeK (js++js') (zcq ix σ):=fun j hj v e=>by
  unfold zcq at e;rw [am,qY j hj] at e;simp at e
 have loop:∀ s₅:Shared,s₅ = { s2 with heap:=h₁ } →
   codeAny (model X.prog X.w) X.A (.compLoop (.ListComp elt (⟨tg,iter,ifs,0⟩ :: gs) scope pos) 0 (.ref it) (.ref s2.heap.objs.size) (compEnvC scope (cellsFrom (h3.objs.size+1) scope.names (zV X.env.cells scope.names [])) h3.objs.size X.env)) (RR (.ref s2.heap.objs.size) h3.objs.size) s₅:=by
  rintro s₅ rfl;refine zgD (Y:=Y) (jv:=[]) (σ:=zcq ix σ) (jx:=[]) (nn:=0) hc rfl qX lO (hg s3 H2 _ jv) (ht s3 H2 _ jv) (hm s3 H2 _ jv s2.heap.objs.size) (fun it=>kZ it _ _) xQ ⟨uf nn2 _ aB,old _ _ hD3,.nil,a8 _⟩ rV T (T.keep _ _ _ uR fun b hb o e=>old b o e)
   (fun b hb=>uf nn2 b (aj _ hb)) (fun b hb=>aT (rW b hb)) q fun s6 ys jx nn H5 I6 a6 qn=>?_
  have dn5:H5 s2.heap.objs.size=none:=a6.fp.1;have I7:Inv X jv σ H5 s6:=by
   refine pG.call' (s':=s6) (ch:=s2.heap.objs.size :: fp) I6.os I6.base I6.hok I6.bare fun b hb=>?_
   obtain⟨_,a1,a2,a3,a4,a5⟩:=oW b hb;exact⟨a3,a1,a4,a5⟩
  have I8:Inv X jv σ (jA H5 s2.heap.objs.size (.lst ys)) s6:=by
   obtain⟨_,a1,a2,a3,a4,a5⟩:=uT;exact I7.track dn5 I2.sz (dh a1) a4 a5 ⟨a6.len,jx,nn,a6.vals,a6.here⟩
  obtain⟨mm,uV,_⟩:=I6.loc;have dne:h3.objs.size≠s2.heap.objs.size:=by rw [uS]; exact iO _
  refine hRR _ _ s6 ys H5 mm I8 (pG.fpOk (H':=jA H5 s2.heap.objs.size (.lst ys)) (ag _) ?_) uV (qn _ dn5);show jA H5 s2.heap.objs.size (.lst ys) h3.objs.size=none;rw [zm dne];exact I6.free
 exact zfc rfl (loop _ rfl) (T.self _ 0 _ _ _ (T.keep _ _ _ uR fun b hb o e=>old b o e) (loop _ rfl))
theorem ziA {wi:TI} (SC:CompSc X N' ix scope) (hc:X.calm=true) (qX:GS js g) (lO:∀ j∈js,j∉js') (qY:∀ j∈js++js',ix[j]? = some none) (hi:PI X tg iter wi)
  (hg:∀ s₃ H₃ ex jv,PG (zH X N' scope s₃ H₃ ex jv) tg g) (ht:∀ s₃ H₃ ex jv,zcZ (zH X N' scope s₃ H₃ ex jv) ifs ts) (hm:∀ s₃ H₃ ex jv D,PM (zH X N' scope s₃ H₃ ex jv) D js' (mk D (zH X N' scope s₃ H₃ ex jv).env) tm)
  (kZ:∀ it D env,compTurn (.ListComp elt (⟨tg,iter,ifs,0⟩ :: gs) scope pos) 0 it (.ref D) env=zbA tg ifs iter.pos (mk D env) (.compLoop (.ListComp elt (⟨tg,iter,ifs,0⟩ :: gs) scope pos) 0 it (.ref D) env) it env)
  (hs:∀ x,foldedSetIterable iter X.env x=pure x:=by intro _; rfl):PE X (.ListComp elt (⟨tg,iter,ifs,0⟩ :: gs) scope pos) (zf8 ix wi g ts tm):=by
 intro jv s σ H Q I h;rw [eval_ListComp];have uQ:∀ y∈scope.names,y.2 = .free→∃ c,X.env.cells.lookup y.1=some c:=fun y hy hf=>I.ok.has y.1 (SC.free y hy hf)
 refine f6 (use:=none) rfl hs (zbk uQ) SC.kind SC.names (thn (hi jv s σ H _ I h) fun v s1 h1=>thn h1 fun sG s2 h2=>?_);obtain⟨it,fp,tn,J,H2,e,I2,T,jT,f2,q⟩:=h2;subst e;refine zcR (RR:=fun acc C=>compPost (model X.prog X.w) X.A X.xe none (EP X jv σ Q) acc C) SC hc qX lO qY hg ht hm kZ I2 T jT f2 q ?_;intro D C s' ys H' m I' xT hm q';refine⟨m,hm,fun rY k9=>⟨.ref D,_,?_,rfl,q'⟩⟩;obtain⟨f0,f1,xM,f3,f4,f5⟩:=xT;exact I'.turned (t':=s'.toks) (fun b o hb e=>k9.extBut b o hb e) f0 f1 f3 f4 f5
theorem zcS {wi:TI} {i:Nat} {x:Str} {pos' lP:Pos} (hN:X.N.Nodup) (qK:X.N[i]? = some x) (hx:Loc X.env.scope x) (SC:CompSc X N' ix scope) (hc:X.calm=true) (qX:GS js g) (lO:∀ j∈js,j∉js') (qY:∀ j∈js++js',ix[j]? = some none) (hi:PI X tg iter wi)
  (hg:∀ s₃ H₃ ex jv,PG (zH X N' scope s₃ H₃ ex jv) tg g) (ht:∀ s₃ H₃ ex jv,zcZ (zH X N' scope s₃ H₃ ex jv) ifs ts) (hm:∀ s₃ H₃ ex jv D,PM (zH X N' scope s₃ H₃ ex jv) D js' (mk D (zH X N' scope s₃ H₃ ex jv).env) tm)
  (kZ:∀ it D env,compTurn (.ListComp elt (⟨tg,iter,ifs,0⟩ :: gs) scope pos) 0 it (.ref D) env=zbA tg ifs iter.pos (mk D env) (.compLoop (.ListComp elt (⟨tg,iter,ifs,0⟩ :: gs) scope pos) 0 it (.ref D) env) it env)
  (uW:swapsWith (.ListComp elt (⟨tg,iter,ifs,0⟩ :: gs) scope pos) (some (.Name x pos')) lP.line X.env=pure true:=by rfl)
  (hs:∀ x,foldedSetIterable iter X.env x=pure x:=by intro _; rfl) (hf:X.fn x=true∨X.env.scope.names.lookup x=some .local:=by first | exact .inl rfl | exact .inr rfl | assumption) :
  PS X (.Assign [.Name x pos'] (.ListComp elt (⟨tg,iter,ifs,0⟩ :: gs) scope pos) lP) (zf2 (zf8 ix wi g ts tm) (zaM i)):=by
 intro jv s σ H D I h;have uQ:∀ y∈scope.names,y.2 = .free→∃ c,X.env.cells.lookup y.1=some c:=fun y hy hf=>I.ok.has y.1 (SC.free y hy hf)
 rw [exec_Assign_Name_used _ _ _ _ uW]; refine aa (eG (aa ?_));show wpAny _ X.A (do let _ ← comprehension (.ListComp elt (⟨tg,iter,ifs,0⟩ :: gs) scope pos) scope X.env _ (newList []) false (eval iter X.env) (some (assign (.Name x pos') X.env))) _ _ s;refine aa (bH (f6 (use:=some (assign (.Name x pos') X.env)) (Q:=fun _ s'=>SP X jv D .next s') rfl hs (zbk uQ) SC.kind SC.names
  (thn (hi jv s σ H _ I h) fun v s1 h1=>thn h1 fun sG s2 h2=>?_)) (fun _ s' hq=>ah (ah hq)) fun _ _ e=>e)
 obtain⟨it,fp,tn,J,H2,e,I2,T,jT,f2,q⟩:=h2;subst e;refine zcR (Q:=fun x H1=>zaM i x σ H1 D.nx) (RR:=fun acc C=>compPost (model X.prog X.w) X.A X.xe (some (assign (.Name x pos') X.env)) (fun _ s'=>SP X jv D .next s') acc C) SC hc qX lO qY hg ht hm kZ I2 T jT f2 q ?_;intro Da C s' ys H' m I' xT hm q';show wpAny _ X.A (assign (.Name x pos') X.env (.ref Da)) _ _ _;refine wpAny_assign_Name (zeb I' hN qK hx (show RelV (.ref Da) (.ref Da) from rfl) (fun sI I'' ⟨a,kz,ha⟩=>?_) hf);obtain⟨f0,f1,xM,f3,f4,f5⟩:=xT;have hCa:C≠a:=by
  rcases ha with e | e
  ·rw [e]; exact f1
  ·exact dh (f4 x a e)
 refine⟨m,hm.sameBut kz hCa,fun h₃ hs₃=>⟨_,_,?_,q'⟩⟩;exact I''.turned (t':=sI.toks) (fun b o hb e=>hs₃.extBut b o hb e) f0 f1 f3 f4 f5
end
theorem zk8 {elt t1 i1 t2 i2:Expr} {f1 f2:List Expr} {scope:Scope} {pos:Pos} (it:Value) (D:Addr) (env:Env):compTurn (.ListComp elt [⟨t1,i1,f1,0⟩,⟨t2,i2,f2,0⟩] scope pos) 0 it (.ref D) env =
  zbA t1 f1 i1.pos (zgC (.ListComp elt [⟨t1,i1,f1,0⟩,⟨t2,i2,f2,0⟩] scope pos) i2 1 (.ref D) env) (.compLoop (.ListComp elt [⟨t1,i1,f1,0⟩,⟨t2,i2,f2,0⟩] scope pos) 0 it (.ref D) env) it env:=by rfl
theorem zk9 {elt t1 i1 t2 i2:Expr} {f1 f2:List Expr} {scope:Scope} {pos:Pos} (it:Value) (D:Addr) (env:Env):compTurn (.ListComp elt [⟨t1,i1,f1,0⟩,⟨t2,i2,f2,0⟩] scope pos) 1 it (.ref D) env =
  zbA t2 f2 i2.pos (zeo elt (.ref D) env) (.compLoop (.ListComp elt [⟨t1,i1,f1,0⟩,⟨t2,i2,f2,0⟩] scope pos) 1 it (.ref D) env) it env:=by rfl
def zcJ (ix:List (Option Nat)):List Nat:=(br ix.length).filter fun j=>ix[j]? == some none
theorem zbB {ix:List (Option Nat)} {i:Nat}:i∈zcJ ix↔ix[i]? = some none:=by
 unfold zcJ;rw [bG,bW,beq_iff_eq];exact⟨fun h=>h.2,fun h=>⟨(aG.mp h).1,h⟩⟩
def GK (ix:List (Option Nat)) (g:TG):Prop:=GS (zcJ ix) g
def GKs (ix:List (Option Nat)) (g:TGs):Prop:=GSs (zcJ ix) g
theorem zaN {ix:List (Option Nat)} {i:Nat} (hi:ix[i]? = some none):GK ix (zaM i):=zgA (zbB.2 hi)
theorem zb0 {ix:List (Option Nat)}:GKs ix zhs:=zgB
theorem zas {ix:List (Option Nat)} {i:Nat} {u:TGs} (hi:ix[i]? = some none) (h2:GKs ix u):GKs ix (zce (zaM i) u):=zdo (zbB.2 hi) h2
theorem zcK {ix:List (Option Nat)} {K:af} {n:Nat} {t:TGs} (h:GKs ix t):GK ix (zf1 K n t):=zix h
theorem zhz {ix:List (Option Nat)} {g:TG} {u:TGs} (h1:GK ix g) (h2:GKs ix u) (mono:∀ (x:V) (σ:St) (H:Hp) (Q Q':St→Hp→Prop),(∀ σ' H',Q σ' H'→Q' σ' H')→g x σ H Q→g x σ H Q'):GKs ix (zce g u):=fun σ σ1 xs H Q hw h=>by
 obtain⟨v,r,e,h⟩:=h;refine⟨v,r,e,mono v σ1 H _ _ (fun σ' H' q=>?_) (h1 σ σ1 v H _ hw h)⟩;exact h2 σ σ' r H' Q q.1 q.2
theorem zkE {elt t1 i1:Expr} {f1:List Expr} {scope:Scope} {pos:Pos} (it:Value) (D:Addr) (env:Env):compTurn (.ListComp elt [⟨t1,i1,f1,0⟩] scope pos) 0 it (.ref D) env =
  zbA t1 f1 i1.pos (zeo elt (.ref D) env) (.compLoop (.ListComp elt [⟨t1,i1,f1,0⟩] scope pos) 0 it (.ref D) env) it env:=by rfl
section
variable {X:Cx} {elt tg iter:Expr} {ifs:List Expr} {scope:Scope} {pos:Pos} {N':List Str} {ix:List (Option Nat)} {g:TG} {ts:TT} {te:TE}
theorem zaB {wi:TI} (SC:CompSc X N' ix scope) (hc:X.calm=true) (hk:GK ix g) (hi:PI X tg iter wi)
  (hg:∀ s₃ H₃ ex jv,PG (zH X N' scope s₃ H₃ ex jv) tg g) (ht:∀ s₃ H₃ ex jv,zcZ (zH X N' scope s₃ H₃ ex jv) ifs ts) (he:∀ s₃ H₃ ex jv,PE (zH X N' scope s₃ H₃ ex jv) elt te)
  (hs:∀ x,foldedSetIterable iter X.env x=pure x:=by intro _; rfl):PE X (.ListComp elt [⟨tg,iter,ifs,0⟩] scope pos) (zkD ix wi g ts te) :=
 ziA (mk:=fun D env=>zeo elt (.ref D) env) (js:=zcJ ix) (js':=[]) SC hc hk (fun _ _ h=>nomatch h) (fun j h=>zbB.1 (by simpa using h)) hi hg ht (fun s₃ H₃ ex jv D=>zf9 rfl (he s₃ H₃ ex jv)) (fun _ _ _=>zkE _ _ _) hs
theorem zbC {wi:TI} {i:Nat} {x:Str} {pos' lP:Pos} (hN:X.N.Nodup) (qK:X.N[i]? = some x) (hx:Loc X.env.scope x) (SC:CompSc X N' ix scope) (hc:X.calm=true) (hk:GK ix g) (hi:PI X tg iter wi)
  (hg:∀ s₃ H₃ ex jv,PG (zH X N' scope s₃ H₃ ex jv) tg g) (ht:∀ s₃ H₃ ex jv,zcZ (zH X N' scope s₃ H₃ ex jv) ifs ts) (he:∀ s₃ H₃ ex jv,PE (zH X N' scope s₃ H₃ ex jv) elt te)
  (uW:swapsWith (.ListComp elt [⟨tg,iter,ifs,0⟩] scope pos) (some (.Name x pos')) lP.line X.env=pure true:=by rfl)
  (hs:∀ x,foldedSetIterable iter X.env x=pure x:=by intro _; rfl) (hf:X.fn x=true∨X.env.scope.names.lookup x=some .local:=by first | exact .inl rfl | exact .inr rfl | assumption) :
  PS X (.Assign [.Name x pos'] (.ListComp elt [⟨tg,iter,ifs,0⟩] scope pos) lP) (zf2 (zkD ix wi g ts te) (zaM i)) :=
 zcS (mk:=fun D env=>zeo elt (.ref D) env) (js:=zcJ ix) (js':=[]) hN qK hx SC hc hk (fun _ _ h=>nomatch h) (fun j h=>zbB.1 (by simpa using h)) hi hg ht (fun s₃ H₃ ex jv D=>zf9 rfl (he s₃ H₃ ex jv)) (fun _ _ _=>zkE _ _ _) uW hs hf
end
section
variable {X:Cx} {jv:List (Addr×Obj)} {σ:St} {H:Hp} {s:Shared} {h':Heap}
theorem Inv.turnedL {t':Nat} {ch:List Addr} (I:Inv X jv σ H s) (k:∀ b o,b∉ch→s.heap.get? b=some o→h'.get? b=some o) (hf:∀ b∈ch,zbO X jv H b)
  (th:∀ b∈ch,∃ o,h'.get? b=some o):Inv X jv σ H { s with heap:=h',toks:=t' }:=by
 have oD:∀ b u,H b=some u→b∉ch:=fun b u e z=>by rw [(hf b z).1] at e; cases e
 refine I.step (g':=s.gens) (d':=s.drawn) (ch:=ch) (fun b hb=>?_) (fun b o _ _ hc e _=>k b o hc e) (fun b o _ _ hc e _=>⟨o.slots,k b o hc e⟩) (fun _ _ _ _ n=>n)
  (fun b o hc e=>⟨o,k b o hc e⟩) (fun _ _ e=>e) (fun _ _ _ e=>e) (fun b ps e=>⟨#[],by rw [e]; simp⟩) (fun m hm=>?_) (fun b u e=>?_) I.bare
 ·obtain⟨_,a1,_,a3,a4,a5⟩:=hf b hb;exact⟨a3,a1,a4,a5⟩
 ·obtain⟨o,es,ep,ho,r⟩:=hm;exact⟨o,es,ep,k _ o (fun z=>(hf _ z).2.1 rfl) ho,r⟩
 ·refine (I.hok b u e).stay (fun c v hc q=>k c v ?_ q) (fun _ q=>q) fun _ _ q=>q
  rcases hc with z | z
  ·rw [z]; exact oD b u e
  ·exact oD c _ z
theorem Inv.turnedNew {t':Nat} {ch:List Addr} {T:Addr} {o:HO} (I:Inv X jv σ H s) (k:∀ b o,b∉ch→s.heap.get? b=some o→h'.get? b=some o) (hf:∀ b∈ch,zbO X jv H b)
  (th:∀ b∈ch,∃ o,h'.get? b=some o) (hT:s.heap.objs.size≤T) (ok:zai X.prog X.w (jA H T o) h' T o):Inv X jv σ (jA H T o) { s with heap:=h',toks:=t' }:=by
 have I1:Inv X jv σ H { s with heap:=h',toks:=t' }:=I.turnedL k hf th;have hn:H T=none:=I.hok.fresh hT;obtain⟨_,a1,a2,a3,a4,a5⟩:=I.fpOk (H':=H) hT hn;exact I1.track hn (aZ I.sz hT) (dh a1) a4 a5 ok
end
theorem zbD {h:Heap} {T:Addr} {a b:Value} (e:h.get? T=some { cls:=.type "tuple",data:=.seq #[a,b] }):IsTup h T ([a,b]:List Value).toArray:=⟨_,e,rfl,_,rfl⟩
theorem zaK:2≤sizeLine:=by rw [bu]; decide
def zhA (mK mL:Hp→Addr→List V→Prop) (a b:Addr):It :=
 ⟨fun i H=>∃ xs ys x y,mK H a xs∧mL H b ys∧xs[i]? = some x∧ys[i]? = some y,
  fun i H x H'=>∃ T u v,H T=none∧x = .ref T∧H'=jA H T (.tup [u,v])∧(∀ xs,mK H a xs→xs[i]? = some u)∧∀ ys,mL H b ys→ys[i]? = some v,
  fun i H=>∃ xs ys,mK H a xs∧mL H b ys∧(xs.length≤i∨ys.length≤i)⟩
theorem zhB {P:Program} {w:World} {K:af} {es:List Expr} {k:Nat} {pos:Pos} (a b:Addr) (n:Nat) (ha:a < n) (hb:b < n):Turn P w K (.Tuple es k pos) (zhA (jy K) (jy K) a b) [n+4,n+2,n+3,n,n+1] (n+4)
  (fun i h=>IsZip h (n+4) (n+2) (n+3) .none∧IsPair h (n+2) (.ref n) (.ref (n+1))∧(∃ u v,IsPair h (n+3) u v)∧h.IsListIter n a i∧h.IsListIter (n+1) b i) where
 mem:=by simp
 obj:=fun i h st c hc=>by
  obtain⟨h1,h2,⟨u,v,h3⟩,⟨o4,e4,_,d4⟩,⟨o5,e5,_,d5⟩⟩:=st;simp only [aA,aU,or_false] at hc;rcases hc with z | z | z | z | z <;> subst z
  ·exact⟨_,h1,fun v z=>by cases z⟩
  ·exact⟨_,h2,fun v z=>by cases z⟩
  ·exact⟨_,h3,fun v z=>by cases z⟩
  ·exact⟨_,e4,fun v z=>by rw [d4] at z; cases z⟩
  ·exact⟨_,e5,fun v z=>by rw [d5] at z; cases z⟩
 keep:=fun i h h' st kk=>by
  obtain⟨h1,h2,⟨u,v,h3⟩,h4,h5⟩:=st;exact⟨kk _ #[M] _ h1,kk _ #[M] _ h2,⟨u,v,kk _ #[M] _ h3⟩,h4.at fun o eo=>kk _ #[M] o eo,h5.at fun o eo=>kk _ #[M] o eo⟩
 item:=by
  intro X hP hw hK hc i jv s σ H E I hf st hg;subst hP hw hK;obtain⟨xs,ys,x,y,mB,la,hx,hy⟩:=hg;obtain⟨h1,h2,⟨u0,v0,h3⟩,h4,h5⟩:=st;obtain⟨j4,oE,p1,mC⟩:=I.list mB;obtain⟨kg,oY,p2,pS⟩:=I.list la;obtain⟨u,hu,ru⟩:=oE.get hx;obtain⟨v,hv,rv⟩:=oY.get hy;have hzs:n+4 < s.heap.objs.size:=au h1;refine wpAny_pyNext_zip_item (cI ha hb) h1 h2 h3 h4 h5 p1.isList p2.isList (x:=u) (y:=v) (by simpa using hu) (by simpa using hv) fun h' a1 a2 a3 a4 a5 a6 kk=>?_
  have k1:∀ c o,c∉[n+4,n+3,n,n+1]→s.heap.get? c=some o→h'.get? c=some o:=fun c o jB eo =>
   kk c o (fun z=>jB (by simp [z])) (fun z=>jB (by simp [z])) (fun z=>jB (by simp [z])) (fun z=>jB (by simp [z])) eo
  have sub:∀ c∈[n+4,n+3,n,n+1],c∈[n+4,n+2,n+3,n,n+1]:=fun c jB=>by
   simp only [aA,aU,or_false] at jB ⊢;rcases jB with z | z | z | z <;> subst z <;> simp
  have uX:∀ c∈[n+4,n+3,n,n+1],∃ o,h'.get? c=some o:=fun c jB=>by
   simp only [aA,aU,or_false] at jB;rcases jB with z | z | z | z <;> subst z
   ·exact⟨_,a1⟩
   ·exact⟨_,a2⟩
   ·obtain⟨o,e,_⟩:=a3; exact⟨o,e⟩
   ·obtain⟨o,e,_⟩:=a4; exact⟨o,e⟩
  have I1:Inv X jv σ (jA H s.heap.objs.size (.tup [x,y])) { s with heap:=h' } :=
   I.turnedNew (t':=s.toks) k1 (fun c jB=>hf c (sub c jB)) uX (ag _) ⟨zaK,_,.cons ru (.cons rv .nil),zbD a5⟩
  refine⟨_,rfl,wpAny_letOwnedTupleGo_zip a1 fun rY pT k9=>?_⟩;have fr:∀ c∈[n+4,n+2,n+3,n,n+1],jA H s.heap.objs.size (.tup [x,y]) c=none:=fun c jB=>by
   have jN:c < s.heap.objs.size:=by
    simp only [aA,aU,or_false] at jB;rcases jB with z | z | z | z | z <;> subst z <;> lia
   rw [zm (aT jN)];exact (hf c jB).1
  have I2:Inv X jv σ (jA H s.heap.objs.size (.tup [x,y])) { s with heap:=rY } :=
   Inv.turnedL (s:={ s with heap:=h' }) (ch:=[n+4]) (t':=s.toks) I1 (fun c o jB eo=>k9.extBut c o (by simpa using jB) eo) (fun c jB=>by
    have z:c=n+4:=by simpa using jB
    subst z;exact⟨fr _ #[M],(hf _ #[M]).2⟩) (fun c jB=>by
    have z:c=n+4:=by simpa using jB
    subst z;exact⟨_,pT⟩)
  refine⟨.ref s.heap.objs.size,_,I2,rfl,⟨_,x,y,I.fresh,rfl,rfl,fun zs hz=>by rw [I.list_inj hz mB]; exact hx,fun zs hz=>by rw [I.list_inj hz la]; exact hy⟩,
   ⟨pT,k9.extBut _ _ (cI ha hb).TIz (kk _ _ (cI ha hb).TIz (cI ha hb).TITO (cI ha hb).TIi1 (cI ha hb).TIi2 h2),⟨_,_,k9.extBut _ _ (cI ha hb).TOz a2⟩,a3.extBut k9.extBut (cI ha hb).i1z,a4.extBut k9.extBut (cI ha hb).i2z⟩,fr⟩
 done:=by
  intro X hP hw hK hc i jv s σ H E I hf st hg;subst hP hw hK;obtain⟨xs,ys,mB,la,hx⟩:=hg;obtain⟨h1,h2,⟨u0,v0,h3⟩,h4,h5⟩:=st;obtain⟨j4,oE,p1,mC⟩:=I.list mB;obtain⟨kg,oY,p2,pS⟩:=I.list la;have pU:=oE.length;have mV:=oY.length;refine wpAny_pyNext_zip_end (I.ok.hd hc) (cI ha hb) h1 h2 h3 h4 h5 p1.isList p2.isList ?_ fun h' kk=>⟨rfl,?_⟩
  ·rcases hx with z | z
   ·exact .inl (by simp; lia)
   ·exact .inr (by simp; lia)
  ·have hth:∀ c∈[n+4,n+3,n,n+1],c∈[n+4,n+2,n+3,n,n+1]:=fun c jB=>by
    simp only [aA,aU,or_false] at jB ⊢;rcases jB with z | z | z | z <;> subst z <;> simp
   refine I.step (g':=s.gens) (d':=s.drawn) (t':=s.toks) (ch:=[n+4,n+3,n,n+1]) (fun c jB=>?_) (fun c o _ _ j9 e _=>kk c o (fun z=>j9 (by simp [z])) (fun z=>j9 (by simp [z])) (fun z=>j9 (by simp [z])) (fun z=>j9 (by simp [z])) e)
    (fun c o _ _ j9 e _=>⟨o.slots,kk c o (fun z=>j9 (by simp [z])) (fun z=>j9 (by simp [z])) (fun z=>j9 (by simp [z])) (fun z=>j9 (by simp [z])) e⟩) (fun _ _ _ _ n=>n)
    (fun c o j9 e=>⟨o,kk c o (fun z=>j9 (by simp [z])) (fun z=>j9 (by simp [z])) (fun z=>j9 (by simp [z])) (fun z=>j9 (by simp [z])) e⟩) (fun _ _ e=>e) (fun _ _ _ e=>e) (fun c ps e=>⟨#[],by rw [e]; simp⟩) (fun m hm=>?_) (fun c u e=>?_) I.bare
   ·obtain⟨_,a1,_,a3,a4,a5⟩:=hf c (hth c jB);exact⟨a3,a1,a4,a5⟩
   ·obtain⟨o,qH,ep,ho,r⟩:=hm;have ne:∀ c∈[n+4,n+2,n+3,n,n+1],X.env.locals≠c:=fun c jB=>dh (hf c jB).2.1
    exact⟨o,qH,ep,kk _ o (ne _ #[M]) (ne _ #[M]) (ne _ #[M]) (ne _ #[M]) ho,r⟩
   ·have oD:∀ d u',H d=some u'→∀ c∈[n+4,n+2,n+3,n,n+1],d≠c:=fun d u' e' c jB z=>by rw [z,(hf c jB).1] at e'; cases e'
    refine (I.hok c u e).stay (fun d v' hd q=>kk d v' ?_ ?_ ?_ ?_ q) (fun _ q=>q) fun _ _ q=>q
    all_goals
     rcases hd with z | z
     ·rw [z]; exact oD c u e _ #[M]
     ·exact oD d _ z _ #[M]
 self:=fun _ _ _ _ _ st h=>eI st.1 h
def iZp (mK mL:Hp→Addr→List V→Prop) (ta:TA):TI:=fun σ H R=>ta σ H fun vs H1=>∃ a b xs ys,vs = [.ref a,.ref b]∧mK H1 a xs∧mL H1 b ys∧R (zhA mK mL a b) H1
theorem zgE {X:Cx} {es:List Expr} {k:Nat} {mX p pos:Pos} {a b:Expr} {ta:TA} (hg:Gl X "zip") (hm:X.mg "zip" = none) (ha:PA X [a,b] ta) (hs:starEach [a,b] X.env = [(false,eval a X.env),(false,eval b X.env)]:=by rfl) (k8:starEach [b] X.env = [(false,eval b X.env)]:=by rfl) :
  PI X (.Tuple es k mX) (.Call (.Name "zip" p) [a,b] [] pos) (iZp (jy X.K) (jy X.K) ta):=by
 intro jv s σ H R I h;refine Call_ (zbj I hg hm boot_zip (bx (thn (ha pos jv s σ H _ I h) fun us s1 ⟨vs,H1,I1,r1,q1⟩=>?_) (by rw [hs,k8]) (by rw [k8]; rfl)));obtain⟨l1,l2,xs,ys,e,mB,la,q⟩:=q1;subst e;cases r1 with
 | cons r rr =>
  cases rr with
  | cons r' rr =>
   cases rr;cases r;cases r';obtain⟨j4,oE,rZ,mC⟩:=I1.list mB;obtain⟨kg,oY,sQ,pS⟩:=I1.list la;have mY:l1 < s1.heap.objs.size:=by obtain⟨_,_,e,_⟩:=rZ; exact au e
   have mZ:l2 < s1.heap.objs.size:=by obtain⟨_,_,e,_⟩:=sQ; exact au e
   refine call_zip_2 rZ.isList sQ.isList fun h' b1 b2 b3 b4 b5 b6 kk=>?_
   have I2:Inv X jv σ H1 { s1 with heap:=h' }:=I1.kept (t':=s1.toks) kk;refine eI b1 ?_;refine⟨_,_,_,zhA (jy X.K) (jy X.K) l1 l2,H1,rfl,I2,zhB l1 l2 s1.heap.objs.size mY mZ,⟨b1,b2,⟨_,_,b3⟩,b4,b5⟩,fun c hc=>?_,q⟩;have hle:s1.heap.objs.size≤c:=by
    simp only [aA,aU,or_false] at hc;rcases hc with z | z | z | z | z <;> subst z <;> lia
   exact I1.fpOk hle (I1.hok.fresh hle)
def zfd (Sq:Hp→Addr→List V→Prop) (a:Addr) (n:Nat):It :=
 ⟨fun i H=>i < n∧∃ xs,Sq H a xs∧xs.length=n,fun i H x H'=>H'=H∧∀ xs,Sq H a xs→xs[n - 1 - i]? = some x,fun i H=>n≤i⟩
theorem zhC {P:Program} {w:World} {K:af} {tg:Expr} (a it:Addr) (n:Nat):Turn P w K tg (zfd (jy K) a n) [it] it (fun i h=>i≤n∧h.IsRevIter it a ((n:Int) - 1 - (i:Int))) where
 mem:=by simp
 obj:=fun i h st b hb=>by
  have z:b=it:=by simpa using hb
  subst z;obtain⟨_,o,e,c,d⟩:=st;exact⟨o,e,fun v z=>by rw [d] at z; cases z⟩
 keep:=fun i h h' st k=>⟨st.1,st.2.at fun o e=>k it #[M] o e⟩
 item:=by
  intro X hP hw hK hc i jv s σ H E I hf st hg;subst hP hw hK;obtain⟨mM,xs,hq,hl⟩:=hg;obtain⟨jx,rv,p,hz⟩:=I.list hq;have jE:=rv.length;obtain⟨x,hx⟩:∃ x,xs[n - 1 - i]? = some x:=⟨xs[n - 1 - i]'#[O],#[M]⟩;obtain⟨u,hu,ru⟩:=rv.get hx;obtain⟨f0,f1,f2,f3,f4,f5⟩:=hf it #[M];have e:(n:Int) - 1 - (i:Int)=((n - 1 - i:Nat):Int):=by lia
  have hit:=st.2;rw [e] at hit;refine wpAny_pyNext_rev_item hit p.isList (x:=u) (by simpa using hu) fun h' jz sb=>?_
  have I1:Inv X jv σ H { s with heap:=h' }:=I.turned (t':=s.toks) (fun b o hb e=>(sb.2 b hb).trans e) f0 f1 f3 f4 f5;have e2:((n - 1 - i:Nat):Int) - 1=(n:Int) - 1 - ((i+1:Nat):Int):=by lia
  rw [e2] at jz;obtain⟨o,eo,c,d⟩:=id jz;exact⟨u,rfl,ze8 (s:={ s with heap:=h' }) eo c d #[D] ⟨x,H,I1,ru,⟨rfl,fun ys hy=>by rw [I.list_inj hy hq]; exact hx⟩,⟨mM,jz⟩,fun b hb=>(hf b hb).1⟩⟩
 done:=by
  intro X hP hw hK hc i jv s σ H E I hf st hg;subst hP hw hK;obtain⟨f0,f1,f2,f3,f4,f5⟩:=hf it #[M];have mM:n≤i:=hg;have e:(n:Int) - 1 - (i:Int) = -1:=by have:=st.1; lia
  have hit:=st.2;rw [e] at hit;exact wpAny_pyNext_rev_end (I.ok.hd hc) hit fun h' eb=>⟨rfl,I.turned (t':=s.toks) (fun b o hb e=>eb b o hb e) f0 f1 f3 f4 f5⟩
 self:=fun _ _ _ _ _ st h=>gL st.2 h
end L2
end
section
namespace PySem
namespace F
theorem zep:Manifest.owners.lookup (String.ofList ['d','e','s','r','e','v','e','r'].reverse)=some Manifest.sig_reversed:=by kernel_rfl
theorem slot_rvd_next:Slot "reversed" "__next__" "reversed.__next__" :=
 .of (owner:="reversed") (n:="__next__") (by rw [eV,dE]; kernel_rfl) #[N] #[N] #[N] (by first | exact .inl #[N] | exact .inr #[N]) (by rw [fg]; kernel_rfl)
theorem entry_rvd_next:entryFor table "reversed.__next__" = some Builtin.«reversed.__next__»:=entryFor_of_tree (by kernel_rfl)
theorem args_rvd_next_1 (a:Value):argsOk "reversed.__next__" ⟨[a],[]⟩:=by
 unfold argsOk; rw [signature?_of (id:="reversed.__next__") (n:=['_','_','t','x','e','n','_','_']) (o:=['d','e','s','r','e','v','e','r']) (by kernel_rfl) zep]; kernel_rfl
theorem slot_rvd_iter:Slot "reversed" "__iter__" "reversed.__iter__" :=
 .of (owner:="reversed") (n:="__iter__") (by rw [eV,dE]; kernel_rfl) #[N] #[N] #[N] (by first | exact .inl #[N] | exact .inr #[N]) (by rw [fg]; kernel_rfl)
theorem args_rvd_iter_1 (a:Value):argsOk "reversed.__iter__" ⟨[a],[]⟩:=by
 unfold argsOk; rw [signature?_of (id:="reversed.__iter__") (n:=['_','_','r','e','t','i','_','_']) (o:=['d','e','s','r','e','v','e','r']) (by kernel_rfl) zep]; kernel_rfl
theorem entry_rvd_iter:entryFor table "reversed.__iter__" = some Builtin.«dict_keyiterator.__iter__»:=entryFor_alias (id':="dict_keyiterator.__iter__") (by kernel_rfl) (by first | rfl | decide +kernel | (unfold String.splitOn; simp +decide [String.splitOnAux])) #[N] (by kernel_rfl)
theorem zd0:Slot "reversed" "__init__" "object.__init__":=.of (owner:="object") (n:="__init__") (by rw [eV,dE]; kernel_rfl) #[N] #[N] #[N] (by first | exact .inl #[N] | exact .inr #[N]) (by rw [fg]; kernel_rfl)
theorem called_rvd:TypeCalled "reversed" "reversed.__new__" "object.__init__" :=
 ⟨#[N],#[N],⟨_,_,mro_reversed⟩,made_reversed,#[N],by rw [fg]; kernel_rfl,zd0⟩
theorem noRev_tuple:typeLookup (.type "tuple") "__reversed__" = pure none:=by rw [eV,dE]; kernel_rfl
end F
def zeL (l:Addr) (i:Int):Obj:={ cls:=.type "reversed",data:=.fields #[.ref l,rawInt i] }
def Heap.IsRvd (h:Heap) (a l:Addr) (i:Int):Prop:=∃ o,h.get? a=some o∧o.cls = .type "reversed"∧o.data = .fields #[.ref l,rawInt i]
theorem Heap.IsRvd.typeIs {s:Shared} {a l:Addr} {i:Int} (x:s.heap.IsRvd a l i):s.TypeIs (.ref a) "reversed":=let ⟨o,ho,hc,_⟩:=x; ⟨o,ho,hc⟩
theorem Heap.IsRvd.at {h h':Heap} {a l:Addr} {i:Int} (x:h.IsRvd a l i) (e:∀ o,h.get? a=some o→h'.get? a=some o):h'.IsRvd a l i:=let ⟨o,ho,r⟩:=x; ⟨o,e _ ho,r⟩
open PyProof.Rows in
theorem zd1 (l:Addr) (jD:Array Value) :
  Meets (Builtin.«reversed.__new__» ⟨[.type "reversed",.ref l],[]⟩) (fun _ R s=>IsTup s.heap l jD∧(jD.size:Int) < 2 ^ 63 ∧
   R (.ok (.ret (.ref s.heap.objs.size))) { s with heap:=s.heap.push (zeL l ((jD.size:Int) - 1)),toks:=s.toks+1+1 }) :=
 .of_wp fun prog w A R s h=>by
  obtain⟨hl,hsz,h⟩:=h;unfold Builtin.«reversed.__new__»; refine aa (df (newClass_reversed _) ?_)
  try dsimp only
  iterate 2 refine aa (df (a:=()) (by first | rfl | kernel_rfl) ?_)
  try dsimp only
  refine aa (eW hl.typeIs F.noRev_tuple ?_)
  try dsimp only
  refine aa (aa (m:=isInstance (.ref l) (.type "dict")) (dL hl.typeIs F.sub_tuple_dict ?_));simp only [aX,if_false]; refine aa (m:=specialOf (.ref l) "__getitem__") (eW hl.typeIs slot_tuple_getitem.lookup ?_);refine ah ?_
  try dsimp only
  try simp only [Bool.not_true,aX,if_false]
  refine aa (len_tuple hl hsz ?_);refine aa (m:=asInt? _) (df (a:=some (jD.size:Int)) rfl ?_)
  try dsimp only
  refine aa (m:=je _ _) ?_;show wpAny _ _ (newObj (.type "reversed") (.fields #[.ref l,rawInt ((jD.size:Int) - 1)]) none) _ _ _;refine b7 ?_;exact ah ⟨_,rfl,h⟩
section
variable {prog:Program} {w:World} {A:Around} {E:Value→Shared→Prop} {s:Shared}
open PyProof.Rows
theorem zdp {l:Addr} {jD:Array Value} {Q:Value→Shared→Prop} (hl:IsTup s.heap l jD) (hsz:(jD.size:Int) < 2 ^ 63)
  (h:Q (.ref s.heap.objs.size) { s with heap:=s.heap.push (zeL l ((jD.size:Int) - 1)),toks:=s.toks+1+1 }):wpAny (model prog w) A (call (.type "reversed") [.ref l]) Q E s:=by
 refine io F.called_rvd #[D] (F.typeCall_reversed_1 _) (F.newCall_reversed_1 _) (fun obj=>gM obj _) F.entry_reversed_new (zd1 l jD) ⟨hl,hsz,?_⟩; exact⟨⟨_,aq _ rfl,rfl⟩,h⟩
theorem zbN {it l:Addr} {i:Nat} {jD:Array Value} {x:Value} {Q:Option Value→Shared→Prop} (hit:s.heap.IsRvd it l (i:Int)) (hl:IsTup s.heap l jD) (hx:jD[i]? = some x) (hi:(i:Int) < 2 ^ 62)
  (hQ:∀ h',h'.IsRvd it l ((i:Int) - 1)→aW it s.heap h'→Q (some x) { s with heap:=h',toks:=s.toks+1 }):wpAny (model prog w) A (pyNext (.ref it)) Q E s:=by
 obtain⟨o,ho,hc,hd⟩:=id hit; unfold pyNext;refine aa (cr (bb (name:=bd "__next__") hit.typeIs F.slot_rvd_next
  (bo F.slot_rvd_next hit.typeIs F.entry_rvd_next ?_ (F.args_rvd_next_1 _))))
 unfold Builtin.«reversed.__next__»;refine aa (df (a:=(aO it,[])) rfl ?_); try dsimp only
 refine aa (bj ho hd (x:=.ref l) rfl ?_); refine aa (bj ho hd (x:=rawInt (i:Int)) rfl ?_);show wpAny _ _ (if (i:Int) < 0 then _ else _) _ _ s; rw [if_neg #[O]];refine aa (eW hl.typeIs slot_tuple_getitem.lookup ?_)
 try simp only [Option.isNone_some,aX,if_false]
 refine aa (wpAny_mkInt ?_); have jN:i < jD.size:=by
  obtain⟨h1,_⟩:=cu.mp hx;exact h1
 refine aa (cr (getItem_tuple (j:=i) hl #[O] #[O] (by rw [gp #[O] #[O]]; simp) hx ?_))
 try dsimp only
 refine aa (bj (s:={ s with toks:=s.toks+1 }) ho hd (x:=rawInt (i:Int)) rfl ?_);show wpAny _ _ (setField (.ref it) 1 (rawInt ((i:Int) - 1)) >>= _) _ _ _;refine aa (dj (s:={ s with toks:=s.toks+1 }) ho hd #[M] (ah ⟨x,rfl,ah (hQ _ ?_ (bq ..))⟩));exact⟨_,cY _ ho (dF (cC hd _)),(fM ..).trans hc,by rw [cC hd]; simp⟩
theorem zbR {it l:Addr} {Q:Option Value→Shared→Prop} (hh:A.handled=none) (hit:s.heap.IsRvd it l (-1)) (hQ:∀ h',iG it s.heap h'→Q none { s with heap:=h' }):wpAny (model prog w) A (pyNext (.ref it)) Q E s:=by
 obtain⟨o,ho,hc,hd⟩:=id hit; unfold pyNext;refine aa (cr (bb (name:=bd "__next__") hit.typeIs F.slot_rvd_next
  (bo F.slot_rvd_next hit.typeIs F.entry_rvd_next ?_ (F.args_rvd_next_1 _))))
 unfold Builtin.«reversed.__next__»;refine aa (df (a:=(aO it,[])) rfl ?_); try dsimp only
 refine aa (bj ho hd (x:=.ref l) rfl ?_); refine aa (bj ho hd (x:=rawInt (-1)) rfl ?_);show wpAny _ _ (if (-1:Int) < 0 then _ else _) _ _ s; rw [if_pos #[D]];refine aa (bS ?_);refine aa (aa (m:=setField (.ref it) 1 (rawInt (-1))) (dj ho hd #[M] ?_));have hd2:=cC hd (·.setIfInBounds 1 (rawInt (-1)));have sd:=cY (fF (·.setIfInBounds 1 (rawInt (-1)))) ho (dF hd2);refine dj sd hd2 #[M] ?_
 try dsimp only
 refine aa ?_; show wpAny _ _ (newExc (.type "StopIteration") [] >>= _) _ _ _;refine aa ?_;simp only [newExc,newTuple];refine aa (b7 ?_ (by size_fits)); refine aa (m:=firstArgMember _ _) (df (a:=cU) (by first | rfl | (simp only [firstArgMember]; rfl)) ?_);refine b7 ?_ (by size_fits); simp only [raiseNew];refine aa (gO ?_); first | rw [show A.in1.handled=none from hh] | rw [hh]
 refine aa (ah (iH ?_)); refine aa (dL (T:="StopIteration") (b:=true) ⟨_,aq _ rfl,rfl⟩ fh ?_);exact ah (hQ _ ((((bq ..).extBut.trans (bq ..).extBut).push _).push _))
theorem zbs {it l:Addr} {i:Int} {Q:Value→Shared→Prop} (hit:s.heap.IsRvd it l i) (h:Q (.ref it) s):wpAny (model prog w) A (pyIter (.ref it)) Q E s:=by
 refine fN hit.typeIs F.slot_rvd_iter (bo F.slot_rvd_iter hit.typeIs F.entry_rvd_iter ?_ (F.args_rvd_iter_1 _));show wpAny _ _ (ret (.ref it)) _ _ s; exact ah ⟨_,rfl,"reversed",_,hit.typeIs,F.slot_rvd_next.lookup,h⟩
end
section
variable {prog:Program} {w:World} {A:Around} {E:Value→Shared→Prop} {s:Shared}
theorem zfe {it t:Addr} {i:Nat} {jD:Array Value} {x:Value} {Q:Value→Shared→Prop} (hit:s.heap.IsTupleIter it t i) (ht:s.heap.IsTuple t jD) (hx:jD[i]? = some x)
  (hQ:∀ h',h'.IsTupleIter it t (i+1)→aW it s.heap h'→Q x { s with heap:=h' }):wpAny (model prog w) A (aV (.ref it)) Q E s:=by
 obtain⟨o,ho,hc,hd⟩:=id hit; obtain⟨ot,xU,_,nt,xV⟩:=ht;unfold aV; refine aa (bb (name:=bd "__next__") hit.typeIs c6 (bo c6 hit.typeIs fz ?_ (fi _)));show wpAny _ _ (field (.ref it) 0 >>= _) _ _ s; refine aa (bj ho hd (x:=.ref t) rfl ?_); show wpAny _ _ (if (aO t == cU)=true then _ else _) _ _ _; rw [if_neg (by exact aQ)];refine aa (bj ho hd (x:=.int _ 0) rfl ?_); refine aa (m:=seqItems? _) (bX xU xV ?_); simp only [bE,hx];have hn:=cY (fF (·.setIfInBounds 1 (rawInt ((i+1:Nat):Int)))) ho (dF (cC hd _));refine aa (dj ho hd #[M] (ah ⟨x,rfl,ah (hQ _ ⟨_,hn,(fM ..).trans hc,?_⟩ (bq ..))⟩)); rw [cC hd]; simp [rawInt]
theorem zff {it t:Addr} {i:Nat} {jD:Array Value} {Q:Value→Shared→Prop} (hh:A.handled=none) (hit:s.heap.IsTupleIter it t i) (ht:s.heap.IsTuple t jD) (hx:jD[i]? = none)
  (hE:∀ h' e,iG it s.heap h'→(∃ o,h'.get? e=some o∧o.cls = .type "StopIteration")→E (.ref e) { s with heap:=h' }):wpAny (model prog w) A (aV (.ref it)) Q E s:=by
 obtain⟨o,ho,hc,hd⟩:=id hit; obtain⟨ot,xU,_,nt,xV⟩:=ht;unfold aV; refine aa (bb (name:=bd "__next__") hit.typeIs c6 (bo c6 hit.typeIs fz ?_ (fi _)));show wpAny _ _ (field (.ref it) 0 >>= _) _ _ s; refine aa (bj ho hd (x:=.ref t) rfl ?_); show wpAny _ _ (if (aO t == cU)=true then _ else _) _ _ _; rw [if_neg (by exact aQ)];refine aa (bj ho hd (x:=.int _ 0) rfl ?_); refine aa (m:=seqItems? _) (bX xU xV ?_); simp only [bE,hx];refine aa (bS (aa (dj ho hd #[M] ?_))); show wpAny _ _ (newExc (.type "StopIteration") [] >>= _) _ _ _; refine aa ?_;simp only [newExc,newTuple]; refine aa (b7 ?_ (by size_fits)); refine aa (m:=firstArgMember _ _) (df (a:=cU) (by first | rfl | (simp only [firstArgMember]; rfl)) ?_);refine b7 ?_ (by size_fits); simp only [raiseNew]; refine aa (gO ?_); first | rw [show A.in1.handled=none from hh] | rw [hh]
 refine aa (ah (iH ?_)); exact hE _ _ (((bq ..).extBut.push _).push _) ⟨_,aq _ rfl,rfl⟩
end
theorem Draws.tuple {prog:Program} {w:World} {A:Around} (hh:A.handled=none) (it t:Addr) (jU:t≠it) (jD:Array Value):Draws prog w A it [it,t] jD.size (fun i v=>jD[i]? = some v) (fun i h=>h.IsTupleIter it t i∧h.IsTuple t jD) where
 live:=fun i h st=>st.1.imp fun o r=>r.1
 frame:=fun i h h' st kk=>⟨st.1.at fun o=>kk it #[M] o,st.2.at fun o=>kk t #[M] o⟩
 item:=fun i s Q E hi st hQ=>zfe st.1 st.2 (x:=jD[i]) (by simp [hi]) fun h' a b=>hQ _ h' s.toks (by simp [hi]) ⟨a,st.2.extBut b.extBut jU⟩ b
 done:=fun s Q E st hE=>zff hh st.1 st.2 #[M] hE
def zbM (t:Addr):Obj:={ cls:=.type "tuple_iterator",data:=.fields #[.ref t,.int 0 0] }
def ziB (it:Addr):Obj:={ cls:=.type "enumerate",data:=.fields #[.none,.bool false,.ref it,rawInt 0,.none,.none] }
end PySem
namespace L2
open PySem PySem.Spec PyProof.Rows
theorem zhD {P:Program} {w:World} {K:af} {tg:Expr} (a it:Addr) (n:Nat):Turn P w K tg (zfd (jI K) a n) [it] it (fun i h=>i≤n∧h.IsRvd it a ((n:Int) - 1 - (i:Int))) where
 mem:=by simp
 obj:=fun i h st b hb=>by
  have z:b=it:=by simpa using hb
  subst z;obtain⟨_,o,e,c,d⟩:=st;exact⟨o,e,fun v z=>by rw [d] at z; cases z⟩
 keep:=fun i h h' st k=>⟨st.1,st.2.at fun o e=>k it #[M] o e⟩
 item:=by
  intro X hP hw hK hc i jv s σ H E I hf st hg;subst hP hw hK;obtain⟨mM,xs,hq,hl⟩:=hg;obtain⟨jx,rv,p,hz⟩:=I.tuple hq;have jE:=rv.length;have nW:=bu;obtain⟨x,hx⟩:∃ x,xs[n - 1 - i]? = some x:=⟨xs[n - 1 - i]'#[O],#[M]⟩;obtain⟨u,hu,ru⟩:=rv.get hx;obtain⟨f0,f1,f2,f3,f4,f5⟩:=hf it #[M];have e:(n:Int) - 1 - (i:Int)=((n - 1 - i:Nat):Int):=by lia
  have hit:=st.2;rw [e] at hit;refine zbN hit p (x:=u) (by simpa using hu) #[O] fun h' jz sb=>?_
  have I1:Inv X jv σ H { s with heap:=h',toks:=s.toks+1 }:=I.turned (t':=s.toks+1) (fun b o hb e=>(sb.2 b hb).trans e) f0 f1 f3 f4 f5;have e2:((n - 1 - i:Nat):Int) - 1=(n:Int) - 1 - ((i+1:Nat):Int):=by lia
  rw [e2] at jz;obtain⟨o,eo,c,d⟩:=id jz;exact⟨u,rfl,ze8 (s:={ s with heap:=h',toks:=s.toks+1 }) eo c d #[D] ⟨x,H,I1,ru,⟨rfl,fun ys hy=>by rw [I.tuple_inj hy hq]; exact hx⟩,⟨mM,jz⟩,fun b hb=>(hf b hb).1⟩⟩
 done:=by
  intro X hP hw hK hc i jv s σ H E I hf st hg;subst hP hw hK;obtain⟨f0,f1,f2,f3,f4,f5⟩:=hf it #[M];have mM:n≤i:=hg;have e:(n:Int) - 1 - (i:Int) = -1:=by have:=st.1; lia
  have hit:=st.2;rw [e] at hit;exact zbR (I.ok.hd hc) hit fun h' eb=>⟨rfl,I.turned (t':=s.toks) (fun b o hb e=>eb b o hb e) f0 f1 f3 f4 f5⟩
 self:=fun _ _ _ _ _ st h=>zbs st.2 h
theorem zeM {X:Cx} {tg:Expr} {jv:List (Addr×Obj)} {σ:St} {H1:Hp} {s1:Shared} {R:It→Hp→Prop} {l:Addr} {xs:List V} (I1:Inv X jv σ H1 s1) (hq:jI X.K H1 l xs) (q:R (zfd (jI X.K) l xs.length) H1) :
  wpAny (model X.prog X.w) X.A (call (.type "reversed") [.ref l]) (fun v s2=>wpAny (model X.prog X.w) X.A (pyIter v) (PIE X jv σ tg R) X.xe s2) X.xe s1:=by
 obtain⟨jx,rv,pl,hz⟩:=I1.tuple hq;have jE:=rv.length;have nW:=bu;refine zdp pl (by rw [ao]; lia) ?_;have I2:Inv X jv σ H1 { s1 with heap:=s1.heap.push (zeL l ((jx.toArray.size:Int) - 1)),toks:=s1.toks+1+1 }:=I1.kept fun b o e=>ae _ e
 have hr:(s1.heap.push (zeL l ((jx.toArray.size:Int) - 1))).IsRvd s1.heap.objs.size l ((xs.length:Int) - 1 - ((0:Nat):Int)):=by
  refine⟨_,aq _ rfl,rfl,?_⟩;have e1:(jx.toArray.size:Int) - 1=(xs.length:Int) - 1 - ((0:Nat):Int):=by rw [ao,jE]; lia
  show gl #[.ref l,rawInt ((jx.toArray.size:Int) - 1)]=_;rw [e1]
 refine zbs hr ?_;refine⟨_,[s1.heap.objs.size],_,zfd (jI X.K) l xs.length,H1,rfl,I2,zhD l s1.heap.objs.size xs.length,⟨a8 _,hr⟩,fun b hb=>?_,q⟩;have z:b=s1.heap.objs.size:=by simpa using hb
 subst z;exact I1.fpOk (ag _) (I1.hok.fresh (ag _))
theorem zfg {X:Cx} {tg:Expr} {jv:List (Addr×Obj)} {σ:St} {H1:Hp} {s1:Shared} {R:It→Hp→Prop} {l:Addr} {xs:List V} (I1:Inv X jv σ H1 s1) (hq:jy X.K H1 l xs) (q:R (zfd (jy X.K) l xs.length) H1) :
  wpAny (model X.prog X.w) X.A (call (.type "reversed") [.ref l]) (fun v s2=>wpAny (model X.prog X.w) X.A (pyIter v) (PIE X jv σ tg R) X.xe s2) X.xe s1:=by
 obtain⟨jx,rv,pl,hz⟩:=I1.list hq;have jE:=rv.length;refine call_reversed_list pl.isList ?_;have I2:Inv X jv σ H1 { s1 with heap:=s1.heap.push (revObj l ((jx.toArray.size:Int) - 1)) }:=I1.kept (t':=s1.toks) fun b o e=>ae _ e
 have hr:(s1.heap.push (revObj l ((jx.toArray.size:Int) - 1))).IsRevIter s1.heap.objs.size l ((xs.length:Int) - 1 - ((0:Nat):Int)):=by
  refine⟨_,aq _ rfl,rfl,?_⟩;have e1:(jx.toArray.size:Int) - 1=(xs.length:Int) - 1 - ((0:Nat):Int):=by rw [ao,jE]; lia
  show gl #[.ref l,rawInt ((jx.toArray.size:Int) - 1)]=_;rw [e1]
 refine gL hr ?_;refine⟨_,[s1.heap.objs.size],_,zfd (jy X.K) l xs.length,H1,rfl,I2,zhC l s1.heap.objs.size xs.length,⟨a8 _,hr⟩,fun b hb=>?_,q⟩;have z:b=s1.heap.objs.size:=by simpa using hb
 subst z;exact I1.fpOk (ag _) (I1.hok.fresh (ag _))
def zmy (K:af) (ta:TA):TI:=fun σ H R=>ta σ H fun vs H1=>∃ a xs,vs = [.ref a]∧((jy K H1 a xs∧R (zfd (jy K) a xs.length) H1)∨(jI K H1 a xs∧R (zfd (jI K) a xs.length) H1))
theorem zla {X:Cx} {tg:Expr} {p pos:Pos} {a:Expr} {ta:TA} (hg:Gl X "reversed") (hm:X.mg "reversed" = none) (ha:PA X [a] ta) (hs:starEach [a] X.env = [(false,eval a X.env)]:=by rfl) :
  PI X tg (.Call (.Name "reversed" p) [a] [] pos) (zmy X.K ta):=by
 intro jv s σ H R I h;refine Call_ (zbj I hg hm boot_reversed (bx (thn (ha pos jv s σ H _ I h) fun us s1 ⟨vs,H1,I1,r1,q1⟩=>?_) hs rfl));obtain⟨l,xs,e,hq⟩:=q1;subst e;cases r1 with
 | cons r rr =>
  cases rr;cases r;rcases hq with ⟨hq,q⟩ | ⟨hq,q⟩
  ·exact zfg I1 hq q
  ·exact zeM I1 hq q
inductive EqD (K:af) (H:Hp):Nat→V→V→Bool→Prop where
 | flat {d:Nat} {x y:V} (hx:zbQ x=true) (hy:zbQ y=true):EqD K H d x y (eqV x y)
 | same {d:Nat} {a:Addr}:EqD K H d (.ref a) (.ref a) true
 | lists {d:Nat} {a b:Addr} {xs ys:List V} {e:Nat→Bool} (jU:a≠b) (ha:jy K H a xs) (hb:jy K H b ys) (hl:xs.length=ys.length)
   (he:∀ (j:Nat) x y,xs[j]? = some x→ys[j]? = some y→EqD K H d x y (e j)):EqD K H (d+1) (.ref a) (.ref b) ((br xs.length).all e)
 | lens {d:Nat} {a b:Addr} {xs ys:List V} (jU:a≠b) (ha:jy K H a xs) (hb:jy K H b ys) (hl:xs.length≠ys.length):EqD K H (d+1) (.ref a) (.ref b) false
 | tups {d:Nat} {a b:Addr} {xs ys:List V} {e:Nat→Bool} (jU:a≠b) (ha:jI K H a xs) (hb:jI K H b ys)
   (he:∀ (j:Nat) x y,xs[j]? = some x→ys[j]? = some y→EqD K H d x y (e j)):EqD K H (d+1) (.ref a) (.ref b) ((br (min xs.length ys.length)).all e && xs.length == ys.length)
theorem zG.getE {xs:List V} {us:List Value} (r:zG xs us) {j:Nat} (h:j < us.toArray.size):∃ x,xs[j]? = some x∧RelV x us.toArray[j]:=by
 have hl:=r.length;have hj:j < xs.length:=by rw [hl]; simpa using h
 obtain⟨u,hu,ru⟩:=r.get (i:=j) (x:=xs[j]) #[M];refine⟨xs[j],#[M],?_⟩;have:us.toArray[j]=u:=by
  have h2:j < us.length:=by simpa using h
  rw [az h2] at hu;simpa using aN hu
 rw [this];exact ru
theorem EqD.at {X:Cx} {jv:List (Addr×Obj)} {σ:St} {H:Hp} {s:Shared} (I:Inv X jv σ H s) {d:Nat} {x y:V} {b:Bool} (h:EqD X.K H d x y b) :
  ∀ (A:Around) (u v:Value),RelV x u→RelV y v→A.units+d < cLine→iZ A s u v b:=by
 induction h with
 | flat hx hy=>exact fun A u v rx ry _=>zin rx ry hx hy
 | same=>intro A u v rx ry _; cases rx; cases ry; exact i0 _
 | lists jU ha hb hl he ih =>
  intro A u v rx ry hu;cases rx; cases ry;obtain⟨sR,r1,p1,_⟩:=I.list ha;obtain⟨sS,r2,p2,_⟩:=I.list hb;have l1:=r1.length;have l2:=r2.length;refine fA jU ?_;have q:=SeqAt.RcAt.lists (A:=A) p1.isList p2.isList (by simp only [ao]; lia) #[O] fun j h1 h2=>by
   obtain⟨x,hx,rx⟩:=r1.getE h1;obtain⟨y,hy,ry⟩:=r2.getE h2;exact ih j x y hx hy A.in1 _ _ rx ry (by simp only [cA]; lia)
  rw [ao,← l1] at q;exact q
 | lens jU ha hb hl =>
  intro A u v rx ry hu;cases rx; cases ry;obtain⟨sR,r1,p1,_⟩:=I.list ha;obtain⟨sS,r2,p2,_⟩:=I.list hb;have l1:=r1.length;have l2:=r2.length;exact fA jU (SeqAt.RcAt.lists_lengths p1.isList p2.isList (by simp only [ao,bne_iff_ne]; lia) #[O])
 | tups jU ha hb he ih =>
  intro A u v rx ry hu;cases rx; cases ry;obtain⟨sR,r1,p1,_⟩:=I.tuple ha;obtain⟨sS,r2,p2,_⟩:=I.tuple hb;have l1:=r1.length;have l2:=r2.length;refine fA jU ?_;have q:=SeqAt.RcAt.tuples (A:=A) (s:=s) p1 p2 #[O] fun j h1 h2=>by
   obtain⟨x,hx,rx⟩:=r1.getE h1;obtain⟨y,hy,ry⟩:=r2.getE h2;exact ih j x y hx hy A.in1 _ _ rx ry (by simp only [cA]; lia)
  rw [ao,ao,← l1,← l2] at q;exact q
def zl2 (K:af) (neg:Bool):R2:=fun x y H Q=>∃ a b xs ys,x = .ref a∧y = .ref b∧((jy K H a xs∧jy K H b ys)∨(jI K H a xs∧jI K H b ys)) ∧
 ((xs.length≠ys.length∧(∀ (j:Nat) x y,xs[j]? = some x→ys[j]? = some y→∃ c,EqD K H 8 x y c)∧Q (.bl neg) H) ∨
  (xs.length=ys.length∧∃ e:Nat→Bool,(∀ (j:Nat) x y,xs[j]? = some x→ys[j]? = some y→EqD K H 8 x y (e j))∧Q (.bl (if neg then !(br xs.length).all e else (br xs.length).all e)) H))
theorem zlb {X:Cx} (hu:X.A.units+20 < cLine):OpR X (compareOp .NotEq) (zl2 X.K true):=by
 intro jv s σ H x y v u Q I rx ry h;obtain⟨a,b,xs,ys,rfl,rfl,hk,h⟩:=h;cases rx; cases ry;rcases hk with ⟨ha,hb⟩ | ⟨ha,hb⟩
 ·obtain⟨sR,r1,p1,_⟩:=I.list ha;obtain⟨sS,r2,p2,_⟩:=I.list hb;have l1:=r1.length;have l2:=r2.length;rcases h with ⟨hl,_,q⟩ | ⟨hl,e,he,q⟩
  ·exact SeqAt.RcNeAt.lists_lengths p1.isList p2.isList (by simp only [ao,bne_iff_ne]; lia) #[O] _ _ _ _ ⟨.bl true,H,I,rfl,q⟩
  ·refine SeqAt.RcNeAt.lists p1.isList p2.isList (e:=e) (by simp only [ao]; lia) #[O] (fun j h1 h2=>?_) _ _ _ _ ⟨.bl _,H,I,rfl,?_⟩
   ·obtain⟨x,hx,rx⟩:=r1.getE h1;obtain⟨y,hy,ry⟩:=r2.getE h2;exact (he j x y hx hy).at I _ _ _ rx ry (by simp only [cA]; lia)
   ·rw [ao,← l1];exact q
 ·obtain⟨sR,r1,p1,_⟩:=I.tuple ha;obtain⟨sS,r2,p2,_⟩:=I.tuple hb;have l1:=r1.length;have l2:=r2.length;rcases h with ⟨hl,he,q⟩ | ⟨hl,e,he,q⟩
  ·have qL:∀ j:Nat,∃ c:Bool,∀ x y,xs[j]? = some x→ys[j]? = some y→EqD X.K H 8 x y c:=fun j=>by
    cases hx:xs[j]? with
    | none=>exact⟨true,fun x y z=>by cases z⟩
    | some x =>
     cases hy:ys[j]? with
     | none=>exact⟨true,fun x y _ z=>by cases z⟩
     | some y =>
      obtain⟨c,hc⟩:=he j x y hx hy;exact⟨c,fun x' y' z1 z2=>by cases z1; cases z2; exact hc⟩
   obtain⟨e,qZ⟩:=Classical.axiomOfChoice qL;refine g9 (s:=s) p1 p2 (e:=e) #[O] (fun j h1 h2=>?_) _ _ _ _ ⟨.bl _,H,I,rfl,?_⟩
   ·obtain⟨x,hx,rx⟩:=r1.getE h1;obtain⟨y,hy,ry⟩:=r2.getE h2;exact (qZ j x y hx hy).at I _ _ _ rx ry (by simp only [cA]; lia)
   ·have pH:(sR.toArray.size == sS.toArray.size)=false:=by
     rw [ao,ao]; exact beq_eq_false_iff_ne.mpr #[O]
    rw [pH,Bool.and_false];exact q
  ·refine g9 (s:=s) p1 p2 (e:=e) #[O] (fun j h1 h2=>?_) _ _ _ _ ⟨.bl _,H,I,rfl,?_⟩
   ·obtain⟨x,hx,rx⟩:=r1.getE h1;obtain⟨y,hy,ry⟩:=r2.getE h2;exact (he j x y hx hy).at I _ _ _ rx ry (by simp only [cA]; lia)
   ·have pH:(sR.toArray.size == sS.toArray.size)=true:=by
     rw [ao,ao]; exact beq_iff_eq.mpr #[O]
    have xW:min sR.toArray.size sS.toArray.size=xs.length:=by rw [ao,ao]; lia
    rw [pH,Bool.and_true,xW];exact q
theorem ziC {K:af} {H:Hp} {ms ns:List Int}:∀ (j:Nat) x y,(ms.map V.int)[j]? = some x→(ns.map V.int)[j]? = some y→EqD K H 8 x y ((fun j=>decide (ms[j]? = ns[j]?)) j):=fun j x y hx hy=>by
 rw [am] at hx hy;cases h1:ms[j]? with
 | none=>rw [h1] at hx; cases hx
 | some m =>
  cases h2:ns[j]? with
  | none=>rw [h2] at hy; cases hy
  | some n =>
   rw [h1] at hx; rw [h2] at hy;cases hx; cases hy;have e:eqV (.int m) (.int n)=decide (some m=some n):=by
    show (m == n)=_;rw [bI]; simp
   show EqD K H 8 (.int m) (.int n) (decide (ms[j]? = ns[j]?));rw [h1,h2,← e];exact EqD.flat rfl rfl
theorem zfh {X:Cx}:zbn X (.type "range") (fun xs H Q=>∃ j:Int,xs = [.int j]∧∀ l,H l=none→Q (.ref l) (jA H l (.rng 0 j))):=by
 intro jv s σ H xs us Q I r h;obtain⟨j,rfl,q⟩:=h;obtain⟨u,rfl,t,rfl⟩:=vals1 r;refine call_range_1 ?_;exact⟨.ref s.heap.objs.size,_,I.laid (o:=.rng 0 j) (fun b o e=>ae _ e) (ag _) ⟨_,_,_,aq _ rfl⟩,rfl,q _ I.fresh⟩
def zbl (lo:Int) (n:Nat):List Int:=(br n).map fun (i:Nat)=>lo+(i:Int)
theorem zcf (lo:Int) (n:Nat):(zbl lo n).length=n:=by simp [zbl]
theorem zd2 {acc:Array Value} {lo:Int} {n:Nat} (h:ItemsOf (fun i v=>∃ t,v = .int (lo+(i:Nat)*1) t) acc n):zG ((zbl lo n).map V.int) acc.toList:=by
 obtain⟨hsz,hv⟩:=h;have go:∀ (us:List Value) (k:Nat),(∀ (j:Nat) v,us[j]? = some v→∃ t,v = .int (lo+((k+j:Nat):Int)) t)→zG (((br us.length).map fun (i:Nat)=>V.int (lo+((k+i:Nat):Int)))) us:=by
  intro us;induction us with
  | nil=>intro k _; exact .nil
  | cons u us ih =>
   intro k hu;rw [bT,gu,aS,bn];refine .cons ?_ ?_
   ·obtain⟨t,e⟩:=hu 0 u rfl;exact⟨t,e⟩
   ·have:=ih (k+1) fun j v e=>by
     obtain⟨t,z⟩:=hu (j+1) v (by simpa using e);exact⟨t,by rw [z]; congr 1; lia⟩
    have e2:(fun (i:Nat)=>V.int (lo+((k+1+i:Nat):Int)))=((fun (i:Nat)=>V.int (lo+((k+i:Nat):Int))) ∘ Nat.succ):=by
     funext i;show V.int _=V.int _;congr 2;show ((k+1+i:Nat):Int)=((k+(i+1):Nat):Int);lia
    rw [← e2];exact this
 have h1:=go acc.toList 0 fun j v e=>by
  obtain⟨t,z⟩:=hv j v (by simpa using e);exact⟨t,by rw [z]; simp⟩
 have e1:acc.toList.length=n:=by simpa using hsz
 rw [e1] at h1;unfold zbl;rw [bn];have e2:(V.int ∘ fun (i:Nat)=>lo+(i:Int))=fun (i:Nat)=>V.int (lo+((0+i:Nat):Int)):=by
  funext i;show V.int (lo+(i:Int))=V.int (lo+((0+i:Nat):Int));rw [cJ]
 rw [e2];exact h1
theorem zd3 {X:Cx} (hc:X.calm=true):zbn X (.type "list") (fun xs H Q=>∃ p hi,xs = [.ref p]∧H p=some (.rng 0 hi)∧0≤hi∧hi≤1000∧∀ l,H l=none→Q (.ref l) (jA H l (.lst ((zbl 0 hi.toNat).map V.int)))):=by
 intro jv s σ H xs us Q I r h;obtain⟨p,hi,rfl,hp,h0,h1,q⟩:=h;obtain⟨u,rfl,rx⟩:=vals1 r;cases rx;obtain⟨t,u',v,e⟩:=(show zai X.prog X.w H s.heap p (.rng 0 hi) from I.hok p _ hp);have nW:=bu;refine call_list_range (n:=hi.toNat) (I.ok.hd hc) (show IsRange s.heap p 0 hi 1 t u' v from e) (small_one #[O] #[O] #[O] #[O]) (by rw [rangeSize_one]; split <;> lia) #[O] fun h' tk xX c' kk ho pV=>?_
 have hv:=zd2 (lo:=0) (n:=hi.toNat) pV;refine⟨.ref s.heap.objs.size,_,I.laid kk (ag _) ?_,rfl,q _ I.fresh⟩;exact⟨by rw [ab,zcf]; lia,xX.toList,c',hv,by simpa using ho⟩
def zmz (K:af) (tl:TE):TI:=fun σ H R=>tl σ H fun x H1=>∃ a,x = .ref a∧(((∃ xs,jy K H1 a xs)∧R (Itl K a) H1)∨((∃ xs,jI K H1 a xs)∧R (Itt K a) H1))
theorem zlc {X:Cx} {tg l:Expr} {tl:TE} (hl:PE X l tl):PI X tg l (zmz X.K tl):=by
 intro jv s σ H R I h;refine thn (hl jv s σ H _ I h) fun v s1 ⟨x,H1,I1,r1,q1⟩=>?_
 obtain⟨a,e,q⟩:=q1;subst e;cases r1;rcases q with ⟨⟨xs,hq⟩,q⟩ | ⟨⟨xs,hq⟩,q⟩
 ·obtain⟨jx,rv,p,hz⟩:=I1.list hq;refine fJ p.isList ?_;refine⟨s1.heap.objs.size,[s1.heap.objs.size],_,_,H1,rfl,I1.kept (t':=s1.toks) fun b o e=>ae _ e,zee a _,⟨_,aq _ rfl,rfl,rfl⟩,fun b hb=>?_,q⟩;have e:b=s1.heap.objs.size:=by simpa using hb
  subst e;exact I1.fpOk (ag _) (I1.hok.fresh (ag _))
 ·obtain⟨jx,rv,p,hz⟩:=I1.tuple hq;refine fw (show s1.heap.IsTuple a jx.toArray from p) ?_;refine⟨s1.heap.objs.size,[s1.heap.objs.size],_,_,H1,rfl,I1.kept (t':=s1.toks) fun b o e=>ae _ e,zdj a _,⟨_,aq _ rfl,rfl,rfl⟩,fun b hb=>?_,q⟩;have e:b=s1.heap.objs.size:=by simpa using hb
  subst e;exact I1.fpOk (ag _) (I1.hok.fresh (ag _))
def intsOf:List Expr→Option (List Int)
 | []=>some []
 | .Constant (.int i) _ _ :: r=>(intsOf r).map (i :: ·)
 | _=>none
def zeq (ns:List Int):TA:=fun _ H Q=>Q (ns.map V.int) H
theorem ziD {X:Cx}:∀ (es:List Expr) (ns:List Int),intsOf es=some ns→PA X es (zeq ns):=by
 intro es;induction es with
 | nil =>
  intro ns h;have e:ns = []:=(aN h).symm;subst e;exact zf
 | cons e r ih =>
  intro ns h;unfold intsOf at h;split at h
  ·rename_i heq
   cases heq
  ·rename_i i j p r' heq
   injection heq with e1 e2
   subst e1 e2;cases hr:intsOf r with
   | none=>rw [hr] at h; cases h
   | some ms =>
    rw [hr] at h;have e:i :: ms=ns:=aN h;subst e;exact za ze (ih ms hr)
  ·cases h
theorem zjP {X:Cx} {es:List Expr} {ns:List Int} (h:intsOf es=some ns):PA X es (zeq ns):=ziD es ns h
theorem zcg {X:Cx} {i:Int} {j:Nat} {p:Pos} {es:List Expr} {t:TA} (hr:PA X es t):PA X (.Constant (.int i) j p :: es) (zkB (tC (.int i)) t):=za ze hr
theorem ziE {X:Cx} {i:Nat} {x:Str} {pos' mE lP:Pos} {rest:List Stmt} {u:TS} {es:List Expr} {ns:List Int} (h:intsOf es=some ns) (hN:X.N.Nodup) (hi:X.N[i]? = some x) (hx:Loc X.env.scope x)
  (hf:X.fn x=true∨X.env.scope.names.lookup x=some .local) (hr:PSs X rest u):PSs X (.Assign [.Name x pos'] (.List es mE) lP :: rest) (zaL (zf2 (zjJ (zeq ns)) (zaM i)) u):=by
 have h1:PE X (.List es mE) (zjJ (zeq ns)):=@zad X es (zeq ns) mE (@zjP X es ns h);have h2:PS X (.Assign [.Name x pos'] (.List es mE) lP) (zf2 (zjJ (zeq ns)) (zaM i)):=zn hN hi hx h1 (by rfl) hf;exact zd h2 hr
section
variable {X:Cx} {K:af}
theorem zfi (hK:X.K=K):IxR X (zlX K):=by subst hK; exact zB
theorem ziF (hK:X.K=K):SlR X (zlY K):=by subst hK; exact zbZ
theorem zga (hK:X.K=K):OpR X (compareOp .In) (rIn K false):=by subst hK; exact zhv
def zl3 (K:af):List V→Hp→VK→Prop:=fun xs H Q=>∃ p ys,xs = [.ref p]∧(jy K H p ys∨jI K H p ys)∧Q (.int ys.length) H
theorem za1 (hK:X.K=K):zbn X (.builtin "len") (zl3 K):=by subst hK; exact zw
theorem zbE {es:List Expr} {k:Nat} {t:TGs} {n:Nat} {pos:Pos} (hK:X.K=K) (hc:X.calm=true) (h:PGs X es t)
  (hn:(assignEach es X.env).length=n:=by rfl) (ml:(assignEach es X.env).findIdx? (·.1)=none:=by rfl):PG X (.Tuple es k pos) (zf1 K n t):=by subst hK; exact zba hc h hn ml
theorem zld {o e:Expr} {es:List Expr} {to:TE} {t:TA} {name:Str} {apos j5:Pos} {T id:String} {r:V→List V→Hp→VK→Prop} (hK:X.K=K) (pa:PlainAttrs T) (slot:Slot T name id) (xF:typeOf (.builtin id)=pure (.type "method_descriptor")) (hm:MtR X id r) (ho:PE X o to) (ha:PA X (e :: es) t)
  (pQ:attributeBase o name X.env (eval o X.env)=eval o X.env:=by rfl)
  (sJ:((backTo j5 (starEach (e :: es) X.env)).all (fun x=>!x.1) && (backToKw j5 (keywordEach [] X.env)).all (fun x=>x.1.isSome)
   && decide ((e :: es).length+([]:List Keyword).length+(if ([]:List Keyword).isEmpty then 0 else 1) < 30))=true:=by rfl)
  (pR:(apos.endLine == j5.line)=true:=by rfl) (hs:starEach (e :: es) X.env=(false,eval e X.env) :: starEach es X.env:=by rfl) (nZ:(backTo j5 (starEach es X.env)).any (·.1)=false:=by rfl) :
  PE X (.Call (.Attribute o name apos) (e :: es) [] j5) (tBM K T r to t):=by subst hK; exact zgx pa slot xF hm ho ha pQ sJ pR hs nZ
end
end L2
end
section
namespace My
def Cg (p a b:Int):Prop:=∃ k,a=b+p*k
theorem Cg.refl (p a:Int):Cg p a a:=⟨0,by grind⟩
theorem Cg.symm {p a b:Int} (h:Cg p a b):Cg p b a:=by obtain⟨k,e⟩:=h; exact⟨-k,by grind⟩
theorem Cg.trans {p a b c:Int} (h:Cg p a b) (h':Cg p b c):Cg p a c:=by
 obtain⟨k,e⟩:=h; obtain⟨l,e'⟩:=h'; exact⟨k+l,by grind⟩
theorem Cg.add {p a b c d:Int} (h:Cg p a b) (h':Cg p c d):Cg p (a+c) (b+d):=by
 obtain⟨k,e⟩:=h; obtain⟨l,e'⟩:=h'; exact⟨k+l,by grind⟩
theorem Cg.sub {p a b c d:Int} (h:Cg p a b) (h':Cg p c d):Cg p (a - c) (b - d):=by
 obtain⟨k,e⟩:=h; obtain⟨l,e'⟩:=h'; exact⟨k - l,by grind⟩
theorem Cg.mul {p a b c d:Int} (h:Cg p a b) (h':Cg p c d):Cg p (a*c) (b*d):=by
 obtain⟨k,e⟩:=h; obtain⟨l,e'⟩:=h';exact⟨k*d+b*l+p*k*l,by subst e e'; grind⟩
theorem Cg.of_eq {p a b:Int} (h:a=b):Cg p a b:=h ▸ Cg.refl p a
theorem Cg.emod (p a:Int):Cg p (a % p) a:=⟨-(a / p),by have:=Int.emod_add_mul_ediv a p; grind⟩
theorem Cg.mod_eq {p a b:Int} (h:Cg p a b):a % p=b % p:=by
 obtain⟨k,e⟩:=h; rw [e,Int.add_mul_emod_self_left]
theorem Cg.of_mod {p a b:Int} (h:a % p=b % p):Cg p a b:=(Cg.emod p a).symm.trans (h ▸ Cg.emod p b)
theorem Cg.eq {p a b:Int} (h:Cg p a b) (ha:0≤a) (ha':a < p) (hb:0≤b) (pH:b < p):a=b:=by
 have:=h.mod_eq
 rwa [dD ha ha',dD hb pH] at this
def zj (p x:Int):List Int→Int
 | []=>0
 | c :: r=>(c+x*zj p x r) % p
theorem zaO {p x:Int} (hp:0 < p):∀ l,0≤zj p x l
 | []=>bM 0
 | _ :: _=>aK _ #[O]
theorem zaP {p x:Int} (hp:0 < p):∀ l,zj p x l < p
 | []=>hp
 | _ :: _=>aC _ hp
theorem zI (p x c:Int) (r:List Int):Cg p (zj p x (c :: r)) (c+x*zj p x r):=Cg.emod _ _
def lv (p x:Int):Int→Int→List Int→Int
 | jC,_,[]=>jC
 | jC,power,c :: r=>lv p x ((jC+c*power) % p) (power*x % p) r
theorem zkF {p x:Int}:∀ (l:List Int) (jC power:Int),Cg p (lv p x jC power l) (jC+power*zj p x l)
 | [],jC,power=>Cg.of_eq (by show jC=jC+power*0; grind)
 | c :: r,jC,power=>by
  have h1:=zkF (p:=p) (x:=x) r ((jC+c*power) % p) (power*x % p);refine h1.trans ?_;have h2:Cg p ((jC+c*power) % p+power*x % p*zj p x r) (jC+c*power+power*x*zj p x r):=(Cg.emod p _).add ((Cg.emod p (power*x)).mul (Cg.refl p _));refine h2.trans ?_;have h3:Cg p (jC+power*(c+x*zj p x r)) (jC+power*zj p x (c :: r)):=(Cg.refl p _).add ((Cg.refl p _).mul (zI p x c r).symm);refine (Cg.of_eq ?_).trans h3;grind
theorem ziG {p x:Int} (hp:0 < p):∀ (l:List Int) (jC power:Int),0≤jC→jC < p→0≤lv p x jC power l∧lv p x jC power l < p
 | [],jC,power,h1,h2=>⟨h1,h2⟩
 | c :: r,jC,power,h1,h2=>ziG hp r _ _ (aK _ #[O]) (aC _ hp)
theorem zgF {p x:Int} (hp:0 < p) (l:List Int):lv p x 0 1 l=zj p x l:=by
 obtain⟨a,b⟩:=ziG (x:=x) hp l 0 1 (bM _) hp;exact ((zkF l 0 1).trans (Cg.of_eq (by grind))).eq a b (zaO hp l) (zaP hp l)
def zt:List Int:=[5,7,11,13,17,19,23,29,31,37,41,43,47,53,59,61,67,71,73,79,83,89,97]
def zb1 (p:Int):Nat→Int→Int→Int→Int
 | 0,prod,_,_=>prod
 | n+1,prod,sq,left=>if 0 < left then zb1 p n (if left % 2=1 then prod*sq % p else prod) (sq*sq % p) (left / 2) else prod
def inv (p h:Int):Int:=zb1 p 7 1 (h % p) (p - 2)
def zmA:Bool:=zt.all fun p=>(br p.toNat).all fun h=>h == 0 || (inv p h*h) % p == 1
theorem zhE:zmA=true:=by decide +kernel
theorem zM {p:Int} (hp:p∈zt):5≤p∧p≤97:=by
 have:zt.all (fun p=>decide (5≤p∧p≤97))=true:=by decide +kernel
 have:=dk.mp this p hp;simpa using this
theorem zgb {p h:Int} (hp:p∈zt) (h0:0 < h) (h1:h < p):Cg p (inv p h*h) 1:=by
 have e:=dk.mp (dk.mp zhE p hp) h.toNat (bW.mpr #[O]);have hh:((h.toNat:Nat):Int)=h:=by lia
 have:h.toNat≠0:=by lia
 simp only [i8,beq_iff_eq,hh,this,false_or] at e;have hr:=zM hp;exact Cg.of_mod (by rw [e,dD #[O] #[O]])
theorem zfj {p a b:Int} (hp:p∈zt) (h:Cg p (a*b) 0):Cg p a 0∨Cg p b 0:=by
 have hr:=zM hp;by_cases ha:a % p=0
 ·exact .inl (Cg.of_mod (by rw [ha]; simp))
 ·right;have h0:0 < a % p:=by have:=aK a (show p≠0 by lia); lia
  have hi:=zgb hp h0 (aC a #[O]);have h1:Cg p (inv p (a % p)*(a*b)) 0:=((Cg.refl p _).mul h).trans (Cg.of_eq (by grind));have h2:Cg p (inv p (a % p)*(a % p)*b) (1*b):=hi.mul (Cg.refl p b);have h3:Cg p (inv p (a % p)*(a*b)) (inv p (a % p)*(a % p)*b):=by
   have:=((Cg.refl p (inv p (a % p))).mul (Cg.emod p a).symm).mul (Cg.refl p b);exact (Cg.of_eq (by grind)).trans this
  exact ((Cg.of_eq (by grind)).trans (h2.symm.trans (h3.symm.trans h1)))
def trF (p r:Int) (high low:Int):Int:=(high - r*low) % p
def zbf (p r:Int) (v:List Int):List Int:=be (trF p r) (0 :: v) (v++[0])
theorem ziH {p r z:Int}:∀ (v:List Int) (h:Int),Cg p (zj p z (be (trF p r) (h :: v) (v++[0]))) (h+(z - r)*zj p z v)
 | [],h=>by
  show Cg p ((trF p r h 0+z*0) % p) (h+(z - r)*0);refine (Cg.emod p _).trans ?_;have:Cg p (trF p r h 0) (h - r*0):=Cg.emod p _;exact (this.add (Cg.refl p (z*0))).trans (Cg.of_eq (by grind))
 | c :: w,h=>by
  show Cg p ((trF p r h c+z*zj p z (be (trF p r) (c :: w) (w++[0]))) % p) (h+(z - r)*zj p z (c :: w));have ih:=ziH (p:=p) (r:=r) (z:=z) w c;have h1:Cg p (trF p r h c) (h - r*c):=Cg.emod p _;refine (Cg.emod p _).trans ((h1.add ((Cg.refl p z).mul ih)).trans ?_);have h2:Cg p (h+(z - r)*(c+z*zj p z w)) (h+(z - r)*zj p z (c :: w)):=(Cg.refl p h).add ((Cg.refl p _).mul (zI p z c w).symm);exact (Cg.of_eq (by grind)).trans h2
theorem zjQ {p r z:Int} (v:List Int):Cg p (zj p z (zbf p r v)) ((z - r)*zj p z v):=(ziH v 0).trans (Cg.of_eq (by grind))
theorem zcL (p r:Int) (v:List Int):(zbf p r v).length=v.length+1:=by simp [zbf]
theorem zfk {α β γ:Type} {f:α→β→γ}:∀ {as:List α} {bs:List β} {c:γ},c∈be f as bs→∃ a b,c=f a b
 | [],_,c,h=>by simp at h
 | _ :: _,[],c,h=>by simp at h
 | a :: as,b :: bs,c,h=>by
  rcases aA.mp h with e | e
  ·exact⟨a,b,e⟩
  ·exact zfk e
theorem zle {p r:Int} (hp:0 < p) (v:List Int):∀ c∈zbf p r v,0≤c∧c < p:=by
 intro c hc;obtain⟨a,b,e⟩:=zfk hc;rw [e]; exact⟨aK _ #[O],aC _ hp⟩
def ad (p f:Int):List Int→List Int→List Int
 | c :: cs,v :: vs=>(c+f*v) % p :: ad p f cs vs
 | cs,[]=>cs
 | [],_ :: _=>[]
theorem zer (p f:Int):∀ (cs vs:List Int),(ad p f cs vs).length=cs.length
 | _ :: cs,_ :: vs=>by show (ad p f cs vs).length+1=_; rw [zer p f cs vs]; rfl
 | [],[]=>rfl
 | _ :: _,[]=>rfl
 | [],_ :: _=>rfl
theorem ziI {p f:Int} (hp:0 < p):∀ (cs vs:List Int),(∀ c∈cs,0≤c∧c < p)→∀ c∈ad p f cs vs,0≤c∧c < p
 | c :: cs,v :: vs,h,d,hd=>by
  rcases aA.mp hd with e | e
  ·rw [e]; exact⟨aK _ #[O],aC _ hp⟩
  ·exact ziI hp cs vs (fun c hc=>h c (aj _ hc)) d e
 | [],[],h,d,hd=>h d hd
 | _ :: _,[],h,d,hd=>h d hd
 | [],_ :: _,h,d,hd=>by cases hd
theorem zgG {p f z:Int}:∀ (cs vs:List Int),vs.length≤cs.length→Cg p (zj p z (ad p f cs vs)) (zj p z cs+f*zj p z vs)
 | c :: cs,v :: vs,h=>by
  have ih:=zgG (p:=p) (f:=f) (z:=z) cs vs (by simpa using h);show Cg p (((c+f*v) % p+z*zj p z (ad p f cs vs)) % p) (zj p z (c :: cs)+f*zj p z (v :: vs));refine (Cg.emod p _).trans (((Cg.emod p (c+f*v)).add ((Cg.refl p z).mul ih)).trans ?_);have h2:Cg p ((c+z*zj p z cs)+f*(v+z*zj p z vs)) (zj p z (c :: cs)+f*zj p z (v :: vs)):=(zI p z c cs).symm.add ((Cg.refl p f).mul (zI p z v vs).symm);exact (Cg.of_eq (by grind)).trans h2
 | [],[],_=>Cg.of_eq (by show (0:Int)=0+f*0; grind)
 | c :: cs,[],_=>Cg.of_eq (by show zj p z (c :: cs)=zj p z (c :: cs)+f*0; grind)
 | [],_ :: _,h=>by simp at h
def zbS (p:Int) (s:List Int×List Int) (q:Int×Int):List Int×List Int :=
 (ad p ((q.2 - zj p q.1 s.1)*inv p (zj p q.1 s.2) % p) s.1 s.2,zbf p q.1 s.2)
def zl4 (p:Int) (n:Nat) (jG:List (Int×Int)):List Int×List Int:=jG.foldl (zbS p) (aE n 0,[1])
def thr (p:Int) (jG:List (Int×Int)):List Int:=(zl4 p jG.length jG).1
def zbT (z:Int):List (Int×Int)→Int
 | []=>1
 | q :: r=>(z - q.1)*zbT z r
theorem zdq (z:Int) (q:Int×Int):∀ l,zbT z (l++[q])=zbT z l*(z - q.1)
 | []=>by show (z - q.1)*1=1*(z - q.1); grind
 | a :: l=>by show (z - a.1)*zbT z (l++[q])=(z - a.1)*zbT z l*(z - q.1); rw [zdq z q l]; grind
theorem zdr {z:Int}:∀ {l:List (Int×Int)},(∃ q∈l,q.1=z)→zbT z l=0
 | [],h=>by obtain⟨q,hq,_⟩:=h; cases hq
 | a :: l,h=>by
  show (z - a.1)*zbT z l=0;obtain⟨q,hq,e⟩:=h;rcases aA.mp hq with hq | hq
  ·subst hq; rw [e]; simp
  ·rw [zdr ⟨q,hq,e⟩]; simp
theorem zfl {p z:Int} (hp:p∈zt) (hz:0≤z) (wD:z < p):∀ {l:List (Int×Int)},(∀ q∈l,0≤q.1∧q.1 < p∧q.1≠z)→¬ Cg p (zbT z l) 0
 | [],_,h=>by
  have hr:=zM hp;have:=h.mod_eq;have e1:(zbT z []:Int)=1:=rfl;rw [e1,dD #[O] #[O]] at this;simp at this
 | a :: l,hl,h=>by
  rcases zfj hp (show Cg p ((z - a.1)*zbT z l) 0 from h) with h | h
  ·obtain⟨h1,h2,h3⟩:=hl a aB;have:Cg p z a.1:=by
    have:=h.add (Cg.refl p a.1);exact (Cg.of_eq (by grind)).trans (this.trans (Cg.of_eq (by grind)))
   exact h3 (this.eq hz wD h1 h2).symm
  ·exact zfl hp hz wD (fun q hq=>hl q (aj _ hq)) h
structure Nw (p:Int) (n:Nat) (done:List (Int×Int)) (s:List Int×List Int):Prop where
 lc:s.1.length=n
 lv:s.2.length=done.length+1
 rc:∀ c∈s.1,0≤c∧c < p
 rv:∀ c∈s.2,0≤c∧c < p
 van:∀ z,Cg p (zj p z s.2) (zbT z done)
 hit:∀ q∈done,zj p q.1 s.1=q.2
theorem zfm {p:Int} (hp:p∈zt) (n:Nat):Nw p n [] (aE n 0,[1]):=by
 have hr:=zM hp;refine⟨#[M],rfl,fun c hc=>?_,fun c hc=>?_,fun z=>?_,fun q hq=>by cases hq⟩
 ·obtain⟨_,e⟩:=List.mem_replicate.mp hc;lia
 ·have:c=1:=by simpa using hc
  lia
 ·show Cg p ((1+z*0) % p) 1;exact (Cg.emod p _).trans (Cg.of_eq (by grind))
theorem zgH {p:Int} {n:Nat} {done:List (Int×Int)} {s:List Int×List Int} (hp:p∈zt) (h:Nw p n done s) {q:Int×Int} (q0:0≤q.1) (q1:q.1 < p) (hd:∀ a∈done,0≤a.1∧a.1 < p∧a.1≠q.1) :
  0 < zj p q.1 s.2∧zj p q.1 s.2 < p:=by
 have hr:=zM hp;refine⟨?_,zaP #[O] _⟩;have h0:=zaO (x:=q.1) (show 0 < p by lia) s.2;by_cases e:zj p q.1 s.2=0
 ·exact absurd ((h.van q.1).symm.trans (Cg.of_eq e)) (zfl hp q0 q1 hd)
 ·lia
theorem zhF {p:Int} {n:Nat} {done:List (Int×Int)} {s:List Int×List Int} (hp:p∈zt) (h:Nw p n done s) {q:Int×Int} (q0:0≤q.1) (q1:q.1 < p) (hd:∀ a∈done,0≤a.1∧a.1 < p∧a.1≠q.1) :
  Cg p ((q.2 - zj p q.1 s.1)*inv p (zj p q.1 s.2) % p*zj p q.1 s.2) (q.2 - zj p q.1 s.1):=by
 obtain⟨h0,h1⟩:=zgH hp h q0 q1 hd;have hi:=zgb hp h0 h1;refine ((Cg.emod p _).mul (Cg.refl p _)).trans ?_;have:=(Cg.refl p (q.2 - zj p q.1 s.1)).mul hi;exact (Cg.of_eq (by grind)).trans (this.trans (Cg.of_eq (by grind)))
theorem zgI {p:Int} {n:Nat} {done:List (Int×Int)} {s:List Int×List Int} (hp:p∈zt) (h:Nw p n done s) {q:Int×Int} (hn:done.length < n) (q0:0≤q.1) (q1:q.1 < p) (q2:0≤q.2) (q3:q.2 < p)
  (hd:∀ a∈done,0≤a.1∧a.1 < p∧a.1≠q.1∧0≤a.2∧a.2 < p):Nw p n (done++[q]) (zbS p s q):=by
 have hr:=zM hp;have qS:∀ a∈done,0≤a.1∧a.1 < p∧a.1≠q.1:=fun a ha=>⟨(hd a ha).1,(hd a ha).2.1,(hd a ha).2.2.1⟩
 have hlv:=h.lv;have hlc:=h.lc;have hle:s.2.length≤s.1.length:=by lia
 refine⟨by show (ad _ _ _ _).length=n; rw [zer,h.lc],by show (zbf _ _ _).length=_; rw [zcL,h.lv,av,cB],ziI #[O] _ _ h.rc,zle #[O] _,fun z=>?_,fun a ha=>?_⟩
 ·rw [zdq];exact (zjQ s.2).trans (((Cg.refl p _).mul (h.van z)).trans (Cg.of_eq (by grind)))
 ·have hv:=zgG (p:=p) (f:=(q.2 - zj p q.1 s.1)*inv p (zj p q.1 s.2) % p) (z:=a.1) s.1 s.2 hle; rcases aM.mp ha with ha | ha
  ·obtain⟨b0,b1,b2,b3,b4⟩:=hd a ha;have hz:Cg p (zj p a.1 s.2) 0:=(h.van a.1).trans (Cg.of_eq (zdr ⟨a,ha,rfl⟩));have h2:Cg p (zj p a.1 (ad p ((q.2 - zj p q.1 s.1)*inv p (zj p q.1 s.2) % p) s.1 s.2)) (zj p a.1 s.1):=hv.trans (((Cg.refl p (zj p a.1 s.1)).add ((Cg.refl p _).mul hz)).trans (Cg.of_eq (by rw [Int.mul_zero,Int.add_zero])));rw [h.hit a ha] at h2;exact h2.eq (zaO #[O] _) (zaP #[O] _) b3 b4
  ·have e:a=q:=by simpa using ha
   subst e;have h2:Cg p (zj p a.1 (ad p ((a.2 - zj p a.1 s.1)*inv p (zj p a.1 s.2) % p) s.1 s.2)) a.2:=hv.trans (((Cg.refl p (zj p a.1 s.1)).add (zhF hp h q0 q1 qS)).trans (Cg.of_eq #[O]));exact h2.eq (zaO #[O] _) (zaP #[O] _) q2 q3
structure Pts (p:Int) (jG:List (Int×Int)):Prop where
 nd:(jG.map (·.1)).Nodup
 rg:∀ q∈jG,0≤q.1∧q.1 < p∧0≤q.2∧q.2 < p
theorem Pts.apart {p:Int} {done rest:List (Int×Int)} {q:Int×Int} (h:Pts p (done++q :: rest)):∀ a∈done,0≤a.1∧a.1 < p∧a.1≠q.1∧0≤a.2∧a.2 < p:=fun a ha=>by
 obtain⟨r1,r2,r3,r4⟩:=h.rg a (aL _ ha);refine⟨r1,r2,fun e=>?_,r3,r4⟩;have nd:=h.nd;rw [aD,db] at nd;exact nd.2.2 a.1 (aI.mpr ⟨a,ha,rfl⟩) q.1 #[M] e
theorem ziJ {p:Int} (hp:p∈zt) {n:Nat}:∀ (rest done:List (Int×Int)) (s:List Int×List Int),Pts p (done++rest)→(done++rest).length=n→Nw p n done s→Nw p n (done++rest) (rest.foldl (zbS p) s)
 | [],done,s,_,_,h=>by rw [bQ]; exact h
 | q :: rest,done,s,hP,hn,h=>by
  have xC:done.length < n:=by rw [← hn]; simp
  obtain⟨a,b,c,d⟩:=hP.rg q #[M];have hs:=zgI hp h (q:=q) xC a b c d hP.apart;have e:done++q :: rest=(done++[q])++rest:=by simp
  rw [e] at hP hn ⊢;exact ziJ hp rest (done++[q]) _ hP hn hs
theorem ziK {p:Int} (hp:p∈zt) {jG:List (Int×Int)} (hP:Pts p jG):(thr p jG).length=jG.length∧(∀ c∈thr p jG,0≤c∧c < p)∧∀ q∈jG,zj p q.1 (thr p jG)=q.2:=by
 have h:=ziJ hp (n:=jG.length) jG [] _ (by simpa using hP) #[M] (zfm hp jG.length);exact⟨h.lc,h.rc,h.hit⟩
end My
end
section
namespace My
open PySem L2 PyProof.Rows
section
variable {K:af}
theorem ziL {ns:List Int} {k:Int} (h0:0≤k) (h1:k < ns.length):∃ c:Int,ns[k.toNat]? = some c∧atI (ns.map V.int) k=some (.int c):=by
 have jN:k.toNat < ns.length:=by lia
 have e:atI (ns.map V.int) ((k.toNat:Nat):Int)=some (.int ns[k.toNat]):=zbz (by simp [am,az jN]);have hk:((k.toNat:Nat):Int)=k:=by lia
 rw [hk] at e;exact⟨ns[k.toNat],#[M],e⟩
theorem zc7 {ns:List Int} {k:Int} (h0:0≤k) (h1:k < ns.length):∃ c:Int,atI (ns.map V.int) k=some (.int c):=let ⟨c,_,e⟩:=ziL h0 h1; ⟨c,e⟩
theorem zc {H:Hp} {a:Addr} {o:HO} (h:H a=none):zy H (jA H a o):=fun b u e=>by rw [zm (zu e h)]; exact e
theorem zaq {H H':Hp} {a:Addr} {o:HO} (s:zy H H') (h:H a=none):zy H (jA H' a o):=fun b u e=>by rw [zm (zu e h)]; exact s b u e
theorem zy.sqT {H H':Hp} {a:Addr} {xs:List V} (e:zy H H') (h:jI K H a xs):jI K H' a xs:=by
 rcases h with (h | ⟨o,h⟩) | h
 ·exact .inl (.inl (e _ _ h))
 ·exact .inl (.inr ⟨o,e _ _ h⟩)
 ·exact .inr h
theorem zae {n:Nat} (h:n≤10000):n < sizeLine:=by rw [bu]; lia
def zhG (K:af):Sp:=fun vs H Q _=>∃ (a:Addr) (ns:List Int) (k:Int),vs = [.ref a,.int k]∧jy K H a (ns.map V.int)∧ns.length≤63∧0≤k∧k≤1000∧∀ c:Int,Q (.int c) H
def zeN (many:Nat) (base:Int) (ds:List Int):Prop:=ds.length=many∧∀ d∈ds,0≤d∧d < base
def zgc (K:af):Sp:=fun vs H Q _=>∃ (a:Addr) (ns:List Int) (k many base:Int),vs = [.ref a,.int k,.int many,.int base]∧jy K H a (ns.map V.int)∧ns.length≤63∧0≤k∧k≤1000∧0≤many∧many≤1000∧0 < base∧base < 1073741824 ∧
 ∀ (l:Addr) (ds:List Int) (H':Hp),H l=none→zy H H'→zeN many.toNat base ds→H' l=some (.lst (ds.map V.int))→Q (.ref l) H'
abbrev zjR:List V:=[.int 2147483647,.int 2147483629,.int 2147483587,.int 2147483579,.int 2147483563,.int 2147483549,.int 2147483543,.int 2147483497]
theorem zjS {m:Int} (h0:0≤m) (h1:m < 8):∃ q:Int,atI zjR m=some (.int q)∧0 < q∧q < 2147483648:=by
 have:m=0∨m=1∨m=2∨m=3∨m=4∨m=5∨m=6∨m=7:=by lia
 rcases this with e | e | e | e | e | e | e | e <;> subst e <;> exact⟨_,rfl,#[D],#[D]⟩
theorem zds (j:Int):∃ q:Int,atI zjR (j % 8)=some (.int q)∧0 < q∧q < 2147483648:=zjS (aK _ #[D]) (aC _ #[D])
theorem gY {i:Nat} {x:V} {σ:L2.St} {H:Hp} {A B:L2.St→Hp→Prop} (h:A (σ.set i (some x)) H):zaM i x σ H (fun σ2 H2=>zk5 σ2 H2 fun b H3=>if b=true then A σ2 H3 else B σ2 H3):=by
 show (if true=true then A (σ.set i (some x)) H else B (σ.set i (some x)) H);rw [if_pos rfl];exact h
structure CodeOk (mk mn p k:Int) (pl:List Int):Prop where
 pr:p∈zt
 k1:1≤k
 kk:k≤mk
 kl:k≤pl.length
 ln:(pl.length:Int)≤mn
 nd:pl.Nodup
 rg:∀ x∈pl,0≤x∧x < p
def zhH (K:af):Sp:=fun vs H Q _=>∃ (a:Addr) (ns:List Int) (at' mk mn:Int),vs = [.ref a,.int at',.int mk,.int mn]∧jy K H a (ns.map V.int)∧ns.length≤63∧0≤at'∧at'≤1000∧1≤mk∧mk≤5∧mk≤mn∧mn≤16 ∧
 ∀ (c tt:Addr) (p k:Int) (pl:List Int) (H':Hp),H c=none→zy H H'→CodeOk mk mn p k pl→H' c=some (.tup [.int p,.int k,.ref tt])→H' tt=some (.tup (pl.map V.int))→Q (.ref c) H'
theorem zlf {x y m:Int} (h0:0≤m) (h1:m < 2):∃ z:Int,atI [V.int x,V.int y] m=some (.int z)∧(z=x∨z=y):=by
 have:m=0∨m=1:=by lia
 rcases this with e | e <;> subst e
 ·exact⟨x,rfl,.inl rfl⟩
 ·exact⟨y,rfl,.inr rfl⟩
theorem ziM {ns:List Int} {k:Int} (h0:0≤k) (h1:k < ns.length):∃ c:Int,c∈ns∧atI (ns.map V.int) k=some (.int c):=by
 obtain⟨c,e,h⟩:=ziL h0 h1;exact⟨c,aJ e,h⟩
theorem zes {α β:Type} (f:α→β):∀ (l:List α) (k:Nat),(l.map f).eraseIdx k=(l.eraseIdx k).map f
 | [],_=>rfl
 | _ :: _,0=>rfl
 | a :: l,k+1=>by show f a :: (l.map f).eraseIdx k=f a :: (l.eraseIdx k).map f; rw [zes f l k]
theorem zdt {α:Type}:∀ {l:List α} {k:Nat} {x:α},l[k]? = some x→(x :: l.eraseIdx k).Perm l
 | [],_,_,h=>by simp at h
 | a :: l,0,x,h=>by
  have e:a=x:=by simpa using h
  subst e;exact List.Perm.refl _
 | a :: l,k+1,x,h=>by
  have ih:=zdt (l:=l) (k:=k) (x:=x) (by simpa using h);exact (List.Perm.swap a x _).trans (ih.cons a)
theorem zjT {p:Int} {xs ls:List Int} {k:Nat} {x:Int} (h:ls[k]? = some x) (nd:(xs++ls).Nodup) (rg:∀ y∈xs++ls,0≤y∧y < p):((xs++[x])++ls.eraseIdx k).Nodup∧∀ y∈(xs++[x])++ls.eraseIdx k,0≤y∧y < p:=by
 have hp:((xs++[x])++ls.eraseIdx k).Perm (xs++ls):=by
  rw [bf];exact (zdt h).append_left xs
 exact⟨hp.nodup_iff.mpr nd,fun y hy=>rg y (hp.mem_iff.mp hy)⟩
theorem zhI (p:Int):(zbl 0 p.toNat).Nodup∧∀ y∈zbl 0 p.toNat,0≤y∧y < p:=by
 unfold zbl;constructor
 ·rw [c7,cn];exact (c7.mp (iP (n:=p.toNat))).imp fun {a b} ug=>by lia
 ·intro y hy;obtain⟨i,hi,e⟩:=aI.mp hy;have:=bW.mp hi;lia
def zcT (K:af):Sp:=fun vs H Q _=>∃ (p x:Int) (a:Addr) (cs:List Int),vs = [.int p,.ref a,.int x]∧(jy K H a (cs.map V.int)∨jI K H a (cs.map V.int))∧0 < p∧p≤97∧0≤x∧x < p∧Q (.int (zj p x cs)) H
def zgd (K:af):Sp:=zcT K
theorem zet {cs:List Int} {i:Nat} {c:Int} (hi:i < cs.length) (h:cs[cs.length - 1 - i]? = some c):cs.drop (cs.length - (i+1))=c :: cs.drop (cs.length - i):=by
 have e:cs.length - (i+1)=cs.length - 1 - i:=by lia
 have jN:cs.length - 1 - i < cs.length:=by lia
 rw [e,b9 jN];have:cs[cs.length - 1 - i]=c:=by
  rw [az jN] at h;exact aN h
 rw [this];congr 2;lia
theorem zao {cs:List Int} {j:Nat} {x:V} (h:(cs.map V.int)[j]? = some x):∃ c,x = .int c∧cs[j]? = some c:=by
 rw [am] at h;cases e:cs[j]? with
 | none=>rw [e] at h; cases h
 | some c=>rw [e] at h; exact⟨c,(aN h).symm,rfl⟩
theorem zgJ {p x jC power c:Int} {cs:List Int} {i:Nat} (h:cs[i]? = some c):lv p x jC power (cs.drop i)=lv p x ((jC+c*power) % p) (power*x % p) (cs.drop (i+1)):=by
 obtain⟨jN,e⟩:=aG.mp h;rw [b9 jN,e];rfl
def zge (K:af):Sp:=fun vs H Q _=>∃ (p h:Int),vs = [.int p,.int h]∧p∈zt∧0≤h∧h < p∧Q (.int (inv p h)) H
def zlg (σ:L2.St):Nat:=match (σ[4]?:Option (Option V)) with
 | some (some (V.int l))=>l.toNat
 | _=>0
theorem zeO {p prod sq left:Int} {n:Nat} (h0:0 < left) (h1:left < 2 ^ (n+1)):zb1 p (n+1) prod sq left=zb1 p n (if left % 2=1 then prod*sq % p else prod) (sq*sq % p) (left / 2):=by
 show (if 0 < left then _ else _)=_;rw [if_pos h0]
theorem zfn {p prod sq:Int}:∀ n,zb1 p n prod sq 0=prod
 | 0=>rfl
 | n+1=>by show (if (0:Int) < 0 then _ else prod)=prod; rw [if_neg #[D]]
theorem gY2 {K:af} {i j:Nat} {T:Addr} {x y:V} {σ:L2.St} {H:Hp} {A B:L2.St→Hp→Prop} (hT:jI K H T [x,y]) (h:A ((σ.set i (some x)).set j (some y)) H) :
  zf1 K 2 (zce (zaM i) (zce (zaM j) zhs)) (.ref T) σ H (fun σ2 H2=>zk5 σ2 H2 fun b H3=>if b=true then A σ2 H3 else B σ2 H3):=by
 refine⟨T,_,rfl,hT,rfl,x,_,rfl,y,_,rfl,rfl,?_⟩;show (if true=true then A ((σ.set i (some x)).set j (some y)) H else B ((σ.set i (some x)).set j (some y)) H);rw [if_pos rfl];exact h
theorem zfo {f:Int→Int→Int} {as bs:List Int} {i:Nat} {x y:Int} (hx:as[i]? = some x) (hy:bs[i]? = some y):(be f as bs).take (i+1)=(be f as bs).take i++[f x y]:=by
 have e:(be f as bs)[i]? = some (f x y):=by rw [List.getElem?_zipWith,hx,hy]
 rw [iC,e,jl]
def zkG (K:af) (H:Hp) (a:Addr) (jG:List (Int×Int)):Prop:=∃ bs:List Addr,jy K H a (bs.map V.ref)∧bs.length=jG.length∧∀ (i:Nat) (b:Addr) (q:Int×Int),bs[i]? = some b→jG[i]? = some q→H b=some (.tup [.int q.1,.int q.2])
theorem zfp (n:Nat):(aE n [V.int 0]).flatten=(aE n (0:Int)).map V.int:=by
 induction n with
 | zero=>rfl
 | succ n ih=>rw [bN,c9,ih,bN]; rfl
theorem zaQ {bs:List Addr} {i:Nat} {x:V} (h:(bs.map V.ref)[i]? = some x):∃ b,x = .ref b∧bs[i]? = some b:=by
 rw [am] at h;cases e:bs[i]? with
 | none=>rw [e] at h; cases h
 | some b=>rw [e] at h; exact⟨b,(aN h).symm,rfl⟩
theorem take_snoc {α:Type} {l:List α} {i:Nat} {x:α} (h:l[i]? = some x):l.take (i+1)=l.take i++[x]:=by
 rw [iC,h,jl]
theorem zdu {α:Type} {l:List α} {i:Nat} {x:α} (h:l[i]? = some x):l=l.take i++x :: l.drop (i+1):=by
 obtain⟨hi,e⟩:=aG.mp h; have:=bD i l;rw [b9 hi,e] at this;exact this.symm
theorem ziN {f:Int→Int→Int} {as bs:List Int} {n:Nat} (h1:n≤as.length) (h2:n≤bs.length) (h3:as.length≤n∨bs.length≤n):(be f as bs).length=n:=by
 rw [fe];lia
theorem zhJ {a b:Addr} {as bs:List Int} {n:Nat} {f:Int→Int→Int} {g:TG} {ts:TT} {te:TE} {σ0:L2.St} {Q:VK} {H:Hp} (ha:H a=some (.lst (as.map V.int))) (hb:H b=some (.lst (bs.map V.int))) (h1:n≤as.length) (h2:n≤bs.length) (h3:as.length≤n∨bs.length≤n) (hn:n≤10000)
  (hs:∀ (i:Nat) (x y:Int) (H1:Hp) (T:Addr) (R:VK) (B:L2.St→Hp→Prop),as[i]? = some x→bs[i]? = some y→zy H H1→H1 T=none→R (.int (f x y)) (jA H1 T (.tup [.int x,.int y]))→g (.ref T) σ0 (jA H1 T (.tup [.int x,.int y])) fun σ2 H2=>ts σ2 H2 fun b H3=>if b=true then te σ2 H3 R else B σ2 H3)
  (hd:∀ D H1,zy H H1→H1 D=none→Q (.ref D) (jA H1 D (.lst ((be f as bs).map V.int)))):cGo g ts te σ0 (zhA (jy K) (jy K) a b) Q H:=by
 have hl:=ziN (f:=f) h1 h2 h3;refine zeJ (n:=n) (fun i ys H'=>ys=((be f as bs).take i).map V.int∧zy H H') ⟨#[M],fun _ _ e=>e⟩ ?_ ?_ ?_ ?_
 ·rintro i ys H3 hi ⟨_,s3⟩;obtain⟨x,hx⟩:∃ x,as[i]? = some x:=⟨as[i]'#[O],#[M]⟩;obtain⟨y,hy⟩:∃ y,bs[i]? = some y:=⟨bs[i]'#[O],#[M]⟩;exact⟨_,_,.int x,.int y,jy.of (s3 _ _ ha),jy.of (s3 _ _ hb),by rw [am,hx]; rfl,by rw [am,hy]; rfl⟩
 ·rintro ys H3 ⟨_,s3⟩;exact⟨_,_,jy.of (s3 _ _ ha),jy.of (s3 _ _ hb),by rw [ab,ab]; exact h3⟩
 ·rintro i x ys H3 H4 hi ⟨rfl,s3⟩ ⟨T,u,v,hT,rfl,rfl,hu,hv⟩;obtain⟨x,rfl,hx⟩:=zao (hu _ (jy.of (s3 _ _ ha)));obtain⟨y,rfl,hy⟩:=zao (hv _ (jy.of (s3 _ _ hb)));refine hs i x y H3 T _ _ hx hy s3 hT ⟨zae ?_,?_,s3.trans (zc hT)⟩
  ·rw [ab];exact aZ (ff _ _) #[O]
  ·rw [zfo hx hy,aD];rfl
 ·rintro ys H3 D ⟨rfl,s3⟩ hD;rw [aR #[O]];exact hd D H3 s3 hD
theorem zhK {a:Addr} {xs fs:List V} {g:TG} {ts:TT} {te:TE} {σ0:L2.St} {Q:VK} {H:Hp} (ha:jy K H a xs) (hl:fs.length=xs.length) (hn:xs.length≤10000)
  (hs:∀ (i:Nat) (x y:V) (R:VK) (B:L2.St→Hp→Prop),xs[i]? = some x→fs[i]? = some y→R y H→g x σ0 H fun σ2 H2=>ts σ2 H2 fun b H3=>if b=true then te σ2 H3 R else B σ2 H3)
  (hd:∀ D,H D=none→Q (.ref D) (jA H D (.lst fs))):cGo g ts te σ0 (Itl K a) Q H:=by
 refine zeJ (n:=xs.length) (fun i ys H'=>ys=fs.take i∧H'=H) ⟨#[M],rfl⟩ ?_ ?_ ?_ ?_
 ·rintro i ys H3 hi ⟨_,rfl⟩;exact⟨_,xs[i],ha,#[M]⟩
 ·rintro ys H3 ⟨_,rfl⟩;exact⟨_,ha,ag _⟩
 ·rintro i x ys H3 H4 hi ⟨rfl,rfl⟩ ⟨rfl,hx⟩;have hy:fs[i]? = some fs[i]:=by simp
  refine hs i x fs[i] _ _ (hx _ ha) hy ⟨zae (aZ (ff _ _) #[O]),?_,rfl⟩;rw [take_snoc hy]
 ·rintro ys H3 D ⟨rfl,rfl⟩ hD;rw [aR #[O]];exact hd D hD
theorem zfq (ds:List Int) (lo hi:Option Int):∃ ms:List Int,zdl (ds.map V.int) lo hi=ms.map V.int∧ms.length≤ds.length:=by
 refine⟨(ds.drop (HT.sIx (ds.map V.int).length 0 lo)).take (HT.sIx (ds.map V.int).length (ds.map V.int).length hi - HT.sIx (ds.map V.int).length 0 lo),?_,?_⟩
 ·unfold zdl; rw [gP,gQ]
 ·rw [aF,cv];lia
theorem zfr {ms:List Int} {f:Int→V} {i:Nat} {x y:V} (hx:(ms.map V.int)[i]? = some x) (hy:(ms.map f)[i]? = some y):∃ c,ms[i]? = some c∧x = .int c∧y=f c:=by
 obtain⟨c,rfl,hc⟩:=zao hx;rw [am,hc] at hy;exact⟨c,hc,rfl,(aN hy).symm⟩
end
end My
end
section
namespace PySem
abbrev IsZ (h:Heap) (z TI TO:Addr) (f0 f1:Value):Prop:=h.get? z=some { cls:=.type "zip",dict:=none,data:=.fields #[f0,f1,.bool false,.ref TI,.ref TO],slots:=#[] }
def ZF (f0 f1:Value):Prop:=(f0 = .none∨∃ a t,f0 = .int a t)∧∃ b,f1 = .bool b
structure Zap (z TI TO i1 i2:Addr) (mo mq:List Addr):Prop where
 zTI:TI≠z
 zTO:TO≠z
 z1:i1≠z
 z2:i2≠z
 TT:TI≠TO
 T1:TI≠i1
 T2:TI≠i2
 O1:TO≠i1
 O2:TO≠i2
 ii:i1≠i2
 a1:z∉mo
 a2:TO∉mo
 a3:i2∉mo
 b1:z∉mq
 b2:TO∉mq
 b3:i1∉mq
section
variable {prog:Program} {w:World} {A:Around} {E:Value→Shared→Prop} {s:Shared}
theorem zhL {a:Addr} {Q:Option Obj→Shared→Prop} (h:Q (s.heap.get? a) s):wpAny (model prog w) A (loadIfAlive a) Q E s:=fun _ _ _=>h
theorem ziO {z TI TO:Addr} {f0 f1:Value} {Q:Bool→Shared→Prop} (hz:IsZ s.heap z TI TO f0 f1) (hf:ZF f0 f1) (h1:Q true s)
  (h2:∀ h',IsZ h' z TI TO f0 (.bool true)→aW z s.heap h'→Q false { s with heap:=h' }):wpAny (model prog w) A (bz (.ref z)) Q E s:=by
 obtain⟨hf,b,rfl⟩:=hf;unfold bz; rcases hf with rfl | ⟨a,t,rfl⟩
 ·exact aa (bj hz rfl (x:=.none) rfl (ah h1))
 ·refine aa (bj hz rfl (x:=.int a t) rfl ?_);refine aa (zhL ?_);cases s.heap.get? a.toNat with
  | none=>exact ah h1
  | some o =>
   refine aa (bj hz rfl (x:=.bool b) rfl ?_);cases b with
   | true=>exact ah (h2 s.heap hz ⟨rfl,fun _ _=>rfl⟩)
   | false=>exact aa (bt hz #[M] fun h' a' b'=>ah (h2 h' a' b'))
theorem zgK {z TI TO i1 i2:Addr} {mo mq:List Addr} {n1 n2 k1 k2:Nat} {P1 P2:Nat→Value→Prop} {S1 S2:Nat→Heap→Prop} {f0 f1 a b:Value} {Q:Value→Shared→Prop} (D1:Draws prog w A i1 mo n1 P1 S1) (D2:Draws prog w A i2 mq n2 P2 S2) (Z:Zap z TI TO i1 i2 mo mq)
  (hz:IsZ s.heap z TI TO f0 f1) (hf:ZF f0 f1) (oZ:IsPair s.heap TI (.ref i1) (.ref i2)) (pI:IsPair s.heap TO a b) (kP:S1 k1 s.heap) (jT:S2 k2 s.heap) (l1:k1 < n1) (l2:k2 < n2)
  (hQ:∀ x y h' tk g0 g1 a' b',P1 k1 x→P2 k2 y→IsZ h' z TI TO g0 g1→ZF g0 g1→IsPair h' TI (.ref i1) (.ref i2)→IsPair h' TO a' b'→S1 (k1+1) h'→S2 (k2+1) h'→IsPair h' s.heap.objs.size x y→h'.objs.size=s.heap.objs.size+1 →
   (∀ c o,c≠z→c≠TO→c≠i1→c≠i2→s.heap.get? c=some o→h'.get? c=some o)→Q (.ref s.heap.objs.size) { s with heap:=h',toks:=tk }):wpAny (model prog w) A (Builtin.«zip.__next__» ⟨[.ref z],[]⟩) (fun fin s'=>∃ v,fin = .done (.ret v)∧Q v s') E s:=by
 obtain⟨hp,g,d,wF,os⟩:=s;show wpAny _ _ (field (.ref z) 2 >>= _) _ _ _; refine aa (bj hz rfl (x:=.bool false) rfl ?_); show wpAny _ _ (field (.ref z) 3 >>= _) _ _ _;refine aa (bj hz rfl (x:=.ref TI) rfl ?_); refine aa (bX oZ rfl ?_);show wpAny _ _ (bz (.ref z) >>= _) _ _ _; refine aa (ziO hz hf ?_ fun h0 wG oF=>?_)
 ·simp only [if_true];refine aa (bS (aa (bj hz rfl (x:=.ref TO) rfl ?_)));refine aa (bt hz #[M] fun ha se n5=>?_);replace se:IsZ ha z TI TO .ellipsis f1:=se;replace n5:aW z hp ha:=n5;refine aa ?_;simp only [iQ,i9,dw,fj]; refine aa (aa (fG ?_)); show wpAny _ _ (aV (.ref i1) >>= _) _ _ _;refine aa (D1.item k1 _ _ _ l1 (D1.frame _ _ _ kP fun c hc o e=>n5.extBut c o (fun q=>Z.a1 (q ▸ hc)) e) fun x hb uY px uZ kz=>ah ?_);replace kz:aW i1 ha hb:=kz;have pW:IsPair hb TO a b:=kz.extBut _ _ Z.O1 (n5.extBut _ _ Z.zTO pI);refine aa (bX pW rfl (aa (eX pW fun hc rd o6=>?_)));replace rd:IsPair hc TO x b:=rd;replace o6:aW TO hb hc:=o6;refine aa (dA (ah (aa (aa (fG ?_))))); show wpAny _ _ (aV (.ref i2) >>= _) _ _ _;refine aa (D2.item k2 _ _ _ l2 (D2.frame _ _ _ jT fun c lH o e=>o6.extBut c o (fun q=>Z.b2 (q ▸ lH)) (kz.extBut c o (fun q=>Z.b3 (q ▸ lH)) (n5.extBut c o (fun q=>Z.b1 (q ▸ lH)) e))) fun y hd xY py xZ mN=>ah ?_);replace mN:aW i2 hc hd:=mN;have rf:IsPair hd TO x b:=mN.extBut _ _ Z.O2 rd;refine aa (bX rf rfl (aa (eX rf fun he rh sT=>?_)));replace rh:IsPair he TO x y:=rh;replace sT:aW TO hd he:=sT;refine aa (dA (ah (ah ?_))); refine aa (bX rh rfl (aa (fk ?_)));have hsz:he.objs.size=hp.objs.size:=by rw [sT.1,mN.1,o6.1,kz.1,n5.1]
  have hze:IsZ he z TI TO .ellipsis f1:=sT.extBut _ _ Z.zTO.symm (mN.extBut _ _ Z.z2.symm (o6.extBut _ _ Z.zTO.symm (kz.extBut _ _ Z.z1.symm se)));have kk:∀ c o,c≠z→c≠TO→c≠i1→c≠i2→hp.get? c=some o→he.get? c=some o:=fun c o c1 c2 c3 c4 e=>sT.extBut _ _ c2 (mN.extBut _ _ c4 (o6.extBut _ _ c2 (kz.extBut _ _ c3 (n5.extBut _ _ c1 e))))
  have x3:S1 (k1+1) he:=D1.frame _ _ _ uZ fun c lH o e=>sT.extBut c o (fun q=>Z.a2 (q ▸ lH)) (mN.extBut c o (fun q=>Z.a3 (q ▸ lH)) (o6.extBut c o (fun q=>Z.a2 (q ▸ lH)) e))
  have x4:S2 (k2+1) he:=D2.frame _ _ _ xZ fun c lH o e=>sT.extBut c o (fun q=>Z.b2 (q ▸ lH)) e
  have zlt:z < he.objs.size:=au hze;show wpAny _ _ (cb (.ref z) (.ref he.objs.size) >>= _) _ _ _;refine aa ?_;unfold cb; have ri:IsZ (he.push { cls:=.type "tuple",data:=.seq #[x,y] }) z TI TO .ellipsis f1:=ae _ hze;refine aa (bt ri #[M] fun h7 x5 sf=>?_);replace x5:IsZ h7 z TI TO (rawInt he.objs.size) f1:=x5;refine bt x5 #[M] fun h8 wH x6=>ah ⟨_,rfl,?_⟩
  replace wH:IsZ h8 z TI TO (rawInt he.objs.size) (.bool false):=wH;have up:∀ c o,c≠z→he.get? c=some o→h8.get? c=some o:=fun c o c1 e=>x6.extBut _ _ c1 (sf.extBut _ _ c1 (ae _ e))
  have u3:IsPair h8 he.objs.size x y:=x6.extBut _ _ (cG zlt) (sf.extBut _ _ (cG zlt) (aq _ rfl));have pX:h8.objs.size=he.objs.size+1:=by rw [x6.1,sf.1,bw]
  show Q (.ref he.objs.size) _;rw [hsz] at wH u3 pX ⊢;exact hQ x y h8 xY _ _ _ _ px py wH ⟨.inr ⟨_,_,rfl⟩,_,rfl⟩ (up _ _ Z.zTI (kk _ _ Z.zTI Z.TT Z.T1 Z.T2 oZ)) (up _ _ Z.zTO rh) (D1.frame _ _ _ x3 fun c lH o e=>up c o (fun q=>Z.a1 (q ▸ lH)) e) (D2.frame _ _ _ x4 fun c lH o e=>up c o (fun q=>Z.b1 (q ▸ lH)) e) u3 pX fun c o c1 c2 c3 c4 e=>up c o c1 (kk c o c1 c2 c3 c4 e)
 ·simp only [aX,if_false]; replace oF:aW z hp h0:=oF;rw [show (#[aO i1,aO i2]:Array Value) = [aO i1,aO i2].toArray from rfl];simp only [ip,dw,fj];refine aa (aa (aa (bP ?_))); show wpAny _ _ (aV (.ref i1) >>= _) _ _ _;refine aa (D1.item k1 _ _ _ l1 (D1.frame _ _ _ kP fun c hc o e=>oF.extBut c o (fun q=>Z.a1 (q ▸ hc)) e) fun x hb uY px uZ kz=>ah (ah ?_));replace kz:aW i1 h0 hb:=kz;refine aa (aa (bP ?_)); show wpAny _ _ (aV (.ref i2) >>= _) _ _ _;refine aa (D2.item k2 _ _ _ l2 (D2.frame _ _ _ jT fun c lH o e=>kz.extBut c o (fun q=>Z.b3 (q ▸ lH)) (oF.extBut c o (fun q=>Z.b1 (q ▸ lH)) e)) fun y hd xY py xZ mN=>ah (ah (ah ?_)));replace mN:aW i2 hb hd:=mN;show wpAny _ _ (newTuple [x,y] >>= _) _ _ _;refine aa (fk (ah ⟨_,rfl,?_⟩));have hsz:hd.objs.size=hp.objs.size:=by rw [mN.1,kz.1,oF.1]
  have kk:∀ c o,c≠z→c≠TO→c≠i1→c≠i2→hp.get? c=some o→hd.get? c=some o:=fun c o c1 c2 c3 c4 e=>mN.extBut _ _ c4 (kz.extBut _ _ c3 (oF.extBut _ _ c1 e))
  have wI:IsZ hd z TI TO f0 (.bool true):=mN.extBut _ _ Z.z2.symm (kz.extBut _ _ Z.z1.symm wG);have rf:IsPair hd TO a b:=mN.extBut _ _ Z.O2 (kz.extBut _ _ Z.O1 (oF.extBut _ _ Z.zTO pI));have x8:S1 (k1+1) hd:=D1.frame _ _ _ uZ fun c lH o e=>mN.extBut c o (fun q=>Z.a3 (q ▸ lH)) e
  have up:∀ c o,hd.get? c=some o→(hd.push { cls:=.type "tuple",data:=.seq #[x,y] }).get? c=some o:=fun c o e=>ae _ e
  have u3:IsPair (hd.push { cls:=.type "tuple",data:=.seq #[x,y] }) hd.objs.size x y:=aq _ rfl;have pX:(hd.push { cls:=.type "tuple",data:=.seq #[x,y] }).objs.size=hd.objs.size+1:=bw ..;show Q (.ref hd.objs.size) _;rw [hsz] at u3 pX ⊢;exact hQ x y _ xY _ _ _ _ px py (up _ _ wI) ⟨hf.1,_,rfl⟩ (up _ _ (kk _ _ Z.zTI Z.TT Z.T1 Z.T2 oZ)) (up _ _ rf) (D1.frame _ _ _ x8 fun c _ o e=>up c o e) (D2.frame _ _ _ xZ fun c _ o e=>up c o e) u3 pX fun c o c1 c2 c3 c4 e=>up c o (kk c o c1 c2 c3 c4 e)
theorem ziP {z TI TO i1 i2:Addr} {mo mq:List Addr} {n1 n2 k1 k2:Nat} {P1 P2:Nat→Value→Prop} {S1 S2:Nat→Heap→Prop} {f0 f1 a b:Value} {Q:Fin→Shared→Prop} (D1:Draws prog w A i1 mo n1 P1 S1) (D2:Draws prog w A i2 mq n2 P2 S2) (Z:Zap z TI TO i1 i2 mo mq)
  (hz:IsZ s.heap z TI TO f0 f1) (hf:ZF f0 f1) (oZ:IsPair s.heap TI (.ref i1) (.ref i2)) (pI:IsPair s.heap TO a b) (kP:S1 k1 s.heap) (jT:S2 k2 s.heap) (l1:k1=n1∨(k1 < n1∧k2=n2))
  (hE:∀ h' tk e,(∀ c o,c≠z→c≠TO→c≠i1→c≠i2→s.heap.get? c=some o→h'.get? c=some o)→(∃ o,h'.get? e=some o∧o.cls = .type "StopIteration")→E (.ref e) { s with heap:=h',toks:=tk }):wpAny (model prog w) A (Builtin.«zip.__next__» ⟨[.ref z],[]⟩) Q E s:=by
 obtain⟨hp,g,d,wF,os⟩:=s;have nz:∀ {h:Heap} {e:Addr} {o:Obj} {x y:Value},IsZ h z TI TO x y→h.get? e=some o→o.cls = .type "StopIteration"→e≠z:=fun h1 h2 h3 q=>by subst q; rw [h1] at h2; cases h2; simp at h3
 show wpAny _ _ (field (.ref z) 2 >>= _) _ _ _; refine aa (bj hz rfl (x:=.bool false) rfl ?_); show wpAny _ _ (field (.ref z) 3 >>= _) _ _ _;refine aa (bj hz rfl (x:=.ref TI) rfl ?_); refine aa (bX oZ rfl ?_);show wpAny _ _ (bz (.ref z) >>= _) _ _ _; refine aa (ziO hz hf ?_ fun h0 wG oF=>?_)
 ·simp only [if_true];refine aa (bS (aa (bj hz rfl (x:=.ref TO) rfl ?_)));refine aa (bt hz #[M] fun ha se n5=>?_);replace se:IsZ ha z TI TO .ellipsis f1:=se;replace n5:aW z hp ha:=n5;refine aa ?_;simp only [iQ,i9,dw,fj]; refine aa (aa (fG ?_)); show wpAny _ _ (aV (.ref i1) >>= _) _ _ _;have pY:S1 k1 ha:=D1.frame _ _ _ kP fun c hc o e=>n5.extBut c o (fun q=>Z.a1 (q ▸ hc)) e
  rcases l1 with rfl | ⟨l1,rfl⟩
  ·refine aa (D1.done _ _ _ pY fun hb e kz ⟨oe,u4,u5⟩=>?_);have hzb:IsZ hb z TI TO .ellipsis f1:=kz _ _ Z.z1.symm se;exact bt hzb #[M] fun h3 _ mO=>hE h3 wF e (fun c o c1 _ c3 _ x=>mO.extBut _ _ c1 (kz _ _ c3 (n5.extBut _ _ c1 x))) ⟨oe,mO.extBut _ _ (nz hzb u4 u5) u4,u5⟩
  ·refine aa (D1.item k1 _ _ _ l1 pY fun x hb uY px uZ kz=>ah ?_);replace kz:aW i1 ha hb:=kz;have pW:IsPair hb TO a b:=kz.extBut _ _ Z.O1 (n5.extBut _ _ Z.zTO pI);refine aa (bX pW rfl (aa (eX pW fun hc rd o6=>?_)));replace o6:aW TO hb hc:=o6;refine aa (dA (ah (aa (aa (fG ?_))))); show wpAny _ _ (aV (.ref i2) >>= _) _ _ _;refine aa (D2.done _ _ _ (D2.frame _ _ _ jT fun c lH o e=>o6.extBut c o (fun q=>Z.b2 (q ▸ lH)) (kz.extBut c o (fun q=>Z.b3 (q ▸ lH)) (n5.extBut c o (fun q=>Z.b1 (q ▸ lH)) e))) fun hd e mN ⟨oe,u4,u5⟩=>?_);have wI:IsZ hd z TI TO .ellipsis f1:=mN _ _ Z.z2.symm (o6.extBut _ _ Z.zTO.symm (kz.extBut _ _ Z.z1.symm se));exact bt wI #[M] fun h3 _ mO=>hE h3 uY e (fun c o c1 c2 c3 c4 x=>mO.extBut _ _ c1 (mN _ _ c4 (o6.extBut _ _ c2 (kz.extBut _ _ c3 (n5.extBut _ _ c1 x))))) ⟨oe,mO.extBut _ _ (nz wI u4 u5) u4,u5⟩
 ·simp only [aX,if_false]; replace oF:aW z hp h0:=oF;rw [show (#[aO i1,aO i2]:Array Value) = [aO i1,aO i2].toArray from rfl];simp only [ip,dw,fj];refine aa (aa (aa (bP ?_))); show wpAny _ _ (aV (.ref i1) >>= _) _ _ _;have pY:S1 k1 h0:=D1.frame _ _ _ kP fun c hc o e=>oF.extBut c o (fun q=>Z.a1 (q ▸ hc)) e
  rcases l1 with rfl | ⟨l1,rfl⟩
  ·exact aa (D1.done _ _ _ pY fun hb e kz he=>hE hb wF e (fun c o c1 _ c3 _ x=>kz _ _ c3 (oF.extBut _ _ c1 x)) he)
  ·refine aa (D1.item k1 _ _ _ l1 pY fun x hb uY px uZ kz=>ah (ah ?_));replace kz:aW i1 h0 hb:=kz;refine aa (aa (bP ?_)); show wpAny _ _ (aV (.ref i2) >>= _) _ _ _;exact aa (D2.done _ _ _ (D2.frame _ _ _ jT fun c lH o e=>kz.extBut c o (fun q=>Z.b3 (q ▸ lH)) (oF.extBut c o (fun q=>Z.b1 (q ▸ lH)) e)) fun hd e mN he=>hE hd uY e (fun c o c1 _ c3 c4 x=>mN _ _ c4 (kz.extBut _ _ c3 (oF.extBut _ _ c1 x))) he)
theorem zjU {e z TI TO i1 i2:Addr} {mo mq:List Addr} {n1 n2 i:Nat} {P1 P2:Nat→Value→Prop} {S1 S2:Nat→Heap→Prop} {f0 f1 a b old:Value} {Q:Option Value→Shared→Prop} (D1:Draws prog w A.in1.in1 i1 mo n1 P1 S1) (D2:Draws prog w A.in1.in1 i2 mq n2 P2 S2) (Z:Zap z TI TO i1 i2 mo mq)
  (he:IsEnum s.heap e z i old) (ez:e≠z) (eT:e≠TI) (eO:e≠TO) (e1:e≠i1) (e2:e≠i2) (ef1:e∉mo) (ef2:e∉mq)
  (hz:IsZ s.heap z TI TO f0 f1) (hf:ZF f0 f1) (oZ:IsPair s.heap TI (.ref i1) (.ref i2)) (pI:IsPair s.heap TO a b) (kP:S1 i s.heap) (jT:S2 i s.heap) (l1:i < n1) (l2:i < n2)
  (hQ:∀ x y h' tk g0 g1 a' b',P1 i x→P2 i y→IsEnumOut h' e z ((i:Int)+1) (.ref s.heap.objs.size) (s.heap.objs.size+1)→IsZ h' z TI TO g0 g1→ZF g0 g1→IsPair h' TI (.ref i1) (.ref i2)→IsPair h' TO a' b'→S1 (i+1) h'→S2 (i+1) h'→IsPair h' s.heap.objs.size x y →
   IsPair h' (s.heap.objs.size+1) (.int i tk) (.ref s.heap.objs.size)→h'.objs.size=s.heap.objs.size+2 →
   (∀ c o,c≠e→c≠z→c≠TO→c≠i1→c≠i2→s.heap.get? c=some o→h'.get? c=some o)→Q (some (.ref (s.heap.objs.size+1))) { s with heap:=h',toks:=tk+1 }):wpAny (model prog w) A (pyNext (.ref e)) Q E s:=by
 have hT:s.TypeIs (.ref e) "enumerate":=⟨_,he,rfl⟩; have pZ:s.TypeIs (.ref z) "zip":=⟨_,hz,rfl⟩;unfold pyNext;refine aa (cr (bb (name:=bd "__next__") hT dG (bo dG hT gv ?_ (ga _))));obtain⟨hp,g,d,wF,os⟩:=s;show wpAny _ _ (field (.ref e) 2 >>= _) _ _ _; refine aa (bj he rfl (x:=.ref z) rfl (aa ?_));unfold aV; refine aa (bb (name:=bd "__next__") pZ cK (bo cK pZ eJ ?_ (eD _)));refine zgK D1 D2 Z hz hf oZ pI kP jT l1 l2 fun x y h1 tk g0 g1 a' b' px py mC x9 sU sV sW sY n6 sZ kk=>ah ?_
 have yb:IsEnum h1 e z i old:=kk _ _ ez eO e1 e2 he;have elt:e < hp.objs.size:=au he;show wpAny _ _ (field (.ref e) 3 >>= _) _ _ ⟨h1,g,d,tk,os⟩; refine aa (bj yb rfl (x:=rawInt i) rfl ?_);show wpAny _ _ (field (.ref e) 4 >>= _) _ _ ⟨h1,g,d,tk,os⟩; refine aa (bj yb rfl (x:=.none) rfl ?_);show wpAny _ _ (mkInt i >>= _) _ _ ⟨h1,g,d,tk,os⟩; refine aa (wpAny_mkInt ?_);show wpAny _ _ (setField (.ref e) 3 (rawInt ((i:Int)+1)) >>= _) _ _ ⟨h1,g,d,tk+1,os⟩; refine aa (bt yb #[M] fun h2 yc k8=>?_);replace k8:aW e h1 h2:=k8;replace yc:IsEnum h2 e z ((i:Int)+1) old:=yc;show wpAny _ _ (setField (.ref e) 4 .none >>= _) _ _ ⟨h2,g,d,tk+1,os⟩; refine aa (bt yc #[M] fun h3 yd mO=>?_);replace mO:aW e h2 h3:=mO;replace yd:IsEnum h3 e z ((i:Int)+1) old:=yd;show wpAny _ _ (newTuple [.int i tk,.ref hp.objs.size] >>= _) _ _ ⟨h3,g,d,tk+1,os⟩; refine aa (fk ?_);have z3:h3.objs.size=hp.objs.size+1:=by rw [mO.1,k8.1]; exact sZ
 rw [z3];have wJ:IsEnum (h3.push { cls:=.type "tuple",data:=.seq #[.int i tk,.ref hp.objs.size] }) e z ((i:Int)+1) old:=ae _ yd;have ye:=aq h3 (o:={ cls:=.type "tuple",data:=.seq #[.int i tk,.ref hp.objs.size] }) rfl;rw [z3] at ye;have k4:∀ c o,c≠e→h1.get? c=some o→(h3.push { cls:=.type "tuple",data:=.seq #[.int i tk,.ref hp.objs.size] }).get? c=some o:=fun c o ce x=>ae _ (mO.extBut c o ce (k8.extBut c o ce x))
 have z4:(h3.push { cls:=.type "tuple",data:=.seq #[.int i tk,.ref hp.objs.size] }).objs.size=hp.objs.size+2:=by rw [bw,z3]
 generalize h3.push { cls:=.type "tuple",data:=.seq #[.int i tk,.ref hp.objs.size] }=h4 at wJ ye k4 z4 ⊢;show wpAny _ _ (bz (.ref e) >>= _) _ _ ⟨h4,g,d,tk+1,os⟩;refine aa ?_;unfold bz; refine aa (bj wJ rfl (x:=.none) rfl (ah ?_));simp only [if_true]; refine aa (bS (aa (bj wJ rfl (x:=old) rfl ?_)));refine aa (bt wJ #[M] fun h5 yf wK=>?_);replace wK:aW e h4 h5:=wK;replace yf:IsEnum h5 e z ((i:Int)+1) (.ref hp.objs.size):=yf;show wpAny _ _ (cb (.ref e) (.ref (hp.objs.size+1)) >>= _) _ _ ⟨h5,g,d,tk+1,os⟩;refine aa ?_;unfold cb; refine aa (bt yf #[M] fun h6 yg wL=>?_);replace wL:aW e h5 h6:=wL;replace yg:IsEnumOut h6 e z ((i:Int)+1) (.ref hp.objs.size) (hp.objs.size+1):=yg;refine bt yg #[M] fun h7 yh sf=>?_
 replace sf:aW e h6 h7:=sf;replace yh:IsEnumOut h7 e z ((i:Int)+1) (.ref hp.objs.size) (hp.objs.size+1):=yh;have up:∀ c o,c≠e→h4.get? c=some o→h7.get? c=some o:=fun c o ce x=>sf.extBut c o ce (wL.extBut c o ce (wK.extBut c o ce x))
 have z7:h7.objs.size=hp.objs.size+2:=by rw [sf.1,wL.1,wK.1,z4]
 refine aa (dA (ah ⟨_,rfl,ah ?_⟩));exact hQ x y h7 tk g0 g1 a' b' px py yh (up _ _ ez.symm (k4 _ _ ez.symm mC)) x9 (up _ _ eT.symm (k4 _ _ eT.symm sU)) (up _ _ eO.symm (k4 _ _ eO.symm sV))
  (D1.frame _ _ _ sW fun c hc o x=>up c o (fun q=>ef1 (q ▸ hc)) (k4 c o (fun q=>ef1 (q ▸ hc)) x)) (D2.frame _ _ _ sY fun c hc o x=>up c o (fun q=>ef2 (q ▸ hc)) (k4 c o (fun q=>ef2 (q ▸ hc)) x))
  (up _ _ (cG elt) (k4 _ _ (cG elt) n6)) (up _ _ (cG (da elt)) ye) z7 fun c o ce cz cO c1 c2 x=>up c o ce (k4 c o ce (kk c o cz cO c1 c2 x))
theorem zlh {e z TI TO i1 i2:Addr} {mo mq:List Addr} {n1 n2 k:Nat} {i:Int} {P1 P2:Nat→Value→Prop} {S1 S2:Nat→Heap→Prop} {f0 f1 a b old:Value} {Q:Option Value→Shared→Prop} (D1:Draws prog w A.in1.in1 i1 mo n1 P1 S1) (D2:Draws prog w A.in1.in1 i2 mq n2 P2 S2) (Z:Zap z TI TO i1 i2 mo mq)
  (he:IsEnum s.heap e z i old) (hz:IsZ s.heap z TI TO f0 f1) (hf:ZF f0 f1) (oZ:IsPair s.heap TI (.ref i1) (.ref i2)) (pI:IsPair s.heap TO a b) (kP:S1 k s.heap) (jT:S2 k s.heap) (l1:k=n1∨(k < n1∧k=n2))
  (hQ:∀ h' tk,(∀ c o,c≠z→c≠TO→c≠i1→c≠i2→s.heap.get? c=some o→h'.get? c=some o)→Q none { s with heap:=h',toks:=tk }):wpAny (model prog w) A (pyNext (.ref e)) Q E s:=by
 have hT:s.TypeIs (.ref e) "enumerate":=⟨_,he,rfl⟩; have pZ:s.TypeIs (.ref z) "zip":=⟨_,hz,rfl⟩;unfold pyNext;refine aa (cr (bb (name:=bd "__next__") hT dG (bo dG hT gv ?_ (ga _))));show wpAny _ _ (field (.ref e) 2 >>= _) _ _ _; refine aa (bj he rfl (x:=.ref z) rfl (aa ?_));unfold aV; refine aa (bb (name:=bd "__next__") pZ cK (bo cK pZ eJ ?_ (eD _)));refine ziP D1 D2 Z hz hf oZ pI kP jT l1 fun h' tk x kk ⟨o,ho,hc⟩=>?_
 exact aa (dL (T:="StopIteration") (b:=true) ⟨o,ho,hc⟩ fh (ah (hQ h' tk kk)))
end
def zeP (x y:Value):Obj:={ cls:=.type "tuple",data:=.seq #[x,y] }
def zl5 (a b:Addr):Obj:={ cls:=.type "zip",data:=.fields #[.none,.bool false,.bool false,.ref a,.ref b] }
def itO (C:String) (l:Addr):Obj:={ cls:=.type C,data:=.fields #[.ref l,.int 0 0] }
abbrev zt2 (C:String) (h:Heap) (l1 l2:Addr):Heap:=(h.push (zbM l1)).push (itO C l2)
abbrev zt4 (C:String) (h:Heap) (l1 l2:Addr):Heap:=((zt2 C h l1 l2).push (zeP (.ref h.objs.size) (.ref (h.push (zbM l1)).objs.size))).push (zeP .none .none)
abbrev zt5 (C:String) (h:Heap) (l1 l2:Addr):Heap:=(zt4 C h l1 l2).push (zl5 (zt2 C h l1 l2).objs.size ((zt2 C h l1 l2).push (zeP (.ref h.objs.size) (.ref (h.push (zbM l1)).objs.size))).objs.size)
def ItC (C:String) (h:Heap) (a l:Addr) (i:Nat):Prop:=∃ o,h.get? a=some o∧o.cls = .type C∧o.data = .fields #[.ref l,.int i 0]
structure SkH (C:String) (Is:Heap→Addr→Array Value→Prop):Prop where
 it:∀ {prog:Program} {w:World} {A:Around} {E:Value→Shared→Prop} {s:Shared} {l:Addr} {jD:Array Value} {Q:Value→Shared→Prop},Is s.heap l jD→Q (.ref s.heap.objs.size) { s with heap:=s.heap.push (itO C l) }→wpAny (model prog w) A (pyIter (.ref l)) Q E s
 pu:∀ {h:Heap} {l:Addr} {jD:Array Value} (o:Obj),Is h l jD→Is (h.push o) l jD
 dr:∀ {prog:Program} {w:World} {A:Around},A.handled=none→∀ (it l:Addr),l≠it→∀ (jD:Array Value),Draws prog w A it [it,l] jD.size (fun i v=>jD[i]? = some v) fun i h=>ItC C h it l i∧Is h l jD
theorem skL:SkH "list_iterator" Heap.IsList:=⟨fun h q=>fJ h q,fun o h=>Heap.IsList.push h o,fun hh it l ne jD=>ja hh it l ne jD⟩
theorem zfs {C:String} {Is:Heap→Addr→Array Value→Prop} (S:SkH C Is) (l1 l2:Addr) (xs ys:Array Value):Meets (Builtin.«zip.__new__» ⟨[.type "zip",.ref l1,.ref l2],[]⟩) (fun _ R s=>s.heap.IsTuple l1 xs∧Is s.heap l2 ys∧R (.ok (.ret (.ref (zt4 C s.heap l1 l2).objs.size))) { s with heap:=zt5 C s.heap l1 l2 }) :=
 .of_wp fun prog w A R s h=>by
  obtain⟨hp,g,d,tk,os⟩:=s; obtain⟨pU,mV,h⟩:=h; have o7:=sub_zip;have uh:Heap.IsTuple (iI ⟨hp,g,d,tk,os⟩) l1 xs:=pU;have ui:Is (iI ⟨hp.push { cls:=.type "tuple_iterator",data:=.fields #[.ref l1,.int 0 0] },g,d,tk,os⟩) l2 ys:=S.pu _ mV
  wp_walk using fw uh,S.it ui
  exact⟨_,rfl,h⟩
section
variable {prog:Program} {w:World} {A:Around} {E:Value→Shared→Prop} {s:Shared}
theorem zdv {C:String} {Is:Heap→Addr→Array Value→Prop} (S:SkH C Is) {l1 l2:Addr} {xs ys:Array Value} {Q:Value→Shared→Prop} (pU:s.heap.IsTuple l1 xs) (mV:Is s.heap l2 ys)
  (h:∀ h' n,n=s.heap.objs.size→IsZ h' (n+4) (n+2) (n+3) .none (.bool false)→IsPair h' (n+2) (.ref n) (.ref (n+1))→IsPair h' (n+3) .none .none→h'.IsTupleIter n l1 0→ItC C h' (n+1) l2 0→h'.objs.size=n+5 →
   (∀ c o,s.heap.get? c=some o→h'.get? c=some o)→Q (.ref (n+4)) { s with heap:=h' }):wpAny (model prog w) A (call (.type "zip") [.ref l1,.ref l2]) Q E s:=by
 refine io F.called_zip #[D] (F.typeCall_zip_2 _ _) (F.newCall_zip_2 _ _) (fun obj=>F.args_object_init_3 obj _ _) F.entry_zip_new (zfs S l1 l2 xs ys) ⟨pU,mV,?_⟩;have z1:(s.heap.push (zbM l1)).objs.size=s.heap.objs.size+1:=bw ..;have z2:(zt2 C s.heap l1 l2).objs.size=s.heap.objs.size+2:=by rw [bw,z1]
 have z3:((zt2 C s.heap l1 l2).push (zeP (.ref s.heap.objs.size) (.ref (s.heap.push (zbM l1)).objs.size))).objs.size=s.heap.objs.size+3:=by rw [bw,z2]
 have z4:(zt4 C s.heap l1 l2).objs.size=s.heap.objs.size+4:=by rw [bw,z3]
 have g5:=aq (zt4 C s.heap l1 l2) (o:=zl5 (zt2 C s.heap l1 l2).objs.size ((zt2 C s.heap l1 l2).push (zeP (.ref s.heap.objs.size) (.ref (s.heap.push (zbM l1)).objs.size))).objs.size) rfl;have g4:(zt5 C s.heap l1 l2).get? _=some _:=ae _ (aq ((zt2 C s.heap l1 l2).push (zeP (.ref s.heap.objs.size) (.ref (s.heap.push (zbM l1)).objs.size))) (o:=zeP .none .none) rfl);have g3:(zt5 C s.heap l1 l2).get? _=some _:=ae _ (ae _ (aq (zt2 C s.heap l1 l2) (o:=zeP (.ref s.heap.objs.size) (.ref (s.heap.push (zbM l1)).objs.size)) rfl));have g2:(zt5 C s.heap l1 l2).get? _=some _:=ae _ (ae _ (ae _ (aq (s.heap.push (zbM l1)) (o:=itO C l2) rfl)));have g1:(zt5 C s.heap l1 l2).get? s.heap.objs.size=some (zbM l1):=ae _ (ae _ (ae _ (ae _ (aq _ rfl))));have z5:(zt5 C s.heap l1 l2).objs.size=s.heap.objs.size+5:=by rw [bw,z4]
 have k5:∀ c o,s.heap.get? c=some o→(zt5 C s.heap l1 l2).get? c=some o:=fun c o x=>ae _ (ae _ (ae _ (ae _ (ae _ x))))
 show _∧_;rw [z4] at g5 ⊢;rw [z3] at g4;rw [z2] at g3;rw [z1] at g2;refine⟨⟨_,g5,rfl⟩,h _ _ rfl ?_ ?_ g4 ⟨_,g1,rfl,rfl⟩ ⟨_,g2,rfl,rfl⟩ z5 k5⟩
 ·have:IsZ (zt5 C s.heap l1 l2) (s.heap.objs.size+4) (zt2 C s.heap l1 l2).objs.size ((zt2 C s.heap l1 l2).push (zeP (.ref s.heap.objs.size) (.ref (s.heap.push (zbM l1)).objs.size))).objs.size .none (.bool false):=g5;rw [z2,z3] at this;exact this
 ·have:IsPair (zt5 C s.heap l1 l2) (s.heap.objs.size+2) (.ref s.heap.objs.size) (.ref (s.heap.push (zbM l1)).objs.size):=g3;rw [z1] at this;exact this
theorem zgf {l1 l2:Addr} {xs ys:Array Value} {Q:Value→Shared→Prop} (pU:s.heap.IsTuple l1 xs) (mV:s.heap.IsList l2 ys)
  (h:∀ h' n,n=s.heap.objs.size→IsZ h' (n+4) (n+2) (n+3) .none (.bool false)→IsPair h' (n+2) (.ref n) (.ref (n+1))→IsPair h' (n+3) .none .none→h'.IsTupleIter n l1 0→h'.IsListIter (n+1) l2 0→h'.objs.size=n+5 →
   (∀ c o,s.heap.get? c=some o→h'.get? c=some o)→Q (.ref (n+4)) { s with heap:=h' }):wpAny (model prog w) A (call (.type "zip") [.ref l1,.ref l2]) Q E s:=zdv skL pU mV h
end
open AutoSeq1 (wpAny_loadPart') in
theorem zft (z TI TO:Addr) (f0:Value):Meets (Builtin.«enumerate.__new__» ⟨[.type "enumerate",.ref z],[]⟩) (fun _ R s=>IsZip s.heap z TI TO f0∧R (.ok (.ret (.ref s.heap.objs.size))) { s with heap:=s.heap.push (ziB z) }) :=
 .of_wp fun prog w A R s h=>by
  obtain⟨hp,g,d,tk,os⟩:=s; obtain⟨hz,h⟩:=h;have hZ:IsZip (iI ⟨hp,g,d,tk,os⟩) z TI TO f0:=hz;have o7:=sub_enumerate; wp_walk using gd hz;refine wpAny_stack_any fun st=>ah ?_; split
  ·rename_i c _ _ _ _ _; cases (c == iW "enumerate") <;> (wp_walk using gd hz,eI hZ; exact⟨_,rfl,h⟩)
  ·wp_walk using gd hz,eI hZ; exact⟨_,rfl,h⟩
theorem zgg {prog:Program} {w:World} {A:Around} {E:Value→Shared→Prop} {s:Shared} {z TI TO:Addr} {f0:Value} {Q:Value→Shared→Prop} (hz:IsZip s.heap z TI TO f0)
  (h:∀ h',IsEnum h' s.heap.objs.size z 0 .none→h'.objs.size=s.heap.objs.size+1→(∀ b o,s.heap.get? b=some o→h'.get? b=some o)→Q (.ref s.heap.objs.size) { s with heap:=h' }):wpAny (model prog w) A (call (.type "enumerate") [.ref z]) Q E s:=by
 refine io F.called_enumerate #[D] (F.typeCall_enumerate_1 _) (F.newCall_enumerate_1 _) (fun obj=>gM obj _) F.entry_enumerate_new (zft z TI TO f0) ⟨hz,?_⟩;have he:=aq s.heap (o:=ziB z) rfl;exact⟨⟨_,he,rfl⟩,h _ he (bw ..) fun b o x=>ae _ x⟩
end PySem
end
section
namespace L2
open PySem PySem.Spec PyProof.Rows
def zjV (mK mL:Hp→Addr→List V→Prop) (a b:Addr):It :=
 ⟨fun i H=>∃ xs ys x y,mK H a xs∧mL H b ys∧xs[i]? = some x∧ys[i]? = some y,
  fun i H x H'=>∃ T1 T2 u v,H T1=none∧H T2=none∧T1≠T2∧x = .ref T2∧H'=jA (jA H T1 (.tup [u,v])) T2 (.tup [.int i,.ref T1])∧(∀ xs,mK H a xs→xs[i]? = some u)∧∀ ys,mL H b ys→ys[i]? = some v,
  fun i H=>∃ xs ys,mK H a xs∧mL H b ys∧xs.length=i⟩
abbrev zdw (n:Nat):List Addr:=[n+5,n+4,n+2,n+3,n,n+1]
abbrev zli (n a b:Nat) (i:Nat) (h:Heap):Prop:=(∃ old,IsEnum h (n+5) (n+4) i old)∧(∃ f0 f1,IsZ h (n+4) (n+2) (n+3) f0 f1∧ZF f0 f1)∧IsPair h (n+2) (.ref n) (.ref (n+1))∧(∃ u v,IsPair h (n+3) u v)∧h.IsTupleIter n a i∧h.IsListIter (n+1) b i
theorem nq {x y:Nat} (h:x≠y):@Ne Addr x y:=h
theorem nl {x y:Nat} (h:x < y):@LT.lt Nat _ x y:=h
theorem nm2 {c x y:Nat} (h1:c≠x) (h2:c≠y):¬ @Membership.mem Addr (List Addr) _ [x,y] c:=fun h=>by
 rcases aA.mp h with e | e
 ·exact h1 e
 ·exact h2 (aH.mp e)
theorem zc8 {n a b:Nat} (ha:a < n) (hb:b < n):Zap (n+4) (n+2) (n+3) n (n+1) [n,a] [n+1,b] :=
 ⟨nq #[O],nq #[O],nq #[O],nq #[O],nq #[O],nq #[O],nq #[O],nq #[O],nq #[O],nq #[O],nm2 #[O] #[O],nm2 #[O] #[O],nm2 #[O] #[O],nm2 #[O] #[O],nm2 #[O] #[O],nm2 #[O] #[O]⟩
theorem zjW {P:Program} {w:World} {K:af} {es:List Expr} {k:Nat} {pos:Pos} (a b n:Nat) (ha:a < n) (hb:b < n):Turn P w K (.Tuple es k pos) (zjV (jI K) (jy K) a b) (zdw n) (n+5) (zli n a b) where
 mem:=by simp
 obj:=fun i h st c hc=>by
  obtain⟨⟨old,h0⟩,⟨f0,f1,h1,_⟩,h2,⟨u,v,h3⟩,⟨o4,e4,_,d4⟩,⟨o5,e5,_,d5⟩⟩:=st;simp only [zdw,aA,aU,or_false] at hc;rcases hc with z | z | z | z | z | z <;> subst z
  ·exact⟨_,h0,fun v z=>by cases z⟩
  ·exact⟨_,h1,fun v z=>by cases z⟩
  ·exact⟨_,h2,fun v z=>by cases z⟩
  ·exact⟨_,h3,fun v z=>by cases z⟩
  ·exact⟨_,e4,fun v z=>by rw [d4] at z; cases z⟩
  ·exact⟨_,e5,fun v z=>by rw [d5] at z; cases z⟩
 keep:=fun i h h' st kk=>by
  obtain⟨⟨old,h0⟩,⟨f0,f1,h1,hf⟩,h2,⟨u,v,h3⟩,h4,h5⟩:=st;exact⟨⟨old,kk _ #[M] _ h0⟩,⟨f0,f1,kk _ #[M] _ h1,hf⟩,kk _ #[M] _ h2,⟨u,v,kk _ #[M] _ h3⟩,h4.at fun o eo=>kk _ #[M] o eo,h5.at fun o eo=>kk _ #[M] o eo⟩
 item:=by
  intro X hP hw hK hc i jv s σ H E I hf st hg;subst hP hw hK;obtain⟨xs,ys,x,y,mB,la,hx,hy⟩:=hg;obtain⟨⟨old,h0⟩,⟨f0,f1,h1,ri⟩,h2,⟨u0,v0,h3⟩,h4,h5⟩:=st;obtain⟨j4,oE,p1,mC⟩:=I.tuple mB;obtain⟨kg,oY,p2,pS⟩:=I.list la;obtain⟨u,hu,ru⟩:=oE.get hx;obtain⟨v,hv,rv⟩:=oY.get hy;have sg:n+5 < s.heap.objs.size:=au h0;have hh:X.A.in1.in1.handled=none:=by simp [I.ok.hd hc]
  have mY:i < j4.toArray.size:=by have:=(aG.mp hu).1; simpa using this
  have mZ:i < kg.toArray.size:=by have:=(aG.mp hv).1; simpa using this
  refine zjU (Draws.tuple hh n a (nq #[O]) j4.toArray) (ja hh (n+1) b (nq #[O]) kg.toArray) (zc8 ha hb) h0 (nq #[O]) (nq #[O]) (nq #[O]) (nq #[O]) (nq #[O]) (nm2 #[O] #[O]) (nm2 #[O] #[O]) h1 ri h2 h3 ⟨h4,(show s.heap.IsTuple a j4.toArray from p1)⟩ ⟨h5,p2.isList⟩ mY mZ
   fun x' y' h' tk g0 g1 a' b' px py eo ez yi e2 e3 t4 t5 pp pe hsz kk=>?_
  have eu:x'=u:=by
   have e1:j4[i]? = some x':=by simpa using px
   rw [hu] at e1; exact (aN e1).symm
  have ev:y'=v:=by
   have e1:kg[i]? = some y':=by simpa using py
   rw [hv] at e1; exact (aN e1).symm
  subst eu ev;have ch:∀ c∈[n+5,n+4,n+3,n,n+1],c∈zdw n:=fun c jB=>by
   simp only [zdw,aA,aU,or_false] at jB ⊢;rcases jB with z | z | z | z | z <;> subst z <;> simp
  have k1:∀ c o,c∉[n+5,n+4,n+3,n,n+1]→s.heap.get? c=some o→h'.get? c=some o:=fun c o jB eo=>by
   simp only [aA,aU,or_false,not_or] at jB;exact kk c o jB.1 jB.2.1 jB.2.2.1 jB.2.2.2.1 jB.2.2.2.2 eo
  have uX:∀ c∈[n+5,n+4,n+3,n,n+1],∃ o,h'.get? c=some o:=fun c jB=>by
   simp only [aA,aU,or_false] at jB;rcases jB with z | z | z | z | z <;> subst z
   ·exact⟨_,eo⟩
   ·exact⟨_,ez⟩
   ·exact⟨_,e3⟩
   ·obtain⟨o,e,_⟩:=t4.1; exact⟨o,e⟩
   ·obtain⟨o,e,_⟩:=t5.1; exact⟨o,e⟩
  have I1:Inv X jv σ (jA H s.heap.objs.size (.tup [x,y])) { s with heap:=h',toks:=tk+1 } :=
   I.turnedNew k1 (fun c jB=>hf c (ch c jB)) uX (ag _) ⟨zaK,_,.cons ru (.cons rv .nil),zbD pp⟩
  have nX:H (s.heap.objs.size+1)=none:=I.hok.fresh (fu _);have yj:jA H s.heap.objs.size (.tup [x,y]) (s.heap.objs.size+1)=none:=by rw [zm (iO _)]; exact nX
  obtain⟨_,a1,a2,a3,a4,a5⟩:=I.fpOk (H':=H) (fu s.heap.objs.size) nX;have I1':Inv X jv σ (jA (jA H s.heap.objs.size (.tup [x,y])) (s.heap.objs.size+1) (.tup [.int i,.ref s.heap.objs.size])) { s with heap:=h',toks:=tk+1 } :=
   I1.track yj (aZ I.sz (fu _)) (dh a1) a4 a5 ⟨zaK,_,.cons ⟨tk,rfl⟩ (.cons rfl .nil),zbD pe⟩
  refine⟨_,rfl,wpAny_letOwnedTupleGo_enum eo fun rY qZ k9=>?_⟩;have fr:∀ c∈zdw n,jA (jA H s.heap.objs.size (.tup [x,y])) (s.heap.objs.size+1) (.tup [.int i,.ref s.heap.objs.size]) c=none:=fun c jB=>by
   have jN:c < s.heap.objs.size:=by
    simp only [zdw,aA,aU,or_false] at jB;rcases jB with z | z | z | z | z | z <;> subst z <;> exact nl #[O]
   rw [zm (aT (da jN)),zm (aT jN)];exact (hf c jB).1
  have I2:Inv X jv σ (jA (jA H s.heap.objs.size (.tup [x,y])) (s.heap.objs.size+1) (.tup [.int i,.ref s.heap.objs.size])) { s with heap:=rY,toks:=tk+1 } :=
   Inv.turnedL (s:={ s with heap:=h',toks:=tk+1 }) (ch:=[n+5]) (t':=tk+1) I1' (fun c o jB eo=>k9.extBut c o (by simpa using jB) eo) (fun c jB=>by
    have z:c=n+5:=by simpa using jB
    subst z;exact⟨fr _ #[M],(hf _ #[M]).2⟩) (fun c jB=>by
    have z:c=n+5:=by simpa using jB
    subst z;exact⟨_,qZ⟩)
  have up:∀ c o,c≠n+5→h'.get? c=some o→rY.get? c=some o:=fun c o jB e=>k9.extBut c o jB e
  exact⟨.ref (s.heap.objs.size+1),_,I2,rfl,⟨_,_,x,y,I.fresh,nX,aT (fZ _),rfl,rfl,fun zs hz=>by rw [I.tuple_inj hz mB]; exact hx,fun zs hz=>by rw [I.list_inj hz la]; exact hy⟩,
   ⟨⟨_,by simpa using qZ⟩,⟨g0,g1,up _ _ (nq #[O]) ez,yi⟩,up _ _ (nq #[O]) e2,⟨_,_,up _ _ (nq #[O]) e3⟩,t4.1.at fun o e=>up _ o (nq #[O]) e,t5.1.at fun o e=>up _ o (nq #[O]) e⟩,fr⟩
 done:=by
  intro X hP hw hK hc i jv s σ H E I hf st hg;subst hP hw hK;obtain⟨xs,ys,mB,la,hx⟩:=hg;obtain⟨⟨old,h0⟩,⟨f0,f1,h1,ri⟩,h2,⟨u0,v0,h3⟩,h4,h5⟩:=st;obtain⟨j4,oE,p1,mC⟩:=I.tuple mB;obtain⟨kg,oY,p2,pS⟩:=I.list la;have hh:X.A.in1.in1.handled=none:=by simp [I.ok.hd hc]
  have pU:=oE.length;refine zlh (Draws.tuple hh n a (nq #[O]) j4.toArray) (ja hh (n+1) b (nq #[O]) kg.toArray) (zc8 ha hb) h0 h1 ri h2 h3 ⟨h4,(show s.heap.IsTuple a j4.toArray from p1)⟩ ⟨h5,p2.isList⟩ (.inl (by rw [ao]; lia)) fun h' tk kk=>⟨rfl,?_⟩
  have sub:∀ c∈[n+4,n+3,n,n+1],c∈zdw n:=fun c jB=>by
   simp only [zdw,aA,aU,or_false] at jB ⊢;rcases jB with z | z | z | z <;> subst z <;> simp
  have k1:∀ c o,c∉[n+4,n+3,n,n+1]→s.heap.get? c=some o→h'.get? c=some o:=fun c o jB e=>by
   simp only [aA,aU,or_false,not_or] at jB;exact kk c o jB.1 jB.2.1 jB.2.2.1 jB.2.2.2 e
  have oD:∀ d u',H d=some u'→d∉[n+4,n+3,n,n+1]:=fun d u' e' hd=>by rw [(hf d (sub d hd)).1] at e'; cases e'
  refine I.step (g':=s.gens) (d':=s.drawn) (t':=tk) (ch:=[n+4,n+3,n,n+1]) (fun c jB=>?_) (fun c o _ _ j9 e _=>k1 c o j9 e) (fun c o _ _ j9 e _=>⟨o.slots,k1 c o j9 e⟩) (fun _ _ _ _ n=>n)
   (fun c o j9 e=>⟨o,k1 c o j9 e⟩) (fun _ _ e=>e) (fun _ _ _ e=>e) (fun c ps e=>⟨#[],by rw [e]; simp⟩) (fun m hm=>?_) (fun c u e=>?_) I.bare
  ·obtain⟨_,a1,_,a3,a4,a5⟩:=hf c (sub c jB);exact⟨a3,a1,a4,a5⟩
  ·obtain⟨o,qH,ep,ho,r⟩:=hm;exact⟨o,qH,ep,k1 _ o (fun z=>(hf _ (sub _ z)).2.1 rfl) ho,r⟩
  ·refine (I.hok c u e).stay (fun d v' hd q=>k1 d v' ?_ q) (fun _ q=>q) fun _ _ q=>q
   rcases hd with z | z
   ·rw [z]; exact oD c u e
   ·exact oD d _ z
 self:=fun _ _ _ _ _ st h=>by
  obtain⟨⟨old,he⟩,_⟩:=st;exact wpAny_pyIter_enum he h
def iEZ (mK mL:Hp→Addr→List V→Prop) (ta:TA):TI:=fun σ H R=>ta σ H fun vs H1=>∃ a b xs ys,vs = [.ref a,.ref b]∧mK H1 a xs∧mL H1 b ys∧R (zjV mK mL a b) H1
theorem zgh {X:Cx} {es:List Expr} {k:Nat} {mX p p2 pos mE:Pos} {a b:Expr} {ta:TA} (hg:Gl X "enumerate") (hm:X.mg "enumerate" = none) (u6:Gl X "zip") (pJ:X.mg "zip" = none) (ha:PA X [a,b] ta) (hs:starEach [a,b] X.env = [(false,eval a X.env),(false,eval b X.env)]:=by rfl) (k8:starEach [b] X.env = [(false,eval b X.env)]:=by rfl)
  (mO:starEach [.Call (.Name "zip" p2) [a,b] [] mE] X.env = [(false,eval (.Call (.Name "zip" p2) [a,b] [] mE) X.env)]:=by rfl) :
  PI X (.Tuple es k mX) (.Call (.Name "enumerate" p) [.Call (.Name "zip" p2) [a,b] [] mE] [] pos) (iEZ (jI X.K) (jy X.K) ta):=by
 intro jv s σ H R I h;refine Call_ (zbj I hg hm boot_enumerate (bx ?_ mO rfl));rw [mO];show wpAny _ _ (spliced ((false,eval (.Call (.Name "zip" p2) [a,b] [] mE) X.env) :: [])) _ _ s;refine cW ?_;refine Call_ (zbj I u6 pJ boot_zip (bx (thn (ha mE jv s σ H _ I h) fun us s1 ⟨vs,H1,I1,r1,q1⟩=>?_) (by rw [hs,k8]) (by rw [k8]; rfl)));obtain⟨l1,l2,xs,ys,e,mB,la,q⟩:=q1;subst e;cases r1 with
 | cons r rr =>
  cases rr with
  | cons r' rr =>
   cases rr;cases r;cases r';obtain⟨j4,oE,rZ,mC⟩:=I1.tuple mB;obtain⟨kg,oY,sQ,pS⟩:=I1.list la;have mY:l1 < s1.heap.objs.size:=by obtain⟨_,e,_⟩:=rZ; exact au e
   have mZ:l2 < s1.heap.objs.size:=by obtain⟨_,_,e,_⟩:=sQ; exact au e
   refine zgf (show s1.heap.IsTuple l1 j4.toArray from rZ) sQ.isList fun h' n hn b1 b2 b3 b4 b5 b6 kk=>?_
   refine dC ?_;refine zgg b1 fun h2 he hsz uj=>?_
   have I2:Inv X jv σ H1 { s1 with heap:=h2 }:=I1.kept (t':=s1.toks) fun c o e=>uj c o (kk c o e)
   refine wpAny_pyIter_enum he ?_; have e5:h'.objs.size=n+5:=b6;have qL:IsEnum h2 (n+5) (n+4) 0 .none:=by rw [← e5]; exact he
   refine⟨_,zdw n,zli n l1 l2,zjV (jI X.K) (jy X.K) l1 l2,H1,rfl,I2,?_,⟨⟨_,qL⟩,⟨_,_,uj _ _ b1,.inl rfl,_,rfl⟩,uj _ _ b2,⟨_,_,uj _ _ b3⟩,b4.at fun o e=>uj _ o e,b5.at fun o e=>uj _ o e⟩,fun c hc=>?_,q⟩
   ·show Turn X.prog X.w X.K (.Tuple es k mX) (zjV (jI X.K) (jy X.K) l1 l2) (zdw n) h'.objs.size (zli n l1 l2);rw [e5];exact zjW l1 l2 n (by rw [hn]; exact mY) (by rw [hn]; exact mZ)
   ·have hle:s1.heap.objs.size≤c:=by
     simp only [zdw,aA,aU,or_false] at hc;rw [← hn];rcases hc with z | z | z | z | z | z <;> subst z
     all_goals first | exact iR _ _ | exact ag _
    exact I1.fpOk hle (I1.hok.fresh hle)
theorem zgi {K:af} {i j:Nat}:∀ (x:V) (σ:St) (H:Hp) (Q Q':St→Hp→Prop),(∀ σ' H',Q σ' H'→Q' σ' H')→zf1 K 2 (zce (zaM i) (zce (zaM j) zhs)) x σ H Q→zf1 K 2 (zce (zaM i) (zce (zaM j) zhs)) x σ H Q':=fun x σ H Q Q' hq ⟨a,xs,e1,h1,h2,v,r,e3,v2,r2,e4,e5,h⟩=>⟨a,xs,e1,h1,h2,v,r,e3,v2,r2,e4,e5,hq _ _ h⟩
end L2
end
section
namespace My
open PySem L2 PyProof.Rows
section
variable {K:af}
def zmG (H:Hp):V→Option (List V)
 | .ref a=>match H a with
  | some (.lst xs)=>some xs
  | _=>none
 | _=>none
def zaw (H:Hp) (c tt:Addr) (p k:Int) (pl:List Int):Prop:=H c=some (.tup [.int p,.int k,.ref tt])∧H tt=some (.tup (pl.map V.int))
theorem zaw.same {H H':Hp} {c tt:Addr} {p k:Int} {pl:List Int} (s:zy H H') (h:zaw H c tt p k pl):zaw H' c tt p k pl:=⟨s _ _ h.1,s _ _ h.2⟩
def nF:Option Int→V
 | none=>.non
 | some i=>.int i
def zay (p:Int) (pl:List Int) (rw:List (Option Int)) (jQ:List Int) (j:Nat):Bool:=match pl[j]?,rw[j]? with
 | some x,some (some i)=>decide (i=zj p x jQ)
 | _,_=>false
def zaz (p:Int) (pl:List Int) (rw:List (Option Int)) (jQ:List Int) (n:Nat):List Int:=((br n).filter (zay p pl rw jQ)).map fun (j:Nat)=>(j:Int)
theorem zeu {p:Int} {pl:List Int} {rw:List (Option Int)} {jQ:List Int} {n:Nat}:zaz p pl rw jQ (n+1)=zaz p pl rw jQ n++if zay p pl rw jQ n then [(n:Int)] else []:=by
 unfold zaz;rw [jb,cf,aD];congr 1;by_cases h:zay p pl rw jQ n=true
 ·rw [if_pos h]; simp [h]
 ·rw [if_neg h]; simp [h]
theorem zcU (p:Int) (pl:List Int) (rw:List (Option Int)) (jQ:List Int) (n:Nat):(zaz p pl rw jQ n).length≤n:=by
 unfold zaz;rw [ab];exact aZ (cD _ _) (by rw [iD]; exact ag _)
theorem zgL {rw:List (Option Int)} {j:Nat} {x:V} (h:(rw.map nF)[j]? = some x):∃ o,x=nF o∧rw[j]? = some o:=by
 rw [am] at h;cases e:rw[j]? with
 | none=>rw [e] at h; cases h
 | some c=>rw [e] at h; exact⟨c,(aN h).symm,rfl⟩
def hide (H:Hp) (a:Addr):Hp:=fun b=>if b=a then none else H b
theorem zdx (H:Hp) (a:Addr):zy (hide H a) H:=fun b o e=>by
 unfold hide at e;split at e
 ·cases e
 ·exact e
theorem zag {H:Hp} {a b:Addr} {o:HO} (h:H b=some o) (jU:b≠a):hide H a b=some o:=by unfold hide; rw [if_neg jU]; exact h
end
section
variable {K:af}
def zjX (K:af):Sp:=fun vs H Q _=>∃ (c tt ra po:Addr) (p k:Int) (pl jQ:List Int) (rw:List (Option Int)),vs = [.ref c,.ref ra,.ref po]∧zaw H c tt p k pl∧H ra=some (.lst (rw.map nF))∧rw.length=pl.length∧H po=some (.tup (jQ.map V.int))∧0 < p∧p≤97∧(∀ x∈pl,0≤x∧x < p)∧pl.length≤100 ∧
 ∀ (l:Addr) (H':Hp),H l=none→zy H H'→H' l=some (.lst ((zaz p pl rw jQ pl.length).map V.int))→Q (.ref l) H'
theorem ziQ (o:Option Int) (z:Int):zlU (nF o) (.int z)=true:=by cases o <;> rfl
theorem ziR {p:Int} {pl:List Int} {rw:List (Option Int)} {jQ:List Int} {j:Nat} {x:Int} {o:Option Int} (hx:pl[j]? = some x) (ho:rw[j]? = some o):zay p pl rw jQ j=decide (nF o = .int (zj p x jQ)):=by
 unfold zay;rw [hx,ho];cases o with
 | none=>rfl
 | some i=>simp [nF]
end
end My
end
section
namespace PySem
section
variable {prog:Program} {w:World} {A:Around} {E:Value→Shared→Prop} {s:Shared}
theorem zjY {z TI TO i1 i2:Addr} {mo mq:List Addr} {n1 n2 k1 k2:Nat} {P1 P2:Nat→Value→Prop} {S1 S2:Nat→Heap→Prop} {f0 f1 a b:Value} {Q:Option Value→Shared→Prop} (D1:Draws prog w A.in1 i1 mo n1 P1 S1) (D2:Draws prog w A.in1 i2 mq n2 P2 S2) (Z:Zap z TI TO i1 i2 mo mq)
  (hz:IsZ s.heap z TI TO f0 f1) (hf:ZF f0 f1) (oZ:IsPair s.heap TI (.ref i1) (.ref i2)) (pI:IsPair s.heap TO a b) (kP:S1 k1 s.heap) (jT:S2 k2 s.heap) (l1:k1 < n1) (l2:k2 < n2)
  (hQ:∀ x y h' tk g0 g1 a' b',P1 k1 x→P2 k2 y→IsZ h' z TI TO g0 g1→ZF g0 g1→IsPair h' TI (.ref i1) (.ref i2)→IsPair h' TO a' b'→S1 (k1+1) h'→S2 (k2+1) h'→IsPair h' s.heap.objs.size x y→h'.objs.size=s.heap.objs.size+1 →
   (∀ c o,c≠z→c≠TO→c≠i1→c≠i2→s.heap.get? c=some o→h'.get? c=some o)→Q (some (.ref s.heap.objs.size)) { s with heap:=h',toks:=tk }):wpAny (model prog w) A (pyNext (.ref z)) Q E s:=by
 have pZ:s.TypeIs (.ref z) "zip":=⟨_,hz,rfl⟩;unfold pyNext;refine aa (cr (bb (name:=bd "__next__") pZ cK (bo cK pZ eJ ?_ (eD _))));exact zgK D1 D2 Z hz hf oZ pI kP jT l1 l2 fun x y h1 tk g0 g1 a' b' px py mC x9 sU sV sW sY n6 sZ kk=>ah (hQ x y h1 tk g0 g1 a' b' px py mC x9 sU sV sW sY n6 sZ kk)
theorem zlj {z TI TO i1 i2:Addr} {mo mq:List Addr} {n1 n2 k1 k2:Nat} {P1 P2:Nat→Value→Prop} {S1 S2:Nat→Heap→Prop} {f0 f1 a b:Value} {Q:Option Value→Shared→Prop} (D1:Draws prog w A.in1 i1 mo n1 P1 S1) (D2:Draws prog w A.in1 i2 mq n2 P2 S2) (Z:Zap z TI TO i1 i2 mo mq)
  (hz:IsZ s.heap z TI TO f0 f1) (hf:ZF f0 f1) (oZ:IsPair s.heap TI (.ref i1) (.ref i2)) (pI:IsPair s.heap TO a b) (kP:S1 k1 s.heap) (jT:S2 k2 s.heap) (l1:k1=n1∨(k1 < n1∧k2=n2))
  (hQ:∀ h' tk,(∀ c o,c≠z→c≠TO→c≠i1→c≠i2→s.heap.get? c=some o→h'.get? c=some o)→Q none { s with heap:=h',toks:=tk }):wpAny (model prog w) A (pyNext (.ref z)) Q E s:=by
 have pZ:s.TypeIs (.ref z) "zip":=⟨_,hz,rfl⟩;unfold pyNext;refine aa (cr (bb (name:=bd "__next__") pZ cK (bo cK pZ eJ ?_ (eD _))));refine ziP D1 D2 Z hz hf oZ pI kP jT l1 fun h' tk x kk ⟨o,ho,hc⟩=>?_
 exact aa (dL (T:="StopIteration") (b:=true) ⟨o,ho,hc⟩ fh (ah (hQ h' tk kk)))
theorem zgM {z TI TO:Addr} {f0 f1:Value} {Q:Value→Shared→Prop} (hz:IsZ s.heap z TI TO f0 f1) (h:Q (.ref z) s):wpAny (model prog w) A (pyIter (.ref z)) Q E s:=by
 have hT:s.TypeIs (.ref z) "zip":=⟨_,hz,rfl⟩; refine fN hT F.slot_zip_iter (bo F.slot_zip_iter hT F.entry_zip_iter ?_ (F.args_zip_iter_1 _));show wpAny _ _ (ret (.ref z)) _ _ s; exact ah ⟨_,rfl,"zip",_,hT,F.slot_zip_next.lookup,h⟩
theorem zl6 {elts:List Expr} {x1} {pos:Pos} {z TI TO T:Addr} {f0 f1:Value} {Q:Unit→Shared→Prop} (hz:IsZ s.heap z TI TO f0 f1) (hf:ZF f0 f1)
  (hQ:∀ h' g0,IsZ h' z TI TO g0 f1→ZF g0 f1→aW z s.heap h'→Q () { s with heap:=h' }):wpAny (model prog w) A (letOwnedTupleGo (.Tuple elts x1 pos) (.ref z) (.ref T)) Q E s:=by
 unfold letOwnedTupleGo; refine aa (wpAny_load hz ?_);show wpAny _ _ (if _ then _ else _) Q E s;split
 ·refine aa (bS ?_); show wpAny _ _ (setField (.ref z) 0 .none) Q E s;exact bt hz #[M] fun h' wD kA=>hQ h' .none wD ⟨.inl rfl,hf.2⟩ kA
 ·exact ah (hQ s.heap f0 hz hf ⟨rfl,fun _ _=>rfl⟩)
end
end PySem
namespace L2
open PySem PySem.Spec PyProof.Rows
def zlk (mK mL:Hp→Addr→List V→Prop) (a b:Addr):It :=
 ⟨(zhA mK mL a b).go,(zhA mK mL a b).yld,fun i H=>∃ xs ys,mK H a xs∧mL H b ys∧(xs.length=i∨(i < xs.length∧ys.length=i))⟩
abbrev zd4 (n:Nat):List Addr:=[n+4,n+2,n+3,n,n+1]
abbrev zl7 (C:String) (n a b:Nat) (i:Nat) (h:Heap):Prop:=(∃ f0 f1,IsZ h (n+4) (n+2) (n+3) f0 f1∧ZF f0 f1)∧IsPair h (n+2) (.ref n) (.ref (n+1))∧(∃ u v,IsPair h (n+3) u v)∧h.IsTupleIter n a i∧ItC C h (n+1) b i
structure Sk (C:String) (Is:Heap→Addr→Array Value→Prop) (Sq:af→Hp→Addr→List V→Prop):Prop where
 h:SkH C Is
 inv:∀ {X:Cx} {jv:List (Addr×Obj)} {σ:St} {H:Hp} {s:Shared} {a:Addr} {xs:List V},Inv X jv σ H s→Sq X.K H a xs→∃ jx:List Value,zG xs jx∧Is s.heap a jx.toArray∧a < s.heap.objs.size
 inj:∀ {X:Cx} {jv:List (Addr×Obj)} {σ:St} {H:Hp} {s:Shared} {a:Addr} {xs ys:List V},Inv X jv σ H s→Sq X.K H a xs→Sq X.K H a ys→xs=ys
theorem sqL:Sk "list_iterator" Heap.IsList jy:=⟨skL,fun I h=>let ⟨jx,r,p,_⟩:=I.list h; ⟨jx,r,p.isList,by obtain⟨_,_,e,_⟩:=p; exact au e⟩,fun I h h'=>I.list_inj h h'⟩
theorem ziS {C:String} {Is:Heap→Addr→Array Value→Prop} {Sq:af→Hp→Addr→List V→Prop} (S:Sk C Is Sq) {P:Program} {w:World} {K:af} {es:List Expr} {k:Nat} {pos:Pos} (a b n:Nat) (ha:a < n) (hb:b < n):Turn P w K (.Tuple es k pos) (zlk (jI K) (Sq K) a b) (zd4 n) (n+4) (zl7 C n a b) where
 mem:=by simp
 obj:=fun i h st c hc=>by
  obtain⟨⟨f0,f1,h1,_⟩,h2,⟨u,v,h3⟩,⟨o4,e4,_,d4⟩,⟨o5,e5,_,d5⟩⟩:=st;simp only [zd4,aA,aU,or_false] at hc;rcases hc with z | z | z | z | z <;> subst z
  ·exact⟨_,h1,fun v z=>by cases z⟩
  ·exact⟨_,h2,fun v z=>by cases z⟩
  ·exact⟨_,h3,fun v z=>by cases z⟩
  ·exact⟨_,e4,fun v z=>by rw [d4] at z; cases z⟩
  ·exact⟨_,e5,fun v z=>by rw [d5] at z; cases z⟩
 keep:=fun i h h' st kk=>by
  obtain⟨⟨f0,f1,h1,hf⟩,h2,⟨u,v,h3⟩,h4,h5⟩:=st;obtain⟨o5,e5,r5⟩:=h5;exact⟨⟨f0,f1,kk _ #[M] _ h1,hf⟩,kk _ #[M] _ h2,⟨u,v,kk _ #[M] _ h3⟩,h4.at fun o eo=>kk _ #[M] o eo,o5,kk _ #[M] _ e5,r5⟩
 item:=by
  intro X hP hw hK hc i jv s σ H E I hf st hg;subst hP hw hK;obtain⟨xs,ys,x,y,mB,la,hx,hy⟩:=hg;obtain⟨⟨f0,f1,h1,ri⟩,h2,⟨u0,v0,h3⟩,h4,h5⟩:=st;obtain⟨j4,oE,p1,mC⟩:=I.tuple mB;obtain⟨kg,oY,p2,_⟩:=S.inv I la;obtain⟨u,hu,ru⟩:=oE.get hx;obtain⟨v,hv,rv⟩:=oY.get hy;have sg:n+4 < s.heap.objs.size:=au h1;have hh:X.A.in1.handled=none:=by simp [I.ok.hd hc]
  have mY:i < j4.toArray.size:=by have:=(aG.mp hu).1; simpa using this
  have mZ:i < kg.toArray.size:=by have:=(aG.mp hv).1; simpa using this
  refine zjY (Draws.tuple hh n a (nq #[O]) j4.toArray) (S.h.dr hh (n+1) b (nq #[O]) kg.toArray) (zc8 ha hb) h1 ri h2 h3 ⟨h4,(show s.heap.IsTuple a j4.toArray from p1)⟩ ⟨h5,p2⟩ mY mZ
   fun x' y' h' tk g0 g1 a' b' px py ez yi e2 e3 t4 t5 pp hsz kk=>?_
  have eu:x'=u:=by
   have e1:j4[i]? = some x':=by simpa using px
   rw [hu] at e1; exact (aN e1).symm
  have ev:y'=v:=by
   have e1:kg[i]? = some y':=by simpa using py
   rw [hv] at e1; exact (aN e1).symm
  subst eu ev;have ch:∀ c∈[n+4,n+3,n,n+1],c∈zd4 n:=fun c jB=>by
   simp only [zd4,aA,aU,or_false] at jB ⊢;rcases jB with z | z | z | z <;> subst z <;> simp
  have k1:∀ c o,c∉[n+4,n+3,n,n+1]→s.heap.get? c=some o→h'.get? c=some o:=fun c o jB eo=>by
   simp only [aA,aU,or_false,not_or] at jB;exact kk c o jB.1 jB.2.1 jB.2.2.1 jB.2.2.2 eo
  have uX:∀ c∈[n+4,n+3,n,n+1],∃ o,h'.get? c=some o:=fun c jB=>by
   simp only [aA,aU,or_false] at jB;rcases jB with z | z | z | z <;> subst z
   ·exact⟨_,ez⟩
   ·exact⟨_,e3⟩
   ·obtain⟨o,e,_⟩:=t4.1; exact⟨o,e⟩
   ·obtain⟨o,e,_⟩:=t5.1; exact⟨o,e⟩
  have I1:Inv X jv σ (jA H s.heap.objs.size (.tup [x,y])) { s with heap:=h',toks:=tk } :=
   I.turnedNew k1 (fun c jB=>hf c (ch c jB)) uX (ag _) ⟨zaK,_,.cons ru (.cons rv .nil),zbD pp⟩
  refine⟨_,rfl,zl6 (s:={ s with heap:=h',toks:=tk }) ez yi fun rY g2 pT u9 k9=>?_⟩;have fr:∀ c∈zd4 n,jA H s.heap.objs.size (.tup [x,y]) c=none:=fun c jB=>by
   have jN:c < s.heap.objs.size:=by
    simp only [zd4,aA,aU,or_false] at jB;rcases jB with z | z | z | z | z <;> subst z <;> exact nl #[O]
   rw [zm (aT jN)];exact (hf c jB).1
  have I2:Inv X jv σ (jA H s.heap.objs.size (.tup [x,y])) { s with heap:=rY,toks:=tk } :=
   Inv.turnedL (s:={ s with heap:=h',toks:=tk }) (ch:=[n+4]) (t':=tk) I1 (fun c o jB eo=>k9.extBut c o (by simpa using jB) eo) (fun c jB=>by
    have z:c=n+4:=by simpa using jB
    subst z;exact⟨fr _ #[M],(hf _ #[M]).2⟩) (fun c jB=>by
    have z:c=n+4:=by simpa using jB
    subst z;exact⟨_,pT⟩)
  have up:∀ c o,c≠n+4→h'.get? c=some o→rY.get? c=some o:=fun c o jB e=>k9.extBut c o jB e
  exact⟨.ref s.heap.objs.size,_,I2,rfl,⟨_,x,y,I.fresh,rfl,rfl,fun zs hz=>by rw [I.tuple_inj hz mB]; exact hx,fun zs hz=>by rw [S.inj I hz la]; exact hy⟩,
   ⟨⟨g2,g1,pT,u9⟩,up _ _ (nq #[O]) e2,⟨_,_,up _ _ (nq #[O]) e3⟩,t4.1.at fun o e=>up _ o (nq #[O]) e,⟨t5.1.choose,up _ _ (nq #[O]) t5.1.choose_spec.1,t5.1.choose_spec.2⟩⟩,fr⟩
 done:=by
  intro X hP hw hK hc i jv s σ H E I hf st hg;subst hP hw hK;obtain⟨xs,ys,mB,la,hx⟩:=hg;obtain⟨⟨f0,f1,h1,ri⟩,h2,⟨u0,v0,h3⟩,h4,h5⟩:=st;obtain⟨j4,oE,p1,mC⟩:=I.tuple mB;obtain⟨kg,oY,p2,_⟩:=S.inv I la;have hh:X.A.in1.handled=none:=by simp [I.ok.hd hc]
  have pU:=oE.length;have mV:=oY.length;refine zlj (Draws.tuple hh n a (nq #[O]) j4.toArray) (S.h.dr hh (n+1) b (nq #[O]) kg.toArray) (zc8 ha hb) h1 ri h2 h3 ⟨h4,(show s.heap.IsTuple a j4.toArray from p1)⟩ ⟨h5,p2⟩ (by rw [ao,ao]; lia) fun h' tk kk=>⟨rfl,?_⟩
  have sub:∀ c∈[n+4,n+3,n,n+1],c∈zd4 n:=fun c jB=>by
   simp only [zd4,aA,aU,or_false] at jB ⊢;rcases jB with z | z | z | z <;> subst z <;> simp
  have k1:∀ c o,c∉[n+4,n+3,n,n+1]→s.heap.get? c=some o→h'.get? c=some o:=fun c o jB e=>by
   simp only [aA,aU,or_false,not_or] at jB;exact kk c o jB.1 jB.2.1 jB.2.2.1 jB.2.2.2 e
  have oD:∀ d u',H d=some u'→d∉[n+4,n+3,n,n+1]:=fun d u' e' hd=>by rw [(hf d (sub d hd)).1] at e'; cases e'
  refine I.step (g':=s.gens) (d':=s.drawn) (t':=tk) (ch:=[n+4,n+3,n,n+1]) (fun c jB=>?_) (fun c o _ _ j9 e _=>k1 c o j9 e) (fun c o _ _ j9 e _=>⟨o.slots,k1 c o j9 e⟩) (fun _ _ _ _ n=>n)
   (fun c o j9 e=>⟨o,k1 c o j9 e⟩) (fun _ _ e=>e) (fun _ _ _ e=>e) (fun c ps e=>⟨#[],by rw [e]; simp⟩) (fun m hm=>?_) (fun c u e=>?_) I.bare
  ·obtain⟨_,a1,_,a3,a4,a5⟩:=hf c (sub c jB);exact⟨a3,a1,a4,a5⟩
  ·obtain⟨o,qH,ep,ho,r⟩:=hm;exact⟨o,qH,ep,k1 _ o (fun z=>(hf _ (sub _ z)).2.1 rfl) ho,r⟩
  ·refine (I.hok c u e).stay (fun d v' hd q=>k1 d v' ?_ q) (fun _ q=>q) fun _ _ q=>q
   rcases hd with z | z
   ·rw [z]; exact oD c u e
   ·exact oD d _ z
 self:=fun _ _ _ _ _ st h=>by
  obtain⟨⟨f0,f1,hz,_⟩,_⟩:=st;exact zgM hz h
def iZq (mK mL:Hp→Addr→List V→Prop) (ta:TA):TI:=fun σ H R=>ta σ H fun vs H1=>∃ a b xs ys,vs = [.ref a,.ref b]∧mK H1 a xs∧mL H1 b ys∧R (zlk mK mL a b) H1
theorem ziT {C:String} {Is:Heap→Addr→Array Value→Prop} {Sq:af→Hp→Addr→List V→Prop} (S:Sk C Is Sq) {X:Cx} {es:List Expr} {k:Nat} {mX p pos:Pos} {a b:Expr} {ta:TA} (hg:Gl X "zip") (hm:X.mg "zip" = none) (ha:PA X [a,b] ta) (hs:starEach [a,b] X.env = [(false,eval a X.env),(false,eval b X.env)]:=by rfl) (k8:starEach [b] X.env = [(false,eval b X.env)]:=by rfl) :
  PI X (.Tuple es k mX) (.Call (.Name "zip" p) [a,b] [] pos) (iZq (jI X.K) (Sq X.K) ta):=by
 intro jv s σ H R I h;refine Call_ (zbj I hg hm boot_zip (bx (thn (ha pos jv s σ H _ I h) fun us s1 ⟨vs,H1,I1,r1,q1⟩=>?_) (by rw [hs,k8]) (by rw [k8]; rfl)));obtain⟨l1,l2,xs,ys,e,mB,la,q⟩:=q1;subst e;cases r1 with
 | cons r rr =>
  cases rr with
  | cons r' rr =>
   cases rr;cases r;cases r';obtain⟨j4,oE,rZ,mC⟩:=I1.tuple mB;obtain⟨kg,oY,sQ,mZ⟩:=S.inv I1 la;have mY:l1 < s1.heap.objs.size:=by obtain⟨_,e,_⟩:=rZ; exact au e
   refine zdv S.h (show s1.heap.IsTuple l1 j4.toArray from rZ) sQ fun h' n hn b1 b2 b3 b4 b5 b6 kk=>?_
   have I2:Inv X jv σ H1 { s1 with heap:=h' }:=I1.kept (t':=s1.toks) kk;refine zgM b1 ?_;refine⟨_,zd4 n,zl7 C n l1 l2,zlk (jI X.K) (Sq X.K) l1 l2,H1,rfl,I2,ziS S l1 l2 n (by rw [hn]; exact mY) (by rw [hn]; exact mZ),⟨⟨_,_,b1,.inl rfl,_,rfl⟩,b2,⟨_,_,b3⟩,b4,b5⟩,fun c hc=>?_,q⟩;have hle:s1.heap.objs.size≤c:=by
    simp only [zd4,aA,aU,or_false] at hc;rw [← hn];rcases hc with z | z | z | z | z <;> subst z
    all_goals first | exact iR _ _ | exact ag _
   exact I1.fpOk hle (I1.hok.fresh hle)
theorem ziU {X:Cx} {es:List Expr} {k:Nat} {mX p pos:Pos} {a b:Expr} {ta:TA} (hg:Gl X "zip") (hm:X.mg "zip" = none) (ha:PA X [a,b] ta) (hs:starEach [a,b] X.env = [(false,eval a X.env),(false,eval b X.env)]:=by rfl) (k8:starEach [b] X.env = [(false,eval b X.env)]:=by rfl) :
  PI X (.Tuple es k mX) (.Call (.Name "zip" p) [a,b] [] pos) (iZq (jI X.K) (jy X.K) ta):=ziT sqL hg hm ha hs k8
section
variable {P:Program} {w:World} {outer:List Env} {H H':Hp} {h h' B:Heap} {e C:Addr}
theorem zll {o:HO} {a:Addr} (x:zai P w H h a o):∃ ob,h.get? a=some ob:=by
 cases o with
 | lst xs=>obtain⟨_,_,_,_,e⟩:=x; exact⟨_,e⟩
 | tup xs=>obtain⟨_,_,_,o,e,_⟩:=x; exact⟨_,e⟩
 | dK jw=>obtain⟨_,_,_,_,o,_,_,e,_⟩:=x; exact⟨_,e⟩
 | dT jw=>obtain⟨_,_,_,_,o,_,_,e,_⟩:=x; exact⟨_,e⟩
 | set S n=>obtain⟨o,_,_,_,e,_⟩:=x; exact⟨_,e⟩
 | ins C dx fs=>obtain⟨_,_,_,e,_⟩:=x; exact⟨_,e⟩
 | own y=>obtain⟨_,e⟩:=x; exact⟨_,e⟩
 | xd fs=>obtain⟨_,⟨_,_,_,e,_⟩,_⟩:=x; exact⟨_,e⟩
 | rng lo hi=>obtain⟨_,_,_,e⟩:=x; exact⟨_,e⟩
 | frz ob u=>obtain⟨e,_⟩:=x; exact⟨_,e⟩
 | tbl ps=>exact⟨_,(show h.get? a=some _ from x)⟩
 | met f y=>exact⟨_,(show h.get? a=some _ from x)⟩
 | ext φ=>obtain⟨_,⟨_,e⟩,_⟩:=x; exact⟨_,e⟩
end
section
variable {κ:Type} [DecidableEq κ]
def za6 (jw:List (κ×V)) (k:κ):Option V:=(jw.find? fun kv=>decide (kv.1=k)).map (·.2)
def putK (jw:List (κ×V)) (k:κ) (v:V):List (κ×V) :=
 if (jw.any fun kv=>decide (kv.1=k))=true then jw.map (fun kv=>if kv.1=k then (kv.1,v) else kv) else jw++[(k,v)]
theorem zdy {p:κ×V} {r:List (κ×V)} {k:κ} (e:p.1=k):za6 (p :: r) k=some p.2:=by simp [za6,dz,e]
theorem zdz {p:κ×V} {r:List (κ×V)} {k:κ} (e:¬ p.1=k):za6 (p :: r) k=za6 r k:=by simp [za6,dz,e]
theorem zdA (k:κ):∀ jw:List (κ×V),(jw.any fun kv=>decide (kv.1=k))=(za6 jw k).isSome
 | []=>rfl
 | p :: r=>by
  rw [dS];by_cases e:p.1=k
  ·simp only [zdy e,decide_eq_true e,Bool.true_or,im]
  ·rw [zdz e,decide_eq_false e,Bool.false_or]; exact zdA k r
theorem zcV (jw:List (κ×V)) (k:κ) (v:V):(putK jw k v).length≤jw.length+1:=by
 unfold putK;split
 ·rw [ab]; lia
 ·rw [av,bT,cZ]; lia
theorem ziV {jw:List (κ×V)} {k:κ} (v:V) (h:za6 jw k=none):putK jw k v=jw++[(k,v)]:=by
 unfold putK;rw [zdA,h];exact if_neg #[D]
theorem zdX.isSome_eq {o:Option V} {u:Option Value} (r:zdX o u):o.isSome=u.isSome:=by
 cases o with
 | none=>cases u with
  | none=>rfl
  | some _=>exact (show False from r).elim
 | some _=>cases u with
  | none=>exact (show False from r).elim
  | some _=>rfl
theorem KV.val {jw:List (κ×V)} {vs:List (κ×Value)} (r:KV jw vs) (k:κ):zdX (za6 jw k) (valueAt vs k):=by
 unfold KV at r;induction r with
 | nil=>exact fU
 | @cons p q ps qs h t ih =>
  obtain⟨h1,h2⟩:=h;by_cases e:p.1=k
  ·have e':q.1=k:=h1.symm.trans e;have b:valueAt (q :: qs) k=some q.2:=by simp [valueAt,dz,e']
   rw [zdy e,b]; exact h2
  ·have e':¬ q.1=k:=fun z=>e (h1.trans z)
   have b:valueAt (q :: qs) k=valueAt qs k:=by simp [valueAt,dz,e']
   rw [zdz e,b]; exact ih
theorem KV.any {jw:List (κ×V)} {vs:List (κ×Value)} (r:KV jw vs) (k:κ):(jw.any fun kv=>decide (kv.1=k))=vs.any fun kv=>decide (kv.1=k):=by
 unfold KV at r;induction r with
 | nil=>rfl
 | cons h t ih=>rw [dS,dS,ih,h.1]
theorem KV.repl {jw:List (κ×V)} {vs:List (κ×Value)} (r:KV jw vs) (k:κ) {y:V} {u:Value} (ry:RelV y u) :
  KV (jw.map fun kv=>if kv.1=k then (kv.1,y) else kv) (vs.map fun kv=>if kv.1=k then (kv.1,u) else kv):=by
 unfold KV at r ⊢;induction r with
 | nil=>exact .nil
 | @cons p q ps qs h t ih =>
  rw [aS,aS];refine .cons ?_ ih;obtain⟨h1,h2⟩:=h;by_cases e:p.1=k
  ·rw [if_pos e,if_pos (h1.symm.trans e)]; exact⟨h1,ry⟩
  ·rw [if_neg e,if_neg (fun z=>e (h1.trans z))]; exact⟨h1,h2⟩
theorem KV.put {jw:List (κ×V)} {vs:List (κ×Value)} (r:KV jw vs) (k:κ) {y:V} {u:Value} (ry:RelV y u):KV (putK jw k y) (stored vs k u):=by
 unfold putK stored;rw [r.any k];by_cases e:(vs.any fun kv=>decide (kv.1=k))=true
 ·rw [if_pos e,if_pos e]; exact r.repl k ry
 ·rw [if_neg e,if_neg e]; exact dg r ⟨rfl,ry⟩
theorem KV.length {jw:List (κ×V)} {vs:List (κ×Value)} (r:KV jw vs):jw.length=vs.length:=dP r
end
theorem ziW {P:Program} {w:World} {k:Key} {u:Value} (r:RelV (kV k) u):(zam P w).is k u=true:=by
 cases k with
 | inl i=>obtain⟨t,e⟩:=(show ∃ t,u=h9 i t from r); subst e; exact ze5 P w i t
 | inr x=>obtain⟨t,e⟩:=(show ∃ t,u=ji x t from r); subst e; exact ze6 P w x t
theorem zew {P:Program} {w:World}:∀ {ks:List Key} {us:List Value},zG (ks.map kV) us→ItemsAre (zam P w) ks us
 | [],_,r=>by rw [fY] at r; cases r; exact .nil
 | k :: ks,_,r=>by
  rw [aS] at r;cases r with
  | cons h t=>exact .cons (ziW h) (zew t)
abbrev KT (H:Hp):List (List Key×V)→List (List Key×Addr×Value)→Prop:=Paired fun p q=>p.1=q.1∧H q.2.1=some (.tup (p.1.map kV))∧RelV p.2 q.2.2
theorem KT.val {H:Hp} {jw:List (List Key×V)} {xs:List (List Key×Addr×Value)} (r:KT H jw xs) (k:List Key):zdX (za6 jw k) ((atKey xs k).map (·.2)):=by
 induction r with
 | nil=>exact fU
 | @cons p q ps qs h t ih =>
  obtain⟨h1,_,h2⟩:=h;by_cases e:p.1=k
  ·have e':q.1=k:=h1.symm.trans e;have b:atKey (q :: qs) k=some q.2:=by simp [atKey,dz,e']
   rw [zdy e,b]; exact h2
  ·have e':¬ q.1=k:=fun z=>e (h1.trans z)
   have b:atKey (q :: qs) k=atKey qs k:=by simp [atKey,dz,e']
   rw [zdz e,b]; exact ih
theorem KT.repl {H:Hp} {jw:List (List Key×V)} {xs:List (List Key×Addr×Value)} (r:KT H jw xs) (k:List Key) {y:V} {u:Value} (ry:RelV y u) :
  KT H (jw.map fun kv=>if kv.1=k then (kv.1,y) else kv) (xs.map (putAt k u)):=by
 induction r with
 | nil=>exact .nil
 | @cons p q ps qs h t ih =>
  rw [aS,aS];refine .cons ?_ ih;obtain⟨h1,h2,h3⟩:=h;unfold putAt;by_cases e:p.1=k
  ·rw [if_pos e,if_pos (h1.symm.trans e)]; exact⟨h1,h2,ry⟩
  ·rw [if_neg e,if_neg (fun z=>e (h1.trans z))]; exact⟨h1,h2,h3⟩
theorem KT.put {H:Hp} {jw:List (List Key×V)} {xs:List (List Key×Addr×Value)} (r:KT H jw xs) (k:List Key) {b:Addr} {y:V} {u:Value} (hb:H b=some (.tup (k.map kV))) (ry:RelV y u) :
  KT H (putK jw k y) (storedH xs k b u):=by
 have e:(jw.any fun kv=>decide (kv.1=k))=(atKey xs k).isSome:=by
  rw [zdA,(r.val k).isSome_eq,Option.isSome_map]
 unfold putK storedH;rw [e];by_cases q:(atKey xs k).isSome=true
 ·rw [if_pos q,if_pos q]; exact r.repl k ry
 ·rw [if_neg q,if_neg q]; exact dg r ⟨rfl,hb,ry⟩
theorem KT.keeps {H H':Hp} {jw:List (List Key×V)} {xs:List (List Key×Addr×Value)} (r:KT H jw xs) (ht:∀ b ys,H b=some (.tup ys)→H' b=some (.tup ys)):KT H' jw xs :=
 Paired.mapP r fun _ _ z=>⟨z.1,ht _ _ z.2.1,z.2.2⟩
section
variable {P:Program} {w:World} {H:Hp} {h:Heap} {a:Addr}
theorem zkH {u:HO} (ok:HOk P w H h) (e:Rd H a u):zai P w H h a u:=e.ok ok
theorem zgN {jw:List (Key×V)} (ok:HOk P w H h) (e:Rd H a (.dK jw)):jw.length≤sizeLine∧(a == sysModules)=false∧∃ vs,KV jw vs∧h.DictOf (zam P w) a vs :=
 show zai P w H h a (.dK jw) from zkH ok e
theorem zl8 {jw:List (Key×V)} (ok:HOk P w H h) (e:H a=some (.dK jw)):jw.length≤sizeLine∧(a == sysModules)=false∧∃ vs,KV jw vs∧h.DictOf (zam P w) a vs:=zgN ok (.inl e)
theorem zdB {ks:List Key} (ok:HOk P w H h) (e:H a=some (.tup (ks.map kV))):(tupleKind (zam P w)).is h ks a:=by
 obtain⟨_,jx,r,o,h1,h2,n,h3⟩:=(show zai P w H h a (.tup (ks.map kV)) from ok a _ e);exact⟨o,jx.toArray,n,h1,h2,h3,by simpa using zew r⟩
theorem zgO {jw:List (List Key×V)} (ok:HOk P w H h) (e:Rd H a (.dT jw)):jw.length≤sizeLine∧(a == sysModules)=false ∧
  ∃ xs,KT H jw xs∧h.DictOfH (tupleKind (zam P w)) a xs:=by
 obtain⟨z,y,xs,r,o,es,ep,h1,h2,h3,h4,h5⟩:=(show zai P w H h a (.dT jw) from zkH ok e);refine⟨z,y,xs,r,o,es,ep,h1,h2,h3,h4,fun x hx=>?_,h5⟩;have all:∀ {l:List (List Key×V)} {m:List (List Key×Addr×Value)},KT H l m→∀ x∈m,(tupleKind (zam P w)).is h x.1 x.2.1:=by
  intro l m q;induction q with
  | nil=>intro x hx; exact nomatch hx
  | @cons p q ps qs hq t ih =>
   intro x hx;rcases aA.mp hx with e | hx
   ·subst e;exact zdB ok (by rw [← hq.1]; exact hq.2.1)
   ·exact ih x hx
 exact all r x hx
theorem ziX {jw:List (List Key×V)} (ok:HOk P w H h) (e:H a=some (.dT jw)):jw.length≤sizeLine∧(a == sysModules)=false ∧
  ∃ xs,KT H jw xs∧h.DictOfH (tupleKind (zam P w)) a xs:=zgO ok (.inl e)
end
def zhM (H:Hp) (a:Addr) (y:V) (r:Option V):Prop :=
 (∃ jw k,Rd H a (.dK jw)∧y=kV k∧r=za6 jw k)∨∃ jw k b,Rd H a (.dT jw)∧y = .ref b∧H b=some (.tup (k.map kV))∧r=za6 jw k
def ziY (H:Hp) (a:Addr) (y v:V) (H':Hp):Prop :=
 (∃ jw k,H a=some (.dK jw)∧y=kV k∧jw.length < sizeLine∧H'=jA H a (.dK (putK jw k v))) ∨
 ∃ jw k b,H a=some (.dT jw)∧y = .ref b∧H b=some (.tup (k.map kV))∧jw.length < sizeLine∧H'=jA H a (.dT (putK jw k v))
theorem zhM.t {H:Hp} {a b:Addr} {jw:List (List Key×V)} {k:List Key} (e:H a=some (.dT jw)) (eb:H b=some (.tup (k.map kV))):zhM H a (.ref b) (za6 jw k):=.inr ⟨jw,k,b,.inl e,rfl,eb,rfl⟩
theorem ziY.t {H:Hp} {a b:Addr} {jw:List (List Key×V)} {k:List Key} {v:V} (e:H a=some (.dT jw)) (eb:H b=some (.tup (k.map kV))) (hl:jw.length < sizeLine) :
  ziY H a (.ref b) v (jA H a (.dT (putK jw k v))):=.inr ⟨jw,k,b,e,rfl,eb,hl,rfl⟩
section
variable {X:Cx} {jv:List (Addr×Obj)} {σ:St} {H:Hp} {s:Shared} {a:Addr} {y v:V} {u r:Value} {o:Option V} {A:Around} {E:Value→Shared→Prop}
theorem Inv.big (I:Inv X jv σ H s):sysModules < s.heap.objs.size:=by
 have h:mainGlobals < s.heap.objs.size:=(I.mod.glob.keeps I.bk).lt;exact Nat.lt_trans #[D] h
theorem zhN {Q:Value→Shared→Prop} (hu:A.units+1 < cLine) (I:Inv X jv σ H s) (g:zhM H a y (some v)) (ry:RelV y u) (h:∀ w' s',Inv X jv σ H s'→RelV v w'→Q w' s') :
  wpAny (model X.prog X.w) A (getItem (.ref a) u) Q E s:=by
 rcases g with ⟨jw,k,e,ey,l⟩ | ⟨jw,k,b,e,ey,eb,l⟩
 ·subst ey;obtain⟨z,hd,vs,rel,dd⟩:=zgN I.hok e;obtain⟨w',hw,nj⟩:=zdX.some_of (v:=v) (o:=valueAt vs k) (by rw [l]; exact rel.val k);exact wpAny_getItem_of (ziW ry) dd.mapOf hw (h w' _ (I.tok _) nj)
 ·subst ey;cases (show u=aO b from ry);obtain⟨z,hd,xs,rel,dd⟩:=zgO I.hok e;obtain⟨w',hw,nj⟩:=zdX.some_of (v:=v) (o:=(atKey xs k).map (·.2)) (by rw [l]; exact rel.val k);obtain⟨p,hp,lQ⟩:=gw.mp hw;refine iq (d8 hu) (zdB I.hok eb) dd hp ?_;rw [lQ];exact h w' _ (I.tok _) nj
theorem zeQ {h':Heap} {t':Nat} {ob:HO} (I:Inv X jv σ H s) (mu:Mut (H a)) (hs:aW a s.heap h') (he:∃ q,h'.get? a=some q) (new:zai X.prog X.w (jA H a ob) h' a ob) :
  Inv X jv σ (jA H a ob) { s with heap:=h',toks:=t' } :=
 I.write (x:=a) (e:=a) mu (.inl rfl) (fun b q hb z=>(hs.2 b hb).trans z) he new
theorem zlm {P:Program} {w:World} {H':Hp} {h':Heap} {jw:List (Key×V)} {vs:List (Key×Value)} (z:jw.length≤sizeLine) (hd:(a == sysModules)=false) (rel:KV jw vs) (dd:h'.DictOf (zam P w) a vs) :
  zai P w H' h' a (.dK jw):=⟨z,hd,vs,rel,dd⟩
theorem zhO {H':Hp} {Q:Unit→Shared→Prop} (hu:A.units+1 < cLine) (I:Inv X jv σ H s) (g:ziY H a y v H') (ry:RelV y u) (rv:RelV v r) (h:∀ s',Inv X jv σ H' s'→Q () s') :
  wpAny (model X.prog X.w) A (setItem (.ref a) u r) Q E s:=by
 rcases g with ⟨jw,k,e,ey,l,eH⟩ | ⟨jw,k,b,e,ey,eb,l,eH⟩
 ·subst ey eH;obtain⟨z,hd,vs,rel,dd⟩:=zl8 I.hok e;have hz:vs.length≤sizeLine:=by rw [← rel.length]; exact z
  have hl:(putK jw k v).length≤sizeLine:=by have:=zcV jw k v; lia
  refine wpAny_setItem_pairs (hsz:=hz) (ziW ry) dd fun h' uk hs=>h _ ?_
  have he:∃ q,h'.get? a=some q:=let ⟨q,_,_,hq,_⟩:=uk; ⟨q,hq⟩
  exact zeQ I (by rw [e]; exact fU) hs he (zlm hl hd (rel.put k rv) uk)
 ·subst ey eH;cases (show u=aO b from ry);obtain⟨z,hd,xs,rel,dd⟩:=ziX I.hok e;have hz:xs.length≤sizeLine:=by rw [← dP rel]; exact z
  have hl:(putK jw k v).length≤sizeLine:=by have:=zcV jw k v; lia
  refine wpAny_setItem_heap (hsz:=hz) (d8 hu) (zdB I.hok eb) dd fun h' uk hs=>h _ ?_
  obtain⟨q,es,ep,hq,h2,h3,h4,_,h5⟩:=uk;refine zeQ I (by rw [e]; exact fU) hs ⟨q,hq⟩ ⟨hl,hd,_,(rel.put k eb rv).keeps fun c ys ec=>?_,q,es,ep,hq,h2,h3,h4,h5⟩;rw [zm (zkx ec e (fun z=>nomatch z))];exact ec
end
def zl9 (i:Expr):Prop:=∀ ov iv,subscripted i false ov iv=operate [ov,iv] (getItem ov iv)
theorem zgP {prog:Program} {w:World} {A:Around} {E:Value→Shared→Prop} {s:Shared} {env:Env} {value slice:Expr} {pos:Pos} {T id:String} {Q:Value→Shared→Prop}
  (hl:typeLookup (.type T) "__getitem__" = pure (some (.builtin id))) (hs:zl9 slice)
  (h:wpAny (model prog w) A (eval value env) (fun o s₁=>wpAny (model prog w) A (eval slice env) (fun i s₂=>s₂.TypeIs o T∧wpAny (model prog w) A (getItem o i) Q E s₂) E s₁) E s) :
  wpAny (model prog w) A (eval (.Subscript value slice pos) env) Q E s:=by
 refine iY (bH h (fun o s₁ h₁=>bH h₁ (fun i s₂ h₂=>?_) fun _ _ x=>x) fun _ _ x=>x);obtain⟨hT,h₂⟩:=h₂;unfold subscriptTail;refine aa ?_;rw [getitemInPython_of_ne hT.not_modules];refine aa (eW hT hl ?_);have fin:wpAny (model prog w) A (subscripted slice false o i) (fun r s₃=>wpAny (model prog w) A (letTemporaryGo value o r >>= fun _=>pure r) Q E s₃) E s₂:=by
  rw [hs o i];exact wpAny_operating (bH h₂ (fun r s₃ h₃=>aa (wpAny_letTemporaryGo (ah h₃))) fun _ _ x=>x)
 first
  | exact ah (aa fin)
  | exact aa (ah (aa fin))
  | exact aa fin
theorem zfu {X:Cx} {jv:List (Addr×Obj)} {σ:St} {H:Hp} {s:Shared} {a:Addr} {y:V} {o:Option V} (I:Inv X jv σ H s) (g:zhM H a y o):s.TypeIs (.ref a) "dict":=by
 rcases g with ⟨jw,k,e,_,_⟩ | ⟨jw,k,b,e,_,_,_⟩
 ·obtain⟨_,_,vs,_,dd⟩:=zgN I.hok e;exact dd.typeIs
 ·obtain⟨_,_,xs,_,dd⟩:=zgO I.hok e;exact dd.typeIs
def zma (td ty:TE):TE:=fun σ H Q=>td σ H fun x H1=>ty σ H1 fun y H2=>∃ a v,x = .ref a∧zhM H2 a y (some v)∧Q v H2
def zmb (td ty tv:TE):TS:=fun D σ H=>tv σ H fun v H1=>td σ H1 fun x H2=>ty σ H2 fun y H3=>∃ a H4,x = .ref a∧ziY H3 a y v H4∧D.nx σ H4
section
variable {X:Cx} {o i e value:Expr} {pos pos' mX:Pos} {td ty tv:TE}
theorem zjZ (hu:X.A.units+1 < cLine) (ho:PE X o td) (hi:PE X i ty) (hs:zl9 i):PE X (.Subscript o i pos) (zma td ty):=by
 intro jv s σ H Q I h;refine zgP PySem.F.slot_dict_getitem.lookup hs (thn (ho jv s σ H _ I h) fun u s1 ⟨x,H1,I1,rx,q1⟩=>thn (hi jv s1 σ H1 _ I1 q1) fun iv s2 ⟨y,H2,I2,ry,a,v,ex,g,q2⟩=>?_);subst ex;obtain rfl:u=aO a:=rx;exact⟨zfu I2 g,zhN hu I2 g ry fun w' s3 I3 nj=>⟨v,H2,I3,nj,q2⟩⟩
theorem zj0 (hu:X.A.units+1 < cLine) (ho:PE X o td) (hi:PE X i ty) (hv:PE X value tv) (hs:swapsWith value (some (.Subscript o i pos')) pos.line X.env=pure false) :
  PS X (.Assign [.Subscript o i pos'] value pos) (zmb td ty tv):=by
 intro jv s σ H D I h;refine wpAny_Assign_Subscript (thn (hv jv s σ H _ I h) fun r s1 ⟨v,H1,I1,rv,q1⟩=>thn (ho jv s1 σ H1 _ I1 q1) fun u s2 ⟨x,H2,I2,rx,q2⟩=>thn (hi jv s2 σ H2 _ I2 q2) fun iv s3 ⟨y,H3,I3,ry,a,H4,ex,g,q3⟩=>?_) hs;subst ex;obtain rfl:u=aO a:=rx;exact zhO hu I3 g ry rv fun s4 I4=>⟨σ,H4,I4,q3⟩
end
theorem ziZ {P:Program} {w:World} {H:Hp} (h:Heap) (hb:sysModules < h.objs.size):zai P w H (h.push { cls:=.type "dict",data:=.dict #[] }) h.objs.size (.dT []) :=
 ⟨a8 _,beq_eq_false_iff_ne.mpr (dh (aT hb)),[],.nil,_,#[],0,aq _ rfl,⟨rfl,rfl,rfl⟩,rfl,rfl,List.nodup_nil⟩
def zln:TE:=fun _ H Q=>∀ p,H p=none→Q (.ref p) (jA H p (.dT []))
section
variable {X:Cx} {pos:Pos}
theorem zfv:PE X (.Dict [] [] pos) zln:=fun jv s σ H Q I h =>
 wpAny_Dict_empty ⟨.ref s.heap.objs.size,_,I.laid (a:=s.heap.objs.size) (o:=.dT []) (t':=s.toks) (fun _ _ q=>ae _ q) (ag _) (ziZ s.heap I.big),rfl,h _ (I.hok.fresh (ag _))⟩
end
structure M2 (X:Cx) (o:Expr) (m:Str) (apos:Pos) (e f:Expr) (j5:Pos):Prop where
 base:attributeBase o m X.env (eval o X.env)=eval o X.env
 few:((backTo j5 (starEach [e,f] X.env)).all (fun x=>!x.1) && (backToKw j5 (keywordEach [] X.env)).all (fun x=>x.1.isSome)
  && decide (([e,f]:List Expr).length+([]:List Keyword).length+(if ([]:List Keyword).isEmpty then 0 else 1) < 30))=true
 line:(apos.endLine == j5.line)=true
 trees:backTo j5 (starEach [e,f] X.env) = [(false,eval e X.env),(false,eval f X.env)]
def IsD (H:Hp) (a:Addr):Prop:=(∃ jw,Rd H a (.dK jw))∨∃ jw,Rd H a (.dT jw)
theorem zlo {X:Cx} {jv:List (Addr×Obj)} {σ:St} {H:Hp} {s:Shared} {a:Addr} (I:Inv X jv σ H s) (d:IsD H a) :
  s.TypeIs (.ref a) "dict"∧(∀ b,aO a = .ref b→∃ ob,s.heap.get? b=some ob∧ob.dict=none)∧(a == sysModules)=false:=by
 rcases d with ⟨jw,e⟩ | ⟨jw,e⟩
 ·obtain⟨_,hd,vs,_,dd⟩:=zgN I.hok e;refine⟨dd.typeIs,fun b q=>?_,hd⟩;cases q;obtain⟨ob,_,_,h1,h2,_⟩:=dd;exact⟨ob,h1,h2.2.1⟩
 ·obtain⟨_,hd,xs,_,dd⟩:=zgO I.hok e;refine⟨dd.typeIs,fun b q=>?_,hd⟩;cases q;obtain⟨ob,_,_,h1,h2,_⟩:=dd;exact⟨ob,h1,h2.2.1⟩
end L2
namespace PySem
open PyProof.Rows
end PySem
namespace L2
open PySem PySem.Spec PyProof.Rows
end L2
namespace My
open PySem L2 PyProof.Rows
section
variable {K:af}
structure RowAt (K:af) (H:Hp) (r:Addr) (n:Nat) (rw:List (Option Int)):Prop where
 at':jy K H r (rw.map nF)
 len:rw.length=n
end
end My
end
section
namespace Srt
open PySem PyProof.Rows
def Vk (val:Keyed→Int) (xs:Array Keyed) (i:Nat):Int:=match xs[i]? with
 | some p=>val p
 | none=>0
theorem zW {val:Keyed→Int} {xs ys:Array Keyed} {i j:Nat} (h:xs[i]? = ys[j]?):Vk val xs i=Vk val ys j:=by unfold Vk; rw [h]
theorem zK {val:Keyed→Int} {xs:Array Keyed} {i:Nat} {p:Keyed} (h:xs[i]? = some p):Vk val xs i=val p:=by unfold Vk; rw [h]
def SIn (val:Keyed→Int) (xs:Array Keyed) (lo hi:Nat):Prop:=∀ i j,lo≤i→i≤j→j < hi→Vk val xs i≤Vk val xs j
def DIn (val:Keyed→Int) (xs:Array Keyed) (lo hi:Nat):Prop:=∀ i j,lo≤i→i≤j→j < hi→Vk val xs j≤Vk val xs i
structure SB (κ:SortKind) (a₀:Array Keyed) (st:SortSt):Prop where
 perm:(arrOf st).Perm a₀
 kind:kindOf st=κ
 failed:failedOf st=none
theorem SB.size {κ:SortKind} {a₀:Array Keyed} {st:SortSt} (h:SB κ a₀ st):(arrOf st).size=a₀.size:=h.perm.size_eq
theorem SB.mem {κ:SortKind} {a₀:Array Keyed} {st:SortSt} (h:SB κ a₀ st) {i:Nat} (hi:i < a₀.size):∃ p,(arrOf st)[i]? = some p∧p∈a₀.toList:=by
 (have lL:i < (arrOf st).size:=by rw [h.size]; exact hi)
 exact⟨(arrOf st)[i],getElem?_pos _ i lL,(dU.mp h.perm).mem_iff.mp #[M]⟩
structure SF (κ:SortKind) (a₀:Array Keyed) (lo:Nat) (st₀ st:SortSt):Prop where
 b:SB κ a₀ st
 low:∀ k,k < lo→(arrOf st)[k]? = (arrOf st₀)[k]?
 pend:pendingOf st=pendingOf st₀
theorem SF.refl {κ:SortKind} {a₀:Array Keyed} {lo:Nat} {st:SortSt} (h:SB κ a₀ st):SF κ a₀ lo st st:=⟨h,fun _ _=>rfl,rfl⟩
theorem SF.setArr {κ:SortKind} {a₀:Array Keyed} {lo:Nat} {st₀ st:SortSt} (h:SF κ a₀ lo st₀ st) {xs:Array Keyed} (hp:xs.Perm (arrOf st)) (hl:∀ k,k < lo→xs[k]? = (arrOf st)[k]?):SF κ a₀ lo st₀ (setArr st xs) :=
 ⟨⟨hp.trans h.b.perm,h.b.kind,h.b.failed⟩,fun k hk=>(hl k hk).trans (h.low k hk),h.pend⟩
section
variable {prog:Program} {w:World} {A:Around} {E:Value→Shared→Prop} {s:Shared} {a₀:Array Keyed} {κ:SortKind} {val:Keyed→Int}
def Cmp (prog:Program) (w:World) (A:Around) (s:Shared) (κ:SortKind) (val:Keyed→Int) (a₀:Array Keyed):Prop :=
 ∀ x y,x∈a₀.toList→y∈a₀.toList→∀ (Q:Bool→Shared→Prop) (E:Value→Shared→Prop),Q (decide (val x < val y)) s→wpAny (model prog w) A (keyLt' κ x.1 y.1) Q E s
theorem zi0 {st:SortSt} {x y:Keyed} {Q:Option Bool→SortSt→Prop} (hC:Cmp prog w A s κ val a₀) (hk:kindOf st=κ) (hx:x∈a₀.toList) (hy:y∈a₀.toList) (h:Q (some (decide (val x < val y))) st) :
  wpS (model prog w) A E s (lt' x y) Q st:=by
 rw [lt'_eq];refine ai (er ?_);rw [hk];refine ai (fm (cr (hC x y hx hy _ _ ⟨rfl,?_⟩)));exact ak h
theorem zJ {st:SortSt} {arr:Array Keyed} {i:Nat} {p:Keyed} {Q:Keyed→SortSt→Prop} (hi:arr[i]? = some p) (h:Q p st):wpS (model prog w) A E s (elem' arr i) Q st:=by
 rw [elem'_eq,hi];exact ak h
theorem zdC {st:SortSt} {i j:Nat} {Q:Option Bool→SortSt→Prop} (hC:Cmp prog w A s κ val a₀) (hB:SB κ a₀ st) (hi:i < a₀.size) (hj:j < a₀.size) (h:Q (some (decide (Vk val (arrOf st) i < Vk val (arrOf st) j))) st) :
  (wpS (model prog w) A E s (ltAt' i j) Q st):=by
 obtain⟨x,ex,mx⟩:=hB.mem hi;obtain⟨y,ey,my⟩:=hB.mem hj;rw [ltAt'_eq];refine ai (er ?_)
 (show wpS _ _ _ _ (do let x ← elem' (arrOf st) i; let y ← elem' (arrOf st) j; lt' x y) Q st)
 refine ai (zJ ex (ai (zJ ey (zi0 hC hB.kind mx my ?_))));rw [zK ex,zK ey] at h;exact h
theorem zgQ {st:SortSt} {i j:Nat} {Q:Unit→SortSt→Prop} (h:Q () (setArr st (mirror (arrOf st) i j ((j - i) / 2)))) :
  (wpS (model prog w) A E s (reverseSlice' i j) Q st):=by
 ((rw [reverseSlice'_eq]; exact dM h))
theorem zdD {xs:Array Keyed} {i j:Nat} (hj:j≤xs.size) (k:Nat):Vk val (mirror xs i j ((j - i) / 2)) k=if i≤k∧k < j then Vk val xs (i+j - 1 - k) else Vk val xs k:=by
 (have e:=hJ (i:=i) hj k)
 by_cases h1:i≤k∧k < j
 ·rw [if_pos h1] at e ⊢; exact zW e
 ·rw [if_neg h1] at e ⊢; exact zW e
theorem za3 {xs:Array Keyed} {i j:Nat} (hj:j≤xs.size) (heq:∀ k,i≤k→k < j→Vk val xs k=Vk val xs (j - 1)) (k:Nat):Vk val (mirror xs i j ((j - i) / 2)) k=Vk val xs k:=by
 rw [zdD hj];split
 ·(rw [heq _ #[O] #[O],heq k #[O] #[O]])
 ·rfl
theorem zbF {xs:Array Keyed} {lo i j:Nat} (hj:j≤xs.size) (hi:lo≤i):∀ k,k < lo→(mirror xs i j ((j - i) / 2))[k]? = xs[k]?:=fun k hk=>by
 rw [hJ hj,if_neg #[O]]
theorem zgj {xs:Array Keyed} {lo src d:Nat} (hs:src < xs.size) (hd:d≤src) (hl:lo≤src - d):∀ k,k < lo→(bubble xs src d)[k]? = xs[k]?:=fun k hk=>by
 rw [getElem?_bubble hs d hd,if_neg #[O],if_neg #[O]]
def zi1 (lo a jF:Nat):StateT SortSt Sem AscSt :=
 forIn [a:jF] ((none,a):AscSt) fun _ st=>do
  let x ← ltAt' (lo+st.snd) (lo+st.snd - 1)
  match x with
  | some m5=>if m5=true then pure (et (none,st.snd)) else pure (b8 (none,st.snd+1))
  | _=>pure (et (some none,st.snd))
def zfw (lo n jF:Nat):StateT SortSt Sem (Option Nat):=do
 reverseSlice' lo (lo+n)
 let st ← zi1 lo n jF
 match st.fst with
 | some r=>pure r
 | none=>pure (some st.snd)
def zgR (lo n jF:Nat):StateT SortSt Sem DescSt :=
 forIn [n:jF] ((none,n,0):DescSt) fun _ st=>do
  let x ← ltAt' (lo+st.snd.fst) (lo+st.snd.fst - 1)
  match x with
  | some m5 =>
   if m5=true then
    if st.snd.snd > 0 then do
     reverseSlice' (lo+st.snd.fst - (st.snd.snd+1)) (lo+st.snd.fst)
     pure (b8 (none,st.snd.fst+1,0))
    else pure (b8 (none,st.snd.fst+1,0))
   else do
    let x ← ltAt' (lo+st.snd.fst - 1) (lo+st.snd.fst)
    match x with
    | some tf =>
     if tf=true then pure (et (none,st.snd.fst,st.snd.snd))
     else pure (b8 (none,st.snd.fst+1,st.snd.snd+1))
    | _=>pure (et (some none,st.snd.fst,st.snd.snd))
  | _=>pure (et (some none,st.snd.fst,st.snd.snd))
def zfx (lo n jF:Nat):StateT SortSt Sem (Option Nat):=do
 liftM (rule "list.sort.descending-run"); let st ← zgR lo (n+1) jF
 match st.fst with
 | some r=>pure r
 | none =>
  if st.snd.snd > 0 then do
   reverseSlice' (lo+st.snd.fst - (st.snd.snd+1)) (lo+st.snd.fst)
   zfw lo st.snd.fst jF
  else zfw lo st.snd.fst jF
theorem zeR (lo jF:Nat):countRun' lo jF=(do
  let st ← zi1 lo 1 jF
  match st.fst with
  | some r=>pure r
  | none =>
   if (st.snd == jF)=true then pure (some st.snd)
   else if st.snd > 1 then do
    let x ← ltAt' lo (lo+st.snd - 1)
    match x with
    | some va=>if va=true then pure (some st.snd) else do
      reverseSlice' lo (lo+st.snd)
      zfx lo st.snd jF
    | _=>pure none
   else zfx lo st.snd jF):=by
 rw [countRun'_eq];unfold zfx zfw zgR zi1;dsimp only;refine congrArg (bind _) ?_;funext c;obtain⟨r,n⟩:=c;cases r with
 | some r=>rfl
 | none =>
  dsimp only;split
  ·rfl
  ·split
   ·congr 1;funext x;cases x with
    | none=>rfl
    | some va =>
     dsimp only;split
     ·rfl
     ·congr 1;funext _r;congr 1; funext _u; congr 1; congr 1; funext s2; obtain⟨r2,n2,q2⟩:=s2;cases r2 with
      | some r2=>rfl
      | none =>
       dsimp only;split
       ·congr 1; funext _v; congr 1; funext _w; congr 1; funext s3; obtain⟨r3,n3⟩:=s3; cases r3 <;> rfl
       ·congr 1; funext _w; congr 1; funext s3; obtain⟨r3,n3⟩:=s3; cases r3 <;> rfl
   ·congr 1; funext _u; congr 1; congr 1; funext s2; obtain⟨r2,n2,q2⟩:=s2;cases r2 with
    | some r2=>rfl
    | none =>
     dsimp only;split
     ·congr 1; funext _v; congr 1; funext _w; congr 1; funext s3; obtain⟨r3,n3⟩:=s3; cases r3 <;> rfl
     ·congr 1; funext _w; congr 1; funext s3; obtain⟨r3,n3⟩:=s3; cases r3 <;> rfl
theorem zkI {st₀ st:SortSt} {lo a jF:Nat} {Q:AscSt→SortSt→Prop} (hC:Cmp prog w A s κ val a₀) (hn:lo+jF≤a₀.size) (ha:1≤a) (han:a≤jF) (hB:SF κ a₀ lo st₀ st)
  (hs:SIn val (arrOf st) lo (lo+a))
  (h:∀ n,a≤n→n≤jF→SIn val (arrOf st) lo (lo+n)→(n=jF∨Vk val (arrOf st) (lo+n) < Vk val (arrOf st) (lo+n - 1))→Q (none,n) st) :
  wpS (model prog w) A E s (zi1 lo a jF) Q st:=by
 unfold zi1;refine cg (I:=fun x c jz=>jz=st∧c=(none,x)∧SIn val (arrOf st) lo (lo+x)) ?step ?fin ⟨rfl,rfl,hs⟩
 case fin =>
  rintro c jz ⟨rfl,rfl,kA⟩
  (rw [show max a jF=jF by lia] at kA ⊢)
  (exact h jF han (ag _) kA (.inl rfl))
 case step =>
  (rintro x c jz yk wM ⟨rfl,rfl,kA⟩)
  dsimp only;refine ai (zdC hC hB.b #[O] #[O] ?_);by_cases ka:Vk val (arrOf jz) (lo+x) < Vk val (arrOf jz) (lo+x - 1)
  ·(simp only [ka,decide_true,if_true])
   (exact ak (h x yk #[O] kA (.inr ka)))
  ·(simp only [ka,decide_false,aX,if_false])
   refine ak ⟨rfl,rfl,fun i j nG mP hj=>?_⟩;by_cases vb:j < lo+x
   ·exact kA i j nG mP vb
   ·have lE:j=lo+x:=by lia
    subst lE;by_cases lL:i=lo+x
    ·(subst lL; exact bM _)
    ·exact bJ (kA i (lo+x - 1) nG #[O] #[O]) (Int.not_lt.mp ka)
theorem zi2 {st₀ st:SortSt} {lo n jF:Nat} {Q:Option Nat→SortSt→Prop} (hC:Cmp prog w A s κ val a₀) (hn:lo+jF≤a₀.size) (h1:1≤n) (rj:n≤jF) (hB:SF κ a₀ lo st₀ st)
  (hs:DIn val (arrOf st) lo (lo+n)) (h:∀ m jz,SF κ a₀ lo st₀ jz→1≤m→m≤jF→SIn val (arrOf jz) lo (lo+m)→Q (some m) jz) :
  wpS (model prog w) A E s (zfw lo n jF) Q st:=by
 unfold zfw;have hsz:lo+n≤(arrOf st).size:=by rw [hB.b.size]; lia
 refine ai (zgQ ?_);have kS:=hB.setArr (gz (arrOf st) lo (lo+n) ((lo+n - lo) / 2)) (zbF hsz (ag _));refine ai (zkI hC hn h1 rj kS ?_ fun m sh pJ pK _=>ak (h m _ kS #[O] pJ pK));intro i j nG mP hj;show Vk val (mirror (arrOf st) lo (lo+n) ((lo+n - lo) / 2)) i≤Vk val (mirror (arrOf st) lo (lo+n) ((lo+n - lo) / 2)) j;rw [zdD hsz,zdD hsz,if_pos #[O],if_pos #[O]];exact hs _ _ #[O] #[O] #[O]
theorem zlp {st₀ st:SortSt} {lo n jF:Nat} {Q:DescSt→SortSt→Prop} (hC:Cmp prog w A s κ val a₀) (hn:lo+jF≤a₀.size) (h1:1≤n) (rj:n≤jF) (hB:SF κ a₀ lo st₀ st)
  (hs:DIn val (arrOf st) lo (lo+n))
  (h:∀ m n8 jz,SF κ a₀ lo st₀ jz→n≤m→m≤jF→DIn val (arrOf jz) lo (lo+m)→n8+1≤m→(∀ i,lo+m - (n8+1)≤i→i < lo+m→Vk val (arrOf jz) i=Vk val (arrOf jz) (lo+m - 1))→Q (none,m,n8) jz) :
  wpS (model prog w) A E s (zgR lo n jF) Q st:=by
 unfold zgR;refine cg (I:=fun x c jz=>∃ n8,c=(none,x,n8)∧SF κ a₀ lo st₀ jz∧DIn val (arrOf jz) lo (lo+x)∧n8+1≤x ∧
   (∀ i,lo+x - (n8+1)≤i→i < lo+x→Vk val (arrOf jz) i=Vk val (arrOf jz) (lo+x - 1))) ?step ?fin ⟨0,rfl,hB,hs,#[O],fun i h1 h2=>by congr 1; lia⟩
 case fin =>
  (rintro c jz ⟨n8,rfl,kS,kA,hq,he⟩)
  (rw [show max n jF=jF by lia] at kA hq he ⊢)
  (exact h jF n8 jz kS rj (ag _) kA hq he)
 case step =>
  (rintro x c jz yk wM ⟨n8,rfl,kS,kA,hq,he⟩)
  dsimp only;have hsz:lo+x≤(arrOf jz).size:=by rw [kS.b.size]; lia
  refine ai (zdC hC kS.b #[O] #[O] ?_);by_cases ka:Vk val (arrOf jz) (lo+x) < Vk val (arrOf jz) (lo+x - 1)
  ·(simp only [ka,decide_true,if_true])
   have step1:∀ xs:Array Keyed,(∀ k,Vk val xs k=Vk val (arrOf jz) k)→DIn val xs lo (lo+(x+1)):=by
    intro xs hk i j nG mP hj;rw [hk,hk];by_cases vb:j < lo+x
    ·exact kA i j nG mP vb
    ·have lE:j=lo+x:=by lia
     subst lE;by_cases lL:i=lo+x
     ·(subst lL; exact bM _)
     ·exact bJ (dH ka) (kA i (lo+x - 1) nG #[O] #[O])
   by_cases p6:n8 > 0
   ·rw [if_pos p6];refine ai (zgQ (ak ⟨0,rfl,kS.setArr (gz _ _ _ _) (zbF hsz #[O]),step1 _ (za3 hsz he),#[O],fun i h1 h2=>by congr 1; lia⟩))
   ·rw [if_neg p6]
    (exact ak ⟨0,rfl,kS,step1 _ (fun _=>rfl),#[O],fun i h1 h2=>by congr 1; lia⟩)
  ·(simp only [ka,decide_false,aX,if_false])
   refine ai (zdC hC kS.b #[O] #[O] ?_);by_cases oG:Vk val (arrOf jz) (lo+x - 1) < Vk val (arrOf jz) (lo+x)
   ·(simp only [oG,decide_true,if_true])
    (exact ak (h x n8 jz kS yk #[O] kA hq he))
   ·(simp only [oG,decide_false,aX,if_false])
    have vc:Vk val (arrOf jz) (lo+x)=Vk val (arrOf jz) (lo+x - 1):=by lia
    refine ak ⟨n8+1,rfl,kS,fun i j nG mP hj=>?_,#[O],fun i h1 h2=>?_⟩
    ·by_cases vb:j < lo+x
     ·exact kA i j nG mP vb
     ·have lE:j=lo+x:=by lia
      subst lE;by_cases lL:i=lo+x
      ·(subst lL; exact bM _)
      ·rw [vc]; exact kA i (lo+x - 1) nG #[O] #[O]
    ·rw [show lo+(x+1) - 1=lo+x by lia];by_cases wN:i=lo+x
     ·subst wN; rfl
     ·(rw [vc]; exact he i #[O] #[O])
theorem zgS {st₀ st:SortSt} {lo n jF:Nat} {Q:Option Nat→SortSt→Prop} (hC:Cmp prog w A s κ val a₀) (hn:lo+jF≤a₀.size) (rj:n+1≤jF) (hB:SF κ a₀ lo st₀ st)
  (hs:DIn val (arrOf st) lo (lo+(n+1))) (h:∀ m jz,SF κ a₀ lo st₀ jz→1≤m→m≤jF→SIn val (arrOf jz) lo (lo+m)→Q (some m) jz) :
  wpS (model prog w) A E s (zfx lo n jF) Q st:=by
 unfold zfx
 (refine ai (fm (bS ⟨rfl,?_⟩)))
 refine ai (zlp hC hn #[O] rj hB hs fun m n8 jz kS sh pJ kA hq he=>?_);dsimp only;have hsz:lo+m≤(arrOf jz).size:=by rw [kS.b.size]; lia
 by_cases p6:n8 > 0
 ·rw [if_pos p6];refine ai (zgQ (zi2 hC hn #[O] pJ (kS.setArr (gz _ _ _ _) (zbF hsz #[O])) ?_ h));intro i j nG mP hj;show Vk val (mirror (arrOf jz) _ _ _) j≤Vk val (mirror (arrOf jz) _ _ _) i;rw [za3 hsz he,za3 hsz he];exact kA i j nG mP hj
 ·rw [if_neg p6];exact zi2 hC hn #[O] pJ kS kA h
theorem zj1 {st₀ st:SortSt} {lo jF:Nat} {Q:Option Nat→SortSt→Prop} (hC:Cmp prog w A s κ val a₀) (hn:lo+jF≤a₀.size) (h1:1≤jF) (hB:SF κ a₀ lo st₀ st)
  (h:∀ m jz,SF κ a₀ lo st₀ jz→1≤m→m≤jF→SIn val (arrOf jz) lo (lo+m)→Q (some m) jz) :
  wpS (model prog w) A E s (countRun' lo jF) Q st:=by
 rw [zeR];refine ai (zkI hC hn (ag 1) h1 hB (fun i j nG mP hj=>(by
   have e:i=j:=by lia
   rw [e];exact bM _)) fun n qM nX tj hor=>?_)
 dsimp only;by_cases rj:n=jF
 ·(rw [if_pos (by simpa using rj)])
  (exact ak (h n st hB qM nX tj))
 ·(rw [if_neg (by simpa using rj)])
  have jN:Vk val (arrOf st) (lo+n) < Vk val (arrOf st) (lo+n - 1):=hor.resolve_left rj;by_cases hgt:n > 1
  ·rw [if_pos hgt];refine ai (zdC hC hB.b #[O] #[O] ?_);by_cases si:Vk val (arrOf st) lo < Vk val (arrOf st) (lo+n - 1)
   ·(simp only [si,decide_true,if_true])
    (exact ak (h n st hB qM nX tj))
   ·(simp only [si,decide_false,aX,if_false])
    have hsz:lo+n≤(arrOf st).size:=by rw [hB.b.size]; lia
    have mv:∀ k,lo≤k→k < lo+n→Vk val (arrOf st) k=Vk val (arrOf st) (lo+n - 1):=by
     intro k pL hk;have a1:=tj lo k (ag _) pL hk;have a2:=tj k (lo+n - 1) pL #[O] #[O];lia
    refine ai (zgQ (zgS hC hn #[O] (hB.setArr (gz _ _ _ _) (zbF hsz (ag _))) ?_ h));intro i j nG mP hj;show Vk val (mirror (arrOf st) _ _ _) j≤Vk val (mirror (arrOf st) _ _ _) i;rw [za3 hsz mv,za3 hsz mv];by_cases hjn:j < lo+n
    ·(rw [mv i #[O] #[O],mv j #[O] hjn]; exact bM _)
    ·have lE:j=lo+n:=by lia
     subst lE;by_cases lL:i=lo+n
     ·(subst lL; exact bM _)
     ·(rw [mv i #[O] #[O]]; exact dH jN)
  ·rw [if_neg hgt];have yl:n=1:=by lia
   subst yl;refine zgS hC hn #[O] hB ?_ h;intro i j nG mP hj;by_cases lL:i=j
   ·(subst lL; exact bM _)
   ·have hi0:i=lo:=by lia
    have rk:j=lo+1:=by lia
    subst hi0; subst rk;exact dH jN
theorem zfy {xs:Array Keyed} {src d:Nat} (hs:src < xs.size) (hd:d≤src) (k:Nat) :
  Vk val (bubble xs src d) k=if k=src - d then Vk val xs src else if src - d < k∧k≤src then Vk val xs (k - 1) else Vk val xs k:=by
 (have e:=getElem?_bubble hs d hd k)
 by_cases h1:k=src - d
 ·rw [if_pos h1] at e ⊢; exact zW e
 ·rw [if_neg h1] at e ⊢
  (by_cases h2:src - d < k∧k≤src)
  ·rw [if_pos h2] at e ⊢; exact zW e
  ·rw [if_neg h2] at e ⊢; exact zW e
theorem zmc {st₀ st:SortSt} {lo n ok:Nat} {Q:Bool→SortSt→Prop} (hC:Cmp prog w A s κ val a₀) (hn:lo+n≤a₀.size) (hok:ok≤n) (hB:SF κ a₀ lo st₀ st) (hs:SIn val (arrOf st) lo (lo+ok))
  (h:∀ jz,SF κ a₀ lo st₀ jz→SIn val (arrOf jz) lo (lo+n)→Q true jz):wpS (model prog w) A E s (binarySort' lo n ok) Q st:=by
 rw [binarySort'_eq];refine ai (cS (cg (I:=fun k c jz=>c=(none,())∧SF κ a₀ lo st₀ jz∧SIn val (arrOf jz) lo (lo+min k n))
  (Q:=fun c jz=>c=(none,())∧SF κ a₀ lo st₀ jz∧SIn val (arrOf jz) lo (lo+n)) ?step ?fin ?init) ?post)
 case post =>
  rintro c jz ⟨rfl,kS,kA⟩
  (exact ak (h jz kS kA))
 case init =>
  refine⟨rfl,hB,fun i j nG mP hj=>?_⟩;by_cases h1:ok=0
  ·have e:i=j:=by lia
   rw [e]; exact bM _
  ·exact hs i j nG mP #[O]
 case fin =>
  rintro c jz ⟨hc,kS,kA⟩;refine⟨hc,kS,?_⟩
  (rwa [show min (max (max ok 1) n) n=n by lia] at kA)
 case step =>
  (rintro k c jz hak p7 ⟨rfl,kS,kA⟩)
  (rw [show min k n=k by lia] at kA)
  have hk:lo+k < a₀.size:=#[O]; refine ai (cS (cg (I:=fun x c kF=>kF=jz∧∃ l r,c=(none,l,r)∧l≤r∧r≤k∧r - l≤k - x ∧
    (∀ i,i < l→Vk val (arrOf jz) (lo+i)≤Vk val (arrOf jz) (lo+k))∧(∀ i,r≤i→i < k→Vk val (arrOf jz) (lo+k) < Vk val (arrOf jz) (lo+i)))
   (Q:=fun c kF=>kF=jz∧∃ l r,c=(none,l,r)∧l≤k∧(∀ i,i < l→Vk val (arrOf jz) (lo+i)≤Vk val (arrOf jz) (lo+k))∧(∀ i,l≤i→i < k→Vk val (arrOf jz) (lo+k) < Vk val (arrOf jz) (lo+i))) ?istep ?ifin ?iinit) ?ipost)
  case iinit=>(exact⟨rfl,0,k,rfl,#[O],#[O],#[O],fun i hi=>by lia,fun i h1 h2=>by lia⟩)
  case ifin =>
   (rintro c kF ⟨rfl,l,r,rfl,um,ym,hm,lD,rl⟩)
   have:l=r:=by lia
   subst this
   (exact⟨rfl,l,l,rfl,ym,lD,rl⟩)
  case istep =>
   (rintro x c kF _ hxk ⟨rfl,l,r,rfl,um,ym,hm,lD,rl⟩)
   dsimp only;by_cases lb:l≥r
   ·rw [if_pos lb];have:l=r:=by lia
    subst this
    (exact ak ⟨rfl,l,l,rfl,ym,lD,rl⟩)
   ·rw [if_neg lb];refine ai (zdC hC kS.b hk #[O] ?_);by_cases ka:Vk val (arrOf kF) (lo+k) < Vk val (arrOf kF) (lo+(l+r) / 2)
    ·(simp only [ka,decide_true,if_true])
     (refine ak ⟨rfl,l,(l+r) / 2,rfl,#[O],#[O],#[O],lD,fun i h1 h2=>?_⟩)
     exact Int.lt_of_lt_of_le ka (kA _ _ #[O] #[O] #[O])
    ·(simp only [ka,decide_false,aX,if_false])
     (refine ak ⟨rfl,(l+r) / 2+1,r,rfl,#[O],#[O],#[O],fun i h1=>?_,rl⟩)
     exact bJ (kA (lo+i) (lo+(l+r) / 2) #[O] #[O] #[O]) (Int.not_lt.mp ka)
  case ipost =>
   (rintro c kF ⟨rfl,l,r,rfl,yn,lD,rl⟩)
   show wpS _ _ _ _ (do moveDown' (lo+k) (lo+l); pure (b8 (none,()))) _ _;rw [moveDown'_eq];have rm:lo+k < (arrOf kF).size:=by rw [kS.b.size]; exact hk
   refine ai (dM (ak ⟨rfl,kS.setArr (bubble_perm _ _ _) (zgj rm #[O] #[O]),?_⟩))
   (rw [show min (k+1) n=k+1 by lia])
   intro i j nG mP hj;show Vk val (bubble (arrOf kF) (lo+k) (lo+k - (lo+l))) i≤Vk val (bubble (arrOf kF) (lo+k) (lo+k - (lo+l))) j;rw [zfy rm #[O],zfy rm #[O],show lo+k - (lo+k - (lo+l))=lo+l by lia];have yo:∀ i,lo≤i→i < lo+l→Vk val (arrOf kF) i≤Vk val (arrOf kF) (lo+k):=fun i h1 h2=>by
    have:=lD (i - lo) #[O]
    rwa [show lo+(i - lo)=i by lia] at this
   have yp:∀ i,lo+l≤i→i < lo+k→Vk val (arrOf kF) (lo+k) < Vk val (arrOf kF) i:=fun i h1 h2=>by
    have:=rl (i - lo) #[O] #[O]
    rwa [show lo+(i - lo)=i by lia] at this
   repeat' split
   all_goals first
    | (exfalso; lia)
    | exact bM _
    | exact yo _ #[O] #[O]
    | exact dH (yp _ #[O] #[O])
    | exact kA _ _ #[O] #[O] #[O]
end
end Srt
end
section
namespace Srt
open PySem PyProof.Rows
def zj2:Bool→Keyed→Array Keyed→Nat→Nat→Nat→StateT SortSt Sem (Option Nat):=sortPriv% PySem.Builtin.gallop
def zi3:Array Keyed→Array Keyed→StateT SortSt Sem (Array Keyed):=sortPriv% PySem.Builtin.mergeLo
def zi4:Array Keyed→Array Keyed→StateT SortSt Sem (Array Keyed):=sortPriv% PySem.Builtin.mergeHi
def zch:Nat→StateT SortSt Sem Unit:=sortPriv% PySem.Builtin.setMinGallop
theorem zeS {M:Model} {A:Around} {E:Value→Shared→Prop} {s:Shared} {α:Type} {m:StateT SortSt Sem α} {Q:α→SortSt→Prop} {st:SortSt} (h:wpAny M A (m st) (fun r s'=>s'=s∧Q r.1 r.2) E s):wpS M A E s m Q st:=h
theorem zeT {M:Model} {A:Around} {E:Value→Shared→Prop} {s:Shared} {α:Type} {m:StateT SortSt Sem α} {Q:α→SortSt→Prop} {st:SortSt} (h:wpS M A E s m Q st):wpAny M A (m st) (fun r s'=>s'=s∧Q r.1 r.2) E s:=h
section
variable {prog:Program} {w:World} {A:Around} {E:Value→Shared→Prop} {s:Shared} {a₀:Array Keyed} {κ:SortKind} {val:Keyed→Int}
def bB (val:Keyed→Int) (left:Bool) (key:Keyed) (arr:Array Keyed) (base i:Nat):Bool:=if left then decide (Vk val arr (base+i) < val key) else !decide (val key < Vk val arr (base+i))
theorem zcr {left:Bool} {key:Keyed} {arr:Array Keyed} {base n i j:Nat} (hs:SIn val arr base (base+n)) (mP:i≤j) (hj:j < n) (h:bB val left key arr base j=true):bB val left key arr base i=true:=by
 have:=hs (base+i) (base+j) #[O] #[O] #[O];unfold bB at h ⊢;cases left <;> simp at h ⊢ <;> lia
theorem zbU {st:SortSt} {left:Bool} {key:Keyed} {arr:Array Keyed} {base i:Nat} {Q:Option Bool→SortSt→Prop} {p:Keyed} (hC:Cmp prog w A s κ val a₀) (hk:kindOf st=κ) (k6:key∈a₀.toList) (he:arr[base+i]? = some p) (hp:p∈a₀.toList)
  (h:Q (some (bB val left key arr base i)) st):wpS (model prog w) A E s (do
   let x ← elem' arr (base+i)
   if left then lt' x key else do
    let r ← lt' key x
    return r.map (!·)) Q st:=by
 refine ai (zJ he ?_);unfold bB at h;rw [zK he] at h;cases left with
 | true=>exact zi0 hC hk hp k6 h
 | false=>exact ai (zi0 hC hk k6 hp (ak h))
abbrev zj3:=Option (Option Nat)×Nat×Nat
theorem zi5 {st:SortSt} {left:Bool} {key:Keyed} {arr:Array Keyed} {base n lo hi:Nat} {f:Nat→zj3→StateT SortSt Sem (ForInStep zj3)} (hs:SIn val arr base (base+n)) (hlh:lo≤hi) (hhn:hi≤n)
  (h1:∀ i,i < lo→bB val left key arr base i=true) (h2:∀ i,hi≤i→i < n→bB val left key arr base i=false)
  (hf:∀ (x l r:Nat) (R:ForInStep zj3→SortSt→Prop),r≤n→(l≥r→R (.done (none,l,r)) st)→(l < r→R (if bB val left key arr base (l+(r - l) / 2)=true then .yield (none,l+(r - l) / 2+1,r) else .yield (none,l,l+(r - l) / 2)) st)→wpS (model prog w) A E s (f x (none,l,r)) R st) :
  wpS (model prog w) A E s (forIn [0:n] ((none,lo,hi):zj3) f) (fun c jz=>jz=st∧∃ l,c=(none,l,l)∧l≤n∧(∀ i,i < l→bB val left key arr base i=true)∧(∀ i,l≤i→i < n→bB val left key arr base i=false)) st:=by
 refine cg (I:=fun x c jz=>jz=st∧∃ l r,c=(none,l,r)∧l≤r∧r≤n∧r - l≤n - x∧(∀ i,i < l→bB val left key arr base i=true)∧(∀ i,r≤i→i < n→bB val left key arr base i=false)) ?step ?fin ⟨rfl,lo,hi,rfl,hlh,hhn,#[O],h1,h2⟩
 case fin =>
  rintro c jz ⟨rfl,l,r,rfl,um,tq,hm,a1,a2⟩;have:l=r:=by lia
  subst this;exact⟨rfl,l,rfl,tq,a1,a2⟩
 case step =>
  rintro x c jz _ wM ⟨rfl,l,r,rfl,um,tq,hm,a1,a2⟩;refine hf x l r _ tq (fun lb=>?_) (fun jN=>?_)
  ·have:l=r:=by lia
   subst this;exact⟨rfl,l,rfl,tq,a1,a2⟩
  ·cases hb:bB val left key arr base (l+(r - l) / 2) with
   | true =>
    rw [if_pos rfl];exact⟨rfl,l+(r - l) / 2+1,r,rfl,#[O],tq,#[O],fun i hi=>zcr hs #[O] #[O] hb,a2⟩
   | false =>
    rw [if_neg #[D]];refine⟨rfl,l,l+(r - l) / 2,rfl,#[O],#[O],#[O],a1,fun i hi mM=>?_⟩;cases e:bB val left key arr base i with
    | false=>rfl
    | true=>rw [zcr hs hi mM e] at hb; cases hb
theorem za4 {st:SortSt} {left:Bool} {key:Keyed} {arr:Array Keyed} {base n hint:Nat} {Q:Option Nat→SortSt→Prop} (hC:Cmp prog w A s κ val a₀) (hk:kindOf st=κ) (k6:key∈a₀.toList)
  (ha:∀ i,i < n→∃ p,arr[base+i]? = some p∧p∈a₀.toList) (hs:SIn val arr base (base+n)) (hh:hint < n)
  (h:∀ k,k≤n→(∀ i,i < k→bB val left key arr base i=true)→(∀ i,k≤i→i < n→bB val left key arr base i=false)→Q (some k) st) :
  wpS (model prog w) A E s (zj2 left key arr base n hint) Q st:=by
 refine zeS ?_
 wp_delta
 wp_delta
 refine zeT ?_;dsimp only;obtain⟨p,ep,mp⟩:=ha hint hh;refine ai (zbU hC hk k6 ep mp ?_);dsimp only;have up:∀ {i j:Nat},i≤j→j < n→bB val left key arr base i=false→bB val left key arr base j=false:=fun {i j} mP hj h=>by
  cases e:bB val left key arr base j with
  | false=>rfl
  | true=>rw [zcr hs mP hj e] at h; cases h
 cases hr:bB val left key arr base hint with
 | true =>
  simp only [if_true];refine ai (cS (cg (I:=fun x c jz=>jz=st∧∃ l o,c=(none,l,o)∧l < o∧x+1≤o∧hint+l < n∧bB val left key arr base (hint+l)=true)
   (Q:=fun c jz=>jz=st∧∃ l o,c=(none,l,o)∧l < o∧hint+l < n∧bB val left key arr base (hint+l)=true∧(hint+o < n→bB val left key arr base (hint+o)=false)) ?step ?fin ⟨rfl,0,1,rfl,#[O],#[O],hh,hr⟩) ?post)
  case fin =>
   rintro c jz ⟨rfl,l,o,rfl,lD,hx,hl,hb⟩;exact⟨rfl,l,o,rfl,lD,hl,hb,fun z=>by lia⟩
  case step =>
   rintro x c jz _ wM ⟨rfl,l,o,rfl,lD,hx,hl,hb⟩;dsimp only;by_cases lb:o≥n - hint
   ·rw [if_pos lb];exact ak ⟨rfl,l,o,rfl,lD,hl,hb,fun z=>by lia⟩
   ·rw [if_neg lb];obtain⟨p,ep,mp⟩:=ha (hint+o) #[O];refine ai (zbU hC hk k6 ep mp ?_);dsimp only;cases p8:bB val left key arr base (hint+o) with
    | true =>
     rw [if_neg #[D]];exact ak ⟨rfl,o,2*o+1,rfl,#[O],#[O],#[O],p8⟩
    | false =>
     rw [if_pos #[D]];exact ak ⟨rfl,l,o,rfl,lD,hl,hb,fun _=>p8⟩
  case post =>
   rintro c jz ⟨rfl,l,o,rfl,lD,hl,hb,p8⟩;dsimp only;refine ai (cS (zi5 (val:=val) (left:=left) (key:=key) (arr:=arr) (base:=base) hs #[O] #[O] (fun i hi=>zcr hs #[O] hl hb) (fun i hi mM=>(by
    by_cases ho:hint+o < n
    ·exact up #[O] mM (p8 ho)
    ·lia)) (fun x l' r' R tq k1 k2=>?_)) ?_)
   ·dsimp only;by_cases lb:l'≥r'
    ·rw [if_pos lb];exact ak (k1 lb)
    ·rw [if_neg lb];obtain⟨p,ep,mp⟩:=ha (l'+(r' - l') / 2) #[O];refine ai (zbU hC hk k6 ep mp ?_);have k3:=k2 #[O];dsimp only;cases tw:bB val left key arr base (l'+(r' - l') / 2) with
     | true=>rw [tw] at k3; rw [if_pos rfl] at k3 ⊢; exact ak k3
     | false=>rw [tw] at k3; rw [if_neg #[D]] at k3 ⊢; exact ak k3
   ·rintro c kF ⟨rfl,l,rfl,hl,b1,b2⟩;exact ak (h l hl b1 b2)
 | false =>
  (simp only [aX,if_false])
  refine ai (cS (cg (I:=fun x c jz=>jz=st∧∃ l o,c=(none,l,o)∧l < o∧x+1≤o∧l≤hint∧bB val left key arr base (hint - l)=false)
   (Q:=fun c jz=>jz=st∧∃ l o,c=(none,l,o)∧l < o∧l≤hint∧bB val left key arr base (hint - l)=false∧(o≤hint→bB val left key arr base (hint - o)=true)) ?step ?fin ⟨rfl,0,1,rfl,#[O],#[O],#[O],hr⟩) ?post)
  case fin =>
   rintro c jz ⟨rfl,l,o,rfl,lD,hx,hl,hb⟩;exact⟨rfl,l,o,rfl,lD,hl,hb,fun z=>by lia⟩
  case step =>
   rintro x c jz _ wM ⟨rfl,l,o,rfl,lD,hx,hl,hb⟩;dsimp only;by_cases lb:o≥hint+1
   ·rw [if_pos lb];exact ak ⟨rfl,l,o,rfl,lD,hl,hb,fun z=>by lia⟩
   ·rw [if_neg lb];obtain⟨p,ep,mp⟩:=ha (hint - o) #[O];refine ai (zbU hC hk k6 ep mp ?_);dsimp only;cases p8:bB val left key arr base (hint - o) with
    | false =>
     rw [if_neg #[D]];exact ak ⟨rfl,o,2*o+1,rfl,#[O],#[O],#[O],p8⟩
    | true =>
     rw [if_pos rfl];exact ak ⟨rfl,l,o,rfl,lD,hl,hb,fun _=>p8⟩
  case post =>
   rintro c jz ⟨rfl,l,o,rfl,lD,hl,hb,p8⟩;dsimp only;refine ai (cS (zi5 (val:=val) (left:=left) (key:=key) (arr:=arr) (base:=base) hs #[O] #[O] (fun i hi=>(by
    by_cases ho:o≤hint
    ·exact zcr hs #[O] #[O] (p8 ho)
    ·lia)) (fun i hi mM=>up hi mM hb) (fun x l' r' R tq k1 k2=>?_)) ?_)
   ·dsimp only;by_cases lb:l'≥r'
    ·rw [if_pos lb];exact ak (k1 lb)
    ·rw [if_neg lb];obtain⟨p,ep,mp⟩:=ha (l'+(r' - l') / 2) #[O];refine ai (zbU hC hk k6 ep mp ?_);have k3:=k2 #[O];dsimp only;cases tw:bB val left key arr base (l'+(r' - l') / 2) with
     | true=>rw [tw] at k3; rw [if_pos rfl] at k3 ⊢; exact ak k3
     | false=>rw [tw] at k3; rw [if_neg #[D]] at k3 ⊢; exact ak k3
   ·rintro c kF ⟨rfl,l,rfl,hl,b1,b2⟩;exact ak (h l hl b1 b2)
end
end Srt
end
section
namespace Srt
open PySem PyProof.Rows
abbrev zY (st:SortSt) (g:Nat):SortSt:=jc (kindOf st) (arrOf st) (pendingOf st) g (failedOf st)
theorem zcM (g:Nat):zch g=modify fun s=>zY s g:=rfl
def Le (val:Keyed→Int) (xs ys:List Keyed):Prop:=∀ x∈xs,∀ y∈ys,val x≤val y
def Ris (val:Keyed→Int) (xs:List Keyed):Prop:=xs.Pairwise fun x y=>val x≤val y
theorem zah {val:Keyed→Int} {xs ys:List Keyed}:Ris val (xs++ys)↔Ris val xs∧Ris val ys∧Le val xs ys:=List.pairwise_append
structure MI (val:Keyed→Int) (T o l r:List Keyed):Prop where
 perm:(o++l++r).Perm T
 so:Ris val o
 sl:Ris val l
 sr:Ris val r
 ol:Le val o l
 or':Le val o r
def Good (val:Keyed→Int) (T res:List Keyed):Prop:=res.Perm T∧Ris val res
section
variable {val:Keyed→Int} {T o l l1 l2 r r1 r2:List Keyed}
theorem Le.left {xs ys zs:List Keyed} (h:Le val (xs++ys) zs):Le val xs zs:=fun x hx y hy=>h x (aL _ hx) y hy
theorem Le.right {xs ys zs:List Keyed} (h:Le val (xs++ys) zs):Le val ys zs:=fun x hx y hy=>h x (aw _ hx) y hy
theorem Le.app {xs ys zs:List Keyed} (h1:Le val xs zs) (h2:Le val ys zs):Le val (xs++ys) zs:=fun x hx y hy=>by
 rcases aM.mp hx with h | h
 ·exact h1 x h y hy
 ·exact h2 x h y hy
theorem Le.app' {xs ys zs:List Keyed} (h1:Le val xs ys) (h2:Le val xs zs):Le val xs (ys++zs):=fun x hx y hy=>by
 rcases aM.mp hy with h | h
 ·exact h1 x hx y h
 ·exact h2 x hx y h
theorem Le.sub {xs ys zs:List Keyed} (h1:Le val xs (ys++zs)):Le val xs ys∧Le val xs zs:=⟨fun x hx y hy=>h1 x hx y (aL _ hy),fun x hx y hy=>h1 x hx y (aw _ hy)⟩
theorem MI.takeA (h:MI val T o (l1++l2) r) (hle:Le val l1 r):MI val T (o++l1) l2 r:=by
 obtain⟨a1,a2,a3⟩:=zah.mp h.sl;obtain⟨b1,b2⟩:=h.ol.sub;exact⟨by have:=h.perm; simpa [bf] using this,zah.mpr ⟨h.so,a1,b1⟩,a2,h.sr,b2.app a3,h.or'.app hle⟩
theorem MI.takeB (h:MI val T o l (r1++r2)) (hle:Le val r1 l):MI val T (o++r1) l r2:=by
 obtain⟨a1,a2,a3⟩:=zah.mp h.sr;obtain⟨b1,b2⟩:=h.or'.sub;refine⟨?_,zah.mpr ⟨h.so,a1,b1⟩,h.sl,a2,h.ol.app hle,b2.app a3⟩;refine dZ ?_ h.perm;have:(r1++l++r2).Perm (l++r1++r2):=List.perm_append_comm.append_right _;simpa [bf] using this.append_left o
theorem MI.doneA (h:MI val T o l []):Good val T (o++l):=⟨by have:=h.perm; simpa using this,zah.mpr ⟨h.so,h.sl,h.ol⟩⟩
theorem MI.doneB (h:MI val T o [] r):Good val T (o++r):=⟨by have:=h.perm; simpa using this,zah.mpr ⟨h.so,h.sr,h.or'⟩⟩
theorem MI.last (h:MI val T o l r) (hle:Le val r l):Good val T (o++r++l):=by
 refine⟨dZ ?_ h.perm,?_⟩
 ·rw [bf,bf];exact List.perm_append_comm.append_left o
 ·exact zah.mpr ⟨zah.mpr ⟨h.so,h.sr,h.or'⟩,h.sl,h.ol.app hle⟩
end
section
variable {val:Keyed→Int} {T:List Keyed} {a b out:Array Keyed} {ia ib:Nat}
abbrev MA (val:Keyed→Int) (T:List Keyed) (a b out:Array Keyed) (ia ib:Nat):Prop:=MI val T out.toList (a.toList.drop ia) (b.toList.drop ib)
theorem zc9 {xs:Array Keyed} {i:Nat} {p:Keyed} (h:xs[i]? = some p):xs.toList.drop i=p :: xs.toList.drop (i+1):=by
 have hi:i < xs.toList.length:=by
  have:=(cu.mp h).1;simpa using this
 rw [b9 hi];congr 1;have:=(cu.mp h).2;simpa using this
theorem zcs {xs:Array Keyed} (h:SIn val xs 0 xs.size):∀ i,Ris val (xs.toList.drop i):=by
 have all:Ris val xs.toList:=by
  unfold Ris
  (rw [ca])
  intro i j hi hj mP
  (have lL:i < xs.size:=by simpa using hi)
  (have lE:j < xs.size:=by simpa using hj)
  have:=h i j (a8 _) #[O] lE;rw [zK (getElem?_pos xs i lL),zK (getElem?_pos xs j lE)] at this;simpa using this
 exact fun i=>gB (List.drop_sublist _ _) all
theorem zda {xs:Array Keyed} {i:Nat} {p q:Keyed} (h:SIn val xs 0 xs.size) (hp:xs[i]? = some p) (hq:q∈xs.toList.drop i):val p≤val q:=by
 have:=zcs h i;rw [zc9 hp] at this hq;rcases (aA.mp hq) with rfl | hq
 ·exact bM _
 ·exact List.rel_of_pairwise_cons this hq
theorem MA.pushB {y x:Keyed} (h:MA val T a b out ia ib) (sa:SIn val a 0 a.size) (hy:b[ib]? = some y) (hx:a[ia]? = some x) (hle:val y≤val x):MA val T a b (out.push y) ia (ib+1):=by
 unfold MA at h ⊢;rw [zc9 hy] at h;have:=MI.takeB (r1:=[y]) h fun p hp q hq=>by
  rw [aH.mp hp];exact bJ hle (zda sa hx hq)
 simpa using this
theorem MA.pushA {y x:Keyed} (h:MA val T a b out ia ib) (sb:SIn val b 0 b.size) (hy:b[ib]? = some y) (hx:a[ia]? = some x) (hle:val x≤val y):MA val T a b (out.push x) (ia+1) ib:=by
 unfold MA at h ⊢;rw [zc9 hx] at h;have:=MI.takeA (l1:=[x]) h fun p hp q hq=>by
  rw [aH.mp hp];exact bJ hle (zda sb hy hq)
 simpa using this
theorem zi6 (xs:Array Keyed) (i k:Nat):xs.toList.drop i=(xs.extract i (i+k)).toList++xs.toList.drop (i+k):=by
 rw [cL];have:(xs.toList.extract i (i+k))=(xs.toList.drop i).take k:=by
  simp [cE] <;> lia
 rw [this,← gC,bD]
theorem zdb {xs:Array Keyed} {i k:Nat} {p:Keyed} (h:p∈(xs.extract i (i+k)).toList):∃ j,j < k∧xs[i+j]? = some p:=by
 have e0:(xs.extract i (i+k)).toList=(xs.toList.drop i).take k:=by
  rw [cL];simp [cE] <;> lia
 rw [e0] at h
 (obtain⟨j,hj,e⟩:=dn h)
 have nk:j < k∧j < (xs.toList.drop i).length:=by
  rw [aF] at hj;lia
 refine⟨j,nk.1,?_⟩;rw [← aY,← fB,az nk.2,← e,iE]
theorem MA.takeA {y:Keyed} {k:Nat} (h:MA val T a b out ia ib) (sb:SIn val b 0 b.size) (hy:b[ib]? = some y) (hle:∀ i,i < k→Vk val a (ia+i)≤val y):MA val T a b (out++a.extract ia (ia+k)) (ia+k) ib:=by
 unfold MA at h ⊢;rw [zi6 a ia k] at h;have:=MI.takeA h fun p hp q hq=>by
  obtain⟨j,hj,e⟩:=zdb hp;have:=hle j hj;rw [zK e] at this;exact bJ this (zda sb hy hq)
 simpa using this
theorem MA.takeB {x:Keyed} {k:Nat} (h:MA val T a b out ia ib) (sa:SIn val a 0 a.size) (hx:a[ia]? = some x) (hle:∀ i,i < k→Vk val b (ib+i)≤val x):MA val T a b (out++b.extract ib (ib+k)) ia (ib+k):=by
 unfold MA at h ⊢;rw [zi6 b ib k] at h;have:=MI.takeB h fun p hp q hq=>by
  obtain⟨j,hj,e⟩:=zdb hp;have:=hle j hj;rw [zK e] at this;exact bJ this (zda sa hx hq)
 simpa using this
theorem zb2 (xs:Array Keyed) (i:Nat):(xs.extract i xs.size).toList=xs.toList.drop i:=by
 rw [cL];simp only [cE]
 (exact aR #[M])
theorem MA.doneB (h:MA val T a b out ia ib) (e:ib=b.size):Good val T (out++a.extract ia a.size++b.extract ib b.size).toList:=by
 unfold MA at h;rw [show b.toList.drop ib = [] from cV (by simp [e])] at h;have:=h.doneA;rw [bh,bh,zb2,zb2,show b.toList.drop ib = [] from cV (by simp [e]),bQ];exact this
theorem MA.doneA (h:MA val T a b out ia ib) (e:ia=a.size):Good val T (out++a.extract ia a.size++b.extract ib b.size).toList:=by
 unfold MA at h;rw [show a.toList.drop ia = [] from cV (by simp [e])] at h;have:=h.doneB;rw [bh,bh,zb2,zb2,show a.toList.drop ia = [] from cV (by simp [e]),bQ];exact this
theorem MA.last (h:MA val T a b out ia ib) (e:ia+1=a.size) (hl:∀ i,i < b.size→Vk val b i≤Vk val a (a.size - 1)):Good val T (out++b.extract ib b.size++a.extract ia a.size).toList:=by
 unfold MA at h;have hx:a[ia]? = some (a[ia]'#[O]):=getElem?_pos a ia #[O];have:=h.last fun p hp q hq=>by
  rw [zc9 hx,show a.toList.drop (ia+1) = [] from cV (by simp [e])] at hq;rw [aH.mp hq];obtain⟨j,hj,ej⟩:=dn (List.mem_of_mem_drop hp);have lE:j < b.size:=by simpa using hj
  have:=hl j lE;rw [zK (getElem?_pos b j lE),show a.size - 1=ia by lia,zK hx] at this;rw [← ej];simpa using this
 rw [bh,bh,zb2,zb2];exact this
end
end Srt
end
section
namespace Srt
open PySem PyProof.Rows
section
variable {prog:Program} {w:World} {A:Around} {E:Value→Shared→Prop} {s:Shared} {a₀:Array Keyed} {κ:SortKind} {val:Keyed→Int}
theorem zct {st:SortSt} {g:Nat} {Q:Unit→SortSt→Prop} (h:Q () (zY st g)):wpS (model prog w) A E s (zch g) Q st:=by
 rw [zcM];exact dM h
theorem zaf {g:Prop} {xs:Array Keyed} {i:Nat} (h:i < xs.size) (k:∀ p,xs[i]? = some p→p∈xs.toList→g):g:=k _ (getElem?_pos xs i h) #[M]
theorem zbG {key:Keyed} {arr:Array Keyed} {base i:Nat} (h:bB val true key arr base i=true):Vk val arr (base+i) < val key:=by
 unfold bB at h;simpa using h
theorem zcu {key:Keyed} {arr:Array Keyed} {base i:Nat} (h:bB val false key arr base i=true):Vk val arr (base+i)≤val key:=by
 unfold bB at h;simp at h;lia
theorem zcl {key:Keyed} {arr:Array Keyed} {base i:Nat} (h:bB val true key arr base i=false):val key≤Vk val arr (base+i):=by
 unfold bB at h;simp at h;lia
theorem zdc {key:Keyed} {arr:Array Keyed} {base i:Nat} (h:bB val false key arr base i=false):val key < Vk val arr (base+i):=by
 unfold bB at h;simp at h;exact h
theorem SIn.sub {xs:Array Keyed} {lo hi lo' lL:Nat} (h:SIn val xs lo hi) (h1:lo≤lo') (h2:lL≤hi):SIn val xs lo' lL:=fun i j a b c=>h i j #[O] b #[O]
theorem zq {σ α:Type} {M:Model} {c:Prop} {inst:Decidable c} {x y:StateT σ Sem α} {Q:α→σ→Prop} {st:σ} (h:c) (k:wpS M A E s x Q st):wpS M A E s (@ite _ c inst x y) Q st:=by rw [if_pos h]; exact k
theorem zr {σ α:Type} {M:Model} {c:Prop} {inst:Decidable c} {x y:StateT σ Sem α} {Q:α→σ→Prop} {st:σ} (h:¬ c) (k:wpS M A E s y Q st):wpS M A E s (@ite _ c inst x y) Q st:=by rw [if_neg h]; exact k
theorem dup {P X:Prop} (h:P→P→X) (k:P):X:=h k k
theorem zmB {P X:Prop} (h:(Unit→P)→(Unit→P)→X) (k:P):X:=h (fun _=>k) (fun _=>k)
theorem fr5 {σ β A1 A2 A3 A4 A5:Type} {M:Model} {lo hi:Nat} {f:Nat→β→StateT σ Sem (ForInStep β)} {Q:β→σ→Prop} {c:β} {st:σ} (oH:A1→A2→A3→A4→A5→β) (p9:A1→A2→A3→A4→A5→σ) (J:Nat→A1→A2→A3→A4→A5→Prop) (start:∃ a1 a2 a3 a4 a5,st=p9 a1 a2 a3 a4 a5∧c=oH a1 a2 a3 a4 a5∧J lo a1 a2 a3 a4 a5) (fin:∀ a1 a2 a3 a4 a5,J (max lo hi) a1 a2 a3 a4 a5→Q (oH a1 a2 a3 a4 a5) (p9 a1 a2 a3 a4 a5))
  (step:∀ x a1 a2 a3 a4 a5,lo≤x→x < hi→J x a1 a2 a3 a4 a5→wpS M A E s (f x (oH a1 a2 a3 a4 a5)) (fun r jz=>match r with | .done c'=>Q c' jz | .yield c'=>∃ a1 a2 a3 a4 a5,jz=p9 a1 a2 a3 a4 a5∧c'=oH a1 a2 a3 a4 a5∧J (x+1) a1 a2 a3 a4 a5) (p9 a1 a2 a3 a4 a5)):wpS M A E s (forIn [lo:hi] c f) Q st:=by
 refine cg (I:=fun x c jz=>∃ a1 a2 a3 a4 a5,jz=p9 a1 a2 a3 a4 a5∧c=oH a1 a2 a3 a4 a5∧J x a1 a2 a3 a4 a5) ?_ ?_ start
 ·rintro x c jz h1 h2 ⟨a1,a2,a3,a4,a5,rfl,rfl,j⟩;exact step x _ _ _ _ _ h1 h2 j
 ·rintro c jz ⟨a1,a2,a3,a4,a5,rfl,rfl,j⟩;exact fin _ _ _ _ _ j
theorem fr7 {σ β A1 A2 A3 A4 A5 A6 A7:Type} {M:Model} {lo hi:Nat} {f:Nat→β→StateT σ Sem (ForInStep β)} {Q:β→σ→Prop} {c:β} {st:σ} (oH:A1→A2→A3→A4→A5→A6→A7→β) (p9:A1→A2→A3→A4→A5→A6→A7→σ) (J:Nat→A1→A2→A3→A4→A5→A6→A7→Prop) (start:∃ a1 a2 a3 a4 a5 a6 a7,st=p9 a1 a2 a3 a4 a5 a6 a7∧c=oH a1 a2 a3 a4 a5 a6 a7∧J lo a1 a2 a3 a4 a5 a6 a7) (fin:∀ a1 a2 a3 a4 a5 a6 a7,J (max lo hi) a1 a2 a3 a4 a5 a6 a7→Q (oH a1 a2 a3 a4 a5 a6 a7) (p9 a1 a2 a3 a4 a5 a6 a7))
  (step:∀ x a1 a2 a3 a4 a5 a6 a7,lo≤x→x < hi→J x a1 a2 a3 a4 a5 a6 a7→wpS M A E s (f x (oH a1 a2 a3 a4 a5 a6 a7)) (fun r jz=>match r with | .done c'=>Q c' jz | .yield c'=>∃ a1 a2 a3 a4 a5 a6 a7,jz=p9 a1 a2 a3 a4 a5 a6 a7∧c'=oH a1 a2 a3 a4 a5 a6 a7∧J (x+1) a1 a2 a3 a4 a5 a6 a7) (p9 a1 a2 a3 a4 a5 a6 a7)):wpS M A E s (forIn [lo:hi] c f) Q st:=by
 refine cg (I:=fun x c jz=>∃ a1 a2 a3 a4 a5 a6 a7,jz=p9 a1 a2 a3 a4 a5 a6 a7∧c=oH a1 a2 a3 a4 a5 a6 a7∧J x a1 a2 a3 a4 a5 a6 a7) ?_ ?_ start
 ·rintro x c jz h1 h2 ⟨a1,a2,a3,a4,a5,a6,a7,rfl,rfl,j⟩;exact step x _ _ _ _ _ _ _ h1 h2 j
 ·rintro c jz ⟨a1,a2,a3,a4,a5,a6,a7,rfl,rfl,j⟩;exact fin _ _ _ _ _ _ _ j
theorem zkJ {σ α γ δ A1 A2 A3 A4 A5:Type} {M:Model} {x:StateT σ Sem (Option γ×δ)} {k:Option γ×δ→StateT σ Sem α} {R:α→σ→Prop} {st:σ} (oH:A1→A2→A3→A4→A5→Option γ×δ) (G:γ→Prop) (J:A1→A2→A3→A4→A5→Prop) (yq:σ) (hx:wpS M A E s x (fun c jz=>jz=yq∧((∃ r o,c=(some r,o)∧G r)∨∃ a1 a2 a3 a4 a5,c=oH a1 a2 a3 a4 a5∧J a1 a2 a3 a4 a5)) st) (h1:∀ r o,G r→wpS M A E s (k (some r,o)) R yq) (h:∀ a1 a2 a3 a4 a5,J a1 a2 a3 a4 a5→wpS M A E s (k (oH a1 a2 a3 a4 a5)) R yq):wpS M A E s (x >>= k) R st:=by
 refine ai (cS hx ?_);rintro c jz ⟨rfl,⟨r,o,rfl,g⟩ | ⟨a1,a2,a3,a4,a5,rfl,j⟩⟩
 ·exact h1 _ _ g
 ·exact h _ _ _ _ _ j
theorem zaC {σ α:Type} {M:Model} {c:Prop} {inst:Decidable c} {x y:StateT σ Sem α} {Q:α→σ→Prop} {st:σ} (h:c→wpS M A E s x Q st) (k:¬ c→wpS M A E s y Q st):wpS M A E s (@ite _ c inst x y) Q st:=by
 by_cases hc:c
 ·rw [if_pos hc]; exact h hc
 ·rw [if_neg hc]; exact k hc
theorem zhP {st:SortSt} {a b:Array Keyed} {Q:Array Keyed→SortSt→Prop} (hC:Cmp prog w A s κ val a₀) (hk:kindOf st=κ) (ma:∀ p∈a.toList,p∈a₀.toList) (mb:∀ p∈b.toList,p∈a₀.toList)
  (sa:SIn val a 0 a.size) (sb:SIn val b 0 b.size) (h1:1≤a.size) (h2:1≤b.size) (hf:Vk val b 0≤Vk val a 0) (hl:∀ i,i < b.size→Vk val b i≤Vk val a (a.size - 1))
  (h:∀ out g,Good val (a.toList++b.toList) out.toList→Q out (zY st g)):wpS (model prog w) A E s (zi3 a b) Q st:=by
 refine zeS ?_
 wp_delta
 wp_delta
 refine zeT ?_
 (refine ai (fm (bS ⟨rfl,?_⟩)))
 refine zaf (xs:=b) (i:=0) #[O] fun y0 qN yr=>?_
 refine zaf (xs:=a) (i:=0) #[O] fun x0 qO yt=>?_
 refine ai (zJ qN ?_);have I0:MA val (a.toList++b.toList) a b #[] 0 0:=⟨#[M],fK,zcs sa 0,zcs sb 0,fun x hx=>by simp at hx,fun x hx=>by simp at hx⟩;have I1:MA val (a.toList++b.toList) a b #[y0] 0 1:=I0.pushB sa qN qO (by rw [zK qN,zK qO] at hf; exact hf);dsimp only;by_cases nH:1=b.size
 ·refine zq (by simpa using nH) ?_;exact ak (h _ (gallopOf st) (I1.doneB nH))
 refine zr (by simpa using nH) ?_;by_cases pM:0+1=a.size
 ·refine zq (by simpa using pM) ?_;exact ak (h _ (gallopOf st) (I1.last #[O] hl))
 refine zr (by simpa using pM) ?_;refine ai (er ?_);refine ai (cS (fr5 (fun g out ia ib mg=>(none,out,ia,ib,mg)) (fun g out ia ib mg=>zY st g) (fun x g out ia ib mg=>MA val (a.toList++b.toList) a b out ia ib∧ia+1 < a.size∧ib < b.size∧x+1≤ia+ib)
  (Q:=fun c jz=>∃ g r o,jz=zY st g∧c=(some r,o)∧Good val (a.toList++b.toList) r.toList) ⟨gallopOf st,#[y0],0,1,gallopOf st,rfl,rfl,I1,#[O],#[O],#[O]⟩ ?fin ?step) ?post)
 case post =>
  rintro c jz ⟨g,r,o,rfl,rfl,hG⟩;exact ak (h _ g hG)
 case fin =>
  rintro g out ia ib mg ⟨hI,b1,b2,b3⟩;lia
 case step =>
  intro x g out ia ib mg hr0 hx J;have hI:=J.1;have b1:=J.2.1;have b2:=J.2.2.1;have b3:=J.2.2.2;dsimp only;refine zkJ (fun jH kb j6 ac bc=>(none,jH,kb,j6,ac,bc)) (fun r=>Good val (a.toList++b.toList) r.toList) (fun jH kb j6 ac bc=>MA val (a.toList++b.toList) a b jH kb j6∧kb+1 < a.size∧j6 < b.size∧ia+ib+1≤kb+j6) (zY st g) (fr5 (fun jH kb j6 ac bc=>(none,jH,kb,j6,ac,bc)) (fun jH kb j6 ac bc=>zY st g) (fun x jH kb j6 ac bc=>MA val (a.toList++b.toList) a b jH kb j6∧kb+1 < a.size∧j6 < b.size∧ia+ib+x≤kb+j6) ⟨out,ia,ib,0,0,rfl,rfl,hI,b1,b2,#[O]⟩ ?fin1 ?step1) (fun r o hG=>ak ⟨g,r,_,rfl,rfl,hG⟩) ?post1
  case fin1 =>
   rintro jH kb j6 ac bc ⟨hI,b1,b2,b3⟩;exact⟨rfl,.inr ⟨jH,kb,j6,ac,bc,rfl,hI,b1,b2,#[O]⟩⟩
  case step1 =>
   intro x1 jH kb j6 ac bc wO wQ J;have hI:=J.1;have b1:=J.2.1;have b2:=J.2.2.1;have b3:=J.2.2.2;dsimp only;refine zaf (xs:=b) (i:=j6) #[O] fun y ey my=>?_
   refine zaf (xs:=a) (i:=kb) #[O] fun z ez mz=>?_
   refine ai (zJ ey (ai (zJ ez (ai (zi0 hC hk (mb y my) (ma z mz) ?_)))));dsimp only;by_cases vd:val y < val z
   ·refine zq (by simpa using vd) ?_;refine ai (zJ ey ?_);have lF:=hI.pushB sa ey ez #[O];by_cases e1:j6+1=b.size
    ·refine zq (by simpa using e1) ?_;exact ak ⟨rfl,.inl ⟨_,_,rfl,lF.doneB e1⟩⟩
    refine zr (by simpa using e1) ?_;refine zaC (fun _=>?_) (fun _=>?_)
    ·exact ak ⟨rfl,.inr ⟨_,_,_,_,_,rfl,lF,b1,#[O],#[O]⟩⟩
    ·exact ak ⟨_,_,_,_,_,rfl,rfl,lF,b1,#[O],#[O]⟩
   ·refine zr (by simpa using vd) ?_;refine ai (zJ ez ?_);have lF:=hI.pushA sb ey ez #[O];by_cases e1:kb+1+1=a.size
    ·refine zq (by simpa using e1) ?_;exact ak ⟨rfl,.inl ⟨_,_,rfl,lF.last e1 hl⟩⟩
    refine zr (by simpa using e1) ?_;refine zaC (fun _=>?_) (fun _=>?_)
    ·exact ak ⟨rfl,.inr ⟨_,_,_,_,_,rfl,lF,#[O],b2,#[O]⟩⟩
    ·exact ak ⟨_,_,_,_,_,rfl,rfl,lF,#[O],b2,#[O]⟩
  case post1 =>
   intro tz yu yw yx yy J;have yz:=J.1;have c1:=J.2.1;have c2:=J.2.2.1;have c3:=J.2.2.2;dsimp only
   (refine ai (fm (bS ⟨rfl,?_⟩)))
   refine ai (cS (fr7 (fun g jH kb j6 mg ac bc=>(none,jH,kb,j6,mg,ac,bc)) (fun g jH kb j6 mg ac bc=>zY st g) (fun x g jH kb j6 mg ac bc=>MA val (a.toList++b.toList) a b jH kb j6∧kb+1 < a.size∧j6 < b.size∧yu+yw≤kb+j6)
    (Q:=fun c jz=>∃ g,jz=zY st g∧((∃ r o,c=(some r,o)∧Good val (a.toList++b.toList) r.toList)∨∃ jH kb j6 mg ac bc,c=(none,jH,kb,j6,mg,ac,bc)∧MA val (a.toList++b.toList) a b jH kb j6∧kb+1 < a.size∧j6 < b.size∧yu+yw≤kb+j6)) ⟨g,tz,yu,yw,_,yx,yy,rfl,rfl,yz,c1,c2,ag _⟩ ?fin2 ?step2) ?post2)
   case fin2 =>
    rintro g jH kb j6 mg ac bc ⟨hI,b1,b2,b3⟩;exact⟨g,rfl,.inr ⟨jH,kb,j6,mg,ac,bc,rfl,hI,b1,b2,b3⟩⟩
   case post2 =>
    rintro c jz ⟨g,rfl,hc⟩;rcases hc with ⟨r,o,rfl,hG⟩ | ⟨tB,ia2,ib2,mg2,ac2,bc2,rfl,lF,d1,d2,d3⟩
    ·exact ak ⟨g,r,_,rfl,rfl,hG⟩
    dsimp only;refine ai (zct (ak ⟨_,tB,ia2,ib2,_,rfl,rfl,lF,d1,d2,#[O]⟩))
   case step2 =>
    intro x2 g jH kb j6 tD ac bc ve vf J;have hI:=J.1;have b1:=J.2.1;have b2:=J.2.2.1;have b3:=J.2.2.2;dsimp only;refine zaf (xs:=b) (i:=j6) #[O] fun y ey my=>?_
    apply dup
    ·intro k1 k2;by_cases n4:tD > 1
     ·refine zq n4 ?_;clear n4;generalize tD - 1=m0
      revert m0
      exact k1
     ·refine zr n4 ?_;clear n4;generalize tD=m0
      revert m0
      exact k2
    intro mg0;refine ai (zct (ai (zJ ey (ai (za4 hC hk (mb y my) (fun i hi=>(by
     refine zaf (xs:=a) (i:=kb+i) #[O] fun p ep mp=>?_
     exact⟨p,ep,ma p mp⟩)) (sa.sub #[O] #[O]) #[O] fun k pN mW qb=>?_)))))
    dsimp only;have lF:=hI.takeA (k:=k) sb ey fun i hi=>zcu (mW i hi)
    by_cases pL:k > 0
    ·refine zq pL ?_;by_cases e1:kb+k+1=a.size
     ·refine zq (by simpa using e1) ?_;exact ak ⟨_,rfl,.inl ⟨_,_,rfl,lF.last e1 hl⟩⟩
     refine zr (by simpa using e1) ?_;by_cases e2:kb+k=a.size
     ·refine zq (by simpa using e2) ?_;exact ak ⟨_,rfl,.inl ⟨_,_,rfl,lF.doneA e2⟩⟩
     refine zr (by simpa using e2) ?_;refine ai (zJ ey ?_);refine zaf (xs:=a) (i:=kb+k) #[O] fun z ez mz=>?_
     have n9:=lF.pushB sa ey ez (by have:=zdc (qb k (ag _) #[O]); rw [zK ez] at this; lia);by_cases e3:j6+1=b.size
     ·refine zq (by simpa using e3) ?_;exact ak ⟨_,rfl,.inl ⟨_,_,rfl,n9.doneB e3⟩⟩
     refine zr (by simpa using e3) ?_;refine ai (zJ ez (ai (za4 hC hk (ma z mz) (fun i hi=>(by
      refine zaf (xs:=b) (i:=j6+1+i) #[O] fun p ep mp=>?_
      exact⟨p,ep,mb p mp⟩)) (sb.sub #[O] #[O]) #[O] fun j rk nk qc=>?_)))
     dsimp only;have o8:=n9.takeB (k:=j) sa ez fun i hi=>dH (zbG (nk i hi))
     by_cases oa:j > 0
     ·refine zq oa ?_;by_cases e4:j6+1+j=b.size
      ·refine zq (by simpa using e4) ?_;exact ak ⟨_,rfl,.inl ⟨_,_,rfl,o8.doneB e4⟩⟩
      refine zr (by simpa using e4) ?_;refine zaf (xs:=b) (i:=j6+1+j) #[O] fun y2 lR tE=>?_
      refine ai (zJ ez ?_);have kT:=o8.pushA sb lR ez (by have:=zcl (qc j (ag _) #[O]); rw [zK lR] at this; exact this);by_cases e9:kb+k+1+1=a.size
      ·refine zq (by simpa using e9) ?_;exact ak ⟨_,rfl,.inl ⟨_,_,rfl,kT.last e9 hl⟩⟩
      refine zr (by simpa using e9) ?_;refine zaC (fun _=>?_) (fun _=>?_)
      ·exact ak ⟨_,rfl,.inr ⟨_,_,_,_,_,_,rfl,kT,#[O],#[O],#[O]⟩⟩
      ·exact ak ⟨_,_,_,_,_,_,_,rfl,rfl,kT,#[O],#[O],#[O]⟩
     ·refine zr oa ?_;have tF:j=0:=by lia
      subst tF;refine zaf (xs:=b) (i:=j6+1) #[O] fun y2 lR tE=>?_
      refine ai (zJ ez ?_);have kT:=n9.pushA sb lR ez (by have:=zcl (qc 0 (ag _) #[O]); rw [d9,zK lR] at this; exact this);by_cases e9:kb+k+1+1=a.size
      ·refine zq (by simpa using e9) ?_;exact ak ⟨_,rfl,.inl ⟨_,_,rfl,kT.last e9 hl⟩⟩
      refine zr (by simpa using e9) ?_;refine zaC (fun _=>?_) (fun _=>?_)
      ·exact ak ⟨_,rfl,.inr ⟨_,_,_,_,_,_,rfl,kT,#[O],#[O],#[O]⟩⟩
      ·exact ak ⟨_,_,_,_,_,_,_,rfl,rfl,kT,#[O],#[O],#[O]⟩
    ·refine zr pL ?_;have yA:k=0:=by lia
     subst yA;refine ai (zJ ey ?_);refine zaf (xs:=a) (i:=kb) #[O] fun z ez mz=>?_
     have n9:=hI.pushB sa ey ez (by have:=zdc (qb 0 (ag _) #[O]); rw [d9,zK ez] at this; lia);by_cases e3:j6+1=b.size
     ·refine zq (by simpa using e3) ?_;exact ak ⟨_,rfl,.inl ⟨_,_,rfl,n9.doneB e3⟩⟩
     refine zr (by simpa using e3) ?_;refine ai (zJ ez (ai (za4 hC hk (ma z mz) (fun i hi=>(by
      refine zaf (xs:=b) (i:=j6+1+i) #[O] fun p ep mp=>?_
      exact⟨p,ep,mb p mp⟩)) (sb.sub #[O] #[O]) #[O] fun j rk nk qc=>?_)))
     dsimp only;have o8:=n9.takeB (k:=j) sa ez fun i hi=>dH (zbG (nk i hi))
     by_cases oa:j > 0
     ·refine zq oa ?_;by_cases e4:j6+1+j=b.size
      ·refine zq (by simpa using e4) ?_;exact ak ⟨_,rfl,.inl ⟨_,_,rfl,o8.doneB e4⟩⟩
      refine zr (by simpa using e4) ?_;refine zaf (xs:=b) (i:=j6+1+j) #[O] fun y2 lR tE=>?_
      refine ai (zJ ez ?_);have kT:=o8.pushA sb lR ez (by have:=zcl (qc j (ag _) #[O]); rw [zK lR] at this; exact this);by_cases e9:kb+1+1=a.size
      ·refine zq (by simpa using e9) ?_;exact ak ⟨_,rfl,.inl ⟨_,_,rfl,kT.last e9 hl⟩⟩
      refine zr (by simpa using e9) ?_;refine zaC (fun _=>?_) (fun _=>?_)
      ·exact ak ⟨_,rfl,.inr ⟨_,_,_,_,_,_,rfl,kT,#[O],#[O],#[O]⟩⟩
      ·exact ak ⟨_,_,_,_,_,_,_,rfl,rfl,kT,#[O],#[O],#[O]⟩
     ·refine zr oa ?_;have tF:j=0:=by lia
      subst tF;refine zaf (xs:=b) (i:=j6+1) #[O] fun y2 lR tE=>?_
      refine ai (zJ ez ?_);have kT:=n9.pushA sb lR ez (by have:=zcl (qc 0 (ag _) #[O]); rw [d9,zK lR] at this; exact this);by_cases e9:kb+1+1=a.size
      ·refine zq (by simpa using e9) ?_;exact ak ⟨_,rfl,.inl ⟨_,_,rfl,kT.last e9 hl⟩⟩
      refine zr (by simpa using e9) ?_;refine zaC (fun _=>?_) (fun _=>?_)
      ·exact ak ⟨_,rfl,.inr ⟨_,_,_,_,_,_,rfl,kT,#[O],#[O],#[O]⟩⟩
      ·exact ak ⟨_,_,_,_,_,_,_,rfl,rfl,kT,#[O],#[O],#[O]⟩
end
end Srt
end
section
namespace Srt
open PySem PyProof.Rows
structure MH (val:Keyed→Int) (T l r o:List Keyed):Prop where
 perm:(l++r++o).Perm T
 so:Ris val o
 sl:Ris val l
 sr:Ris val r
 lo:Le val l o
 ro:Le val r o
section
variable {val:Keyed→Int} {T o l l1 l2 r r1 r2:List Keyed}
theorem MH.takeA (h:MH val T (l1++l2) r o) (hle:Le val r l2):MH val T l1 r (l2++o):=by
 obtain⟨a1,a2,a3⟩:=zah.mp h.sl;refine⟨?_,zah.mpr ⟨a2,h.so,h.lo.right⟩,a1,h.sr,a3.app' h.lo.left,hle.app' h.ro⟩;refine dZ ?_ h.perm;have:(r++l2).Perm (l2++r):=List.perm_append_comm;have:=(this.append_left l1).append_right o;simpa [bf] using this
theorem MH.takeB (h:MH val T l (r1++r2) o) (hle:Le val l r2):MH val T l r1 (r2++o):=by
 obtain⟨a1,a2,a3⟩:=zah.mp h.sr;exact⟨by have:=h.perm; simpa [bf] using this,zah.mpr ⟨a2,h.so,h.ro.right⟩,h.sl,a1,hle.app' h.lo,a3.app' h.ro.left⟩
theorem MH.doneA (h:MH val T [] r o):Good val T (r++o):=⟨by have:=h.perm; simpa using this,zah.mpr ⟨h.sr,h.so,h.ro⟩⟩
theorem MH.doneB (h:MH val T l [] o):Good val T (l++o):=⟨by have:=h.perm; simpa using this,zah.mpr ⟨h.sl,h.so,h.lo⟩⟩
theorem MH.first (h:MH val T l r o) (hle:Le val r l):Good val T (r++l++o):=by
 refine⟨dZ (List.perm_append_comm.append_right _) h.perm,?_⟩;exact zah.mpr ⟨zah.mpr ⟨h.sr,h.sl,hle⟩,h.so,h.ro.app h.lo⟩
end
section
variable {val:Keyed→Int} {T:List Keyed} {a b out:Array Keyed} {na nb:Nat}
abbrev MB (val:Keyed→Int) (T:List Keyed) (a b out:Array Keyed) (na nb:Nat):Prop:=MH val T (a.toList.take na) (b.toList.take nb) out.toList.reverse
theorem zgT {xs:Array Keyed} {n:Nat} {p:Keyed} (h:xs[n]? = some p):xs.toList.take (n+1)=xs.toList.take n++[p]:=by
 rw [List.take_succ,aY,h];rfl
theorem zfz {xs:Array Keyed} (h:SIn val xs 0 xs.size) (i:Nat):Ris val (xs.toList.take i):=by
 have:=zcs h 0;rw [fo] at this;exact gB (bZ _ _) this
theorem zdE {xs:Array Keyed} {n:Nat} {p:Keyed} (h:p∈xs.toList.take n):∃ j,j < n∧j < xs.size∧xs[j]? = some p:=by
 (obtain⟨j,hj,e⟩:=dn h)
 have nk:j < n∧j < xs.toList.length:=by
  rw [aF] at hj;lia
 refine⟨j,nk.1,by simpa using nk.2,?_⟩;rw [← aY,az nk.2,← e,iE]
theorem zdd {xs:Array Keyed} {n:Nat} {p q:Keyed} (h:SIn val xs 0 xs.size) (hp:xs[n]? = some p) (hq:q∈xs.toList.take (n+1)):val q≤val p:=by
 obtain⟨j,hj,qY,e⟩:=zdE hq;have hn:=(cu.mp hp).1;have:=h j n (a8 _) #[O] hn;rw [zK e,zK hp] at this;exact this
theorem MB.pushA {y x:Keyed} (h:MB val T a b out (na+1) nb) (sb:SIn val b 0 b.size) (hn:1≤nb) (hy:b[nb - 1]? = some y) (hx:a[na]? = some x) (hle:val y≤val x):MB val T a b (out.push x) na nb:=by
 unfold MB at h ⊢;rw [zgT hx] at h;have:=MH.takeA h fun p hp q hq=>by
  rw [aH.mp hq];exact bJ (zdd sb hy (by rw [show nb - 1+1=nb by lia]; exact hp)) hle
 simpa using this
theorem MB.pushB {y x:Keyed} (h:MB val T a b out na (nb+1)) (sa:SIn val a 0 a.size) (hn:1≤na) (hy:b[nb]? = some y) (hx:a[na - 1]? = some x) (hle:val x≤val y):MB val T a b (out.push y) na nb:=by
 unfold MB at h ⊢;rw [zgT hy] at h;have:=MH.takeB h fun p hp q hq=>by
  rw [aH.mp hq];exact bJ (zdd sa hx (by rw [show na - 1+1=na by lia]; exact hp)) hle
 simpa using this
theorem zgU (xs:Array Keyed) {i n:Nat} (h:i≤n):xs.toList.take n=xs.toList.take i++(xs.extract i n).toList:=by
 rw [cL];simp only [cE];rw [← bD i (xs.toList.take n),jf,ge h,List.drop_take]
theorem MB.takeA {y:Keyed} {at':Nat} (h:MB val T a b out na nb) (sb:SIn val b 0 b.size) (mQ:at'≤na) (hn:1≤nb) (hy:b[nb - 1]? = some y) (hle:∀ i,at'≤i→i < na→val y≤Vk val a i):MB val T a b (out++(a.extract at' na).reverse) at' nb:=by
 unfold MB at h ⊢;rw [zgU a mQ] at h;have:=MH.takeA h fun p hp q hq=>by
  have la:q∈(a.extract at' (at'+(na - at'))).toList:=by rw [show at'+(na - at')=na by lia]; exact hq
  obtain⟨j,hj,e⟩:=zdb la;have:=hle (at'+j) #[O] #[O];rw [zK e] at this;exact bJ (zdd sb hy (by rw [show nb - 1+1=nb by lia]; exact hp)) this
 simpa using this
theorem MB.takeB {x:Keyed} {at':Nat} (h:MB val T a b out na nb) (sa:SIn val a 0 a.size) (mQ:at'≤nb) (hn:1≤na) (hx:a[na - 1]? = some x) (hle:∀ i,at'≤i→i < nb→val x≤Vk val b i):MB val T a b (out++(b.extract at' nb).reverse) na at':=by
 unfold MB at h ⊢;rw [zgU b mQ] at h;have:=MH.takeB h fun p hp q hq=>by
  have la:q∈(b.extract at' (at'+(nb - at'))).toList:=by rw [show at'+(nb - at')=nb by lia]; exact hq
  obtain⟨j,hj,e⟩:=zdb la;have:=hle (at'+j) #[O] #[O];rw [zK e] at this;exact bJ (zdd sa hx (by rw [show na - 1+1=na by lia]; exact hp)) this
 simpa using this
theorem zbt (xs:Array Keyed) (n:Nat):(xs.extract 0 n).toList=xs.toList.take n:=by
 rw [cL];simp [cE]
theorem MB.doneA (h:MB val T a b out na nb) (e:na=0):Good val T (a.extract 0 na++b.extract 0 nb++out.reverse).toList:=by
 unfold MB at h;subst e;have:=MH.doneA h;rw [bh,bh,zbt,zbt,eA,i6,eY];exact this
theorem MB.doneB (h:MB val T a b out na nb) (e:nb=0):Good val T (a.extract 0 na++b.extract 0 nb++out.reverse).toList:=by
 unfold MB at h;subst e;have:=MH.doneB h;rw [bh,bh,zbt,zbt,eA,bQ,eY];exact this
theorem MB.first (h:MB val T a b out na nb) (e:nb=1) (sa:SIn val a 0 a.size) (h2:1≤b.size) (hf:Vk val b 0≤Vk val a 0):Good val T (b.extract 0 nb++a.extract 0 na++out.reverse).toList:=by
 unfold MB at h;subst e;have:=MH.first h fun p hp q hq=>by
  obtain⟨j,hj,qY,ej⟩:=zdE hp;have oa:j=0:=by lia
  subst oa;obtain⟨i,hi,uo,ei⟩:=zdE hq;have:=sa 0 i (a8 _) (a8 _) uo;rw [zK ei] at this;rw [zK ej] at hf;lia
 rw [bh,bh,zbt,zbt,eY];exact this
end
section
variable {prog:Program} {w:World} {A:Around} {E:Value→Shared→Prop} {s:Shared} {a₀:Array Keyed} {κ:SortKind} {val:Keyed→Int}
theorem zhQ {st:SortSt} {a b:Array Keyed} {Q:Array Keyed→SortSt→Prop} (hC:Cmp prog w A s κ val a₀) (hk:kindOf st=κ) (ma:∀ p∈a.toList,p∈a₀.toList) (mb:∀ p∈b.toList,p∈a₀.toList)
  (sa:SIn val a 0 a.size) (sb:SIn val b 0 b.size) (h1:1≤a.size) (h2:1≤b.size) (hf:Vk val b 0≤Vk val a 0) (hl:∀ i,i < b.size→Vk val b i≤Vk val a (a.size - 1))
  (h:∀ out g,Good val (a.toList++b.toList) out.toList→Q out (zY st g)):wpS (model prog w) A E s (zi4 a b) Q st:=by
 refine zeS ?_
 wp_delta
 wp_delta
 refine zeT ?_
 (refine ai (fm (bS ⟨rfl,?_⟩)))
 refine zaf (xs:=a) (i:=a.size - 1) #[O] fun x0 qO yt=>?_
 refine zaf (xs:=b) (i:=b.size - 1) #[O] fun y0 qN yr=>?_
 refine ai (zJ qO ?_);have I0:MB val (a.toList++b.toList) a b #[] (a.size - 1+1) b.size:=by
  refine⟨?_,fK,zfz sa _,zfz sb _,fun x _ y hy=>by simp at hy,fun x _ y hy=>by simp at hy⟩;rw [show a.size - 1+1=a.size by lia,aR #[M],aR #[M]];simp
 have I1:MB val (a.toList++b.toList) a b #[x0] (a.size - 1) b.size:=I0.pushA sb h2 qN qO (by have:=hl (b.size - 1) #[O]; rw [zK qN,zK qO] at this; exact this);dsimp only;by_cases pM:a.size - 1=0
 ·refine zq (by simpa using pM) ?_;exact ak (h _ (gallopOf st) (I1.doneA pM))
 refine zr (by simpa using pM) ?_;by_cases nH:b.size=1
 ·refine zq (by simpa using nH) ?_;exact ak (h _ (gallopOf st) (I1.first nH sa h2 hf))
 refine zr (by simpa using nH) ?_;refine ai (er ?_);refine ai (cS (fr5 (fun g out na nb mg=>(none,na,nb,out,mg)) (fun g out na nb mg=>zY st g) (fun x g out na nb mg=>MB val (a.toList++b.toList) a b out na nb∧1≤na∧2≤nb∧na≤a.size∧nb≤b.size∧x+na+nb+1≤a.size+b.size)
  (Q:=fun c jz=>∃ g r o,jz=zY st g∧c=(some r,o)∧Good val (a.toList++b.toList) r.toList) ⟨gallopOf st,#[x0],a.size - 1,b.size,gallopOf st,rfl,rfl,I1,#[O],#[O],#[O],#[O],#[O]⟩ ?fin ?step) ?post)
 case post =>
  rintro c jz ⟨g,r,o,rfl,rfl,hG⟩;exact ak (h _ g hG)
 case fin =>
  rintro g out na nb mg ⟨hI,b1,b2,b3⟩;lia
 case step =>
  intro x g out na nb mg hr0 hx J;have hI:=J.1;have b1:=J.2.1;have b2:=J.2.2.1;have b4:=J.2.2.2.1;have b5:=J.2.2.2.2.1;have b3:=J.2.2.2.2.2;dsimp only;refine zkJ (fun jH kB kC ac bc=>(none,kB,kC,jH,ac,bc)) (fun r=>Good val (a.toList++b.toList) r.toList) (fun jH kB kC ac bc=>MB val (a.toList++b.toList) a b jH kB kC∧1≤kB∧2≤kC∧kB≤a.size∧kC≤b.size∧1+kB+kC≤na+nb) (zY st g) (fr5 (fun jH kB kC ac bc=>(none,kB,kC,jH,ac,bc)) (fun jH kB kC ac bc=>zY st g) (fun x jH kB kC ac bc=>MB val (a.toList++b.toList) a b jH kB kC∧1≤kB∧2≤kC∧kB≤a.size∧kC≤b.size∧x+kB+kC≤na+nb) ⟨out,na,nb,0,0,rfl,rfl,hI,b1,b2,b4,b5,#[O]⟩ ?fin1 ?step1) (fun r o hG=>ak ⟨g,r,_,rfl,rfl,hG⟩) ?post1
  case fin1 =>
   rintro jH kB kC ac bc ⟨hI,b1,b2,b4,b5,b3⟩;exact⟨rfl,.inr ⟨jH,kB,kC,ac,bc,rfl,hI,b1,b2,b4,b5,#[O]⟩⟩
  case step1 =>
   intro x1 jH kB kC ac bc wO wQ J;have hI:=J.1;have b1:=J.2.1;have b2:=J.2.2.1;have b4:=J.2.2.2.1;have b5:=J.2.2.2.2.1;have b3:=J.2.2.2.2.2;dsimp only;obtain⟨n1,rfl⟩:∃ n1,kB=n1+1:=⟨kB - 1,#[O]⟩;obtain⟨m1,rfl⟩:∃ m1,kC=m1+1:=⟨kC - 1,#[O]⟩;simp only [ci];refine zaf (xs:=b) (i:=m1) #[O] fun y ey my=>?_
   refine zaf (xs:=a) (i:=n1) #[O] fun z ez mz=>?_
   refine ai (zJ ey (ai (zJ ez (ai (zi0 hC hk (mb y my) (ma z mz) ?_)))));dsimp only;by_cases vd:val y < val z
   ·refine zq (by simpa using vd) ?_;refine ai (zJ ez ?_);have lF:=hI.pushA sb #[O] ey ez #[O];by_cases e1:n1=0
    ·refine zq (by simpa using e1) ?_;exact ak ⟨rfl,.inl ⟨_,_,rfl,lF.doneA e1⟩⟩
    refine zr (by simpa using e1) ?_;refine zaC (fun _=>?_) (fun _=>?_)
    ·exact ak ⟨rfl,.inr ⟨_,_,_,_,_,rfl,lF,#[O],#[O],#[O],#[O],#[O]⟩⟩
    ·exact ak ⟨_,_,_,_,_,rfl,rfl,lF,#[O],#[O],#[O],#[O],#[O]⟩
   ·refine zr (by simpa using vd) ?_;refine ai (zJ ey ?_);have lF:=hI.pushB sa #[O] ey ez #[O];by_cases e1:m1=1
    ·refine zq (by simpa using e1) ?_;exact ak ⟨rfl,.inl ⟨_,_,rfl,lF.first e1 sa h2 hf⟩⟩
    refine zr (by simpa using e1) ?_;refine zaC (fun _=>?_) (fun _=>?_)
    ·exact ak ⟨rfl,.inr ⟨_,_,_,_,_,rfl,lF,#[O],#[O],#[O],#[O],#[O]⟩⟩
    ·exact ak ⟨_,_,_,_,_,rfl,rfl,lF,#[O],#[O],#[O],#[O],#[O]⟩
  case post1 =>
   intro tz yB yC yx yy J;have yz:=J.1;have c1:=J.2.1;have c2:=J.2.2.1;have c4:=J.2.2.2.1;have c5:=J.2.2.2.2.1;have c3:=J.2.2.2.2.2;dsimp only
   (refine ai (fm (bS ⟨rfl,?_⟩)))
   refine ai (cS (fr7 (fun g jH kB kC mg ac bc=>(none,kB,kC,jH,mg,ac,bc)) (fun g jH kB kC mg ac bc=>zY st g) (fun x g jH kB kC mg ac bc=>MB val (a.toList++b.toList) a b jH kB kC∧1≤kB∧2≤kC∧kB≤a.size∧kC≤b.size∧kB+kC≤yB+yC)
    (Q:=fun c jz=>∃ g,jz=zY st g∧((∃ r o,c=(some r,o)∧Good val (a.toList++b.toList) r.toList)∨∃ jH kB kC mg ac bc,c=(none,kB,kC,jH,mg,ac,bc)∧MB val (a.toList++b.toList) a b jH kB kC∧1≤kB∧2≤kC∧kB≤a.size∧kC≤b.size∧kB+kC≤yB+yC)) ⟨g,tz,yB,yC,_,yx,yy,rfl,rfl,yz,c1,c2,c4,c5,ag _⟩ ?fin2 ?step2) ?post2)
   case fin2 =>
    rintro g jH kB kC mg ac bc ⟨hI,b1,b2,b4,b5,b3⟩;exact⟨g,rfl,.inr ⟨jH,kB,kC,mg,ac,bc,rfl,hI,b1,b2,b4,b5,b3⟩⟩
   case post2 =>
    rintro c jz ⟨g,rfl,hc⟩;rcases hc with ⟨r,o,rfl,hG⟩ | ⟨tB,na2,nb2,mg2,ac2,bc2,rfl,lF,d1,d2,d4,d5,d3⟩
    ·exact ak ⟨g,r,_,rfl,rfl,hG⟩
    dsimp only;refine ai (zct (ak ⟨_,tB,na2,nb2,_,rfl,rfl,lF,d1,d2,d4,d5,#[O]⟩))
   case step2 =>
    intro x2 g jH kB kC tD ac bc ve vf J;have hI:=J.1;have b1:=J.2.1;have b2:=J.2.2.1;have b4:=J.2.2.2.1;have b5:=J.2.2.2.2.1;have b3:=J.2.2.2.2.2;dsimp only;obtain⟨m1,rfl⟩:∃ m1,kC=m1+1:=⟨kC - 1,#[O]⟩;simp only [ci];refine zaf (xs:=b) (i:=m1) #[O] fun y ey my=>?_
    apply dup
    ·intro k1 k2;by_cases n4:tD > 1
     ·refine zq n4 ?_;clear n4;generalize tD - 1=m0
      revert m0
      exact k1
     ·refine zr n4 ?_;clear n4;generalize tD=m0
      revert m0
      exact k2
    intro mg0;refine ai (zct (ai (zJ ey (ai (za4 hC hk (mb y my) (fun i hi=>(by
     refine zaf (xs:=a) (i:=0+i) #[O] fun p ep mp=>?_
     exact⟨p,ep,ma p mp⟩)) (sa.sub #[O] #[O]) #[O] fun k pN mW qb=>?_)))))
    dsimp only;have lF:=hI.takeA (at':=k) sb pN #[O] ey fun i h1 h2=>dH (by have:=zdc (qb i h1 h2); rwa [cJ] at this)
    by_cases pL:kB - k > 0
    ·refine zq pL ?_;by_cases e1:k=0
     ·refine zq (by simpa using e1) ?_;exact ak ⟨_,rfl,.inl ⟨_,_,rfl,lF.doneA e1⟩⟩
     refine zr (by simpa using e1) ?_;obtain⟨n1,rfl⟩:∃ n1,k=n1+1:=⟨k - 1,#[O]⟩;simp only [ci];refine ai (zJ ey ?_);refine zaf (xs:=a) (i:=n1) #[O] fun z ez mz=>?_
     have n9:=lF.pushB sa #[O] ey (show a[n1+1 - 1]? = some z by rw [ci]; exact ez) (by have:=zcu (mW n1 #[O]); rw [cJ,zK ez] at this; exact this);by_cases e3:m1=1
     ·refine zq (by simpa using e3) ?_;exact ak ⟨_,rfl,.inl ⟨_,_,rfl,n9.first e3 sa h2 hf⟩⟩
     refine zr (by simpa using e3) ?_;refine ai (zJ ez (ai (za4 hC hk (ma z mz) (fun i hi=>(by
      refine zaf (xs:=b) (i:=0+i) #[O] fun p ep mp=>?_
      exact⟨p,ep,mb p mp⟩)) (sb.sub #[O] #[O]) #[O] fun j rk nk qc=>?_)))
     dsimp only;have o8:=n9.takeB (at':=j) sa rk #[O] (show a[n1+1 - 1]? = some z by rw [ci]; exact ez) fun i h1 h2=>(by have:=zcl (qc i h1 h2); rwa [cJ] at this)
     by_cases oa:m1 - j > 0
     ·refine zq oa ?_;by_cases e4:j=1
      ·refine zq (by simpa using e4) ?_;exact ak ⟨_,rfl,.inl ⟨_,_,rfl,o8.first e4 sa h2 hf⟩⟩
      refine zr (by simpa using e4) ?_;by_cases e5:j=0
      ·refine zq (by simpa using e5) ?_;exact ak ⟨_,rfl,.inl ⟨_,_,rfl,o8.doneB e5⟩⟩
      refine zr (by simpa using e5) ?_;refine zaf (xs:=b) (i:=j - 1) #[O] fun y2 lR tE=>?_
      refine ai (zJ ez ?_);have kT:=o8.pushA sb #[O] lR ez (by have:=zbG (nk (j - 1) #[O]); rw [cJ,zK lR] at this; lia);by_cases e9:n1=0
      ·refine zq (by simpa using e9) ?_;exact ak ⟨_,rfl,.inl ⟨_,_,rfl,kT.doneA e9⟩⟩
      refine zr (by simpa using e9) ?_;refine zaC (fun _=>?_) (fun _=>?_)
      ·exact ak ⟨_,rfl,.inr ⟨_,_,_,_,_,_,rfl,kT,#[O],#[O],#[O],#[O],#[O]⟩⟩
      ·exact ak ⟨_,_,_,_,_,_,_,rfl,rfl,kT,#[O],#[O],#[O],#[O],#[O]⟩
     ·refine zr oa ?_;have yD:j=m1:=by lia
      subst yD;refine zaf (xs:=b) (i:=j - 1) #[O] fun y2 lR tE=>?_
      refine ai (zJ ez ?_);have kT:=n9.pushA sb #[O] lR ez (by have:=zbG (nk (j - 1) #[O]); rw [cJ,zK lR] at this; lia);by_cases e9:n1=0
      ·refine zq (by simpa using e9) ?_;exact ak ⟨_,rfl,.inl ⟨_,_,rfl,kT.doneA e9⟩⟩
      refine zr (by simpa using e9) ?_;refine zaC (fun _=>?_) (fun _=>?_)
      ·exact ak ⟨_,rfl,.inr ⟨_,_,_,_,_,_,rfl,kT,#[O],#[O],#[O],#[O],#[O]⟩⟩
      ·exact ak ⟨_,_,_,_,_,_,_,rfl,rfl,kT,#[O],#[O],#[O],#[O],#[O]⟩
    ·refine zr pL ?_;have p7:k=kB:=by lia
     subst p7;obtain⟨n1,rfl⟩:∃ n1,k=n1+1:=⟨k - 1,#[O]⟩;simp only [ci];refine ai (zJ ey ?_);refine zaf (xs:=a) (i:=n1) #[O] fun z ez mz=>?_
     have n9:=hI.pushB sa #[O] ey (show a[n1+1 - 1]? = some z by rw [ci]; exact ez) (by have:=zcu (mW n1 #[O]); rw [cJ,zK ez] at this; exact this);by_cases e3:m1=1
     ·refine zq (by simpa using e3) ?_;exact ak ⟨_,rfl,.inl ⟨_,_,rfl,n9.first e3 sa h2 hf⟩⟩
     refine zr (by simpa using e3) ?_;refine ai (zJ ez (ai (za4 hC hk (ma z mz) (fun i hi=>(by
      refine zaf (xs:=b) (i:=0+i) #[O] fun p ep mp=>?_
      exact⟨p,ep,mb p mp⟩)) (sb.sub #[O] #[O]) #[O] fun j rk nk qc=>?_)))
     dsimp only;have o8:=n9.takeB (at':=j) sa rk #[O] (show a[n1+1 - 1]? = some z by rw [ci]; exact ez) fun i h1 h2=>(by have:=zcl (qc i h1 h2); rwa [cJ] at this)
     by_cases oa:m1 - j > 0
     ·refine zq oa ?_;by_cases e4:j=1
      ·refine zq (by simpa using e4) ?_;exact ak ⟨_,rfl,.inl ⟨_,_,rfl,o8.first e4 sa h2 hf⟩⟩
      refine zr (by simpa using e4) ?_;by_cases e5:j=0
      ·refine zq (by simpa using e5) ?_;exact ak ⟨_,rfl,.inl ⟨_,_,rfl,o8.doneB e5⟩⟩
      refine zr (by simpa using e5) ?_;refine zaf (xs:=b) (i:=j - 1) #[O] fun y2 lR tE=>?_
      refine ai (zJ ez ?_);have kT:=o8.pushA sb #[O] lR ez (by have:=zbG (nk (j - 1) #[O]); rw [cJ,zK lR] at this; lia);by_cases e9:n1=0
      ·refine zq (by simpa using e9) ?_;exact ak ⟨_,rfl,.inl ⟨_,_,rfl,kT.doneA e9⟩⟩
      refine zr (by simpa using e9) ?_;refine zaC (fun _=>?_) (fun _=>?_)
      ·exact ak ⟨_,rfl,.inr ⟨_,_,_,_,_,_,rfl,kT,#[O],#[O],#[O],#[O],#[O]⟩⟩
      ·exact ak ⟨_,_,_,_,_,_,_,rfl,rfl,kT,#[O],#[O],#[O],#[O],#[O]⟩
     ·refine zr oa ?_;have yD:j=m1:=by lia
      subst yD;refine zaf (xs:=b) (i:=j - 1) #[O] fun y2 lR tE=>?_
      refine ai (zJ ez ?_);have kT:=n9.pushA sb #[O] lR ez (by have:=zbG (nk (j - 1) #[O]); rw [cJ,zK lR] at this; lia);by_cases e9:n1=0
      ·refine zq (by simpa using e9) ?_;exact ak ⟨_,rfl,.inl ⟨_,_,rfl,kT.doneA e9⟩⟩
      refine zr (by simpa using e9) ?_;refine zaC (fun _=>?_) (fun _=>?_)
      ·exact ak ⟨_,rfl,.inr ⟨_,_,_,_,_,_,rfl,kT,#[O],#[O],#[O],#[O],#[O]⟩⟩
      ·exact ak ⟨_,_,_,_,_,_,_,rfl,rfl,kT,#[O],#[O],#[O],#[O],#[O]⟩
end
end Srt
end
section
namespace Srt
open PySem PyProof.Rows
def wb (sa:Nat) (l:List (Keyed×Nat)) (xs:Array Keyed):Array Keyed:=l.foldl (fun a (p,j)=>a.setIfInBounds (sa+j) p) xs
theorem zi7 (sa:Nat):∀ (l:List Keyed) (n:Nat) (xs:Array Keyed) (k:Nat),sa+n+l.length≤xs.size→(wb sa (l.zipIdx n) xs)[k]? = if sa+n≤k∧k < sa+n+l.length then l[k - (sa+n)]? else xs[k]?
 | [],n,xs,k,h=>by
  rw [if_neg (by simp only [cZ]; lia)];rfl
 | p :: l,n,xs,k,h=>by
  have hl:(p :: l).length=l.length+1:=rfl;rw [hl] at h ⊢;show (wb sa (l.zipIdx (n+1)) (xs.setIfInBounds (sa+n) p))[k]? = _;rw [zi7 sa l (n+1) _ k (by rw [Array.size_setIfInBounds]; lia)];by_cases h1:sa+(n+1)≤k∧k < sa+(n+1)+l.length
  ·rw [if_pos h1,if_pos #[O],show k - (sa+n)=k - (sa+(n+1))+1 by lia,cm]
  ·rw [if_neg h1,Array.getElem?_setIfInBounds];by_cases h2:sa+n=k
   ·rw [if_pos h2,if_pos #[O],if_pos #[O],show k - (sa+n)=0 by lia];rfl
   ·rw [if_neg h2,if_neg #[O]]
theorem zj4 {sa:Nat} {m xs:Array Keyed} (h:sa+m.size≤xs.size):(wb sa m.toList.zipIdx xs).toList=xs.toList.take sa++m.toList++xs.toList.drop (sa+m.size):=by
 have hm:m.toList.length=m.size:=by simp
 have hx:xs.toList.length=xs.size:=by simp
 refine fO fun k=>?_
 rw [aY,zi7 sa m.toList 0 xs k (by rw [hm]; lia),hm,d9];by_cases h1:k < sa
 ·rw [if_neg #[O],bf,dX (by rw [aF]; lia),d6 h1,aY]
 ·by_cases h2:k < sa+m.size
  ·rw [if_pos #[O],bf,dR (by rw [aF]; lia),aF,hx,show min sa xs.size=sa by lia,dX #[O]]
  ·rw [if_neg #[O],dR (by rw [av,aF]; lia),av,aF,hx,show min sa xs.size=sa by lia,hm,fB,show sa+m.size+(k - (sa+m.size))=k by lia,aY]
theorem zhR (xs:List Keyed) {i j k:Nat} (h1:i≤j) (h2:j≤k):xs=xs.take i++((xs.drop i).take (j - i)++(xs.drop j).take (k - j))++xs.drop k:=by
 have e1:xs.drop i=(xs.drop i).take (j - i)++xs.drop j:=by
  have:=(bD (j - i) (xs.drop i)).symm
  rwa [gC,show i+(j - i)=j by lia] at this
 have e2:xs.drop j=(xs.drop j).take (k - j)++xs.drop k:=by
  have:=(bD (k - j) (xs.drop j)).symm
  rwa [gC,show j+(k - j)=k by lia] at this
 have e0:=(bD i xs).symm;rw [e1,e2] at e0;rw [bf,bf];exact e0
theorem zcv (xs:Array Keyed) (i j:Nat):(xs.extract i j).toList=(xs.toList.drop i).take (j - i):=by
 rw [cL]
theorem zj5 {sa sb e:Nat} {m xs:Array Keyed} (h1:sa≤sb) (h2:sb≤e) (h3:e≤xs.size) (hp:m.toList.Perm ((xs.extract sa sb).toList++(xs.extract sb e).toList)):(wb sa m.toList.zipIdx xs).Perm xs:=by
 have hms:m.size=e - sa:=by
  have:=hp.length_eq;rw [av,zcv,zcv,aF,aF,cv,cv] at this;have hx:xs.toList.length=xs.size:=by simp
  have hm:m.toList.length=m.size:=by simp
  lia
 rw [dU,zj4 #[O],show sa+m.size=e by lia];refine dZ ((hp.append_left _).append_right _) ?_;rw [zcv,zcv,← zhR xs.toList h1 h2]
section
variable {prog:Program} {w:World} {A:Around} {E:Value→Shared→Prop} {s:Shared} {a₀:Array Keyed} {κ:SortKind} {val:Keyed→Int}
theorem zcm {xs:Array Keyed} {i j k:Nat} (h:k < j - i) (hj:j≤xs.size):(xs.extract i j)[k]? = xs[i+k]?:=by
 rw [← aY,zcv,d6 h,fB,aY]
theorem zcw {xs:Array Keyed} {i j:Nat} (hj:j≤xs.size):(xs.extract i j).size=j - i:=by rw [Array.size_extract,ge hj]
theorem zgV {xs:Array Keyed} {i j:Nat} (hj:j≤xs.size) (h:SIn val xs i j):SIn val (xs.extract i j) 0 (xs.extract i j).size:=by
 rw [zcw hj];intro p q _ hpq hq;rw [zW (zcm #[O] hj),zW (zcm hq hj)];exact h _ _ #[O] #[O] #[O]
theorem zde {xs:Array Keyed} {i j:Nat} (hj:j≤xs.size) {p:Keyed} (h:p∈(xs.extract i j).toList):∃ k,i≤k∧k < j∧xs[k]? = some p:=by
 obtain⟨k,hk,e⟩:=dn h;have qI:k < j - i:=by
  rwa [bv,zcw hj] at hk
 refine⟨i+k,#[O],#[O],?_⟩;rw [← zcm qI hj,← aY,az hk,e]
theorem zhS {st:SortSt} {i sa na pw sb nb pw2:Nat} {Q:Bool→SortSt→Prop} (hC:Cmp prog w A s κ val a₀) (hB:SB κ a₀ st) (e1:(pendingOf st)[i]? = some (sa,na,pw)) (e2:(pendingOf st)[i+1]? = some (sb,nb,pw2))
  (kz:sb=sa+na) (hna:1≤na) (wR:1≤nb) (hsz:sb+nb≤a₀.size) (sA:SIn val (arrOf st) sa (sa+na)) (sB:SIn val (arrOf st) sb (sb+nb))
  (h:∀ jz,SB κ a₀ jz→pendingOf jz=((pendingOf st).setIfInBounds i (sa,na+nb,pw)).eraseIdxIfInBounds (i+1)→(∀ k,(k < sa∨sb+nb≤k)→(arrOf jz)[k]? = (arrOf st)[k]?)→SIn val (arrOf jz) sa (sb+nb)→Q true jz) :
  wpS (model prog w) A E s (mergeAt' i) Q st:=by
 refine zeS ?_
 wp_delta
 wp_delta
 refine zeT ?_;refine ai (er ?_);rw [e1,e2];dsimp only;have vg:=hB.size;obtain⟨y0,qN,yr⟩:=hB.mem (i:=sb) #[O];generalize tG:(sortPriv% PySem.Builtin.SortState.mk) (kindOf st) (arrOf st) (((pendingOf st).setIfInBounds i (sa,na+nb,pw)).eraseIdxIfInBounds (i+1)) (gallopOf st) (failedOf st)=kP;have qd:SB κ a₀ kP:=by subst tG; exact⟨hB.perm,hB.kind,hB.failed⟩
 have n6:pendingOf kP=((pendingOf st).setIfInBounds i (sa,na+nb,pw)).eraseIdxIfInBounds (i+1):=by subst tG; rfl
 have pM:arrOf kP=arrOf st:=by subst tG; rfl
 have rn:∀ n,n < a₀.size→∃ p,(arrOf st)[n]? = some p∧p∈a₀.toList:=fun n hn=>hB.mem hn
 refine ai (show wpS _ _ _ _ (set kP) _ st from dM (f:=fun _=>kP) ?_);refine ai (zJ qN (ai (za4 (arr:=arrOf st) hC qd.kind yr (fun j hj=>rn (sa+j) #[O]) sA #[O] fun k pN mW qb=>?_)));dsimp only;have vh:∀ j,sa≤j→j < sa+k→Vk val (arrOf st) j≤Vk val (arrOf st) sb:=fun j h1 h2=>by
  have:=zcu (mW (j - sa) #[O])
  rwa [show sa+(j - sa)=j by lia,← zK (val:=val) qN] at this
 by_cases pL:na - k=0
 ·rw [if_pos (by simpa using pL)];refine ak (h kP qd n6 (fun _ _=>by rw [pM]) ?_);rw [pM];intro p q h1 h2 h3;by_cases hq:q < sa+na
  ·exact sA p q h1 h2 hq
  ·by_cases hp:p < sa+na
   ·exact bJ (vh p h1 #[O]) (sB sb q #[O] #[O] h3)
   ·exact sB p q #[O] h2 h3
 rw [if_neg (by simpa using pL)];have vi:sa+k+(na - k) - 1=sa+na - 1:=by lia
 rw [vi];obtain⟨x0,qO,yt⟩:=hB.mem (i:=sa+na - 1) #[O];refine ai (zJ qO (ai (za4 (arr:=arrOf st) hC qd.kind yt (fun j hj=>rn (sb+j) #[O]) sB #[O] fun m sh pJ yE=>?_)));dsimp only;have sj:∀ j,sb+m≤j→j < sb+nb→Vk val (arrOf st) (sa+na - 1)≤Vk val (arrOf st) j:=fun j h1 h2=>by
  have:=zcl (yE (j - sb) #[O] #[O])
  rwa [show sb+(j - sb)=j by lia,← zK (val:=val) qO] at this
 have yF:∀ j,sb≤j→j < sb+m→Vk val (arrOf st) j < Vk val (arrOf st) (sa+na - 1):=fun j h1 h2=>by
  have:=zbG (pJ (j - sb) #[O])
  rwa [show sb+(j - sb)=j by lia,← zK (val:=val) qO] at this
 by_cases hm0:m=0
 ·rw [if_pos (by simpa using hm0)];refine ak (h kP qd n6 (fun _ _=>by rw [pM]) ?_);rw [pM];intro p q h1 h2 h3;by_cases hq:q < sa+na
  ·exact sA p q h1 h2 hq
  ·by_cases hp:p < sa+na
   ·exact bJ (sA p (sa+na - 1) h1 #[O] #[O]) (sj q #[O] h3)
   ·exact sB p q #[O] h2 h3
 rw [if_neg (by simpa using hm0)];have zx:(arrOf st).size=a₀.size:=vg;have z1:=zcw (xs:=arrOf st) (i:=sa+k) (j:=sb) #[O];have z2:=zcw (xs:=arrOf st) (i:=sb) (j:=sb+m) #[O];have hf:Vk val ((arrOf st).extract sb (sb+m)) 0≤Vk val ((arrOf st).extract (sa+k) sb) 0:=by
  rw [zW (zcm #[O] #[O]),zW (zcm (xs:=arrOf st) (i:=sa+k) (j:=sb) (k:=0) #[O] #[O])];have:=zdc (qb k (ag _) #[O]);rw [← zK (val:=val) qN] at this;simp only [d9] at this ⊢;lia
 have hl:∀ j,j < ((arrOf st).extract sb (sb+m)).size→Vk val ((arrOf st).extract sb (sb+m)) j≤Vk val ((arrOf st).extract (sa+k) sb) (((arrOf st).extract (sa+k) sb).size - 1):=by
  intro j hj;rw [z2] at hj;rw [z1,zW (zcm #[O] #[O]),zW (zcm (xs:=arrOf st) (i:=sa+k) (j:=sb) #[O] #[O])];have:=yF (sb+j) #[O] #[O];rw [show sa+k+(sb - (sa+k) - 1)=sa+na - 1 by lia];lia
 have fin:∀ (out:Array Keyed) (g:Nat),Good val (((arrOf st).extract (sa+k) sb).toList++((arrOf st).extract sb (sb+m)).toList) out.toList →
   wpS (model prog w) A E s (do
    modify fun s=>setArr s (out.toList.zipIdx.foldl (fun a (p,j)=>a.setIfInBounds (sa+k+j) p) (arrOf s))
    let s' ← get
    pure (failedOf s').isNone) Q (zY kP g):=by
  intro out g hG;refine ai (dM (ai (er ?_)));have hms:out.size=sb+m - (sa+k):=by
   have:=hG.1.length_eq;rw [av] at this;have e1:out.toList.length=out.size:=by simp
   have e2:((arrOf st).extract (sa+k) sb).toList.length=sb - (sa+k):=by rw [bv,z1]
   have e3:((arrOf st).extract sb (sb+m)).toList.length=sb+m - sb:=by rw [bv,z2]
   lia
  have mR:=zj5 (xs:=arrOf st) (sa:=sa+k) (sb:=sb) (e:=sb+m) #[O] #[O] #[O] hG.1;have mQ:∀ n,(wb (sa+k) out.toList.zipIdx (arrOf st))[n]? = if sa+k≤n∧n < sb+m then out[n - (sa+k)]? else (arrOf st)[n]?:=fun n=>by
   have:=zi7 (sa+k) out.toList 0 (arrOf st) n (by rw [bv]; lia);rw [bv,d9,hms,show sa+k+(sb+m - (sa+k))=sb+m by lia,aY] at this;exact this
  have uc:(failedOf (setArr (zY kP g) (wb (sa+k) out.toList.zipIdx (arrOf st)))).isNone=true:=by
   show (failedOf kP).isNone=true;rw [qd.failed];rfl
  have yG:arrOf (zY kP g)=arrOf st:=pM;show wpS _ _ _ _ (pure (failedOf (setArr (zY kP g) (wb (sa+k) out.toList.zipIdx (arrOf (zY kP g))))).isNone) Q (setArr (zY kP g) (wb (sa+k) out.toList.zipIdx (arrOf (zY kP g))));rw [yG,uc];refine ak (h _ ⟨mR.trans hB.perm,qd.kind,qd.failed⟩ n6 (fun n hn=>?_) ?_)
  ·show (wb (sa+k) out.toList.zipIdx (arrOf st))[n]? = _;rw [mQ,if_neg #[O]]
  ·show SIn val (wb (sa+k) out.toList.zipIdx (arrOf st)) sa (sb+nb);have mM:∀ n,sa+k≤n→n < sb+m→∃ q,sa+k≤q∧q < sb+m∧Vk val (wb (sa+k) out.toList.zipIdx (arrOf st)) n=Vk val (arrOf st) q:=fun n h1 h2=>by
    have ho:n - (sa+k) < out.size:=by lia
    have sd:out[n - (sa+k)]? = some out[n - (sa+k)]:=getElem?_pos out _ ho;have kO:out[n - (sa+k)]∈((arrOf st).extract (sa+k) sb).toList++((arrOf st).extract sb (sb+m)).toList:=hG.1.mem_iff.mp #[M];have hv:Vk val (wb (sa+k) out.toList.zipIdx (arrOf st)) n=val out[n - (sa+k)]:=zK (by rw [mQ,if_pos ⟨h1,h2⟩,sd]);rcases aM.mp kO with kO | kO
    ·obtain⟨q,q1,q2,q3⟩:=zde #[O] kO;exact⟨q,q1,#[O],by rw [hv,zK q3]⟩
    ·obtain⟨q,q1,q2,q3⟩:=zde #[O] kO;exact⟨q,#[O],q2,by rw [hv,zK q3]⟩
   have o9:∀ n,¬ (sa+k≤n∧n < sb+m)→Vk val (wb (sa+k) out.toList.zipIdx (arrOf st)) n=Vk val (arrOf st) n:=fun n hn=>zW (by rw [mQ,if_neg hn])
   intro p q h1 h2 h3;by_cases hp:p < sa+k
   ·rw [o9 p #[O]];by_cases hq:q < sa+k
    ·rw [o9 q #[O]];exact sA p q h1 h2 #[O]
    ·have key:∀ q',sa+k≤q'→q' < sb+nb→Vk val (arrOf st) p≤Vk val (arrOf st) q':=fun q' a1 a2=>by
      by_cases lM:q' < sb
      ·exact sA p q' h1 #[O] #[O]
      ·exact bJ (vh p h1 hp) (sB sb q' #[O] #[O] a2)
     by_cases la:q < sb+m
     ·obtain⟨q',q1,q2,q3⟩:=mM q #[O] la;rw [q3];exact key q' q1 #[O]
     ·rw [o9 q #[O]];exact key q #[O] h3
   ·by_cases lQ:p < sb+m
    ·by_cases la:q < sb+m
     ·have tH:p - (sa+k) < out.size:=by lia
      have sd:q - (sa+k) < out.size:=by lia
      rw [zK (p:=out[p - (sa+k)]) (by rw [mQ,if_pos #[O]]; exact getElem?_pos out _ tH),zK (p:=out[q - (sa+k)]) (by rw [mQ,if_pos #[O]]; exact getElem?_pos out _ sd)];by_cases hpq:p=q
      ·subst hpq;exact bM _
      ·have:=ca.mp hG.2 (p - (sa+k)) (q - (sa+k)) (by simpa using tH) (by simpa using sd) #[O];simpa using this
     ·obtain⟨p',p1,p2,p3⟩:=mM p #[O] lQ;rw [p3,o9 q #[O]];by_cases nD:p' < sb
      ·exact bJ (sA p' (sa+na - 1) #[O] #[O] #[O]) (sj q #[O] h3)
      ·exact sB p' q #[O] #[O] h3
    ·rw [o9 p #[O],o9 q #[O]];exact sB p q #[O] h2 h3
 have ma:∀ p∈((arrOf st).extract (sa+k) sb).toList,p∈a₀.toList:=fun p hp=>by
  obtain⟨q,q1,q2,q3⟩:=zde #[O] hp;obtain⟨p',e,m'⟩:=rn q #[O];rw [q3] at e;cases e;exact m'
 have mb:∀ p∈((arrOf st).extract sb (sb+m)).toList,p∈a₀.toList:=fun p hp=>by
  obtain⟨q,q1,q2,q3⟩:=zde #[O] hp;obtain⟨p',e,m'⟩:=rn q #[O];rw [q3] at e;cases e;exact m'
 have ss1:=zgV (val:=val) (xs:=arrOf st) (i:=sa+k) (j:=sb) #[O] (sA.sub #[O] #[O]);have ss2:=zgV (val:=val) (xs:=arrOf st) (i:=sb) (j:=sb+m) #[O] (sB.sub #[O] #[O]);by_cases hle:na - k≤m
 ·rw [if_pos hle];exact ai (zhP (a:=(arrOf st).extract (sa+k) sb) (b:=(arrOf st).extract sb (sb+m)) hC qd.kind ma mb ss1 ss2 #[O] #[O] hf hl fin)
 ·rw [if_neg hle];exact ai (zhQ (a:=(arrOf st).extract (sa+k) sb) (b:=(arrOf st).extract sb (sb+m)) hC qd.kind ma mb ss1 ss2 #[O] #[O] hf hl fin)
end
end Srt
end
section
namespace Srt
open PySem PyProof.Rows
def Runs (val:Keyed→Int) (xs:Array Keyed):List (Nat×Nat×Nat)→Nat→Nat→Prop
 | [],lo,hi=>lo=hi
 | (s,n,_) :: r,lo,hi=>s=lo∧1≤n∧SIn val xs lo (lo+n)∧Runs val xs r (lo+n) hi
section
variable {val:Keyed→Int}
theorem Runs.le {xs:Array Keyed}:∀ {p:List (Nat×Nat×Nat)} {lo hi:Nat},Runs val xs p lo hi→lo+p.length≤hi
 | [],lo,hi,h=>by
  have h:lo=hi:=h;simp only [cZ];lia
 | (s,n,w) :: r,lo,hi,h=>by
  obtain⟨_,h1,_,h2⟩:=h;have:=h2.le;simp only [bT];lia
theorem Runs.append {xs:Array Keyed}:∀ {p q:List (Nat×Nat×Nat)} {lo hi:Nat},Runs val xs (p++q) lo hi↔∃ mid,Runs val xs p lo mid∧Runs val xs q mid hi
 | [],q,lo,hi=>⟨fun h=>⟨lo,rfl,h⟩,fun ⟨mid,h1,h2⟩=>by
   have h1:lo=mid:=h1;subst h1;exact h2⟩
 | (s,n,w) :: p,q,lo,hi=>by
  constructor
  ·rintro⟨h1,h2,h3,h4⟩;obtain⟨mid,h5,h6⟩:=Runs.append.mp h4;exact⟨mid,⟨h1,h2,h3,h5⟩,h6⟩
  ·rintro⟨mid,⟨h1,h2,h3,h5⟩,h6⟩;exact⟨h1,h2,h3,Runs.append.mpr ⟨mid,h5,h6⟩⟩
theorem Runs.keep {xs ys:Array Keyed}:∀ {p:List (Nat×Nat×Nat)} {lo hi:Nat},Runs val xs p lo hi→(∀ k,lo≤k→k < hi→ys[k]? = xs[k]?)→Runs val ys p lo hi
 | [],lo,hi,h,_=>h
 | (s,n,w) :: p,lo,hi,h,e=>by
  obtain⟨h1,h2,h3,h4⟩:=h;have:=h4.le;refine⟨h1,h2,fun i j a b c=>?_,h4.keep fun k a b=>e k #[O] b⟩;rw [zW (e i #[O] #[O]),zW (e j #[O] #[O])];exact h3 i j a b c
theorem zi8 {α:Type} (p q:List α) (x y v:α):((p++x :: y :: q).toArray.setIfInBounds p.length v).eraseIdxIfInBounds (p.length+1)=(p++v :: q).toArray:=by
 simp [Array.eraseIdxIfInBounds];rw [List.eraseIdx_append_of_length_le #[O],show p.length+1 - p.length=1 by lia];rfl
theorem zi9 {α:Type} (q:List α) (z:α) (f:α→α):(q++[z]).toArray.modify ((q++[z]).toArray.size - 1) f=(q++[f z]).toArray:=by
 apply Array.ext';simp;induction q with
 | nil=>rfl
 | cons a q ih =>
  show (a :: (q++[z])).modify (q.length+1) f=a :: (q++[f z]);rw [List.modify_succ_cons,ih]
theorem zgW {xs:Array Keyed} {p:List (Nat×Nat×Nat)} {n:Nat} (hl:p.length≤1) (hn:1≤n) (h:Runs val xs p 0 n):SIn val xs 0 n:=by
 match p,hl,h with
 | [],_,h =>
  have h:0=n:=h;lia
 | [(a,b,c)],_,h =>
  obtain⟨_,_,h3,h4⟩:=h;have h4:0+b=n:=h4;rw [← h4];exact h3
 | _ :: _ :: _,hl,_=>simp at hl
theorem zhT {α:Type} {p:List α} {j:Nat} (h:j+2≤p.length):∃ pre x y post,p=pre++x :: y :: post∧pre.length=j:=by
 refine⟨p.take j,p[j],p[j+1],p.drop (j+2),?_,by rw [aF]; lia⟩;have e1:=(bD j p).symm;rw [b9 (show j < p.length by lia),b9 (show j+1 < p.length by lia)] at e1;exact e1
end
section
variable {prog:Program} {w:World} {A:Around} {E:Value→Shared→Prop} {s:Shared} {a₀:Array Keyed} {κ:SortKind} {val:Keyed→Int}
theorem zfA {st:SortSt} {pre post:List (Nat×Nat×Nat)} {x y:Nat×Nat×Nat} {hi:Nat} {Q:Bool→SortSt→Prop} (hC:Cmp prog w A s κ val a₀) (hB:SB κ a₀ st) (hp:pendingOf st=(pre++x :: y :: post).toArray) (hR:Runs val (arrOf st) (pre++x :: y :: post) 0 hi) (rl:hi≤a₀.size)
  (h:∀ jz v,SB κ a₀ jz→pendingOf jz=(pre++v :: post).toArray→(∀ k,hi≤k→(arrOf jz)[k]? = (arrOf st)[k]?)→Runs val (arrOf jz) (pre++v :: post) 0 hi→Q true jz) :
  wpS (model prog w) A E s (mergeAt' pre.length) Q st:=by
 obtain⟨sa,na,pw⟩:=x;obtain⟨sb,nb,pw2⟩:=y;obtain⟨mid,r1,r2⟩:=Runs.append.mp hR;obtain⟨rfl,q1,q2,rfl,q4,q5,r3⟩:=r2;have hle:=r3.le;refine zhS (i:=pre.length) (sa:=sa) (na:=na) (pw:=pw) (sb:=sa+na) (nb:=nb) (pw2:=pw2) hC hB (by rw [hp]; simp) (by rw [hp]; simp) rfl q1 q4 #[O] q2 q5 fun jz kS nD hk hs=>?_
 refine h jz (sa,na+nb,pw) kS (by rw [nD,hp,zi8]) (fun k qI=>hk k #[O]) ?_;refine Runs.append.mpr ⟨sa,r1.keep fun k _ b=>hk k #[O],rfl,#[O],?_,?_⟩
 ·rw [← Nat.add_assoc];exact hs
 ·rw [← Nat.add_assoc];exact r3.keep fun k a b=>hk k #[O]
theorem zj6 {n:Nat} {c:Prop} [Decidable c] (h:¬ n≤1):(if c then n - 2 - 1 else n - 2)+2≤n:=by
 by_cases hc:c
 ·rw [if_pos hc];lia
 ·rw [if_neg hc];lia
theorem zja {st:SortSt} {p:List (Nat×Nat×Nat)} {j hi:Nat} {Q:Bool→SortSt→Prop} (hj:j+2≤p.length) (hC:Cmp prog w A s κ val a₀) (hB:SB κ a₀ st) (hp:pendingOf st=p.toArray) (hR:Runs val (arrOf st) p 0 hi) (rl:hi≤a₀.size)
  (h:∀ jz p',SB κ a₀ jz→pendingOf jz=p'.toArray→Runs val (arrOf jz) p' 0 hi→p'.length+1=p.length→Q true jz):wpS (model prog w) A E s (mergeAt' j) Q st:=by
 obtain⟨pre,x,y,post,rfl,rfl⟩:=zhT hj;exact zfA hC hB hp hR rl fun jz v a b _ d=>h jz _ a b d (by simp only [av,bT]; lia)
theorem zlq {st:SortSt} {Q:Unit→SortSt→Prop} (hC:Cmp prog w A s κ val a₀) (hB:SB κ a₀ st) (hp:pendingOf st = #[]) (h2:1≤a₀.size)
  (h:∀ jz,SB κ a₀ jz→SIn val (arrOf jz) 0 a₀.size→Q () jz):wpS (model prog w) A E s sortRuns' Q st:=by
 rw [sortRuns'_eq];refine ai (er ?_);dsimp only;rw [hB.size];generalize minRun' a₀.size a₀.size 0=mr;refine ai (cS (cg (I:=fun x c jz=>∃ lo p,c=(none,lo)∧SB κ a₀ jz∧pendingOf jz=p.toArray∧Runs val (arrOf jz) p 0 lo∧lo≤a₀.size∧min x a₀.size≤lo)
  (Q:=fun c jz=>∃ p,c=(none,a₀.size)∧SB κ a₀ jz∧pendingOf jz=p.toArray∧Runs val (arrOf jz) p 0 a₀.size) ?step ?fin ⟨0,[],rfl,hB,hp,rfl,#[O],#[O]⟩) ?post)
 case fin =>
  rintro c jz ⟨lo,p,rfl,kS,nD,hR,lD,hx⟩;have:lo=a₀.size:=by lia
  subst this;exact⟨p,rfl,kS,nD,hR⟩
 case step =>
  rintro x c jz _ hx ⟨lo,p,rfl,kS,nD,hR,lD,yH⟩;dsimp only;by_cases lb:lo≥a₀.size
  ·rw [if_pos lb];have:lo=a₀.size:=by lia
   subst this;exact ak ⟨p,rfl,kS,nD,hR⟩
  rw [if_neg lb];refine ai (zj1 hC #[O] #[O] (SF.refl kS) fun m kP hF1 sh pJ uq=>?_);dsimp only;apply zmB
  ·intro k1 k2;by_cases yI:m < mr
   ·rw [if_pos yI]
    (refine ai (fm (bS ⟨rfl,?_⟩)))
    refine ai (zmc hC #[O] #[O] hF1 uq fun jT sk k8=>?_);rw [if_neg #[D]];have qM:1≤min (a₀.size - lo) mr:=by lia
    have nX:lo+min (a₀.size - lo) mr≤a₀.size:=by lia
    generalize min (a₀.size - lo) mr=n at k8 qM nX ⊢
    revert nX; revert qM; revert k8; revert sk; revert jT; revert n
    exact k1 ()
   ·rw [if_neg yI];have nX:lo+m≤a₀.size:=by lia
    clear pJ yI
    revert nX; revert sh; revert uq; revert hF1; revert kP; revert m
    exact k2 ()
  intro n jT sk k8 qM nX;refine ai (er ?_);have n6:pendingOf jT=p.toArray:=sk.pend.trans nD;have ur:Runs val (arrOf jT) p 0 lo:=hR.keep fun k _ b=>sk.low k b
  rcases gD p with rfl | ⟨q,z,rfl⟩
  ·rw [n6];show wpS _ _ _ _ (do
    modify fun s=>setPending s ((pendingOf s).push (lo,n,0)); pure (b8 (none,lo+n))) _ _
   refine ai (dM (ak ⟨lo+n,[(lo,n,0)],rfl,⟨sk.b.perm,sk.b.kind,sk.b.failed⟩,?_,?_,#[O],#[O]⟩))
   ·show (pendingOf jT).push _=_;rw [n6];rfl
   ·have h0:0=lo:=ur;subst h0;exact⟨rfl,qM,k8,rfl⟩
  obtain⟨s1,n1,w1⟩:=z;rw [n6,eN,show ((q++[(s1,n1,w1)]).toArray).back? = some (s1,n1,w1) by simp];rw [eN] at n6 ur;dsimp only;generalize power' a₀.size (2*s1+n1) (2*s1+n1+n1+n) a₀.size=pw;refine ai (cS (cg (I:=fun _ c jz=>c=(none,())∧∃ q' z,SB κ a₀ jz∧pendingOf jz=(q'++[z]).toArray∧Runs val (arrOf jz) (q'++[z]) 0 lo∧(∀ k,lo≤k→(arrOf jz)[k]? = (arrOf jT)[k]?))
   (Q:=fun c jz=>c=(none,())∧∃ q' z,SB κ a₀ jz∧pendingOf jz=(q'++[z]).toArray∧Runs val (arrOf jz) (q'++[z]) 0 lo∧(∀ k,lo≤k→(arrOf jz)[k]? = (arrOf jT)[k]?)) ?_ (fun _ _ hh=>hh) ⟨rfl,q,(s1,n1,w1),sk.b,n6,ur,fun _ _=>rfl⟩) ?_)
  ·rintro x2 c jT _ vf ⟨rfl,q',z,nI,lQ,qe,mW⟩;refine ai (er ?_);rcases gD q' with rfl | ⟨q2,y,rfl⟩
   ·rw [lQ,if_neg #[M]];exact ak ⟨rfl,[],z,nI,lQ,qe,mW⟩
   rw [eN,bf] at lQ qe;have esz:(pendingOf jT).size - 2=q2.length:=by rw [lQ]; simp
   have eel:(if (pendingOf jT).size > 1 then (pendingOf jT)[(pendingOf jT).size - 2]? else none)=some y:=by
    rw [if_pos (by rw [lQ]; simp),esz,lQ];simp
   rw [eel];obtain⟨y1,y2,y3⟩:=y;dsimp only;by_cases ho:y3≤pw
   ·rw [if_pos ho];exact ak ⟨rfl,q2++[(y1,y2,y3)],z,nI,by rw [lQ,bf],by rw [bf]; exact qe,mW⟩
   ·rw [if_neg ho,esz];refine ai (zfA hC nI lQ qe #[O] fun wB v yJ qP qb yK=>?_);rw [if_neg #[D]];exact ak ⟨rfl,q2,v,yJ,qP,yK,fun k hk=>(qb k hk).trans (mW k hk)⟩
  ·rintro c jT ⟨rfl,q',z,nI,lQ,qe,mW⟩;obtain⟨z1,z2,z3⟩:=z;dsimp only;refine ai (dM (ai (dM (ak ⟨lo+n,q'++[(z1,z2,pw),(lo,n,0)],rfl,⟨nI.perm,nI.kind,nI.failed⟩,?_,?_,#[O],#[O]⟩))))
   ·show ((pendingOf jT).modify ((pendingOf jT).size - 1) fun x=>(x.fst,x.2.fst,pw)).push (lo,n,0)=_;rw [lQ,zi9];simp
   ·show Runs val (arrOf jT) _ _ _;obtain⟨mid,r1,r2⟩:=Runs.append.mp qe;obtain⟨e1,e2,e3,e4⟩:=r2;have e4:mid+z2=lo:=e4;refine Runs.append.mpr ⟨mid,r1,e1,e2,e3,e4.symm,qM,?_,?_⟩
    ·intro i j a1 a2 a3;rw [zW (mW i #[O]),zW (mW j #[O])];exact k8 i j #[O] a2 #[O]
    ·show mid+z2+n=lo+n;lia
 case post =>
  rintro c kP ⟨p,rfl,qd,n6,ur⟩;dsimp only;have lC:=ur.le;refine ai (cS (cg (I:=fun x c jz=>c=(none,())∧∃ p,SB κ a₀ jz∧pendingOf jz=p.toArray∧Runs val (arrOf jz) p 0 a₀.size∧p.length≤max 1 (a₀.size - x))
   (Q:=fun c jz=>c=(none,())∧SB κ a₀ jz∧SIn val (arrOf jz) 0 a₀.size) ?_ ?_ ⟨rfl,p,qd,n6,ur,#[O]⟩) ?_)
  ·rintro x c jT _ hx ⟨rfl,p2,nI,lQ,qe,mV⟩;refine ai (er ?_);have hsz:(pendingOf jT).size=p2.length:=by rw [lQ]; simp
   rw [hsz];by_cases hle:p2.length≤1
   ·rw [if_pos hle];exact ak ⟨rfl,nI,zgW hle h2 qe⟩
   rw [if_neg hle];refine ai (zja (p:=p2) (zj6 hle) hC nI lQ qe (ag _) fun wB p3 yJ qP yK hl3=>?_);rw [if_neg #[D]];exact ak ⟨rfl,p3,yJ,qP,yK,#[O]⟩
  ·rintro c jT ⟨rfl,p2,nI,lQ,qe,mV⟩;exact⟨rfl,nI,zgW #[O] h2 qe⟩
  ·rintro c jT ⟨rfl,nI,hS⟩;exact ak (h jT nI hS)
end
end Srt
end
section
namespace Srt
open PySem PyProof.Rows
def num (B:Int):List Int→Int
 | []=>0
 | n :: r=>n*B ^ r.length+num B r
theorem num_rng {B:Int} (hB:1≤B):∀ {ns:List Int},(∀ n∈ns,0≤n∧n < B)→0≤num B ns∧num B ns < B ^ ns.length
 | [],_=>by simp [num]
 | n :: r,h=>by
  obtain⟨h1,h2⟩:=num_rng hB (ns:=r) fun m hm=>h m (aj _ hm)
  obtain⟨a,b⟩:=h n #[M];have hp:0 < B ^ r.length:=Int.pow_pos #[O];have e:B ^ (n :: r).length=B ^ r.length*B:=by rw [bT,Int.pow_succ]
  show 0≤n*B ^ r.length+num B r∧n*B ^ r.length+num B r < _;rw [e];have h3:0≤n*B ^ r.length:=jg a #[O];have h4:n*B ^ r.length≤(B - 1)*B ^ r.length:=cM #[O] #[O];have h5:(B - 1)*B ^ r.length=B ^ r.length*B - B ^ r.length:=by rw [Int.sub_mul,Int.one_mul,ir]
  lia
def zfB:List Int→List Int→Bool
 | [],[]=>false
 | [],_ :: _=>true
 | _ :: _,[]=>false
 | x :: xs,y :: ys=>if x=y then zfB xs ys else decide (x < y)
theorem zb3 (x y:Int) (xs ys:List Int):zfB (x :: xs) (y :: ys)=if x=y then zfB xs ys else decide (x < y):=rfl
theorem zgX {B:Int} (hB:1≤B):∀ {ms ns:List Int},ms.length=ns.length→(∀ n∈ms,0≤n∧n < B)→(∀ n∈ns,0≤n∧n < B)→zfB ms ns=decide (num B ms < num B ns)
 | [],[],_,_,_=>by simp [zfB,num]
 | [],_ :: _,h,_,_=>by simp at h
 | _ :: _,[],h,_,_=>by simp at h
 | m :: ms,n :: ns,hl,h1,h2=>by
  have qT:ms.length=ns.length:=by simpa using hl
  have ih:=zgX hB qT (fun x hx=>h1 x (aj _ hx)) (fun x hx=>h2 x (aj _ hx));obtain⟨a1,a2⟩:=num_rng hB fun x hx=>h1 x (aj m hx)
  obtain⟨b1,b2⟩:=num_rng hB fun x hx=>h2 x (aj n hx)
  rw [zb3];show _=decide (m*B ^ ms.length+num B ms < n*B ^ ns.length+num B ns);rw [qT] at a2 ⊢;have hp:0 < B ^ ns.length:=Int.pow_pos #[O];by_cases e:m=n
  ·rw [if_pos e,ih,e];rw [bI];simp only [decide_eq_true_eq];lia
  ·rw [if_neg e,bI];simp only [decide_eq_true_eq];have key:∀ x y:Int,x < y→x*B ^ ns.length+B ^ ns.length≤y*B ^ ns.length:=fun x y hxy=>by
    have:=cM (show x+1≤y by lia) (show 0≤B ^ ns.length by lia);rw [Int.add_mul,Int.one_mul] at this;exact this
   constructor
   ·intro h;have:=key m n h;lia
   ·intro h;rcases iF m n with h3 | h3 | h3
    ·exact h3
    ·exact absurd h3 e
    ·have:=key n m h3;lia
section
variable {prog:Program} {w:World} {A:Around} {E:Value→Shared→Prop} {s:Shared}
theorem zgY {Q:Bool→Shared→Prop} {fin:Bool}:∀ {xs ys:List Value} {ms ns:List Int} (i:Nat),IntsAre xs ms→IntsAre ys ns→ms.length=ns.length→Q (if ms=ns then fin else zfB ms ns) s→PySem.W.KatLex prog w A true fin Q (xs.zip ys) i s
 | [],[],[],[],i,_,_,_,h=>PySem.W.kat_nil (by simpa using h)
 | _ :: _,_,[],_,_,hx,_,_,_=>by cases hx
 | [],_,_ :: _,_,_,hx,_,_,_=>by cases hx
 | _,[],_,_ :: _,_,_,hy,_,_=>by cases hy
 | _,_ :: _,_,[],_,_,hy,_,_=>by cases hy
 | x :: xs,y :: ys,m :: ms,n :: ns,i,hx,hy,hl,h=>by
  cases hx with
  | cons _ t hx =>
   cases hy with
   | cons _ u hy =>
    refine PySem.W.kat_cons (wpAny_eqBool_int ?_);by_cases e:m=n
    ·rw [show (m == n)=true by simpa using e];refine PySem.W.kat_yes (zgY (i+1) hx hy (by simpa using hl) ?_);subst e;rw [zb3,if_pos rfl] at h;simpa using h
    ·rw [show (m == n)=false by simpa using e];have jU:¬ (m :: ms=n :: ns):=fun z=>e (gR z).1
     rw [if_neg jU,zb3,if_neg e] at h;refine PySem.W.kat_no ?_;by_cases hi:i=0
     ·subst hi;exact oneLt_int h
     ·have hb:(true && i == 0)=false:=by simp [hi]
      rw [hb];exact PySem.W.kat_one _ _ (wpAny_lt_int h)
end
end Srt
end
section
namespace PySem
open PyProof.Rows
def zcN (h:Heap) (d:Addr) (es:Array DictEntry) (ep:Nat):Prop:=∃ o,h.get? d=some o∧o.ExactDict∧o.data = .dict es ep
theorem zcN.at' {h h':Heap} {d:Addr} {es:Array DictEntry} {ep:Nat} (x:zcN h d es ep) (e:∀ o,h.get? d=some o→h'.get? d=some o):zcN h' d es ep:=let ⟨o,ho,r⟩:=x; ⟨o,e _ ho,r⟩
theorem zcN.typeIs {s:Shared} {d:Addr} {es:Array DictEntry} {ep:Nat} (x:zcN s.heap d es ep):s.TypeIs (.ref d) "dict":=let ⟨o,ho,hc,_⟩:=x; ⟨o,ho,hc.1⟩
section
variable {prog:Program} {w:World} {A:Around} {E:Value→Shared→Prop} {s:Shared} {it d:Addr} {i ep:Nat} {es:Array DictEntry}
theorem zfC {Q:Value→Shared→Prop} (hd:(d == sysModules)=false) (hm:zcN s.heap d es ep) (hQ:Q (.ref s.heap.objs.size) { s with heap:=s.heap.push { cls:=.type "dict_keyiterator",data:=.fields #[.ref d,.int 0 0,.int es.size 0,.int ep 0] } }):wpAny (model prog w) A (pyIter (.ref d)) Q E s:=by
 have hT:=hm.typeIs;obtain⟨o,ho,hc,vj⟩:=id hm;refine fN hT iS (bo iS hT F.entry_dict_iter ?_ (F.args_dict_iter_1 _)); unfold Builtin.«dict.__iter__» Builtin.Dict.dictSlotNone;refine aa (aa (gE hT ?_)); show wpAny _ _ (pure (aO d)) _ _ s;refine ah ?_; show wpAny _ _ (gF d >>= _) _ _ s; unfold gF;rw [if_neg (show ¬ ((d == sysModules)=true) by rw [hd]; decide)];refine aa (ah (aa (eE ho vj (aa (gf ho vj (aa (b7 (ah ⟨_,rfl,"dict_keyiterator",_,⟨_,aq _ rfl,rfl⟩,F.slot_dict_keyiterator_next.lookup,?_⟩))))))));simpa [rawInt] using hQ
theorem zdF {e:DictEntry} {Q:Option Value→Shared→Prop} (hit:s.heap.IsKeyIter it d i es.size ep) (hm:zcN s.heap d es ep) (he:es[i]? = some e)
  (hQ:∀ h',h'.IsKeyIter it d (i+1) es.size ep→aW it s.heap h'→Q (some e.key) { s with heap:=h' }):wpAny (model prog w) A (pyNext (.ref it)) Q E s:=by
 (obtain⟨o,ho,hc,hd⟩:=id hit)
 obtain⟨od,vm,nA,vn⟩:=id hm;have jN:i < es.size:=(cu.mp he).1;have tI:fq "dict_keyiterator" = false:=by decide +kernel
 unfold pyNext; refine aa (cr (bb (name:=bd "__next__") hit.typeIs cT (bo cT hit.typeIs fc ?_ (eZ _))));refine aa (ah (aa (aa (aa (cQ hit.typeIs (ah (aa (wpAny_fieldsOf ho hd ?_))))))));simp only [tI,aX,if_false]; show wpAny _ _ (if (aO d == cU)=true then _ else _) _ _ s;rw [if_neg (show ¬ ((aO d == cU)=true) from fun z=>aQ z)];refine aa (ah (aa (eE vm vn ?_)));rw [if_neg (show ¬ ((((es.size:Nat):Int) != ((es.size:Nat):Int))=true) by simp)];refine aa (ah (aa (gf vm vn ?_)));rw [if_neg #[M]]; refine ah ?_;simp only [show ¬ ((i:Int) < 0) by lia,if_false,bE,he];refine aa (aa (cQ hit.typeIs (ah (aa (gG hit.typeIs ?_)))));show wpAny _ _ (setField (.ref it) 1 (rawInt ((i:Int)+1)) >>= _) _ _ s; refine aa (dj ho hd #[M] ?_);have nJ:(s.heap.update it (fF (·.setIfInBounds 1 (rawInt ((i:Int)+1))))).IsKeyIter it d (i+1) es.size ep:=⟨_,cY _ ho (dF (cC hd _)),(fM ..).trans hc,by rw [cC hd]; simp [rawInt]⟩;refine aa (bP (aa (gG (s:={ s with heap:=s.heap.update it (fF (·.setIfInBounds 1 (rawInt ((i:Int)+1)))) }) nJ.typeIs ?_)));show wpAny _ _ (pure e.key) _ _ _; exact ah (ah ⟨_,rfl,ah (hQ _ nJ (bq ..))⟩)
theorem zgZ {Q:Option Value→Shared→Prop} (hh:A.handled=none) (hit:s.heap.IsKeyIter it d i es.size ep) (hm:zcN s.heap d es ep) (he:es.size≤i) (hQ:∀ h',iG it s.heap h'→Q none { s with heap:=h' }):wpAny (model prog w) A (pyNext (.ref it)) Q E s:=by
 (obtain⟨o,ho,hc,hd⟩:=id hit)
 obtain⟨od,vm,nA,vn⟩:=id hm;have tI:fq "dict_keyiterator" = false:=by decide +kernel
 unfold pyNext; refine aa (cr (bb (name:=bd "__next__") hit.typeIs cT (bo cT hit.typeIs fc ?_ (eZ _))));refine aa (ah (aa (aa (aa (cQ hit.typeIs (ah (aa (wpAny_fieldsOf ho hd ?_))))))));simp only [tI,aX,if_false]; show wpAny _ _ (if (aO d == cU)=true then _ else _) _ _ s;rw [if_neg (show ¬ ((aO d == cU)=true) from fun z=>aQ z)];refine aa (ah (aa (eE vm vn ?_)));rw [if_neg (show ¬ ((((es.size:Nat):Int) != ((es.size:Nat):Int))=true) by simp)];refine aa (ah (aa (gf vm vn ?_)));rw [if_neg #[M]]; refine ah ?_;simp only [show ¬ ((i:Int) < 0) by lia,if_false,bE,Array.getElem?_eq_none he];refine aa (aa (cQ hit.typeIs (ah ?_)));show wpAny _ _ (setField (.ref it) 0 .none >>= _) _ _ s; refine aa (dj ho hd #[M] ?_);show wpAny _ _ (newExc (.type "StopIteration") [] >>= _) _ _ _; simp only [newExc,newTuple];refine aa (aa (b7 (aa (m:=firstArgMember _ _) (df (a:=cU) (by first | rfl | (simp only [firstArgMember]; rfl)) (b7 ?_ (by size_fits)))) (by size_fits)));simp only [raiseNew]; refine aa (gO ?_); rw [show A.in1.handled=none from hh];refine aa (ah (iH ?_)); refine aa (dL (T:="StopIteration") (b:=true) ⟨_,aq _ rfl,rfl⟩ fh ?_)
 (exact ah (hQ _ (((bq ..).extBut.push _).push _)))
theorem zhU (hh:A.handled=none) (I d:Addr) (jU:d≠I) (es:Array DictEntry) (ep:Nat) :
  Walks prog w A I [I,d] [I] es.size (fun i v=>∃ e,es[i]? = some e∧v=e.key) (fun i h=>h.IsKeyIter I d i es.size ep∧zcN h d es ep) where
 sub:=(fun b hb=>by simp at hb; simp [hb])
 frame:=(fun _ _ _ st hk=>⟨st.1.at fun o e=>hk I #[M] o e,st.2.at' fun o e=>hk d #[M] o e⟩)
 item:=fun i s Q E hi st hQ=>zdF st.1 st.2 (getElem?_pos es i hi) fun h' nJ kA=>hQ _ h' s.toks ⟨es[i],getElem?_pos es i hi,rfl⟩ ⟨nJ,st.2.at' fun o e=>kA.extBut d o jU e⟩ fun b o hb e=>kA.extBut b o (fun h=>hb (by simp [h])) e
 done:=fun s Q E st hQ=>zgZ hh st.1 st.2 (ag _) fun h' qL=>hQ h' s.toks fun b o hb e=>qL b o (fun h=>hb (by simp [h])) e
 self:=(fun _ _ _ _ st hQ=>wpAny_pyIter_keyiter st.1 hQ)
theorem zj7 (lo:(d == sysModules)=false):PySem.W.KdlSrc prog w "dict" d d es.size (fun i v=>∃ e,es[i]? = some e∧v=e.key) (fun h=>zcN h d es ep) where
 type:=fun _ hm=>hm.typeIs
 there:=fun _ hm=>let ⟨_,ho,_⟩:=hm; ⟨au ho,au ho⟩
 keep:=(fun _ _ hm hk=>hm.at' fun o e=>hk d (.inl rfl) o e)
 notList:=by decide
 notTuple:=by decide
 hint:=fun _ _ _ _ hm hq=>PySem.W.kdl_hint_dict hm.typeIs hq
 iter:=fun _ _ hh hm=>⟨_,_,(fun _ _ hq=>zfC lo hm hq),zhU hh _ d (by obtain⟨_,ho,_⟩:=id hm; exact aT (au ho)) es ep,⟨⟨_,aq _ rfl,rfl,rfl⟩,hm.at' fun o e=>ae _ e⟩⟩
end
end PySem
end
section
namespace Srt
open PySem PyProof.Rows
section
variable {prog:Program} {w:World} {A:Around} {E:Value→Shared→Prop} {s:Shared} {κ:SortKind} {val:Keyed→Int}
theorem zcO {vs:List Value} {p:Keyed} (h:p∈(pairsOf vs).toList):p.1∈vs∧p.2=p.1:=by
 rw [gH] at h;obtain⟨i,hi,e⟩:=dn h;rw [List.getElem_zip] at e;rw [← e];exact⟨dN _,rfl⟩
theorem zlr {vs:List Value} {xs:Array Keyed} (hp:xs.Perm (pairsOf vs)) (hs:SIn val xs 0 (pairsOf vs).size):(xs.map (·.2)).toList.Perm vs∧(xs.map (·.2)).toList.Pairwise fun x y=>val (x,x)≤val (y,y):=by
 (have hl:xs.toList.Perm (vs.zip vs):=by rw [← gH]; exact dU.mp hp)
 have hm:∀ p∈xs.toList,p=(p.2,p.2):=fun p nD=>by
  have:=zcO (by rw [gH]; exact hl.mem_iff.mp nD);exact iT this.2.symm rfl
 constructor
 ·rw [iU];refine (hl.map (·.2)).trans ?_;rw [show (vs.zip vs).map (·.2)=vs from List.map_snd_zip (ag _)]
 ·rw [iU,cn,ca];intro i j hi hj mP
  (have lL:i < xs.size:=by simpa using hi)
  (have lE:j < xs.size:=by simpa using hj)
  have h1:=hs i j (a8 _) #[O] (by rw [← hp.size_eq]; exact lE);rw [zK (getElem?_pos xs i lL),zK (getElem?_pos xs j lE)] at h1;have e1:=hm xs.toList[i] (dN _);have e2:=hm xs.toList[j] (dN _);rw [← e1,← e2];simpa using h1
theorem zhV {a:Addr} {vs:List Value} {n:Nat} {P:PySem.Fin→Shared→Prop} (ho:s.heap.get? a=some (seqObj "list" vs.toArray n)) (jE:vs.length≤sizeLine)
  (nC:∀ h',(∀ b o,b≠a→s.heap.get? b=some o→h'.get? b=some o)→2≤vs.length→∀ (Q:SortKind→Shared→Prop) (E:Value→Shared→Prop),Q κ { s with heap:=h' }→wpAny (model prog w) A (keyKind' vs.toArray) Q E { s with heap:=h' })
  (tJ:∀ h',(∀ b o,b≠a→s.heap.get? b=some o→h'.get? b=some o)→Cmp prog w A { s with heap:=h' } κ val (pairsOf vs))
  (h:∀ out:Array Value,out.toList.Perm vs→(out.toList.Pairwise fun x y=>val (x,x)≤val (y,y))→P (.done (.ret .none)) { s with heap:=sortedHeap s.heap a vs out }):wpAny (model prog w) A (Builtin.«list.sort» ⟨[.ref a],[]⟩) P E s:=by
 rw [list_sort_plain]
 (have ha:a < s.heap.objs.size:=au ho)
 have hz:vs.toArray.size=vs.length:=ao;refine aa (listItems_at ho rfl (aa (gT ho rfl ?_ (hsz:=by rw [hz]; exact jE))))
 (obtain⟨e1,tH⟩:∃ e1,(s.heap.update a (cj fun _=>#[])).get? a=some (seqObj "list" #[] e1):=⟨_,gg ho (fun _=>#[])⟩)
 refine aa (iJ tH rfl (aa (fk (aa (gU (bP ?_))) (hsz:=jE))));have wU:(((s.heap.update a (cj fun _=>#[])).push (seqObj "tuple" vs.toArray 0)).push (seqObj "list" #[] 0)).get? a=some (seqObj "list" #[] e1):=ae _ (ae _ tH);have hk6:∀ b o,b≠a→s.heap.get? b=some o→(((s.heap.update a (cj fun _=>#[])).push (seqObj "tuple" vs.toArray 0)).push (seqObj "list" #[] 0)).get? b=some o:=fun b o hb e=>ae _ (ae _ ((hU _ _ _ _ hb).trans e))
 (show wpAny (model prog w) A _ P E { s with heap:=((s.heap.update a (cj fun _=>#[])).push (seqObj "tuple" vs.toArray 0)).push (seqObj "list" #[] 0) })
 dsimp only;have hcm:=tJ _ hk6;have fin:∀ jz:SortSt,SB κ (pairsOf vs) jz∨(arrOf jz=pairsOf vs∧failedOf jz=none)→SIn val (arrOf jz) 0 (pairsOf vs).size →
   P (.done (.ret .none)) { s with heap:=sortedHeap s.heap a vs ((arrOf jz).map (·.2)) }:=fun jz hB hs=>by
  have hp:(arrOf jz).Perm (pairsOf vs):=by
   rcases hB with hB | hB
   ·exact hB.perm
   ·rw [hB.1]
  obtain⟨b1,b2⟩:=zlr hp hs;exact h _ b1 b2
 (by_cases h2:vs.toArray.size < 2)
 ·rw [if_pos h2,if_pos h2];refine aa (ah ?_); rw [StateT.run_pure]; refine aa (ah ?_);dsimp only;refine aa (iJ wU rfl (aa (gT wU rfl ?_ (hsz2:=by rw [jh]; show (pairsOf vs).size≤_; rw [f7]; lia))))
  (simp only [bne_self_eq_false,aX,if_false])
  refine ah (fin (jc general' (vs.toArray.zip vs.toArray) #[] 7 none) (.inr ⟨rfl,rfl⟩) fun i j _ mP hj=>?_);have e:i=j:=by rw [f7] at hj; lia
  rw [e];exact bM _
 ·rw [if_neg h2,if_neg h2];refine aa (nC _ hk6 #[O] _ _ ?_);refine aa (bH (zlq (a₀:=pairsOf vs) (κ:=κ) (val:=val) (st:=jc κ (vs.toArray.zip vs.toArray) #[] 7 none) (Q:=fun _ jz=>SB κ (pairsOf vs) jz∧SIn val (arrOf jz) 0 (pairsOf vs).size)
   hcm ⟨Array.Perm.refl _,rfl,rfl⟩ rfl (by rw [f7]; lia) fun jz a1 a2=>⟨a1,a2⟩) ?_ fun _ _ e=>e)
  rintro⟨⟨⟩,jz⟩ s' ⟨rfl,hB,hs⟩;dsimp only;refine aa (iJ wU rfl (aa (gT wU rfl ?_ (hsz2:=aZ (Nat.le_of_eq ((jh ..).trans (hB.perm.size_eq.trans (f7 _)))) #[O]))));rw [hB.failed]
  (simp only [bne_self_eq_false,aX,if_false])
  exact ah (fin jz (.inl hB) hs)
theorem zex {v:Value} {vs:List Value} {Q:Value→Shared→Prop} (jE:vs.length≤sizeLine)
  (yL:∀ R:List Value→Shared→Prop,(∀ (h':Heap) (tk:Nat),(∀ b o,s.heap.get? b=some o→h'.get? b=some o)→R vs { s with heap:=h',toks:=tk })→wpAny (model prog w) A.in1 (collect v) R E s)
  (nC:∀ s',(∀ b o,s.heap.get? b=some o→s'.heap.get? b=some o)→2≤vs.length→∀ (A':Around) (Q:SortKind→Shared→Prop) (E:Value→Shared→Prop),Q κ s'→wpAny (model prog w) A' (keyKind' vs.toArray) Q E s')
  (tJ:∀ s' A',(∀ b o,s.heap.get? b=some o→s'.heap.get? b=some o)→Cmp prog w A' s' κ val (pairsOf vs))
  (h:∀ (h':Heap) (tk:Nat) (out:Array Value) (e:Nat) (D:Addr),(∀ b o,s.heap.get? b=some o→h'.get? b=some o)→(∀ b o,s.heap.get? b=some o→b < D)→h'.get? D=some (seqObj "list" out e)→out.toList.Perm vs→(out.toList.Pairwise fun x y=>val (x,x)≤val (y,y))→Q (.ref D) { s with heap:=h',toks:=tk }) :
  wpAny (model prog w) A (call (.builtin "sorted") [v]) Q E s:=by
 refine Calls.call_function_entry kind_sorted plain_sorted entry_sorted (args_sorted1 _) ?_; unfold Builtin.«sorted»;refine aa (m:=checkCount "sorted" 1 1 _) (ah (aa (bH (yL (fun us s'=>us=vs∧∃ (h':Heap) (tk:Nat),s' = { s with heap:=h',toks:=tk }∧∀ b o,s.heap.get? b=some o→h'.get? b=some o) fun h' tk k=>⟨rfl,h',tk,rfl,k⟩) ?_ fun _ _ e=>e)));rintro us s' ⟨rfl,h1,tk,rfl,kk⟩;refine aa (gU ?_ (hsz:=jE));have uJ:(h1.push (seqObj "list" us.toArray 0)).get? h1.objs.size=some (seqObj "list" us.toArray 0):=aq _ rfl;have kn:∀ b o,s.heap.get? b=some o→b≠h1.objs.size:=fun b o e=>aT (au (kk b o e))
 refine aa (bP (bo slot_list_sort ⟨_,uJ,rfl⟩ entry_list_sort (zhV (κ:=κ) (val:=val) uJ jE (fun h' hk h2 Q E hq=>nC _ (fun b o e=>hk b o (kn b o e) (ae _ (kk b o e))) h2 _ Q E hq) (fun h' hk=>tJ _ _ fun b o e=>hk b o (kn b o e) (ae _ (kk b o e))) fun out a1 a2=>⟨_,rfl,?_⟩) (args_list_sort _)));obtain⟨e,he⟩:=sortedHeap_at (out:=out) uJ;refine ah ⟨_,rfl,h _ tk out e h1.objs.size (fun b o x=>?_) (fun b o x=>au (kk _ _ x)) he a1 a2⟩;rw [sortedHeap_old (kn b o x) (by rw [bw]; exact da (au (kk _ _ x)))];exact ae _ (kk _ _ x)
end
end Srt
end
section
namespace L2
open PySem PySem.Spec PyProof.Rows PySem.Builtin.Str
theorem Inv.above {X:Cx} {jv:List (Addr×Obj)} {σ:St} {H:Hp} {s:Shared} {h':Heap} {tk:Nat} {D:Addr} {o:HO} (I:Inv X jv σ H s) (k:∀ b o,s.heap.get? b=some o→h'.get? b=some o) (hD:∀ b o,s.heap.get? b=some o→b < D)
  (new:zai X.prog X.w (jA H D o) h' D o):H D=none∧Inv X jv σ (jA H D o) { s with heap:=h',toks:=tk }:=by
 have hn:H D=none:=by
  cases e:H D with
  | none=>rfl
  | some u =>
   obtain⟨ob,z⟩:=zll (I.hok D u e);exact absurd (hD D ob z) (bV _)
 have hL:X.env.locals < D:=by
  obtain⟨m,⟨o,es,ep,ho,_⟩,_⟩:=I.loc;exact hD _ _ ho
 have I1:Inv X jv σ H { s with heap:=h',toks:=tk }:=I.kept k;refine⟨hn,I1.track hn (eP (iu I.ok.above hL)) (aT hL) (fun x c e z=>?_) (fun p hp z=>?_) new⟩
 ·obtain⟨v,oc,q,_⟩:=I.cell x c e;exact absurd (hD c oc q) (by rw [z]; exact bV _)
 ·exact absurd (hD p.1 _ (I.pin p hp).1) (by rw [z]; exact bV _)
end L2
end
section
namespace L2
open PySem PySem.Spec PyProof.Rows Srt
def zjb (xs:List V):List Int:=xs.filterMap fun x=>match x with
 | .int n=>some n
 | _=>none
theorem zhW (ns:List Int):zjb (ns.map V.int)=ns:=by
 unfold zjb;rw [List.filterMap_map];induction ns with
 | nil=>rfl
 | cons n ns ih =>
  rw [dW];simp only [Function.comp];rw [ih]
def zci (H:Hp) (v:Value):List Int:=match v with
 | .ref a=>(match H a with
  | some (.tup xs)=>zjb xs
  | _=>[])
 | _=>[]
theorem zdG {H:Hp} {a:Addr} {ns:List Int} (h:H a=some (.tup (ns.map V.int))):zci H (.ref a)=ns:=by
 unfold zci;simp only [h];exact zhW ns
def zfD (H:Hp) (k:Nat) (B:Int) (ps:List (Addr×List Int)):Prop:=∀ q∈ps,H q.1=some (.tup (q.2.map V.int))∧q.2.length=k∧∀ n∈q.2,0≤n∧n < B
theorem zey:∀ {ps:List (Addr×List Int)} {us:List Value},zG (ps.map fun q=>V.ref q.1) us→us=ps.map fun q=>aO q.1
 | [],_,r=>by cases r; rfl
 | q :: ps,_,r=>by
  cases r with
  | cons r1 r2 =>
   cases r1;rw [zey r2];rfl
theorem zbH:∀ (ps:List (Addr×List Int)),zG (ps.map fun q=>V.ref q.1) (ps.map fun q=>aO q.1)
 | []=>.nil
 | q :: ps=>.cons rfl (zbH ps)
section
variable {X:Cx} {jv:List (Addr×Obj)} {σ:St} {H:Hp} {s:Shared} {k:Nat} {B:Int} {ps:List (Addr×List Int)}
theorem zeU (I:Inv X jv σ H s) {q:Addr×List Int} (h:H q.1=some (.tup (q.2.map V.int))):∃ o jx n,s.heap.get? q.1=some o∧o.cls = .type "tuple"∧o.data = .seq jx n∧IntsAre jx.toList q.2:=by
 obtain⟨jx,r,⟨o,ho,hc,n,hd⟩,hz⟩:=I.tuple (jI.of h);exact⟨o,jx.toArray,n,ho,hc,hd,by simpa using intsAre_of r⟩
theorem zjc (I:Inv X jv σ H s) (hT:zfD H k B ps) (hk:1≤k) {s':Shared} (kk:∀ b o,s.heap.get? b=some o→s'.heap.get? b=some o):∃ fs:List Value,PySem.W.KatTups s'.heap (ps.map fun q=>aO q.1) fs∧fs.length=ps.length∧∀ v∈fs,∃ n t,v=h9 n t:=by
 induction ps with
 | nil=>exact⟨[],trivial,rfl,fun v hv=>by cases hv⟩
 | cons q ps ih =>
  obtain⟨fs,h1,h2,h3⟩:=ih fun q' lM=>hT q' (aj _ lM)
  obtain⟨hq,hl,_⟩:=hT q #[M];obtain⟨o,jx,n,ho,hc,hd,hi⟩:=zeU I hq;have jE:=hi.length;obtain⟨m,ms,e⟩:∃ m ms,q.2=m :: ms:=by
   cases e:q.2 with
   | nil=>rw [e] at hl; simp at hl; lia
   | cons m ms=>exact⟨m,ms,rfl⟩
  rw [e] at hi;cases e2:jx.toList with
  | nil=>rw [e2] at hi; cases hi
  | cons f fr =>
   rw [e2] at hi;cases hi with
   | cons _ t hi =>
    refine⟨.int m t :: fs,ju (kk _ _ ho) hc hd ?_ h1,by simp [h2],fun v hv=>?_⟩
    ·rw [← aY,e2];rfl
    ·rcases (aA.mp hv) with rfl | hv
     ·exact⟨m,t,rfl⟩
     ·exact h3 v hv
theorem zez:∀ ms:List Int,zfB ms ms=false
 | []=>rfl
 | m :: ms=>by rw [zb3,if_pos rfl,zez ms]
theorem zjd (I:Inv X jv σ H s) (hT:zfD H k B ps) (hB:1≤B) {s':Shared} {A':Around} (kk:∀ b o,s.heap.get? b=some o→s'.heap.get? b=some o) :
  Cmp X.prog X.w A' s' (tuples' true) (fun p=>num B (zci H p.1)) (pairsOf (ps.map fun q=>aO q.1)):=by
 intro x y hx hy Q E hQ;obtain⟨qx,mx,ex⟩:=aI.mp (zcO hx).1;obtain⟨qy,my,ey⟩:=aI.mp (zcO hy).1;obtain⟨wQ,vf,hx3⟩:=hT qx mx;obtain⟨hy1,uu,hy3⟩:=hT qy my;obtain⟨ox,ix,nx,gx,cx,dx,ax⟩:=zeU I wQ;obtain⟨oy,iy,ny,gy,cy,dy,ay⟩:=zeU I hy1;have ev:decide ((fun p:Keyed=>num B (zci H p.1)) x < (fun p:Keyed=>num B (zci H p.1)) y)=zfB qx.2 qy.2:=by
  rw [zgX hB (vf.trans uu.symm) hx3 hy3,← zdG wQ,← zdG hy1];simp only [ex,ey]
 rw [ev] at hQ;rw [← ex,← ey];refine PySem.W.kat_lt (kk _ _ gx) dx (kk _ _ gy) dy (zgY 0 ax ay (vf.trans uu.symm) ?_);have hsz:decide (ix.size < iy.size)=false:=by
  have e1:=ax.length;have e2:=ay.length;rw [bv] at e1 e2;exact decide_eq_false #[O]
 rw [hsz];by_cases e:qx.2=qy.2
 ·rw [if_pos e];rw [e,zez] at hQ;exact hQ
 ·rw [if_neg e];exact hQ
theorem zfE (hT:zfD H k B ps) {out:Array Value} (hp:out.toList.Perm (ps.map fun q=>aO q.1)) (hs:out.toList.Pairwise fun x y=>num B (zci H x)≤num B (zci H y)) :
  ∃ kE:List (Addr×List Int),kE.Perm ps∧(kE.Pairwise fun a b=>num B a.2≤num B b.2)∧out.toList=kE.map fun q=>aO q.1:=by
 let g:Value→Addr×List Int:=fun v=>match v with
  | .ref a=>(a,zci H (.ref a))
  | _=>(0,[])
 have hg:∀ q∈ps,g (.ref q.1)=q:=fun q hq=>iT rfl (zdG (hT q hq).1)
 have hv:∀ v∈out.toList,∃ q∈ps,v = .ref q.1:=fun v hv=>by
  obtain⟨q,hq,e⟩:=aI.mp (hp.mem_iff.mp hv);exact⟨q,hq,e.symm⟩
 refine⟨out.toList.map g,?_,?_,?_⟩
 ·refine (hp.map g).trans ?_;rw [bn];have:ps.map (g ∘ fun q=>aO q.1)=ps:=by
   conv=>rhs; rw [← gA ps]
   exact bO fun q hq=>hg q hq
  rw [this]
 ·rw [cn];refine ed (fun {x y} hx hy h=>?_) hs;obtain⟨q,hq,rfl⟩:=hv x hx;obtain⟨q',lM,rfl⟩:=hv y hy;exact h
 ·rw [bn]
  conv=>lhs; rw [← gA out.toList]
  refine bO fun v hv'=>?_
  obtain⟨q,hq,rfl⟩:=hv v hv';rfl
end
theorem zeA {M:Model} {h:Heap} {n:Int} {t:Tok}:PySem.W.Looks M h (typeOf (.int n t)) (.type "int"):=PySem.W.Looks.of_pure rfl
theorem zj8 {X:Cx} {jv:List (Addr×Obj)} {σ:St} {H:Hp} {s:Shared} {d:Addr} {jw:List (List Key×V)} {kh:List (List Int)} (I:Inv X jv σ H s) (hd:H d=some (.dT jw)) (hk:jw.map (·.1)=kh.map (·.map bp)) :
  (d == sysModules)=false∧jw.length≤sizeLine∧∃ (ps:List (Addr×List Int)) (es:Array DictEntry) (ep:Nat),zcN s.heap d es ep∧es.toList.map (·.key)=(ps.map fun q=>aO q.1)∧ps.map (·.2)=kh∧∀ q∈ps,H q.1=some (.tup (q.2.map V.int)):=by
 obtain⟨hz,hs,xs,hp,o,es,ep,ho,hx,he,sg,oJ⟩:=I.hok d _ hd;refine⟨hs,hz,?_⟩;have key:∀ {jw:List (List Key×V)} {xs:List (List Key×Addr×Value)} {kh:List (List Int)},Paired (fun (p:List Key×V) (q:List Key×Addr×Value)=>p.1=q.1∧H q.2.1=some (.tup (p.1.map kV))∧RelV p.2 q.2.2) jw xs→jw.map (·.1)=kh.map (·.map bp) →
   ∃ ps:List (Addr×List Int),xs.map (fun x=>aO x.2.1)=(ps.map fun q=>aO q.1)∧ps.map (·.2)=kh∧∀ q∈ps,H q.1=some (.tup (q.2.map V.int)):=by
  intro jw xs kh hp;induction hp generalizing kh with
  | nil =>
   intro e;cases kh with
   | nil=>exact⟨[],rfl,rfl,fun q hq=>by cases hq⟩
   | cons m kh=>simp at e
  | @cons x y l1 l2 h1 h2 ih =>
   intro e;cases kh with
   | nil=>simp at e
   | cons m kh =>
    rw [aS,aS] at e;obtain⟨e1,e2⟩:=gR e;obtain⟨ps,a1,a2,a3⟩:=ih e2;obtain⟨_,h12,_⟩:=h1;refine⟨(y.2.1,m) :: ps,by rw [aS,aS,a1],by rw [aS,a2],fun q hq=>?_⟩;rcases (aA.mp hq) with rfl | hq
    ·rw [h12,e1,bn];rfl
    ·exact a3 q hq
 obtain⟨ps,a1,a2,a3⟩:=key hp hk;refine⟨ps,es,ep,⟨o,ho,hx,he⟩,?_,a2,a3⟩;rw [sg,bn,← a1];rfl
theorem zeV {X:Cx} (hc:X.calm=true):zbn X (.builtin "sorted") (fun xs H Q=>∃ (d:Addr) (k:Nat) (B:Int) (jw:List (List Key×V)) (kh:List (List Int)),xs = [.ref d]∧H d=some (.dT jw)∧jw.map (·.1)=kh.map (·.map bp)∧(∀ ms∈kh,ms.length=k∧∀ n∈ms,0≤n∧n < B)∧1≤k∧1≤B ∧
  ∀ (l:Addr) (kE:List (Addr×List Int)),H l=none→(kE.map (·.2)).Perm kh→(kE.Pairwise fun a b=>num B a.2≤num B b.2)→(∀ q∈kE,H q.1=some (.tup (q.2.map V.int)))→Q (.ref l) (jA H l (.lst (kE.map fun q=>V.ref q.1)))):=by
 intro jv s σ H xs us Q I r h;obtain⟨d,k,B,jw,kh,rfl,hd,rq,pb,hk,hB,q⟩:=h;obtain⟨u,rfl,rx⟩:=vals1 r;cases rx;obtain⟨hs,hz,ps,es,ep,yM,hek,jS,hH⟩:=zj8 I hd rq;have hT:zfD H k B ps:=fun q' lM=>⟨hH q' lM,pb q'.2 (by rw [← jS]; exact bi lM)⟩
 have hlp:ps.length=jw.length:=by
  have e1:=congrArg cF jS;have e2:=congrArg cF rq;rw [ab] at e1;rw [ab,ab] at e2;lia
 have sg:es.size=ps.length:=by
  have:=congrArg cF hek;rw [ab,ab,bv] at this;exact this
 refine zex (vs:=ps.map fun q=>aO q.1) (κ:=tuples' true) (val:=fun p=>num B (zci H p.1)) (by rw [ab]; lia) (fun R hR=>?_) (fun s' kk h2 A' Q' E' lM=>?_) (fun s' A' kk=>zjd I hT hB kk) fun h' tk out e D kk hD tK hp hs=>?_
 ·refine PySem.W.kdu_collect (zj7 (es:=es) (ep:=ep) hs) (by simp [I.ok.hd hc]) yM #[O] fun h' tk acc kk pV=>?_
  have:acc.toList=ps.map fun q=>aO q.1:=by
   rw [← hek];refine fO fun j=>?_
   by_cases hj:j < es.size
   ·have hja:j < acc.size:=by rw [pV.1]; exact hj
    obtain⟨e',h1,h2⟩:=pV.2 j acc[j] (getElem?_pos acc j hja);rw [aY,getElem?_pos acc j hja,am,aY,h1,h2];rfl
   ·rw [dI (by rw [bv,pV.1]; lia),dI (by rw [ab,bv]; lia)]
  rw [this];exact hR h' tk kk
 ·obtain⟨fs,k1,k2,k3⟩:=zjc I hT hk kk;exact iV (T:=.type "int") k1 (by rw [ab] at h2; lia) (fun v hv=>by obtain⟨n,t,rfl⟩:=k3 v hv; exact zeA) rfl lM
 ·obtain⟨kE,p1,p2,p3⟩:=zfE hT hp hs;have hl:=p1.length_eq;obtain⟨hn,I2⟩:=I.above (tk:=tk) (D:=D) (o:=.lst (kE.map fun q=>V.ref q.1)) kk hD ⟨by rw [ab]; lia,kE.map fun q=>aO q.1,e,zbH kE,by rw [← p3]; exact tK⟩;exact⟨.ref D,_,I2,rfl,q D kE hn (by rw [← jS]; exact p1.map _) p2 fun q' lM=>(hT q' (p1.mem_iff.mp lM)).1⟩
theorem zeW {X:Cx}:zbn X (.builtin "sorted") (fun xs H Q=>∃ (p:Addr) (k:Nat) (B:Int) (ps:List (Addr×List Int)),xs = [.ref p]∧jy X.K H p (ps.map fun q=>V.ref q.1)∧zfD H k B ps∧1≤k∧1≤B ∧
  ∀ (l:Addr) (kE:List (Addr×List Int)),H l=none→kE.Perm ps→(kE.Pairwise fun a b=>num B a.2≤num B b.2)→Q (.ref l) (jA H l (.lst (kE.map fun q=>V.ref q.1)))):=by
 intro jv s σ H xs us Q I r h;obtain⟨p,k,B,ps,rfl,hq,hT,hk,hB,q⟩:=h;obtain⟨u,rfl,rx⟩:=vals1 r;cases rx;obtain⟨jx,rv,pl,hz⟩:=I.list hq;have ev:=zey rv;subst ev;rw [ab] at hz;refine zex (vs:=ps.map fun q=>aO q.1) (κ:=tuples' true) (val:=fun p=>num B (zci H p.1)) (by rw [ab]; exact hz) (fun R hR=>?_) (fun s' kk h2 A' Q' E' lM=>?_) (fun s' A' kk=>zjd I hT hB kk) fun h' tk out e D kk hD tK hp hs=>?_
 ·exact collect_list pl.isList (hR _ _ fun b o e=>(hU _ _ _ _ (aT (au e))).trans (ae _ e)) (by rw [ab]; exact hz)
 ·obtain⟨fs,k1,k2,k3⟩:=zjc I hT hk kk;exact iV (T:=.type "int") k1 (by rw [ab] at h2; lia) (fun v hv=>by obtain⟨n,t,rfl⟩:=k3 v hv; exact zeA) rfl lM
 ·obtain⟨kE,p1,p2,p3⟩:=zfE hT hp hs;have hl:=p1.length_eq;obtain⟨hn,I2⟩:=I.above (tk:=tk) (D:=D) (o:=.lst (kE.map fun q=>V.ref q.1)) kk hD ⟨by rw [ab]; lia,kE.map fun q=>aO q.1,e,zbH kE,by rw [← p3]; exact tK⟩;exact⟨.ref D,_,I2,rfl,q D kE hn p1 p2⟩
end L2
end
section
namespace L2
open PySem PySem.Spec PyProof.Rows
section
variable {X:Cx} {elt t1 i1 t2 i2:Expr} {f1 f2:List Expr} {scope:Scope} {pos:Pos} {N':List Str} {ix:List (Option Nat)} {yN uv:List Nat} {g1 g2:TG} {ts1 wV:TT} {te:TE} {wi1 wW:TI}
theorem zls (hc:X.calm=true) (yO:GS uv g2) (yP:∀ s₃ H₃ ex jv,PI (zH X N' scope s₃ H₃ ex jv) t2 i2 wW)
  (u6:∀ s₃ H₃ ex jv,PG (zH X N' scope s₃ H₃ ex jv) t2 g2) (yQ:∀ s₃ H₃ ex jv,zcZ (zH X N' scope s₃ H₃ ex jv) f2 wV) (he:∀ s₃ H₃ ex jv,PE (zH X N' scope s₃ H₃ ex jv) elt te)
  (k8:∀ s₃ H₃ ex jv x,foldedSetIterable i2 (zH X N' scope s₃ H₃ ex jv).env x=pure x) :
  ∀ s₃ H₃ ex jv D,PM (zH X N' scope s₃ H₃ ex jv) D uv ((fun D env=>zgC (.ListComp elt [⟨t1,i1,f1,0⟩,⟨t2,i2,f2,0⟩] scope pos) i2 1 (.ref D) env) D (zH X N' scope s₃ H₃ ex jv).env) (ziz wW g2 wV (ziy te)):=by
 intro s₃ H₃ ex jv D;have h:=zk7 (Y:=zH X N' scope s₃ H₃ ex jv) (D:=D) (js:=uv) (js':=[]) (elt:=elt) (gens:=[⟨t1,i1,f1,0⟩,⟨t2,i2,f2,0⟩]) (scope:=scope) (pos:=pos) (d:=1) (p:=i2.pos) hc rfl yO (fun _ _ z=>by cases z) (yP s₃ H₃ ex jv) (u6 s₃ H₃ ex jv) (yQ s₃ H₃ ex jv) (zf9 rfl (he s₃ H₃ ex jv)) rfl (fun it=>zk9 it D _) (k8 s₃ H₃ ex jv);rw [bQ] at h;exact h
theorem zgk {i:Nat} {x:Str} {pos' lP:Pos} (hN:X.N.Nodup) (qK:X.N[i]? = some x) (hx:Loc X.env.scope x) (SC:CompSc X N' ix scope) (hc:X.calm=true) (gs1:GS yN g1) (yO:GS uv g2) (lO:∀ j∈yN,j∉uv) (qY:∀ j∈yN++uv,ix[j]? = some none) (hi1:PI X t1 i1 wi1)
  (wX:∀ s₃ H₃ ex jv,PG (zH X N' scope s₃ H₃ ex jv) t1 g1) (ht1:∀ s₃ H₃ ex jv,zcZ (zH X N' scope s₃ H₃ ex jv) f1 ts1) (yP:∀ s₃ H₃ ex jv,PI (zH X N' scope s₃ H₃ ex jv) t2 i2 wW)
  (u6:∀ s₃ H₃ ex jv,PG (zH X N' scope s₃ H₃ ex jv) t2 g2) (yQ:∀ s₃ H₃ ex jv,zcZ (zH X N' scope s₃ H₃ ex jv) f2 wV) (he:∀ s₃ H₃ ex jv,PE (zH X N' scope s₃ H₃ ex jv) elt te)
  (uW:swapsWith (.ListComp elt [⟨t1,i1,f1,0⟩,⟨t2,i2,f2,0⟩] scope pos) (some (.Name x pos')) lP.line X.env=pure true:=by rfl)
  (hs:∀ x,foldedSetIterable i1 X.env x=pure x:=by intro _; rfl) (k8:∀ s₃ H₃ ex jv x,foldedSetIterable i2 (zH X N' scope s₃ H₃ ex jv).env x=pure x:=by intros; rfl) (hf:X.fn x=true∨X.env.scope.names.lookup x=some .local:=by first | exact .inl rfl | exact .inr rfl | assumption) :
  PS X (.Assign [.Name x pos'] (.ListComp elt [⟨t1,i1,f1,0⟩,⟨t2,i2,f2,0⟩] scope pos) lP) (zf2 (zf8 ix wi1 g1 ts1 (ziz wW g2 wV (ziy te))) (zaM i)) :=
 zcS hN qK hx SC hc gs1 lO qY hi1 wX ht1 (zls hc yO yP u6 yQ he k8) (fun it D env=>zk8 it D env) uW hs hf
end
theorem zkK {J:It} {n:Nat} {g:TG} {ts:TT} {tm:TM} {σ0:St} {Q:List V→Hp→Prop} {ys:List V} {H:Hp} (Pv:Nat→List V→Hp→Prop) (h0:Pv 0 ys H) (qW:∀ i ys H,i < n→Pv i ys H→J.go i H) (ml:∀ ys H,Pv n ys H→J.stop n H)
  (hs:∀ i x ys H H',i < n→Pv i ys H→J.yld i H x H'→g x σ0 H' fun σ2 H2=>ts σ2 H2 fun b H3=>if b=true then tm ys σ2 H3 (Pv (i+1)) else Pv (i+1) ys H3)
  (hd:∀ ys H,Pv n ys H→Q ys H):cIn g ts tm σ0 J Q ys H:=by
 refine⟨fun i m ys H=>m=n - i∧i≤n∧Pv i ys H,⟨n,#[M],a8 _,h0⟩,?_⟩;rintro i m ys H ⟨rfl,hi,p⟩;by_cases jN:i < n
 ·exact .inr ⟨qW i ys H jN p,Pv (i+1),fun nE H' p'=>⟨n - (i+1),#[O],rfl,jN,p'⟩,fun x H' y=>hs i x ys H H' jN p y⟩
 ·have e:i=n:=by lia
  subst e;exact .inl ⟨ml ys H p,hd ys H p⟩
def zlu (sc:Scope) (x:Str):Bool:=match sc.names.lookup x with
 | some .local=>true
 | some .cell=>true
 | some .free=>true
 | _=>false
theorem zj9 {sc:Scope} {x:Str} (h:zlu sc x=true):Vis sc x:=by
 unfold zlu at h;unfold Vis;cases e:sc.names.lookup x with
 | none=>rw [e] at h; cases h
 | some k=>cases k <;> simp_all
def pvB (N:List Str) (sc:Scope) (i:Nat) (x:Str):Bool:=decide (N[i]? = some x) && zlu sc x && !(x == ("__debug__" : Str)) && !(x == ("__classdict__" : Str))
theorem pvx {X:Cx} (i:Nat) {x:Str} {pos:Pos} (h:pvB X.N X.env.scope i x=true):PE X (.Name x pos) (zlL i):=by
 unfold pvB at h;simp only [cw,Bool.not_eq_true',decide_eq_true_eq] at h;exact zkR h.1.1.1 (zj9 h.1.1.2) h.1.2 h.2
end L2
end
section
namespace My
open PySem L2 PyProof.Rows
def nxt {α:Type} (xs:List α) (c:Nat×List α):List (Nat×List α):=(br (xs.length - c.1)).map fun j=>(c.1+j+1,c.2++xs[c.1+j]?.toList)
def chs {α:Type} (xs:List α):Nat→List (Nat×List α)
 | 0=>[(0,[])]
 | m+1=>(chs xs m).flatMap (nxt xs)
theorem zeX {α:Type} (xs:List α) (c:Nat×List α):(nxt xs c).length=xs.length - c.1:=by unfold nxt; rw [ab,iD]
theorem zka {α:Type} {xs:List α} {c:Nat×List α} {j:Nat} {x:α} (h:xs[c.1+j]? = some x):(nxt xs c)[j]? = some (c.1+j+1,c.2++[x]):=by
 have hj:j < xs.length - c.1:=by
  have:=(aG.mp h).1;lia
 unfold nxt;rw [am,List.getElem?_range hj];simp [h]
theorem zg0:∀ r:Nat,((br r).map fun j=>2 ^ (r - j - 1)).sum+1=2 ^ r
 | 0=>rfl
 | r+1=>by
  rw [gu,aS,gV,bn];have e:((br r).map ((fun j=>2 ^ (r+1 - j - 1)) ∘ Nat.succ))=(br r).map fun j=>2 ^ (r - j - 1):=bO fun j _=>by
   show 2 ^ (r+1 - (j+1) - 1)=2 ^ (r - j - 1);congr 1;lia
  rw [e];have:=zg0 r;rw [Nat.pow_succ];show 2 ^ (r+1 - 0 - 1)+_+1=_;rw [show r+1 - 0 - 1=r from by lia];lia
def pot {α:Type} (n:Nat) (cs:List (Nat×List α)):Nat:=(cs.map fun c=>2 ^ (n - c.1)).sum
theorem zkb {α:Type} (xs:List α) (c:Nat×List α):pot xs.length (nxt xs c)≤2 ^ (xs.length - c.1):=by
 unfold pot nxt;rw [bn];have e:((br (xs.length - c.1)).map ((fun c:Nat×List α=>2 ^ (xs.length - c.1)) ∘ fun j=>(c.1+j+1,c.2++xs[c.1+j]?.toList)))=(br (xs.length - c.1)).map fun j=>2 ^ (xs.length - c.1 - j - 1):=bO fun j _=>by
  show 2 ^ (xs.length - (c.1+j+1))=_;congr 1;lia
 rw [e];have:=zg0 (xs.length - c.1);lia
theorem zfF {α:Type} (xs:List α):∀ cs:List (Nat×List α),pot xs.length (cs.flatMap (nxt xs))≤pot xs.length cs
 | []=>ag _
 | c :: cs=>by
  have h1:=zkb xs c;have h2:=zfF xs cs;rw [fP];unfold pot at h1 h2 ⊢;rw [aD,List.sum_append,aS,gV];lia
theorem zg1 {α:Type} (n:Nat):∀ cs:List (Nat×List α),cs.length≤pot n cs
 | []=>ag _
 | c :: cs=>by
  have h:=zg1 n cs;have:0 < 2 ^ (n - c.1):=Nat.pos_of_ne_zero #[M];unfold pot at h ⊢;rw [aS,gV,bT];lia
theorem zg2 {α:Type} (xs:List α):∀ m,pot xs.length (chs xs m)≤2 ^ xs.length
 | 0=>by
  unfold chs pot;simp
 | m+1=>aZ (zfF xs (chs xs m)) (zg2 xs m)
theorem zkc {α:Type} (xs:List α) (m:Nat):(chs xs m).length≤2 ^ xs.length:=aZ (zg1 _ _) (zg2 xs m)
theorem zbu {α:Type} {xs:List α} (m:Nat) (h:xs.length≤16):(chs xs m).length≤65536:=aZ (zkc xs m) (aZ (Nat.pow_le_pow_right #[D] h) #[D])
theorem zhX {α β:Type} {f:α→List β} {l:List α} {i j:Nat} {c:α} (hc:l[i]? = some c) (hj:j < (f c).length):((l.take i).flatMap f).length+j < (l.flatMap f).length:=by
 have e:l.flatMap f=(l.take i).flatMap f++(f c++(l.drop (i+1)).flatMap f):=by
  conv=>lhs; rw [zdu hc]
  rw [hV,fP]
 rw [e,av,av];lia
theorem zhY {α β:Type} {f:α→List β} {l:List α} {i:Nat} {c:α} (hc:l[i]? = some c):(l.take (i+1)).flatMap f=(l.take i).flatMap f++f c:=by
 rw [take_snoc hc,hV,fP,List.flatMap_nil,bQ]
theorem zlv {α:Type} {xs:List α}:∀ {m:Nat} {c:Nat×List α},c∈chs xs m→c.1≤xs.length
 | 0,c,h=>by
  unfold chs at h;rw [aH] at h;subst h;exact a8 _
 | m+1,c,h=>by
  unfold chs at h;obtain⟨c',_,hc⟩:=eK.mp h;unfold nxt at hc;obtain⟨j,hj,rfl⟩:=aI.mp hc;have:=bW.mp hj;show c'.1+j+1≤xs.length;lia
theorem zfG {α:Type} {xs:List α}:∀ {m:Nat} {c:Nat×List α},c∈chs xs m→c.2.length≤m
 | 0,c,h=>by
  unfold chs at h;rw [aH] at h;subst h;exact ag _
 | m+1,c,h=>by
  unfold chs at h;obtain⟨c',hm,hc⟩:=eK.mp h;have:=zfG hm;unfold nxt at hc;obtain⟨j,hj,rfl⟩:=aI.mp hc;show (c'.2++xs[c'.1+j]?.toList).length≤m+1;rw [av];have:xs[c'.1+j]?.toList.length≤1:=by cases xs[c'.1+j]? <;> simp
  lia
theorem Paired.get {α β:Type} {F:α→β→Prop}:∀ {l₁:List α} {l₂:List β},Paired F l₁ l₂→∀ {i:Nat} {a:α},l₁[i]? = some a→∃ b,l₂[i]? = some b∧F a b
 | _,_,.nil,i,a,h=>by simp at h
 | _,_,.cons r t,0,a,h=>by
  (simp only [eB,fQ] at h)
  subst h;exact⟨_,rfl,r⟩
 | _,_,.cons r t,i+1,a,h=>by
  rw [cm] at h;obtain⟨b,hb,f⟩:=Paired.get t h;exact⟨b,by rw [cm]; exact hb,f⟩
def zkd (H:Hp) (t:Addr) (c:Nat×List V):Prop:=∃ L,H t=some (.tup [.int (c.1:Int),.ref L])∧H L=some (.lst c.2)
theorem zkd.same {H H':Hp} (s:zy H H') {t:Addr} {c:Nat×List V} (h:zkd H t c):zkd H' t c:=let ⟨L,h1,h2⟩:=h; ⟨L,s _ _ h1,s _ _ h2⟩
def zdH (H:Hp):List Addr→List (Nat×List V)→Prop:=Paired (zkd H)
theorem zdH.same {H H':Hp} (s:zy H H') {ts:List Addr} {cs:List (Nat×List V)} (h:zdH H ts cs):zdH H' ts cs:=dB (fun _ _ z=>z.same s) h
def zfH (H:Hp):List Addr→List (List V)→Prop:=Paired fun l pk=>H l=some (.lst pk)
theorem zfH.same {H H':Hp} (s:zy H H') {ts:List Addr} {cs:List (List V)} (h:zfH H ts cs):zfH H' ts cs:=dB (fun _ _ z=>s _ _ z) h
def quo (p r:Int):List Int→List Int
 | []=>[]
 | [_]=>[]
 | _ :: d :: cs=>zj p r (d :: cs) :: quo p r (d :: cs)
theorem zg3 (p r:Int):∀ (c:Int) (cs:List Int),(quo p r (c :: cs)).length=cs.length
 | _,[]=>rfl
 | _,d :: cs=>by
  show (quo p r (d :: cs)).length+1=cs.length+1;rw [zg3 p r d cs]
theorem zje {p r x:Int}:∀ d:List Int,Cg p (zj p x d - zj p r d) ((x - r)*zj p x (quo p r d))
 | []=>Cg.of_eq (by show (0:Int) - 0=(x - r)*0; lia)
 | [c]=>by
  have h1:Cg p (zj p x [c]) (c+x*0):=zI p x c [];have h2:Cg p (zj p r [c]) (c+r*0):=zI p r c [];refine (h1.sub h2).trans (Cg.of_eq ?_);show c+x*0 - (c+r*0)=(x - r)*0;lia
 | c :: d :: cs=>by
  have h1:=zI p x c (d :: cs);have h2:=zI p r c (d :: cs);have ih:=zje (p:=p) (r:=r) (x:=x) (d :: cs);have h3:Cg p (zj p x (quo p r (c :: d :: cs))) (zj p r (d :: cs)+x*zj p x (quo p r (d :: cs))):=zI p x _ _;have h4:=(Cg.refl p (x - r)).mul h3;have h5:=(Cg.refl p x).mul ih;refine (h1.sub h2).trans (Cg.symm (h4.trans ?_));refine (Cg.of_eq (show _=(x - r)*zj p r (d :: cs)+x*((x - r)*zj p x (quo p r (d :: cs))) by grind)).trans ?_;refine ((Cg.refl p ((x - r)*zj p r (d :: cs))).add h5.symm).trans (Cg.of_eq (by grind))
theorem zfI {p r:Int}:∀ d:List Int,Cg p (zj p r d) 0→(∀ c∈quo p r d,Cg p c 0)→∀ c∈d,Cg p c 0
 | [],_,_,c,hc=>by cases hc
 | [a],h,_,c,hc=>by
  obtain rfl:c=a:=by simpa using hc
  have h1:Cg p (zj p r [c]) (c+r*0):=zI p r c [];exact ((Cg.of_eq #[O]).trans h1.symm).trans h
 | a :: d :: cs,h,hq,c,hc=>by
  have h0:Cg p (zj p r (d :: cs)) 0:=hq _ aB;rcases (aA.mp hc) with rfl | hc
  ·have h1:=zI p r c (d :: cs);have h2:=(Cg.refl p r).mul h0;have h3:=(h1.symm.trans h).sub h2;exact (Cg.of_eq #[O]).trans (h3.trans (Cg.of_eq #[O]))
  ·exact zfI (d :: cs) h0 (fun c hc=>hq c (aj _ hc)) c hc
theorem zhZ {p a y:Int} (hp:p∈zt) (ha0:a % p≠0) (h:Cg p (a*y) 0):Cg p y 0:=by
 have rp:=zM hp;have g0:=aK a (show p≠0 by lia);have g1:=aC a (show 0 < p by lia);have hi:=zgb hp (h:=a % p) #[O] g1;have h1:Cg p (inv p (a % p)*(a % p)*y) (1*y):=hi.mul (Cg.refl p y);have h2:Cg p (inv p (a % p)*(a % p)*y) (inv p (a % p)*(a*y)):=by
  have:=((Cg.refl p (inv p (a % p))).mul (Cg.emod p a)).mul (Cg.refl p y);exact this.trans (Cg.of_eq (by grind))
 have h3:=(Cg.refl p (inv p (a % p))).mul h;exact (Cg.of_eq #[O]).trans (h1.symm.trans (h2.trans (h3.trans (Cg.of_eq #[O]))))
theorem zdI {p:Int} (hp:p∈zt):∀ (n:Nat) (d xs:List Int),d.length=n→n≤xs.length→xs.Nodup→(∀ x∈xs,0≤x∧x < p)→(∀ x∈xs,Cg p (zj p x d) 0)→∀ c∈d,Cg p c 0
 | 0,d,xs,hd,_,_,_,_,c,hc=>by
  rw [bR] at hd;subst hd;cases hc
 | n+1,d,[],hd,hx,_,_,_,c,hc=>by simp at hx
 | n+1,[],r :: xs,hd,hx,_,_,_,c,hc=>by cases hc
 | n+1,a :: cs,r :: xs,hd,hx,oJ,pb,hz,c,hc=>by
  have rp:=zM hp;obtain⟨r0,r1⟩:=pb r aB;have hr:=hz r aB;refine zfI (a :: cs) hr (zdI hp n (quo p r (a :: cs)) xs (by rw [zg3]; simpa using hd) (by simpa using hx) (cp.mp oJ).2 (fun x h=>pb x (aj _ h)) fun x h=>?_) c hc;obtain⟨x0,x1⟩:=pb x (aj _ h);have jU:x≠r:=fun e=>(cp.mp oJ).1 (e ▸ h)
  have he:=zje (p:=p) (r:=r) (x:=x) (a :: cs);have h0:=(hz x (aj _ h)).sub hr;refine zhZ hp (a:=x - r) (fun e=>?_) (he.symm.trans (h0.trans (Cg.of_eq #[O])));have:Cg p x r:=by
   have h1:Cg p (x - r) 0:=Cg.of_mod (by rw [e]; simp);have h2:=h1.add (Cg.refl p r);exact (Cg.of_eq #[O]).trans (h2.trans (Cg.of_eq #[O]))
  exact jU (this.eq x0 x1 r0 r1)
theorem zfJ {p x:Int}:∀ {a b:List Int},a.length=b.length→Cg p (zj p x (be (· - ·) a b)) (zj p x a - zj p x b)
 | [],[],_=>Cg.of_eq rfl
 | c :: a,d :: b,h=>by
  have ih:=zfJ (p:=p) (x:=x) (a:=a) (b:=b) (by simpa using h);have h1:=zI p x c a;have h2:=zI p x d b;have h3:Cg p (zj p x (be (· - ·) (c :: a) (d :: b))) (c - d+x*zj p x (be (· - ·) a b)):=zI p x (c - d) _;refine h3.trans (((Cg.refl p (c - d)).add ((Cg.refl p x).mul ih)).trans (Cg.symm ((h1.sub h2).trans (Cg.of_eq (by grind)))))
 | [],_ :: _,h=>by simp at h
 | _ :: _,[],h=>by simp at h
theorem zfK {p:Int}:∀ {a b:List Int},a.length=b.length→(∀ c∈a,0≤c∧c < p)→(∀ c∈b,0≤c∧c < p)→(∀ c∈be (· - ·) a b,Cg p c 0)→a=b
 | [],[],_,_,_,_=>rfl
 | c :: a,d :: b,h,ha,hb,hz=>by
  obtain⟨c0,c1⟩:=ha c aB;obtain⟨d0,d1⟩:=hb d aB;have h1:Cg p (c - d) 0:=hz _ aB;have h2:Cg p c d:=(Cg.of_eq #[O]).trans ((h1.add (Cg.refl p d)).trans (Cg.of_eq #[O]));rw [h2.eq c0 c1 d0 d1,zfK (by simpa using h) (fun c hc=>ha c (aj _ hc)) (fun c hc=>hb c (aj _ hc)) (fun c hc=>hz c (aj _ hc))]
 | [],_ :: _,h,_,_,_=>by simp at h
 | _ :: _,[],h,_,_,_=>by simp at h
theorem zcW {p:Int} (hp:p∈zt) {a b xs:List Int} (hl:a.length=b.length) (hx:a.length≤xs.length) (oJ:xs.Nodup) (pb:∀ x∈xs,0≤x∧x < p) (ha:∀ c∈a,0≤c∧c < p) (hb:∀ c∈b,0≤c∧c < p)
  (he:∀ x∈xs,zj p x a=zj p x b):a=b:=by
 refine zfK hl ha hb (zdI hp a.length _ xs (by rw [fe]; lia) hx oJ pb fun x h=>?_);refine (zfJ hl).trans (Cg.of_eq ?_);rw [he x h];lia
theorem zlw {p:Int} (hp:p∈zt) {pk:List (Int×Int)} (hP:Pts p pk) {q:List Int} (hl:q.length=pk.length) (hq:∀ c∈q,0≤c∧c < p) (hh:∀ a∈pk,zj p a.1 q=a.2):q=thr p pk:=by
 obtain⟨h1,h2,h3⟩:=ziK hp hP;refine zcW hp (xs:=pk.map (·.1)) #[O] (by rw [ab]; lia) hP.nd (fun x hx=>?_) hq h2 fun x hx=>?_
 ·obtain⟨a,ha,rfl⟩:=aI.mp hx;exact⟨(hP.rg a ha).1,(hP.rg a ha).2.1⟩
 ·obtain⟨a,ha,rfl⟩:=aI.mp hx;rw [hh a ha,h3 a ha]
theorem Pts.sub {p:Int} {pk jG:List (Int×Int)} (h:Pts p jG) (hs:pk.Sublist jG):Pts p pk:=⟨(hs.map _).nodup h.nd,fun q hq=>h.rg q (hs.subset hq)⟩
theorem zg4 {α:Type} {xs:List α}:∀ {m:Nat} {c:Nat×List α},c∈chs xs m→c.2.Sublist (xs.take c.1)∧c.2.length=m∧c.1≤xs.length
 | 0,c,h=>by
  unfold chs at h;rw [aH] at h;subst h;exact⟨f8 _,rfl,a8 _⟩
 | m+1,c,h=>by
  unfold chs at h;obtain⟨c',hm,hc⟩:=eK.mp h;obtain⟨h1,h2,h3⟩:=zg4 hm;unfold nxt at hc;obtain⟨j,hj,rfl⟩:=aI.mp hc
  (have lE:=bW.mp hj)
  have jN:c'.1+j < xs.length:=by lia
  have e:xs[c'.1+j]? = some xs[c'.1+j]:=az jN;dsimp only;rw [e];refine⟨?_,by rw [av,h2]; rfl,#[O]⟩;rw [take_snoc e];refine List.Sublist.append (h1.trans ?_) (List.Sublist.refl _);have:xs.take c'.1=(xs.take (c'.1+j)).take c'.1:=by rw [jf]; congr 1; lia
  rw [this];exact bZ _ _
theorem sub_one {α:Type} {l:List α} {x:α} (h:l.Sublist [x]):l = []∨l = [x]:=by
 cases h with
 | cons _ h=>exact .inl (f9.mp h)
 | cons_cons _ h=>exact .inr (by rw [f9.mp h])
theorem zdf {α:Type} {xs:List α}:∀ {m n:Nat} {pk:List α},pk.Sublist (xs.take n)→pk.length=m→∃ s,s≤n∧(s,pk)∈chs xs m
 | 0,n,pk,h,hl=>by
  rw [bR] at hl;subst hl;exact⟨0,a8 _,by unfold chs; exact aH.mpr rfl⟩
 | m+1,0,pk,h,hl=>by
  rw [eA] at h;rw [f9.mp h] at hl;simp at hl
 | m+1,n+1,pk,h,hl=>by
  cases e:xs[n]? with
  | none =>
   have:xs.take (n+1)=xs.take n:=by
    have:=List.getElem?_eq_none_iff.mp e;rw [aR #[O],aR this]
   rw [this] at h;obtain⟨s,h1,h2⟩:=zdf (m:=m+1) (n:=n) h hl;exact⟨s,#[O],h2⟩
  | some x =>
   rw [take_snoc e] at h;obtain⟨l1,l2,rfl,h1,h2⟩:=List.sublist_append_iff.mp h;rcases (sub_one h2) with rfl | rfl
   ·rw [bQ] at hl ⊢;obtain⟨s,a1,a2⟩:=zdf (m:=m+1) (n:=n) h1 hl;exact⟨s,#[O],a2⟩
   ·obtain⟨s,a1,a2⟩:=zdf (m:=m) (n:=n) h1 (by simpa using hl);refine⟨n+1,ag _,?_⟩;unfold chs;refine eK.mpr ⟨(s,l1),a2,?_⟩;have jN:=(aG.mp e).1;unfold nxt;refine aI.mpr ⟨n - s,bW.mpr (by show n - s < xs.length - s; lia),?_⟩;have es:s+(n - s)=n:=by lia
    dsimp only;rw [es,e];rfl
theorem zb4 {α:Type} {xs pk:List α} {m:Nat}:pk∈(chs xs m).map (·.2)↔pk.Sublist xs∧pk.length=m:=by
 constructor
 ·intro h;obtain⟨c,hc,rfl⟩:=aI.mp h;obtain⟨h1,h2,h3⟩:=zg4 hc;exact⟨h1.trans (bZ _ _),h2⟩
 ·rintro⟨h1,h2⟩;obtain⟨s,_,hs⟩:=zdf (xs:=xs) (n:=xs.length) (by rw [bC]; exact h1) h2;exact aI.mpr ⟨_,hs,rfl⟩
def hit (p:Int) (q:List Int) (a:Int×Int):Bool:=decide (zj p a.1 q=a.2)
def hits (p:Int) (q:List Int) (jG:List (Int×Int)):Nat:=(jG.filter (hit p q)).length
def IsP (p:Int) (k:Nat) (q:List Int):Prop:=q.length=k∧∀ c∈q,0≤c∧c < p
theorem zdJ {p:Int} (hp:p∈zt) {jG:List (Int×Int)} (hP:Pts p jG) {q:List Int} {k t n:Nat} (hq:IsP p k q) (hk:k≤t) (hn:jG.length≤n+(t - k)) (ht:t≤hits p q jG) :
  ∃ pk,pk∈(chs (jG.take n) k).map (·.2)∧q=thr p pk:=by
 have yR:hits p q jG=((jG.take n).filter (hit p q)).length+((jG.drop n).filter (hit p q)).length:=by
  unfold hits
  conv=>lhs; rw [← bD n jG]
  rw [cf,av]
 have hd:=cD (hit p q) (jG.drop n);rw [cv] at hd;have qI:k≤((jG.take n).filter (hit p q)).length:=by lia
 have hs:(((jG.take n).filter (hit p q)).take k).Sublist (jG.take n):=(bZ _ _).trans (hW);have hl:(((jG.take n).filter (hit p q)).take k).length=k:=by rw [aF]; lia
 refine⟨_,zb4.mpr ⟨hs,hl⟩,zlw hp (hP.sub (hs.trans (bZ _ _))) (by rw [hl]; exact hq.1) hq.2 fun a ha=>?_⟩;have:=(bG.mp ((bZ _ _).subset ha)).2;simpa [hit] using this
theorem zg5 {p:Int} (hp:p∈zt) {jG pk:List (Int×Int)} (hP:Pts p jG) {k:Nat} (h:pk∈(chs jG k).map (·.2)):IsP p k (thr p pk):=by
 obtain⟨h1,h2⟩:=zb4.mp h;obtain⟨a,b,_⟩:=ziK hp (hP.sub h1);exact⟨a.trans h2,b⟩
def jS:List Int→List (Option Int)→List (Int×Int)
 | x :: pl,some y :: rw=>(x,y) :: jS pl rw
 | _ :: pl,none :: rw=>jS pl rw
 | _,_=>[]
theorem zdK:∀ {pl:List Int} {rw:List (Option Int)} {i:Nat} {x:Int} {o:Option Int},pl[i]? = some x→rw[i]? = some o→jS (pl.take (i+1)) (rw.take (i+1))=jS (pl.take i) (rw.take i)++(match o with | some y=>[(x,y)] | none=>[])
 | [],_,i,x,o,h,_=>by simp at h
 | _ :: _,[],i,x,o,_,h=>by simp at h
 | a :: pl,b :: rw,0,x,o,h1,h2=>by
  simp only [eB,fQ] at h1 h2;subst h1 h2;cases b <;> rfl
 | a :: pl,b :: rw,i+1,x,o,h1,h2=>by
  rw [cm] at h1 h2;have ih:=zdK h1 h2;cases b with
  | none=>exact ih
  | some y =>
   show (a,y) :: jS (pl.take (i+1)) (rw.take (i+1))=(a,y) :: jS (pl.take i) (rw.take i)++_;rw [ih];rfl
theorem zcx:∀ (pl:List Int) (rw:List (Option Int)),(jS pl rw).length≤pl.length
 | [],rw=>by unfold jS; simp
 | a :: pl,[]=>by unfold jS; simp
 | a :: pl,none :: rw=>by
  have:=zcx pl rw;show (jS pl rw).length≤pl.length+1;lia
 | a :: pl,some y :: rw=>by
  have:=zcx pl rw;show (jS pl rw).length+1≤pl.length+1;lia
theorem zb5:∀ {pl:List Int} {rw:List (Option Int)} {a:Int×Int},a∈jS pl rw→a.1∈pl∧some a.2∈rw
 | [],_,a,h=>by unfold jS at h; cases h
 | _ :: _,[],a,h=>by unfold jS at h; cases h
 | x :: pl,none :: rw,a,h=>by
  obtain⟨h1,h2⟩:=zb5 (pl:=pl) (rw:=rw) h;exact⟨aj _ h1,aj _ h2⟩
 | x :: pl,some y :: rw,a,h=>by
  rcases (aA.mp h) with rfl | h
  ·exact⟨aB,aB⟩
  ·obtain⟨h1,h2⟩:=zb5 (pl:=pl) (rw:=rw) h;exact⟨aj _ h1,aj _ h2⟩
theorem zeY:∀ (pl:List Int) (rw:List (Option Int)),((jS pl rw).map (·.1)).Sublist pl
 | [],_=>by unfold jS; exact f8 _
 | _ :: _,[]=>by unfold jS; exact f8 _
 | x :: pl,none :: rw=>(zeY pl rw).cons _
 | x :: pl,some y :: rw=>(zeY pl rw).cons_cons _
theorem zg6 {p:Int} {pl:List Int} {rw:List (Option Int)} (h1:pl.Nodup) (h2:∀ x∈pl,0≤x∧x < p) (h3:∀ z,some z∈rw→0≤z∧z < p):Pts p (jS pl rw) :=
 ⟨(zeY pl rw).nodup h1,fun q hq=>⟨(h2 _ (zb5 hq).1).1,(h2 _ (zb5 hq).1).2,(h3 _ (zb5 hq).2).1,(h3 _ (zb5 hq).2).2⟩⟩
theorem zfL {p:Int} {pl:List Int} {rw:List (Option Int)} {q:List Int} (hl:rw.length=pl.length):∀ n,n≤pl.length→(zaz p pl rw q n).length=hits p q (jS (pl.take n) (rw.take n))
 | 0,_=>by simp [zaz,hits,jS]
 | n+1,hn=>by
  have ih:=zfL (p:=p) (q:=q) hl n #[O];have e1:pl[n]? = some pl[n]:=az #[O];have e2:rw[n]? = some rw[n]:=az #[O];rw [zeu,av,ih,zdK e1 e2];unfold hits;rw [cf,av];congr 1;unfold zay;rw [e1,e2];cases rw[n] with
  | none=>rfl
  | some y =>
   show (if decide (y=zj p pl[n] q)=true then [(n:Int)] else []).length=([(pl[n],y)].filter (hit p q)).length;by_cases e:y=zj p pl[n] q
   ·rw [dq (by simp [hit,e])];simp [e]
   ·rw [dt (by simp [hit]; exact fun z=>e z.symm)];simp [e]
theorem zg7 {p:Int} {pl:List Int} {rw:List (Option Int)} {q:List Int} (hl:rw.length=pl.length):(zaz p pl rw q pl.length).length=hits p q (jS pl rw):=by
 have:=zfL (p:=p) (q:=q) hl pl.length (ag _);rw [bC,aR #[O]] at this;exact this
def zfM (p:Int) (k:Nat) (qs:List (List Int)):Prop:=(∀ q∈qs,IsP p k q)∧qs.Pairwise fun a b=>Srt.num p a < Srt.num p b
theorem zg8 {B:Int} (hB:1≤B):∀ {a b:List Int},a.length=b.length→(∀ n∈a,0≤n∧n < B)→(∀ n∈b,0≤n∧n < B)→Srt.num B a=Srt.num B b→a=b
 | [],[],_,_,_,_=>rfl
 | c :: a,d :: b,h,ha,hb,e=>by
  have h':a.length=b.length:=by simpa using h
  have ra:=Srt.num_rng hB (ns:=a) fun n hn=>ha n (aj _ hn)
  have rb:=Srt.num_rng hB (ns:=b) fun n hn=>hb n (aj _ hn)
  have e':c*B ^ a.length+Srt.num B a=d*B ^ b.length+Srt.num B b:=e;rw [← h'] at e' rb;generalize B ^ a.length=M at e' ra rb;have hM:0 < M:=by lia
  have nA:c=d:=by
   have e2:(c - d)*M=Srt.num B b - Srt.num B a:=by
    rw [Int.sub_mul];lia
   rcases (iF c d) with jN | heq | hgt
   ·have:(c - d)*M≤(-1)*M:=cM #[O] #[O];lia
   ·exact heq
   ·have:1*M≤(c - d)*M:=cM #[O] #[O];lia
  subst nA;rw [zg8 hB h' (fun n hn=>ha n (aj _ hn)) (fun n hn=>hb n (aj _ hn)) #[O]]
 | [],_ :: _,h,_,_,_=>by simp at h
 | _ :: _,[],h,_,_,_=>by simp at h
theorem zke {p:Int} (hp:1≤p) {k:Nat} {qs:List (List Int)} (h1:∀ q∈qs,IsP p k q) (h2:qs.Nodup) (h3:qs.Pairwise fun a b=>Srt.num p a≤Srt.num p b):zfM p k qs:=by
 refine⟨h1,?_⟩;have h4:=h3.and h2;refine ed (fun {a b} ha hb h=>?_) h4;have jU:Srt.num p a≠Srt.num p b:=fun e=>h.2 (zg8 hp ((h1 a ha).1.trans (h1 b hb).1.symm) (h1 a ha).2 (h1 b hb).2 e)
 have:=h.1;lia
theorem zfM.filter {p:Int} {k:Nat} {qs:List (List Int)} (f:List Int→Bool) (h:zfM p k qs):zfM p k (qs.filter f):=⟨fun q hq=>h.1 q (bG.mp hq).1,h.2.filter f⟩
theorem zkf {α β:Type} (f:α→β) (xs:List α) (c:Nat×List α):nxt (xs.map f) (c.1,c.2.map f)=(nxt xs c).map fun d=>(d.1,d.2.map f):=by
 unfold nxt;rw [bn,ab];refine bO fun j _=>?_
 show (c.1+j+1,c.2.map f++(xs.map f)[c.1+j]?.toList)=(c.1+j+1,(c.2++xs[c.1+j]?.toList).map f);rw [am,aD];cases xs[c.1+j]? <;> rfl
theorem zg9 {α β:Type} (f:α→β) (xs:List α):∀ m,chs (xs.map f) m=(chs xs m).map fun d=>(d.1,d.2.map f)
 | 0=>rfl
 | m+1=>by
  show (chs (xs.map f) m).flatMap (nxt (xs.map f))=((chs xs m).flatMap (nxt xs)).map _;rw [zg9 f xs m,List.map_flatMap,List.flatMap_map];congr 1;funext c;exact zkf f xs c
theorem zcP {α β:Type} (f:α→β) (xs:List α) (m:Nat):(chs (xs.map f) m).map (·.2)=((chs xs m).map (·.2)).map (·.map f):=by
 rw [zg9,bn,bn];rfl
def PtB (H:Hp):List Addr→List (Int×Int)→Prop:=Paired fun b q=>H b=some (.tup [.int q.1,.int q.2])
theorem PtB.same {H H':Hp} (s:zy H H') {bs:List Addr} {jG:List (Int×Int)} (h:PtB H bs jG):PtB H' bs jG:=dB (fun _ _ z=>s _ _ z) h
theorem PtB.zs {H:Hp}:∀ {bs:List Addr} {jG:List (Int×Int)},PtB H bs jG→∃ zs:List (Addr×Int×Int),bs=zs.map (·.1)∧jG=zs.map (·.2)∧∀ z∈zs,H z.1=some (.tup [.int z.2.1,.int z.2.2])
 | _,_,.nil=>⟨[],rfl,rfl,#[M]⟩
 | _,_,.cons (a:=b) (b:=q) r t=>by
  obtain⟨zs,h1,h2,h3⟩:=PtB.zs t;refine⟨(b,q) :: zs,by rw [h1]; rfl,by rw [h2]; rfl,fun z hz=>?_⟩;rcases (aA.mp hz) with rfl | hz
  ·exact r
  ·exact h3 z hz
theorem PtB.take {H:Hp} {bs:List Addr} {jG:List (Int×Int)} (h:PtB H bs jG) (n:Nat):PtB H (bs.take n) (jG.take n):=by
 induction h generalizing n with
 | nil=>rw [jm,jm]; exact .nil
 | cons r t ih =>
  cases n with
  | zero=>exact .nil
  | succ n=>exact .cons r (ih n)
def zcy (H:Hp):List Addr→List (List Int)→Prop:=Paired fun r q=>H r=some (.tup (q.map V.int))
theorem zcy.same {H H':Hp} (s:zy H H') {rs:List Addr} {qs:List (List Int)} (h:zcy H rs qs):zcy H' rs qs:=dB (fun _ _ z=>s _ _ z) h
theorem zcy.of {H:Hp}:∀ {ps:List (Addr×List Int)},(∀ q∈ps,H q.1=some (.tup (q.2.map V.int)))→zcy H (ps.map (·.1)) (ps.map (·.2))
 | [],_=>.nil
 | a :: ps,h=>.cons (h a aB) (zcy.of fun q hq=>h q (aj _ hq))
theorem zjf {κ:Type} [DecidableEq κ] (jw:List (κ×V)) (k:κ) (v:V):(putK jw k v).map (·.1)=if k∈jw.map (·.1) then jw.map (·.1) else jw.map (·.1)++[k]:=by
 unfold putK;by_cases h:(jw.any fun kv=>decide (kv.1=k))=true
 ·rw [if_pos h];obtain⟨kv,h1,h2⟩:=f'.mp h;have h2:kv.1=k:=by simpa using h2
  rw [if_pos (by rw [← h2]; exact bi h1),bn];refine bO fun a _=>?_
  show (if a.1=k then (a.1,v) else a).1=a.1;split <;> rfl
 ·rw [if_neg h];rw [if_neg (fun hm=>h ?_),aD]
  ·rfl
  ·obtain⟨kv,h1,h2⟩:=aI.mp hm;exact f'.mpr ⟨kv,h1,by simpa using h2⟩
theorem zdg {a b:List Int} (h:(a.map bp:List Key)=b.map bp):a=b:=by
 induction a generalizing b with
 | nil=>cases b with
  | nil=>rfl
  | cons _ _=>simp at h
 | cons x a ih=>cases b with
  | nil=>simp at h
  | cons y b =>
   rw [aS,aS] at h;obtain⟨h1,h2⟩:=gR h;rw [jq h1,ih h2]
def KeysAre (jw:List (List Key×V)) (kh:List (List Int)):Prop:=jw.map (·.1)=kh.map (·.map bp)
theorem zjg {jw:List (List Key×V)} {kh:List (List Int)} (h:KeysAre jw kh) (hn:kh.Nodup) (q:List Int) (v:V):∃ pd,KeysAre (putK jw (q.map bp) v) pd∧pd.Nodup∧pd.length≤kh.length+1∧∀ x,x∈pd↔x∈kh∨x=q:=by
 unfold KeysAre at h ⊢;rw [zjf,h];have hm:(q.map bp:List Key)∈kh.map (·.map bp)↔q∈kh:=by
  constructor
  ·intro hm;obtain⟨x,hx,e⟩:=aI.mp hm;rw [← zdg e];exact hx
  ·intro hm;exact bi hm
 by_cases hq:q∈kh
 ·refine⟨kh,by rw [if_pos (hm.mpr hq)],hn,#[O],fun x=>⟨.inl,fun z=>z.elim id fun e=>e ▸ hq⟩⟩
 ·refine⟨kh++[q],by rw [if_neg fun z=>hq (hm.mp z),aD]; rfl,?_,by rw [av]; exact ag _,fun x=>by rw [aM,aH]⟩;rw [db];exact⟨hn,#[M],fun a ha b hb e=>hq (by rw [← aH.mp hb,← e]; exact ha)⟩
def zkg (K:af):Sp:=fun vs H Q _=>∃ (c tt r:Addr) (p k:Int) (pl:List Int) (rw:List (Option Int)),vs = [.ref c,.ref r]∧zaw H c tt p k pl∧RowAt K H r pl.length rw∧pl.length≤1000 ∧
 ∀ (l:Addr) (bs:List Addr) (H':Hp),H l=none→zy H H'→H' l=some (.lst (bs.map V.ref))→PtB H' bs (jS pl rw)→Q (.ref l) H'
def zdL (K:af):Sp:=fun vs H Q _=>∃ (c tt a:Addr) (p:Int) (k:Nat) (pl:List Int) (bs:List Addr) (jG:List (Int×Int)),vs = [.ref c,.ref a]∧zaw H c tt p k pl∧jy K H a (bs.map V.ref)∧PtB H bs jG∧jG.length≤16∧p∈zt∧Pts p jG∧1≤k∧k≤100 ∧
 ∀ (l:Addr) (rs:List Addr) (qs:List (List Int)) (H':Hp),H l=none→zy H H'→H' l=some (.lst (rs.map V.ref))→zcy H' rs qs→qs.length≤65536→zfM p k qs→(∀ q,q∈qs↔∃ pk∈(chs jG k).map (·.2),q=thr p pk)→Q (.ref l) H'
end My
end
section
namespace L2
open PySem PySem.Spec PyProof.Rows
end L2
end
section
namespace My
open PySem L2 PyProof.Rows
theorem zjh {X:Cx} {st:Stmt} {ts:TS} (h:PS X st ts):PS X st (fun D σ H=>∃ Pv:L2.St→Hp→Prop,ts { D with nx:=Pv } σ H∧∀ σ' H',Pv σ' H'→D.nx σ' H'):=by
 intro jv s σ H D I hq;obtain⟨Pv,h1,h2⟩:=hq;refine thn (h jv s σ H _ I h1) fun f s1 q=>?_
 cases f with
 | next =>
  obtain⟨σ',H',I',p⟩:=q;exact⟨σ',H',I',h2 _ _ p⟩
 | ret v=>exact q
 | brk=>exact q
 | cont=>exact q
end My
end
section
namespace L2
open PySem PySem.Spec PyProof.Rows
end L2
end
section
namespace HT
open PySem PySem.Spec PyProof.Rows
end HT
namespace L2
open PySem PySem.Spec PyProof.Rows
theorem zji {X:Cx} {K:af} {tg l:Expr} {tl:TE} (hK:X.K=K) (hl:PE X l tl):PI X tg l (zky K tl):=by subst hK; exact zar hl
end L2
end
section
namespace My
open PySem L2 PyProof.Rows
def md (p:Int) (q:Int×Int):Int×Int:=(q.1,q.2 % p)
theorem zfN (p:Int) (s:List Int×List Int) (q:Int×Int):zbS p s (md p q)=zbS p s q:=by
 unfold zbS md;have:(q.2 % p - zj p q.1 s.1)*inv p (zj p q.1 s.2) % p=(q.2 - zj p q.1 s.1)*inv p (zj p q.1 s.2) % p:=(((Cg.emod p q.2).sub (Cg.refl p _)).mul (Cg.refl p _)).mod_eq;dsimp only;rw [this]
theorem zha (p:Int):∀ (jG:List (Int×Int)) (s:List Int×List Int),(jG.map (md p)).foldl (zbS p) s=jG.foldl (zbS p) s
 | [],s=>rfl
 | q :: jG,s=>by
  rw [aS,dY,dY,zfN,zha p jG]
theorem zlx (p:Int) (jG:List (Int×Int)):thr p (jG.map (md p))=thr p jG:=by
 unfold thr zl4;rw [zha,ab]
def zfO (K:af):Sp:=fun vs H Q _=>∃ (p:Int) (a:Addr) (jG:List (Int×Int)),vs = [.int p,.ref a]∧zkG K H a jG∧jG.length≤100∧p∈zt∧Pts p (jG.map (md p))∧(∀ q∈jG,0≤q.2∧q.2 < 10000) ∧
 ∀ (l:Addr) (H':Hp),H l=none→zy H H'→H' l=some (.tup ((thr p (jG.map (md p))).map V.int))→Q (.ref l) H'
end My
end
section
namespace L2
open PySem PySem.Spec PyProof.Rows
end L2
end
section
namespace PySem
open PyProof.Rows
end PySem
namespace L2
open PySem PySem.Spec PyProof.Rows
theorem zdM {X:Cx} {K:af} (hK:X.K=K):zbn X (.type "tuple") (fun xs H Q=>∃ p ys,xs = [.ref p]∧((jy K H p ys∧∀ l,H l=none→Q (.ref l) (jA H l (.tup ys)))∨(jI K H p ys∧Q (.ref p) H))):=by subst hK; exact zax
end L2
end
section
namespace L2
open PySem PySem.Spec PyProof.Rows PySem.W
def zd5 (mg:Str→Option Value) (h:Heap):Prop:=∃ bm ob,mg "__builtins__" = some (.ref bm)∧bm≠builtinsNs∧h.get? bm=some ob∧ob.cls = .type "module"∧ob.dict=some builtinsNs∧ob.data = .plain
def zhb (c:Addr) (q:Str):HO:=.ext fun h=>h.CodeRec (.ref c) q
def TbI (P:Addr) (pos:Pos) (q:Str) (H:Hp):Prop:=∃ ps,H P=some (.tbl ps)∧TriplesOk ps.toList∧(codeAmong pos ps.toList=none∨∃ c,codeAmong pos ps.toList=some (.ref c)∧H c=some (zhb c q))
theorem zh0 {X:Cx} {jv:List (Addr×Obj)} {σ:St} {H:Hp} {s:Shared} {c:Addr} {q:Str} (I:Inv X jv σ H s) (h:H c=some (zhb c q)):s.heap.CodeRec (.ref c) q:=(I.hok c _ h).1
theorem zcz {a b:Int} {t u:Tok} {c:Value}:∀ {l:List Value},TriplesOk l→TriplesOk (l++[.int a t,.int b u,c])
 | [],_=>trivial
 | [_],h=>by
  unfold TriplesOk at h;split at h <;> first | trivial | (rename_i e; simp at e) | exact h.elim
 | [_,_],h=>by
  unfold TriplesOk at h;split at h <;> first | trivial | (rename_i e; simp at e) | exact h.elim
 | x :: y :: z :: l,h=>by
  unfold TriplesOk at h;split at h
  ·rename_i e; simp at e
  ·rename_i e
   simp only [List.cons.injEq] at e;obtain⟨rfl,rfl,rfl,rfl⟩:=e;exact zcz (l:=l) h
  ·exact h.elim
theorem zjj {X:Cx} {jv:List (Addr×Obj)} {σ:St} {H:Hp} {s:Shared} {c P:Addr} {pos:Pos} {name q:Str} {params:Arguments} {body:Expr} {scope:Scope} {fl:Nat} {lS:List (Str×Addr)} {M:Model} {A:Around} {E:Value→Shared→Prop} {Q:Value→Shared→Prop}
  (I:Inv X jv σ H s) (oK:X.env.code = .ref c) (hK:codeHdIn X.K c P=true) (hB:zd5 X.mg X.base) (nV:closureFor scope X.env=pure lS) (hT:TbI P pos q H)
  (h:∀ (f c':Addr) (oM:Value) (H':Hp) (h':Heap) (tk:Nat),Inv X jv σ H' { s with heap:=h',toks:=tk }→(∀ b,b≠P→∀ o,H b=some o→H' b=some o)→TbI P pos q H' →
   h'.get? f=some (kla_obj name q params body scope lS ((X.mg "__name__").getD .none) c' oM)→h'.CodeRec (.ref c') q→s.heap.objs.size≤f→H' f=none→f≠X.env.locals→Q (.ref f) { s with heap:=h',toks:=tk }) :
  wpAny M A (makeFunction name q params (.expr body) scope X.env [] [] [] pos fl) Q E s:=by
 obtain⟨ps,hP,ht,hT⟩:=hT;have hg:s.heap.Ns mainGlobals X.mg:=I.mod.glob.keeps I.bk;have C:CodeHd s.heap c P:=codeHd_of_K I.kIn hK;have oP:s.heap.get? P=some (tabObj ps):=I.hok P _ hP;have hgP:mainGlobals≠P:=fun e=>by
  obtain⟨o,es,ep,e1,hd,_⟩:=hg;rw [e,oP] at e1; cases e1; cases hd
 have hb:s.heap.BuiltinsAt X.mg P:=by
  obtain⟨bm,ob,b1,b2,b3,b4,b5,b6⟩:=hB;have vo:=I.bk _ _ b3;refine⟨bm,ob,b1,b2,fun e=>?_,fun e=>?_,vo,b4,b5,b6⟩
  ·obtain⟨o,es,ep,e1,hd,_⟩:=hg;rw [e,e1] at vo; cases vo; rw [hd] at b6; cases b6
  ·rw [e,oP] at vo; cases vo; cases b4
 have hLP:X.env.locals≠P:=fun e=>by have:=I.free; rw [e,hP] at this; cases this
 obtain⟨m0,n0,_⟩:=id I.loc;have hLs:X.env.locals < s.heap.objs.size:=n0.lt;rcases hT with hT | ⟨c0,hT,vp⟩
 ·refine kla_makeFunction (mg:=X.mg) nV I.ok.glob hg oK C oP ht hT hgP hb fun c' oM h' tk hx lb jN tL tM=>?_
  have tN:H c'=none:=I.hok.fresh lb;have vq:c'≠P:=fun e=>by rw [e,hP] at tN; cases tN
  have k1:∀ b o,b≠P→s.heap.get? b=some o→(h'.push (kla_obj name q params body scope lS ((X.mg "__name__").getD .none) c' oM)).get? b=some o:=fun b o hb e=>ae _ (hx b o hb e)
  have vt:(h'.push (kla_obj name q params body scope lS ((X.mg "__name__").getD .none) c' oM)).get? P=some (tabObj (ps++#[rawInt pos.line,rawInt pos.col,.ref c'])):=ae _ tM;have sm:(h'.push (kla_obj name q params body scope lS ((X.mg "__name__").getD .none) c' oM)).CodeRec (.ref c') q:=tL.push _;have hsz:s.heap.objs.size≤h'.objs.size:=aZ lb (eP jN);have u1:∀ b,b≠P→b≠c'→jA (jA H P (.tbl (ps++#[rawInt pos.line,rawInt pos.col,.ref c']))) c' (zhb c' q) b=H b:=fun b h1 h2=>by rw [zm h2,zm h1]
  have old:∀ b o,s.heap.get? b=some o→b≠c':=fun b o e=>aT (aP (au e) lb)
  have pf:∀ b o,H b=some o→b≠c':=fun b o e z=>by rw [z,tN] at e; cases e
  have I2:Inv X jv σ (jA (jA H P (.tbl (ps++#[rawInt pos.line,rawInt pos.col,.ref c']))) c' (zhb c' q)) { s with heap:=h'.push (kla_obj name q params body scope lS ((X.mg "__name__").getD .none) c' oM),toks:=tk }:=by
   refine I.step (g':=s.gens) (d':=s.drawn) (ch:=[]) (fun _ z=>nomatch z) (fun b o _ _ _ e n=>k1 b o (fun z=>by rw [z,hP] at n; cases n) e) (fun b o _ _ _ e n=>⟨o.slots,k1 b o (fun z=>by rw [z,hP] at n; cases n) e⟩)
    (fun b o _ e n=>by rw [u1 b (fun z=>by rw [z,hP] at n; cases n) (old b o e)]; exact n) (fun b o _ e=>?_) (fun b xs e=>?_) (fun b o u e=>?_) (fun b qs e=>?_) (fun m hm=>?_) (fun b u e=>?_) I.bare
   ·by_cases hb:b=P
    ·rw [hb]; exact⟨_,vt⟩
    ·exact⟨o,k1 b o hb e⟩
   ·rw [u1 b (fun z=>by rw [z,hP] at e; cases e) (pf b _ e)]; exact e
   ·rw [u1 b (fun z=>by rw [z,hP] at e; cases e) (pf b _ e)]; exact e
   ·by_cases hb:b=P
    ·subst hb;rw [hP] at e; cases e;exact⟨_,by rw [zm (dh vq),zb]⟩
    ·exact⟨#[],by rw [u1 b hb (pf b _ e),e]; simp⟩
   ·obtain⟨o,es,ep,ho,r⟩:=hm;exact⟨o,es,ep,k1 _ o hLP ho,r⟩
   ·by_cases hbc:b=c'
    ·subst hbc;rw [zb] at e; cases e;obtain⟨cc,oc,vs,t,e2,uK,hd,hv⟩:=sm;cases e2;exact⟨⟨_,oc,vs,t,rfl,uK,hd,hv⟩,⟨oc,uK⟩,fun h1 h2 ⟨cc,o1,vs1,t1,e3,tH,r1⟩ kk=>by cases e3; exact⟨_,o1,vs1,t1,rfl,kk _ tH,r1⟩⟩
    ·rw [zm hbc] at e;by_cases yS:b=P
     ·subst yS;rw [zb] at e; cases e;exact vt
     ·rw [zm yS] at e;refine (I.hok b u e).stay (fun d v hd r=>k1 d v (fun z=>?_) r) (fun d r=>?_) fun d xs r=>?_
      ·rcases hd with hd | hd
       ·exact yS (hd.symm.trans z)
       ·rw [z,hP] at hd; cases hd
      ·rw [u1 d (fun z=>by rw [z,hP] at r; cases r) (pf d _ r)]; exact r
      ·rw [u1 d (fun z=>by rw [z,hP] at r; cases r) (pf d _ r)]; exact r
  refine h h'.objs.size c' oM _ _ tk I2 (fun b hb o e=>by rw [u1 b hb (pf b _ e)]; exact e) ⟨ps++#[rawInt pos.line,rawInt pos.col,.ref c'],by rw [zm (dh vq),zb],?_,.inr ⟨c',?_,zb⟩⟩ (aq _ rfl) sm hsz ?_ ?_
  ·rw [bh]; exact zcz ht
  ·rw [bh]; exact codeAmong_snoc _ ht hT
  ·rw [u1 h'.objs.size (fun z=>absurd (show h'.objs.size < s.heap.objs.size from z ▸ au oP) (Nat.not_lt.mpr hsz)) (cG jN)];exact I.hok.fresh hsz
  ·exact cG (aP hLs hsz)
 ·refine kla_makeFunctionHit (mg:=X.mg) nV I.ok.glob hg oK C oP ht hT hb fun oM h' tk hk hsz=>?_
  have k2:∀ b o,s.heap.get? b=some o→(h'.push { cls:=.type "function",data:=.func (kla_fn name q params body scope lS ((X.mg "__name__").getD .none) (.ref c0) oM) }).get? b=some o:=fun b o e=>ae _ (hk b o e)
  have I2:Inv X jv σ H { s with heap:=h'.push { cls:=.type "function",data:=.func (kla_fn name q params body scope lS ((X.mg "__name__").getD .none) (.ref c0) oM) },toks:=tk } :=
   I.un (Un.kept k2) (I.hok.kept k2)
  exact h h'.objs.size c0 oM H _ tk I2 (fun _ _ _ e=>e) ⟨ps,hP,ht,.inr ⟨c0,hT,vp⟩⟩ (aq _ rfl) ((zh0 I vp).keeps k2) hsz (I.hok.fresh hsz) (cG (aP hLs hsz))
theorem zh1 {P:Program} {w:World} {K:af} {mg mb:Str→Option Value} {CX:CXT} {k:Nat} {fa a TP cP:Addr} {fd:FuncData} {x:Str} {sp:Sp} {s₁:Shared} {vs:List Value} {ns:List Int}
  (KX:K.In s₁.heap) (vw:s₁.heap.Ns mainGlobals mg) (hb:s₁.heap.Ns builtinsNs mb) (hbb:∀ x:Str,x≠"__name__"→mb x=bootBuiltins x) (yT:s₁.heap.NoLimit) (hg:s₁.gens = #[])
  (ha:s₁.heap.get? a=some { cls:=.type "list",data:=.seq vs.toArray }) (hi:IntsAre vs ns) (hl:ns.length≤sizeLine) (hr:Room k callerA)
  (hT:s₁.heap.get? TP=some (tabObj #[])) (vx:K.lookup TP=none) (hC:CodeHd s₁.heap cP TP) (hbm:zd5 mg s₁.heap)
  (F:∀ base:Heap,K.In base→base.Ns mainGlobals mg→zd5 mg base→FnOk P w K mg base CX k fa fd [x] sp) (vy:∀ (s:Shared) (u:Value),BindsTo s fd ⟨[u],[]⟩ [(x,u)])
  (pF:∀ H:Hp,H TP=some (.tbl #[])→jy K H a (ns.map V.int)→sp [.ref a] H (fun v _=>v = .bl true) fun _ _ _=>False)
  (yU:∀ H e s',CX [] H s₁ (fun _ _ _=>False) e s'→False) :
  codeAny (model P w) callerA (.call (.ref fa) ⟨[.ref a],[]⟩) (fun r s'=>r = .ok (.ret (.bool true))∧OldK s₁.heap s'.heap∧s'.os=s₁.os∧AllBare s'.gens) s₁:=by
 have rv:=zen hi;have yV:=hi.length;have haT:a≠TP:=fun e=>by rw [e,hT] at ha; cases ha
 have core:∀ H:Hp,(∀ b,b≠TP→H b=none∨∃ o xs,H b=some (.frz o (.lst xs)))→H TP=some (.tbl #[])→jy K H a (ns.map V.int)→HOk P w H s₁.heap→(∀ b,H b≠none→b=a∨b=TP)→(H a≠none→K.lookup a=none) →
   codeAny (model P w) callerA (.call (.ref fa) ⟨[.ref a],[]⟩) (fun r s'=>r = .ok (.ret (.bool true))∧OldK s₁.heap s'.heap∧s'.os=s₁.os∧AllBare s'.gens) s₁:=by
  intro H hO hHT hS hok hA hK;have m6:∀ {b:Addr} {o:Obj},s₁.heap.get? b=some o→H b=none→(zdY s₁.heap H).get? b=some o:=fun e n=>zid e n
  have rV:∀ {b:Addr} {o:Obj},s₁.heap.get? b=some o→(∀ xs n,o.data≠.seq xs n)→(∀ xs,o.data≠.fields xs)→H b=none:=fun {b o} e d1 d2=>by
   cases q:H b with
   | none=>rfl
   | some u =>
    rcases hA b (by rw [q]; simp) with e' | e'
    ·subst e';rw [ha] at e; cases e;exact absurd rfl (d1 _ _)
    ·subst e';rw [hT] at e; cases e;exact absurd rfl (d2 _)
  have wY:∀ {b:Addr} {m:Str→Option Value},s₁.heap.Ns b m→(zdY s₁.heap H).Ns b m:=fun {b m} ⟨o,es,ep,e,d,r⟩=>⟨o,es,ep,m6 e (rV e (fun xs n z=>by rw [d] at z; cases z) (fun xs z=>by rw [d] at z; cases z)),d,r⟩
  have hKb:K.In (zdY s₁.heap H):=fun b o e=>m6 (KX b o e) (by
   cases q:H b with
   | none=>rfl
   | some u =>
    rcases hA b (by rw [q]; simp) with e' | e'
    ·subst e';rw [hK (by rw [q]; simp)] at e; cases e
    ·subst e';rw [vx] at e; cases e)
  have hM:Mod K mg (zdY s₁.heap H):=⟨hKb,wY vw,⟨mb,wY hb,hbb⟩,let ⟨mc,h1,h2⟩:=yT; ⟨mc,wY h1,h2⟩⟩;have hBb:zd5 mg (zdY s₁.heap H):=by
   obtain⟨bm,ob,b1,b2,b3,b4,b5,b6⟩:=hbm;exact⟨bm,ob,b1,b2,m6 b3 (rV b3 (fun xs n z=>by rw [b6] at z; cases z) (fun xs z=>by rw [b6] at z; cases z)),b4,b5,b6⟩
  have e0:Env0 P w K mg (zdY s₁.heap H) callerA [] s₁ H:=⟨rfl,hM,fun b o e=>zjB e,Nat.le_of_eq (zhr _ _),trivial,fun b hb=>absurd (show b∈([]:List Addr) from hb) #[M],hok,.of_eq hg⟩;refine ij ((F _ hKb (wY vw) hBb).run callerA [] s₁ H ⟨[.ref a],[]⟩ [.ref a] [.ref a] _ _ hr e0 (vy s₁ (.ref a)) (.cons rfl .nil) (pF H hHT hS)) fun r s' h=>?_
  cases r with
  | error e=>exact (yU H e s' h).elim
  | ok fl =>
   cases fl with
   | next=>exact de h
   | brk=>exact de h
   | cont=>exact de h
   | ret u =>
    obtain⟨v,H',os,bare,un,vz,r',q⟩:=h;have q':v = .bl true:=q;subst q';obtain rfl:u=Value.bool true:=r';have keep:∀ b o,b≠TP→s₁.heap.get? b=some o→s'.heap.get? b=some o:=fun b o nK e=>by
     cases q:H b with
     | none=>exact un.keep b o e q (by intro z; exact absurd (show b∈([]:List Addr) from z) #[M]) #[M]
     | some u =>
      rcases hO b nK with z | ⟨ob,xs,z⟩
      ·rw [q] at z; cases z
      ·have z2:=un.frzs b ob _ z;obtain⟨e1,_⟩:=hok b _ z;obtain⟨e2,_⟩:=vz b _ z2;rw [e] at e1; cases e1;exact e2
    obtain⟨more,hm⟩:=un.tbls TP #[] hHT;have hT':s'.heap.get? TP=some { cls:=.none,data:=.fields (#[]++more) }:=vz TP _ hm;refine⟨rfl,⟨fun b o e=>?_,fun b o e=>?_⟩,os,bare⟩
    ·by_cases nK:b=TP
     ·subst nK;rw [hT] at e; cases e;obtain⟨oc,vs',_,_,_,_,_,_,_,c1,c2,c3,c4,_⟩:=hC;exact .inr (.inl ⟨⟨cP,oc,vs',c1,c2,c3,c4⟩,rfl,#[],more,rfl,hT'⟩)
     ·exact .inl (keep b o nK e)
    ·by_cases nK:b=TP
     ·subst nK; exact⟨_,hT'⟩
     ·exact⟨o,keep b o nK e⟩
 have vA:∀ (H:Hp),zai P w H s₁.heap TP (.tbl #[]):=fun H=>hT
 cases hk:K.lookup a with
 | some o =>
  have e:=KX a o hk;rw [ha] at e;cases e;refine core (fun b=>if b=TP then some (.tbl #[]) else none) (fun b hb=>.inl (if_neg hb)) (if_pos rfl) (.inr ⟨_,vs.toArray,_,hk,rfl,rfl,rfl,by rw [ao,yV]; exact hl,by simpa using rv⟩) (fun b u z=>?_) (fun b z=>?_) fun z=>absurd (if_neg haT) z
  ·by_cases hb:b=TP
   ·have z':=(if_pos hb).symm.trans z;cases z';subst hb;exact vA _
   ·have z':=(if_neg hb).symm.trans z;cases z'
  ·by_cases hb:b=TP
   ·exact .inr hb
   ·exact absurd (if_neg hb) z
 | none =>
  have jU:∀ {o:HO},(if a=TP then some (HO.tbl #[]) else if a=a then some o else none)=some o:=fun {o}=>by rw [if_neg haT,if_pos rfl]
  refine core (fun b=>if b=TP then some (.tbl #[]) else if b=a then some (.frz { cls:=.type "list",data:=.seq vs.toArray } (.lst (ns.map V.int))) else none) (fun b nK=>?_) (if_pos rfl) (.inl (.inr ⟨{ cls:=.type "list",data:=.seq vs.toArray },jU⟩)) (fun b u z=>?_) (fun b z=>?_) fun _=>hk
  ·by_cases hb:b=a
   ·exact .inr ⟨_,_,by rw [if_neg nK,if_pos hb]⟩
   ·exact .inl (by rw [if_neg nK,if_neg hb])
  ·by_cases nK:b=TP
   ·have z':=(if_pos nK).symm.trans z;cases z';subst nK;exact vA _
   ·have z1:=(if_neg nK).symm.trans z;by_cases hb:b=a
    ·have z':=(if_pos hb).symm.trans z1;cases z';subst hb;exact⟨ha,by rw [ab]; exact hl,vs,_,rv,ha⟩
    ·have z':=(if_neg hb).symm.trans z1;cases z'
  ·by_cases nK:b=TP
   ·exact .inr nK
   ·by_cases hb:b=a
    ·exact .inl hb
    ·exact absurd (by rw [if_neg nK,if_neg hb]) z
theorem zjk {l:gh} {n k:Nat} {q:Program} {loose:List Str} {XP:(Str→Option Value)→Heap→Prop} {YP:World→Heap→Prop} {d:DefRec} {K:Params→af} {CX:World→CXT} {sp:World→Sp} {x:Str} {TP cP:Addr}
  (hn:l.most=some n) (nX:n≤sizeLine) (uN:d.params.defaults = []) (hr:Room k callerA)
  (hY:∀ (w:World) (h:Heap),YP w h→(K w.params).In h∧h.get? TP=some (tabObj #[])) (vx:∀ w:World,(K w.params).lookup TP=none) (yW:∀ w:World,codeHdIn (K w.params) cP TP=true)
  (F:∀ (w:World) (mg:Str→Option Value) (fa:Addr) (h:Heap),(K w.params).In h→h.Ns mainGlobals mg→mg d.name=some (.ref fa) →
   ∃ fd:FuncData,(∀ (s:Shared) (u:Value),BindsTo s fd ⟨[u],[]⟩ [(x,u)]) ∧
    ∀ base:Heap,(K w.params).In base→base.Ns mainGlobals mg→zd5 mg base→FnOk l.prog w (K w.params) mg base (CX w) k fa fd [x] (sp w))
  (pF:∀ (w:World) (H:Hp) (a:Addr) (ns:List Int),ns.length≤n→H TP=some (.tbl #[])→jy (K w.params) H a (ns.map V.int)→sp w [.ref a] H (fun v _=>v = .bl true) fun _ _ _=>False)
  (yU:∀ (w:World) (H:Hp) (s:Shared) (e:Value) (s':Shared),CX w [] H s (fun _ _ _=>False) e s'→False) :
  jn q loose XP YP l.row.toRowW d [] (fun f vs=>i7 f vs):=by
 refine Att.attach_call hn uN fun w s₀ s₁ mg mb fa o pm cd doc a vs ns G Y ho hd nA n4 sM hints jE hg=>?_
 obtain⟨KX,hT⟩:=hY w _ Y;obtain⟨fd,hb,hF⟩:=F w mg fa _ KX G.T.g n4;exact zh1 KX G.T.g G.T.b G.T.builtins G.T.nolimit hg sM hints (aZ jE nX) hr hT (vx w) (codeHd_of_K KX (yW w)) G.T.bmain hF hb (fun H hO hS=>pF w H a ns jE hO hS) fun H e s'=>yU w H s₁ e s'
def TabOf (K:af) (f TP:Addr):Prop:=∀ o fd,K.lookup f=some o→o.data = .func fd→∃ c,fd.code = .ref c∧codeHdIn K c TP=true
theorem zly {K:af} {f c TP:Addr} {oc:Value} {od:Option Addr} {sl:Array (Option Value)} {fd:FuncData} (l:K.lookup f=some ⟨oc,od,.func fd,sl⟩) (e:fd.code = .ref c) (h:codeHdIn K c TP=true):TabOf K f TP:=fun o fd' l' d=>by
 rw [l] at l';cases l';cases d;exact⟨c,e,h⟩
theorem Fun.okT {P:Program} {w:World} {K:af} {mg:Str→Option Value} {base:Heap} {x qual:Str} {st:Stmt} {f:Addr} {fd:FuncData} {N ps:List Str} {k:Nat} {sp:Sp} {TP:Addr} (F:Fun K x qual st f fd) (hT:TabOf K f TP) (S:FnScope N ps (zh st)) (len:∀ vs H Q E,sp vs H Q E→vs.length=ps.length)
  (nB:∀ (cP:Addr) (hK:codeHdIn K cP TP=true) (A:Around) (outer:List Env) (s:Shared) (H:Hp) (vs:List V) (Q:VK) (E:XK),Room k (A.deeper (envOfC qual (zh st) s.heap.objs.size f (.ref cP)))→sp vs H Q E →
   ∃ t,PSs (zf5 CX0 P w K mg base N qual (zh st) f (.ref cP) A outer s H E).nox (zaZ st) t∧t { nx:=fun _ H'=>Q .non H',rt:=Q } (start N vs) H):FnOk P w K mg base CX0 (k+1) f fd ps sp:=by
 obtain⟨oc,od,kV,doc,pm,an,jW,ct,qU,rfl,lk,nA⟩:=F.ex;obtain⟨cP,hc,hK⟩:=hT _ _ lk rfl;have jB:jW = .ref cP:=hc;subst jB;refine zkC lk nA S len fun A outer s H vs Q E hr pF=>?_
 obtain⟨t,h,q⟩:=nB cP hK A outer s H vs Q E hr pF;exact⟨t,h.nox,q⟩
structure LamFr (sc:Scope) (x y:Str) (ar:Arguments):Prop where
 kind:sc.kind = .function
 co:sc.isCoroutine=false
 gen:sc.isGenerator=false
 loc:sc.names.lookup x=some .local
 fre:sc.names.lookup y=some .free
 len:sc.names.lookup ("len" : Str)=some NameKind.globalImplicit
 nocell:∀ z∈sc.names,z.2≠.cell
 only:∀ z∈sc.names,z.2 = .free→z.1=y
 bind:∀ (name q:Str) (body:Expr) (cl:List (Str×Addr)) (pm cd ct u:Value),bindArgs (kla_fn name q ar body sc cl pm cd ct) ⟨[u],[]⟩=pure [(x,u)]
 dflt:∀ env,defaultsOf ar env=([],[])
abbrev TKd (P:Program) (w:World):=tupleKind (zam P w)
theorem zbI {P:Program} {w:World} {h h':Heap} {d:Addr} {xs:List (List Key×Addr×Value)} (x:h.DictOfH (TKd P w) d xs) (k:∀ b o,h.get? b=some o→h'.get? b=some o):h'.DictOfH (TKd P w) d xs:=by
 obtain⟨o,es,ep,ho,hx,hd,he,uo,hn⟩:=x;refine⟨o,es,ep,k _ _ ho,hx,hd,he,fun z hz=>?_,hn⟩;obtain⟨o,jx,n,h1,r⟩:=uo z hz;exact⟨o,jx,n,k _ _ h1,r⟩
theorem zdN {P:Program} {w:World} {h h':Heap} {a:Addr} {ks:List Key} (x:(TKd P w).is h ks a) (k:∀ b o,h.get? b=some o→h'.get? b=some o):(TKd P w).is h' ks a:=by
 obtain⟨o,jx,n,h1,r⟩:=x;exact⟨o,jx,n,k _ _ h1,r⟩
theorem zkh {P:Program} {w:World} {A:Around} {s:Shared} {f c' a c d l b:Addr} {name q x y:Str} {ar:Arguments} {sc:Scope} {lS:List (Str×Addr)} {pm oM:Value} {p1 p2 p3 p4 p5:Pos} {mg mb:Str→Option Value} {k:List Key} {xs:List (List Key×Addr×Value)} {jx:Array Value} {Q:Value→Shared→Prop} {E:Value→Shared→Prop}
  (S:LamFr sc x y ar) (hx:(x == ("__debug__" : Str))=false) (hy:(y == ("__debug__" : Str))=false) (uu:(y == ("__classdict__" : Str))=false) (yX:A.depth < recursionLimit) (hu:A.units+9 < cLine) (lim:s.heap.NoLimit)
  (ho:s.heap.get? f=some (kla_obj name q ar (.Call (.Name "len" p1) [.Subscript (.Name y p2) (.Name x p3) p4] [] p5) sc lS pm c' oM)) (nA:s.heap.CodeRec (.ref c') q)
  (hc:lS.lookup y=some c) (ky:s.heap.IsCell c (some (.ref d))) (hg:s.heap.Ns mainGlobals mg) (n4:mg "len" = none) (hb:s.heap.Ns builtinsNs mb) (hmb:mb "len" = some (.builtin "len"))
  (hk:(TKd P w).is s.heap k a) (dd:s.heap.DictOfH (TKd P w) d xs) (hp:atKey xs k=some (b,.ref l)) (hl:s.heap.IsList l jx) (hz:jx.size≤sizeLine)
  (h:∀ (h':Heap) (tk:Nat) (t':Tok),(∀ b o,s.heap.get? b=some o→h'.get? b=some o)→Q (.int jx.size t') { s with heap:=h',toks:=tk }) :
  wpAny (model P w) A (call (.ref f) [.ref a]) Q E s:=by
 refine wpAny_call (kla_callFunE yX ho rfl S.co S.gen rfl nA ?_);rw [S.bind];refine ah (wpAny_newFunctionEnv S.nocell (fun z hz=>?_) (fun h₁ vw kz=>⟨lim.fresh _ kz,?_⟩) S.kind)
 ·have e:z=(x,aO a):=by simpa using hz
  rw [e]; exact S.loc
 have k1:∀ b o,s.heap.get? b=some o→h₁.get? b=some o:=fun b o e=>kz.extBut b o (aT (au e)) (ae _ e)
 refine kla_codeExpr ?_;refine dv (dQ S.kind S.len (fX (hg.keeps k1) n4 (hb.keeps k1) hmb ?_));refine callWith_builtin1 (cW (zgP PySem.F.slot_dict_getitem.lookup (fun _ _=>rfl) (fS (gX S.kind S.fre hc (ky.keeps k1) (fS (eS S.kind S.loc vw (v:=.ref a) ?_ ⟨(zbI dd k1).typeIs,?_⟩) hx) uu) hy))) (by rfl) (by rfl)
 ·simp
 refine iq (knd:=TKd P w) (d8 (by rw [Around.deeper_units]; lia)) (zdN hk k1) (zbI dd k1) hp (dC ?_);have pU:h₁.IsList l jx:=by obtain⟨o,e,r⟩:=hl; exact⟨o,k1 _ _ e,r⟩
 have:=zeD;exact gZ pU #[O] (h _ _ _ k1)
abbrev Kep (h h':Heap):Prop:=∀ b o,h.get? b=some o→h'.get? b=some o
theorem zh2 {P:Program} {w:World} {A:Around} {s:Shared} {h2:Heap} {d I S q:Addr} {es:Array DictEntry} {ep:Nat} {R:Result→Shared→Prop} (kf:Nat→Int) (hh:A.handled=none) (hm:zcN h2 d es ep) (hI:h2.objs.size≤I) (hS:h2.objs.size≤S) (tO:S≠I)
  (turn:∀ (i:Nat) (e:DictEntry),es[i]? = some e→∀ (h:Heap) (tk:Nat),Kep h2 h→wpAny (model P w) A.in1 (call (.ref q) [e.key]) (fun x s'=>∃ h' tP t,x = .int (kf i) t∧s' = { s with heap:=h',toks:=tP }∧Kep h h') (fun _ _=>False) { s with heap:=h,toks:=tk })
  (hR:∀ i e h' tP,es[i]? = some e→(∀ j,j < es.size→kf j≤kf i)→Kep h2 h'→R (.ok (.ret e.key)) { s with heap:=h',toks:=tP }) :
  ∀ (r j i:Nat) (h:Heap) (tk:Nat) (e:DictEntry) (tb:Tok) (c:Nat),es.size - (j+1)=r→j+1≤es.size→Kep h2 h→h.get? S=some (seqObj "list" #[e.key,.int (kf i) tb] c)→h.IsKeyIter I d (j+1) es.size ep→es[i]? = some e→(∀ j',j'≤j→kf j'≤kf i) →
   codeAny (model P w) A (.builtin "max.loop" ⟨[.ref I,.ref q,.ref S],[]⟩) R { s with heap:=h,toks:=tk }:=by
 (have nL:(toString "max"++toString ".loop" : String) = "max.loop":=by decide)
 have old:∀ b o,h2.get? b=some o→b≠I∧b≠S:=fun b o e=>⟨aT (aP (au e) hI),aT (aP (au e) hS)⟩
 intro r;induction r with
 | zero =>
  intro j i h tk e tb c hr hj hk hs hit he hb
  (refine gi eF ?_)
  (rw [fb bY _])
  (show wpAny _ A.in1 (seqItems? (.ref S) >>= _) _ _ _)
  refine aa (bX hs rfl ?_)
  (show wpAny _ A.in1 (tryCatch (pyNext (.ref I)) _ >>= _) _ _ _)
  refine aa (dJ (zgZ (s:={ s with heap:=h,toks:=tk }) hh hit (hm.at' fun o e=>hk _ _ e) #[O] fun h' hx=>?_));have kA:h'.get? S=some (seqObj "list" #[e.key,.int (kf i) tb] c):=hx _ _ tO hs
  (have s1:=bq h' S (cj fun _=>(#[]:Array Value)))
  (show wpAny _ A.in1 (updateSeq S (fun _=>#[]) >>= _) _ _ _)
  refine aa ?_;refine gj kA rfl (aa (dA (ah ?_)));exact hR i e _ _ he (fun j' lE=>hb j' #[O]) fun b o z=>(s1.2 b (old b o z).2).trans (hx _ _ (old b o z).1 (hk b o z))
 | succ r ih =>
  intro j i h tk e tb c hr hj hk hs hit he hb;have jN:j+1 < es.size:=by lia
  (refine gi eF ?_)
  (rw [fb bY _])
  (show wpAny _ A.in1 (seqItems? (.ref S) >>= _) _ _ _)
  refine aa (bX hs rfl ?_)
  (show wpAny _ A.in1 (tryCatch (pyNext (.ref I)) _ >>= _) _ _ _)
  refine aa (dJ (zdF (s:={ s with heap:=h,toks:=tk }) hit (hm.at' fun o e=>hk _ _ e) (getElem?_pos es (j+1) jN) fun h' nJ sb=>?_));have pN:Kep h2 h':=fun b o z=>(sb.2 b (old b o z).1).trans (hk b o z)
  have uq:h'.get? S=some (seqObj "list" #[e.key,.int (kf i) tb] c):=(sb.2 S tO).trans hs;show wpAny _ A.in1 (tryCatch (holding [es[j+1].key] (call (.ref q) [es[j+1].key])) _ >>= _) _ _ _;refine aa (dJ (bP (bH (turn (j+1) _ (getElem?_pos es (j+1) jN) h' tk pN) (fun x sI hx=>?_) fun _ _ hF=>hF.elim)));obtain⟨h3,wZ,t3,rfl,rfl,k3⟩:=hx;have qb:Kep h2 h3:=fun b o z=>k3 _ _ (pN _ _ z)
  have mO:=k3 _ _ uq;have rA:h3.IsKeyIter I d (j+1+1) es.size ep:=nJ.at fun o z=>k3 _ _ z
  show wpAny _ A.in1 (tryCatch (holding [es[j+1].key,.int (kf (j+1)) t3] (richCompare .Gt (.int (kf (j+1)) t3) (.int (kf i) tb) >>= _)) _ >>= _) _ _ _;refine aa (dJ (bP (aa (CmpOf.ints_gt (prog:=P) (w:=w) (A:=A.in1) (P:=fun i v=>∃ t,v = .int (kf i) t) kf (fun i v h=>h) (j+1) i _ _ _ _ _ ⟨t3,rfl⟩ ⟨tb,rfl⟩ ?_))))
  (refine aa (bP (eC ?_)))
  (refine aa (dA (ah ?_)))
  (by_cases pH:kf (j+1) > kf i)
  ·have s1:=bq h3 S (cj fun _=>#[es[j+1].key,.int (kf (j+1)) t3]);obtain⟨c2,yY⟩:∃ c2,(h3.update S (cj fun _=>#[es[j+1].key,.int (kf (j+1)) t3])).get? S=some (seqObj "list" #[es[j+1].key,.int (kf (j+1)) t3] c2):=⟨_,gg mO fun _=>#[es[j+1].key,.int (kf (j+1)) t3]⟩
   (simp only [pH,decide_true,if_true])
   refine aa ?_;refine gj mO rfl (aa (dA ?_));rw [nL];refine ah ⟨fH bY _,ih (j+1) (j+1) _ _ es[j+1] t3 c2 #[O] jN (fun b o z=>(s1.2 b (old b o z).2).trans (qb b o z)) yY (rA.at fun o z=>(s1.2 I tO.symm).trans z) (getElem?_pos es (j+1) jN) fun j' lE=>?_⟩;by_cases e1:j'=j+1
   ·rw [e1]; exact bM _
   ·have:=hb j' #[O];lia
  ·simp only [pH,decide_false,aX,if_false];refine aa (dA ?_);rw [nL];refine ah ⟨fH bY _,ih (j+1) i _ _ e tb c #[O] jN qb mO rA he fun j' lE=>?_⟩;by_cases e1:j'=j+1
   ·rw [e1]; lia
   ·exact hb j' #[O]
theorem zmC {P:Program} {w:World} {A:Around} {s:Shared} {d q:Addr} {es:Array DictEntry} {ep:Nat} {Q E:Value→Shared→Prop} (kf:Nat→Int) (hh:A.handled=none) (hd:(d == sysModules)=false) (hm:zcN s.heap d es ep) (jU:0 < es.size)
  (turn:∀ (i:Nat) (e:DictEntry),es[i]? = some e→∀ (h:Heap) (tk:Nat),Kep s.heap h→wpAny (model P w) A.in1 (call (.ref q) [e.key]) (fun x s'=>∃ h' tP t,x = .int (kf i) t∧s' = { s with heap:=h',toks:=tP }∧Kep h h') (fun _ _=>False) { s with heap:=h,toks:=tk })
  (hQ:∀ i e h' tP,es[i]? = some e→(∀ j,j < es.size→kf j≤kf i)→Kep s.heap h'→Q e.key { s with heap:=h',toks:=tP }) :
  wpAny (model P w) A (call (.builtin "max") [.ref d] [(bd "key",.ref q)]) Q E s:=by
 (have nL:(toString "max"++toString ".loop" : String) = "max.loop":=by decide)
 (refine kmk_tree PySem.F.kind_max PySem.F.plain_max PySem.F.entry_max (kmk_max_key _ _) ?_)
 (show wpAny _ A.in1 (fC "max" ["key","default"] 0 ⟨[],[(bd "key",.ref q)]⟩ >>= _) _ _ s)
 (refine aa (df (show fC "max" ["key","default"] 0 ⟨[],[(bd "key",.ref q)]⟩=pure [some (.ref q),none] from rfl) ?_))
 refine aa (ah ?_);refine aa (zfC hd hm ?_)
 (refine aa (gU ?_ (a8 _)))
 rw [nL]
 (refine ah ⟨fH bY _,?_⟩)
 generalize hI:({ cls:=iW "dict_keyiterator",data:=gl #[.ref d,.int 0 0,.int es.size 0,.int ep 0] }:Obj)=oI;have zS:(s.heap.push oI).objs.size=s.heap.objs.size+1:=size_push' ..;have tO:(s.heap.push oI).objs.size≠s.heap.objs.size:=by rw [zS]; exact cG (fZ _)
 have k0:Kep s.heap ((s.heap.push oI).push (seqObj "list" #[] 0)):=fun b o e=>ae _ (ae _ e)
 have gS:((s.heap.push oI).push (seqObj "list" #[] 0)).get? (s.heap.push oI).objs.size=some (seqObj "list" #[] 0):=aq _ rfl;have gI:((s.heap.push oI).push (seqObj "list" #[] 0)).IsKeyIter s.heap.objs.size d 0 es.size ep:=⟨oI,ae _ (aq _ (by subst hI; rfl)),by subst hI; rfl,by subst hI; rfl⟩;have old:∀ b o,s.heap.get? b=some o→b≠s.heap.objs.size∧b≠(s.heap.push oI).objs.size:=fun b o e=>⟨aT (au e),by rw [zS]; exact aT (da (au e))⟩
 (refine gi eF ?_)
 (rw [fb bY _])
 (show wpAny _ A.in1 (seqItems? (.ref _) >>= _) _ _ _)
 (refine aa (bX gS rfl ?_))
 (show wpAny _ A.in1 (tryCatch (pyNext (.ref s.heap.objs.size)) _ >>= _) _ _ _)
 refine aa (dJ (zdF (s:={ s with heap:=(s.heap.push oI).push (seqObj "list" #[] 0) }) gI (hm.at' fun o e=>k0 _ _ e) (getElem?_pos es 0 jU) fun h' nJ sb=>?_));have pN:Kep s.heap h':=fun b o z=>(sb.2 b (old b o z).1).trans (k0 b o z)
 have uq:=(sb.2 _ tO).trans gS;show wpAny _ A.in1 (tryCatch (holding [es[0].key] (call (.ref q) [es[0].key])) _ >>= _) _ _ _;refine aa (dJ (bP (bH (turn 0 _ (getElem?_pos es 0 jU) h' _ pN) (fun x sI hx=>?_) fun _ _ hF=>hF.elim)));obtain⟨h3,wZ,t3,rfl,rfl,k3⟩:=hx;have mO:=k3 _ _ uq;have rA:h3.IsKeyIter s.heap.objs.size d (0+1) es.size ep:=nJ.at fun o z=>k3 _ _ z
 have s1:=bq h3 (s.heap.push oI).objs.size (cj fun _=>#[es[0].key,.int (kf 0) t3]);obtain⟨c2,yY⟩:∃ c2,(h3.update (s.heap.push oI).objs.size (cj fun _=>#[es[0].key,.int (kf 0) t3])).get? (s.heap.push oI).objs.size=some (seqObj "list" #[es[0].key,.int (kf 0) t3] c2):=⟨_,gg mO fun _=>#[es[0].key,.int (kf 0) t3]⟩;show wpAny _ A.in1 (updateSeq (s.heap.push oI).objs.size (fun _=>#[es[0].key,.int (kf 0) t3]) >>= _) _ _ _;refine aa ?_;refine gj mO rfl ?_;rw [nL];refine ah ⟨fH bY _,zh2 kf hh hm (ag _) (by rw [zS]; exact fu _) tO turn hQ _ 0 0 _ _ es[0] t3 c2 rfl jU (fun b o z=>(s1.2 b (old b o z).2).trans (k3 _ _ (pN b o z))) yY (rA.at fun o z=>(s1.2 _ tO.symm).trans z) (getElem?_pos es 0 jU) fun j' lE=>?_⟩;have e:j'=0:=by lia
 rw [e]; exact bM _
theorem zh3 {prog:Program} {w:World} {K:Type} [DecidableEq K] {knd:HeapKind prog w K} {A:Around} {E:Value→Shared→Prop} {s:Shared} {d a:Addr} {xs:List (K×Addr×Value)} {k:K} {v:Value} {Q:Value→Shared→Prop} (hu:knd.room A) (k6:knd.is s.heap k a) (hm:s.heap.DictOfH knd d xs) (hsz:xs.length≤sizeLine)
  (h1:∀ p,atKey xs k=some p→Q p.2 { s with toks:=s.toks+knd.draws k })
  (h2:atKey xs k=none→∀ h',h'.DictOfH knd d (xs++[(k,a,v)])→aW d s.heap h'→Q v { s with heap:=h',toks:=s.toks+knd.draws k }):wpAny (model prog w) A (dictSetDefault d (.ref a) v) Q E s:=by
 (obtain⟨o,es,ep,ho,hc,hd,he,uo,hn⟩:=hm)
 unfold dictSetDefault;refine bP (aa (knd.pyHash hu k6 ?_));refine aa (wpAny_dictFind_heap (s:={ s with toks:=s.toks+knd.draws k }) hu k6 ho hd he uo hn (fun hno=>?_) fun j p hj=>?_)
 ·have e0:=atKey_none_of_get hno;have e1:=storedH_new (a:=a) (v:=v) e0;refine aa (bS (aa (wpAny_updateDictKeys (hz:=by have e:=size_of_entries he; lia) (s:={ s with toks:=s.toks+knd.draws k }) ho hd (ah (h2 e0 _ ⟨_,_,ep+1,cY _ ho (Obj.isFreed_of_dict (gN hd _)),hc.mapDictKeys _,gN hd _,?_,fun x hx=>?_,?_⟩ (bq ..))))))
  ·simp [he,entryOfKey]
  ·rcases aM.mp hx with hx | hx
   ·exact (knd.keeps (uo x hx) ho hd (bq ..) :)
   ·obtain rfl:=aH.mp hx;exact (knd.keeps k6 ho hd (bq ..) :)
  ·rw [aD];refine db.mpr ⟨hn,#[M],fun x hx y hy e=>not_mem_keys_of_get hno ?_⟩;have sN:y=k:=by simpa using hy
   rw [← sN,← e]; exact hx
 ·have e0:=atKey_of_get hn hj
  (refine aa (eE (s:={ s with toks:=s.toks+knd.draws k }) ho hd ?_))
  rw [entry_at he j,hj];exact aa (bS (ah (h1 p e0)))
theorem zgl {prog:Program} {w:World} {K:Type} [DecidableEq K] (knd:HeapKind prog w K) (d a:Addr) (hd:(d == sysModules)=false) (v:Value) :
  MeetsIn prog w (Builtin.«dict.setdefault» ⟨[.ref d,.ref a,v],[]⟩) (fun A R s=>knd.room A.in1∧∃ k xs,knd.is s.heap k a∧s.heap.DictOfH knd d xs∧xs.length≤sizeLine ∧
   (∀ p,atKey xs k=some p→R (.ok (.ret p.2)) { s with toks:=s.toks+knd.draws k }) ∧
   (atKey xs k=none→∀ h',h'.DictOfH knd d (xs++[(k,a,v)])→aW d s.heap h'→R (.ok (.ret v)) { s with heap:=h',toks:=s.toks+knd.draws k })) :=
 .of_wp fun A R s ⟨hu,k,xs,k6,hm,hz,h1,h2⟩=>by
  (unfold Builtin.«dict.setdefault»)
  refine aa ?_
  (unfold Builtin.Dict.keyAndDefault)
  (refine aa (gE hm.typeIs ?_))
  show wpAny _ _ (pure (d,aO a,some v)) _ _ s;refine ah ?_;show wpAny _ _ (if (d == sysModules)=true then _ else (dictSetDefault d (.ref a) v >>= _)) _ _ s
  (rw [if_neg (by rw [hd]; exact aQ)])
  exact aa (zh3 hu k6 hm hz (fun p hp=>ah ⟨p.2,rfl,h1 p hp⟩) fun hn h' uO kA=>ah ⟨v,rfl,h2 hn h' uO kA⟩)
def zlz (td ty tx:TE):TE:=fun σ H Q=>td σ H fun x H1=>∃ a,x = .ref a∧IsD H1 a∧ty σ H1 fun y H2=>tx σ H2 fun z H3=>∃ jw k b,H3 a=some (.dT jw)∧y = .ref b∧H3 b=some (.tup (k.map kV))∧jw.length < sizeLine ∧
 ∃ R:V→Hp→Prop,(∀ v,za6 jw k=some v→R v H3)∧(za6 jw k=none→R z (jA H3 a (.dT (jw++[(k,z)]))))∧∀ v H',R v H'→Q v H'
theorem zjl {X:Cx} {o e f:Expr} {apos j5:Pos} {td ty tx:TE} (hu:X.A.units+1 < cLine) (ho:PE X o td) (he:PE X e ty) (hf:PE X f tx) (m:M2 X o "setdefault" apos e f j5):PE X (.Call (.Attribute o "setdefault" apos) [e,f] [] j5) (zlz td ty tx):=by
 intro jv s σ H Q I h;refine wpAny_Call_method m.base m.few m.line PySem.F.plainAttrs_dict ft PySem.F.type_dict_setdefault (thn (ho jv s σ H _ I h) fun u s1 ⟨x,H1,I1,rx,a,ex,d,q1⟩=>?_);subst ex;obtain rfl:u=aO a:=rx;obtain⟨t1,t2,_⟩:=zlo I1 d;refine⟨t1,t2,?_⟩;rw [m.trees];refine gr rfl (gJ (cW (thn (he jv s1 σ H1 _ I1 q1) fun iv s2 ⟨y,H2,I2,ry,q2⟩=>cW (thn (hf jv s2 σ H2 _ I2 q2) fun fv s3 ⟨z,H3,I3,rz,jw,k,b,hd,ey,hb,hl,R,q3,q4,q5⟩=>dC ?_))));subst ey;obtain rfl:iv=aO b:=ry;obtain⟨hz,pK,xs,rel,dd⟩:=ziX I3.hok hd;have hzx:xs.length≤sizeLine:=by rw [← dP rel]; exact hz
 refine call_meetsIn ft dd.typeIs PySem.F.entry_dict_setdefault (PySem.F.args_dict_setdefault_3 _ _ _) (zgl (tupleKind (zam X.prog X.w)) a b pK fv) ⟨d8 hu,k,xs,zdB I3.hok hb,dd,hzx,fun p hp=>?_,fun hn h' uk kA=>?_⟩
 ·have rv:=rel.val k;rw [hp] at rv;cases ev:za6 jw k with
  | none=>rw [ev] at rv; exact (rv.elim :)
  | some v=>rw [ev] at rv; exact⟨v,H3,I3.tok _,rv,q5 _ _ (q3 v ev)⟩
 ·have rv:=rel.val k;rw [hn] at rv;cases ev:za6 jw k with
  | some v=>rw [ev] at rv; exact (rv.elim :)
  | none =>
   have rB:=rel.put k hb rz;rw [ziV z ev,storedH_new hn] at rB;obtain⟨q,es,ep,hq,h2,h3,h4,_,h5⟩:=uk;exact⟨z,_,zeQ (ob:=.dT (jw++[(k,z)])) I3 (by rw [hd]; exact fU) kA ⟨q,hq⟩ ⟨by rw [av]; exact hl,pK,_,rB.keeps fun c ys e=>by rw [zm (zkx e hd (by intro z; cases z))]; exact e,q,es,ep,hq,h2,h3,h4,h5⟩,rz,q5 _ _ (q4 ev)⟩
def zmd (P:Addr) (pos:Pos) (q:Str) (i:Nat) (te:TE):TE:=fun σ H Q=>te σ H fun v H1=>∃ (d:Addr) (jw:List (List Key×V)),v = .ref d∧σ[i]? = some (some (.ref d))∧H1 d=some (.dT jw)∧jw≠[]∧(∀ kv∈jw,∃ l xs,kv.2 = .ref l∧H1 l=some (.lst xs))∧TbI P pos q H1 ∧
 ∀ (b:Addr) (k:List Key) (l:Addr) (xs:List V) (H2:Hp),(k,V.ref l)∈jw→H1 l=some (.lst xs)→(∀ kv∈jw,∀ l' uw,kv.2 = .ref l'→H1 l'=some (.lst uw)→uw.length≤xs.length)→H2 b=some (.tup (k.map kV)) →
  (∀ b,b≠P→∀ o,H1 b=some o→H2 b=some o)→TbI P pos q H2→Q (.ref b) H2
theorem zcn {α β:Type} {F:α→β→Prop}:∀ {l₁:List α} {l₂:List β},Paired F l₁ l₂→∀ {i:Nat} {b:β},l₂[i]? = some b→∃ a,l₁[i]? = some a∧F a b
 | _,_,.nil,i,b,h=>by simp at h
 | _,_,.cons r t,0,b,h=>by
  (simp only [eB,fQ] at h)
  subst h;exact⟨_,rfl,r⟩
 | _,_,.cons r t,i+1,b,h=>by
  rw [cm] at h;obtain⟨a,h1,h2⟩:=zcn t h;exact⟨a,by rw [cm]; exact h1,h2⟩
theorem zki {X:Cx} {P c:Addr} {e:Expr} {te:TE} {x y:Str} {ar:Arguments} {sc:Scope} {p pos kp lp p1 p2 p3 p4 p5:Pos} {i:Nat} (oK:X.env.code = .ref c) (hK:codeHdIn X.K c P=true) (hB:zd5 X.mg X.base) (S:LamFr sc x y ar)
  (yZ:X.env.kindOf y=some .cell) (hyN:X.N[i]? = some y) (vB:X.calm=true) (yX:X.A.depth < recursionLimit) (hu:X.A.units+20 < cLine) (hg:Gl X "max") (hm:X.mg "max" = none) (ux:X.mg "len" = none) (he:PE X e te)
  (hx:(x == ("__debug__" : Str))=false:=by decide) (hy:(y == ("__debug__" : Str))=false:=by decide) (uu:(y == ("__classdict__" : Str))=false:=by decide)
  (ml:backTo pos (starEach [e] X.env) = [(false,eval e X.env)]:=by rfl) :
  PE X (.Call (.Name "max" p) [e] [⟨some "key",.Lambda ar (.Call (.Name "len" p1) [.Subscript (.Name y p2) (.Name x p3) p4] [] p5) sc lp,kp⟩] pos) (zmd P lp (X.env.qual++"<lambda>") i te):=by
 intro jv s σ H Q I h;refine dv (zbj I hg hm boot_max ?_);refine callWith_kw ?_ (by rw [ml]; rfl) (by rw [ml]; rfl);rw [ml];refine cW (thn (he jv s σ H _ I h) fun v s1 ⟨z,H1,I1,r1,d,jw,ey,nW,hd,jU,hls,hT,q1⟩=>?_);subst ey;obtain rfl:v=aO d:=r1;have nv:∀ z∈sc.names,z.2 = .free→∃ c,X.env.cells.lookup z.1=some c:=fun z hz hf=>by
  rw [S.only z hz hf]; exact I1.ok.has y (.inl yZ)
 have nV:=zbk nv;refine dC (kws_cons (kla_eval (S.dflt _) (zjj I1 oK hK hB nV hT fun f c' oM H2 h2 tk I2 s2 qQ hf tL hfs uc hfL=>kws_nil ?_)));show wpAny _ _ (call (.builtin "max") [.ref d] [(bd "key",.ref f)]) _ _ _;have neP:∀ b o,H1 b=some o→(∀ ps,o≠.tbl ps)→b≠P:=fun b o e1 nt z=>by
  obtain⟨ps,hP,_⟩:=hT;rw [z,hP] at e1;exact nt ps (aN e1).symm
 have hd2:=s2 d (neP d _ hd (fun _ z=>by cases z)) _ hd;obtain⟨m,vw,y4⟩:=id I2.loc;obtain⟨u,ru,lk⟩:=y4 i y (.ref d) hyN nW (.inr (.inl yZ));obtain rfl:u=aO d:=ru;rcases lk with ⟨hk,_⟩ | ⟨_,cc,j9,ky⟩
 ·rw [yZ] at hk; cases hk
 have y6:(zV X.env.cells sc.names []).lookup y=some cc:=by
  obtain⟨c1,e1⟩:=zbb (cs:=X.env.cells) sc.names [] y (.inr (lookup_mem S.fre));have e2:=za0 sc.names [] nv (fun x c z=>by simp at z) y c1 e1;rw [j9] at e2;cases e2;exact e1
 obtain⟨hz,pK,xs,rel,o,es,ep,ho,hxd,hed,sg,oJ⟩:=I2.hok d _ hd2;obtain⟨_,_,uw,rB,dd⟩:=ziX I2.hok hd2;have hxe:uw=xs:=by
  obtain⟨o',qH,wA,pP,_,qS,qL,_⟩:=dd;have sd:h2.get? d=some o:=ho;have:h2.get? d=some o':=pP;rw [sd] at this;cases this;rw [hed] at qS;cases qS;rw [sg] at qL;have inj:∀ {l m:List (List Key×Addr×Value)},KT H2 jw l→KT H2 jw m→l.map (entryOfKey (TKd X.prog X.w))=m.map (entryOfKey (TKd X.prog X.w))→m=l:=by
   generalize jw=ks;intro l m a;induction a generalizing m with
   | nil=>intro b _; cases b; rfl
   | cons h1 _ ih =>
    intro b e;cases b with
    | cons h2 t2 =>
     rw [aS,aS] at e;injection e with e1 e2
     rw [ih t2 e2];congr 1;unfold entryOfKey at e1;injection e1 with _ e3 e4
     injection e3 with e3
     exact iT (h2.1.symm.trans h1.1) (iT e3.symm e4.symm)
  exact inj rel rB qL
 subst hxe;have jE:=dP rel;have hsz:es.size=jw.length:=by
  have:=congrArg cF sg;rw [ab,bv] at this;lia
 have ent:∀ (j:Nat) (e:DictEntry),es[j]? = some e→∃ k a l ys,jw[j]? = some (k,V.ref l)∧e.key = .ref a∧atKey uw k=some (a,.ref l)∧H2 a=some (.tup (k.map kV))∧H1 l=some (.lst ys):=fun j e hj=>by
  have h':es.toList[j]? = some e:=by rw [aY]; exact hj
  rw [sg,am] at h';cases qK:uw[j]? with
  | none=>rw [qK] at h'; cases h'
  | some q =>
   rw [qK] at h';have qL:e=entryOfKey (TKd X.prog X.w) q:=(aN h').symm;obtain⟨⟨k,vv⟩,e1,e2,e3,e4⟩:=zcn rel qK;obtain⟨l,ys,el,hl⟩:=hls _ (aJ e1);obtain⟨qk,qa,qv⟩:=q;have qJ:k=qk:=e2;have y8:vv=V.ref l:=el;subst qJ y8;obtain rfl:qv=aO l:=e4;exact⟨k,qa,l,ys,e1,by rw [qL]; rfl,atKey_of_get oJ qK,e3,hl⟩
 have hw:∃ g:Nat→Int,∀ j k l ys,jw[j]? = some (k,V.ref l)→H1 l=some (.lst ys)→g j=ys.length:=by
  refine⟨fun j=>match jw[j]? with | some (_,.ref l)=>(match H1 l with | some (.lst ys)=>ys.length | _=>0) | _=>0,fun j k l ys h1 h2=>?_⟩;simp only [h1,h2]
 obtain⟨g,y9⟩:=hw;have Aa:=I2.nolimit;obtain⟨mb,nH,p8⟩:=I2.mod.blt;refine zmC (es:=es) (ep:=ep) (s:={ s1 with heap:=h2,toks:=tk }) g (I2.ok.hd vB) pK ⟨o,ho,hxd,hed⟩ (by rw [hsz]; exact List.length_pos_iff.mpr jU) (fun j e hj h3 wZ k3=>?_) fun j e h3 wZ hj vC k3=>?_
 ·obtain⟨k,a,l,ys,e1,e2,e3,e4,e5⟩:=ent j e hj;have mV:=s2 l (neP l _ e5 (fun _ z=>by cases z)) _ e5;obtain⟨jx,rv,pl,su⟩:=I2.list (jy.of mV);rw [e2];have Ab:h2.IsList l jx.toArray:=pl.isList;have Ac:h3.IsList l jx.toArray:=by obtain⟨o,e,r⟩:=Ab; exact⟨o,k3 _ _ e,r⟩
  have vD:=rv.length;refine zkh (s:={ s1 with heap:=h3,toks:=wZ }) (jx:=jx.toArray) S hx hy uu yX (by simp only [cA]; lia) (Aa.keeps k3) (k3 f _ hf) (tL.keeps k3) y6 (ky.keeps k3) ((I2.mod.glob.keeps I2.bk).keeps k3) ux ((nH.keeps I2.bk).keeps k3) ((p8 _ #[D]).trans bU) (zdN (zdB I2.hok e4) k3) (zbI dd k3) e3 Ac (by rw [ao]; lia) fun h4 tk4 t4 k4=>?_
  exact⟨h4,tk4,t4,by rw [y9 j k l ys e1 e5,ao,← vD],rfl,k4⟩
 ·obtain⟨k,a,l,ys,e1,e2,e3,e4,e5⟩:=ent j e hj;refine⟨.ref a,H2,I2.kept k3,by rw [e2]; rfl,?_⟩;refine q1 a k l ys H2 (aJ e1) e5 (fun kv hkv l' Ad el qT=>?_) e4 s2 qQ;obtain⟨j',lE⟩:=cN hkv;have jN:j' < jw.length:=(aG.mp lE).1;obtain⟨k',v'⟩:=kv;have y8:v'=V.ref l':=el;subst y8;have:=vC j' #[O];rw [y9 j k l ys e1 e5,y9 j' k' l' Ad lE qT] at this;lia
def zmD (K:af):R2:=fun x y H Q=>∃ p xs i z,x = .ref p∧y = .int i∧(jy K H p xs∨jI K H p xs)∧atI xs i=some z∧Q z H
theorem zmE {X:Cx} {K:af} (hK:X.K=K):IxR X (zmD K):=by
 subst hK;intro value slice jv s σ H x y v u Q I rx ry h hs;obtain⟨p,xs,i,z,h1,h2,h3,h4,h5⟩:=h;rcases h3 with h3 | h3
 ·exact zB value slice jv s σ H x y v u Q I rx ry ⟨p,xs,i,z,h1,h2,h3,h4,h5⟩ hs
 ·exact zcH value slice jv s σ H x y v u Q I rx ry ⟨p,xs,i,z,h1,h2,h3,h4,h5⟩ hs
theorem zd6 {X:Cx} {K:af} (hK:X.K=K):zbn X (.type "list") (fun xs H Q=>∃ p ys,xs = [V.ref p]∧(jy K H p ys∨jI K H p ys)∧∀ (l:Addr),H l=none→Q (V.ref l) (jA H l (HO.lst ys))):=by
 subst hK; exact zeG
end L2
namespace My
open PySem L2 PyProof.Rows
def van (p:Int) (rs:List Int):List Int:=rs.foldl (fun c r=>zbf p r c) [1]
theorem zjm (p:Int) (rs:List Int) (r:Int):van p (rs++[r])=zbf p r (van p rs):=by
 unfold van; rw [fR]; rfl
theorem zfP (p:Int):∀ (rs v:List Int),(rs.foldl (fun c r=>zbf p r c) v).length=v.length+rs.length
 | [],v=>rfl
 | r :: rs,v=>by
  rw [dY,zfP p rs,zcL,bT];lia
theorem zb6 (p:Int) (rs:List Int):(van p rs).length=rs.length+1:=by
 unfold van; rw [zfP,cB]; lia
theorem zjn {p r z:Int} (v:List Int):Cg p (zj p z (zbf p r v)) ((z - r)*zj p z v):=(ziH (p:=p) (r:=r) (z:=z) v 0).trans (Cg.of_eq #[O])
theorem zeB {p x:Int}:∀ (rs v:List Int),(Cg p (zj p x v) 0∨x∈rs)→Cg p (zj p x (rs.foldl (fun c r=>zbf p r c) v)) 0
 | [],v,h=>h.elim id fun e=>by cases e
 | r :: rs,v,h=>by
  rw [dY];refine zeB rs _ ?_;rcases h with h | h
  ·exact .inl ((zjn v).trans (((Cg.refl p (x - r)).mul h).trans (Cg.of_eq #[O])))
  ·rcases aA.mp h with e | e
   ·left;refine (zjn v).trans (Cg.of_eq ?_);rw [e];have:r - r=0:=by lia
    rw [this]; lia
   ·exact .inr e
theorem zjo {p x:Int} {rs:List Int} (h:x∈rs):Cg p (zj p x (van p rs)) 0:=zeB rs _ (.inr h)
theorem zfQ {p x:Int}:∀ (a b:List Int),Cg p (zj p x (a++b)) (zj p x a+zj p x (aE a.length 0++b))
 | [],b=>Cg.of_eq (by show zj p x b=0+zj p x b; lia)
 | c :: a,b=>by
  have h1:=zI p x c (a++b);have h2:=zI p x c a;have h3:=zI p x 0 (aE a.length 0++b);have ih:=zfQ (p:=p) (x:=x) a b;refine h1.trans (((Cg.refl p c).add ((Cg.refl p x).mul ih)).trans (Cg.symm ((h2.add h3).trans (Cg.of_eq ?_))));grind
def ngP (p:Int) (low:List Int):List Int:=low.map fun c=>-c % p
theorem zhc {p x:Int}:∀ (a:List Int),Cg p (zj p x (ngP p a)) (- zj p x a)
 | []=>Cg.of_eq (by show (0:Int) = -0; lia)
 | c :: a=>by
  have h1:=zI p x (-c % p) (ngP p a);have h2:=zI p x c a;have ih:=zhc (p:=p) (x:=x) a;refine h1.trans (((Cg.emod p (-c)).add ((Cg.refl p x).mul ih)).trans (Cg.symm ?_));have h3:=(Cg.refl p 0).sub h2;exact (Cg.of_eq #[O]).trans (h3.trans (Cg.of_eq (by grind)))
theorem zgm {p:Int} {k:Nat} {low:List Int} (hp:0 < p) (hl:low.length=k):IsP p k (ngP p low):=⟨by unfold ngP; rw [ab]; exact hl,fun c hc=>by
 obtain⟨d,_,rfl⟩:=aI.mp hc;exact⟨aK _ #[O],aC _ hp⟩⟩
def rowOf (p:Int) (k:Nat) (high pl:List Int):List Int:=pl.map fun x=>zj p x (aE k 0++high)
theorem zkj {p x:Int} (hp:0 < p) {rs low high:List Int} {k:Nat} (he:van p rs=low++high) (hl:low.length=k) (hx:x∈rs):zj p x (ngP p low)=zj p x (aE k 0++high):=by
 have h0:=zjo (p:=p) hx;rw [he] at h0;have h1:=(zfQ (p:=p) (x:=x) low high).symm.trans h0;rw [hl] at h1;have h2:Cg p (zj p x (ngP p low)) (zj p x (aE k 0++high)):=by
  refine (zhc low).trans ?_;have h3:=(Cg.refl p (zj p x (aE k 0++high))).sub h1;exact (Cg.of_eq #[O]).trans (h3.trans (Cg.of_eq #[O]))
 exact h2.eq (zaO hp _) (zaP hp _) (zaO hp _) (zaP hp _)
theorem zhd:∀ (pl rw:List Int),jS pl (rw.map some)=pl.zip rw
 | [],_=>by unfold jS; simp
 | a :: pl,[]=>by unfold jS; simp
 | a :: pl,b :: rw=>by
  show (a,b) :: jS pl (rw.map some)=_;rw [zhd pl rw]; rfl
theorem zhe {p:Int} {k:Nat} {high:List Int}:∀ (pl:List Int),pl.zip (rowOf p k high pl)=pl.map fun x=>(x,zj p x (aE k 0++high))
 | []=>rfl
 | a :: pl=>by
  show (a,_) :: pl.zip (rowOf p k high pl)=_;rw [zhe pl]; rfl
theorem zh4 {p:Int} (hp:0 < p) {rs low high pl:List Int} {k:Nat} (he:van p rs=low++high) (hl:low.length=k) (hs:rs.Sublist pl):rs.length≤hits p (ngP p low) (jS pl ((rowOf p k high pl).map some)):=by
 rw [zhd,zhe];unfold hits;rw [jd,ab];have h1:=hs.filter (hit p (ngP p low) ∘ fun x=>(x,zj p x (aE k 0++high)));have h2:rs.filter (hit p (ngP p low) ∘ fun x=>(x,zj p x (aE k 0++high)))=rs:=List.filter_eq_self.mpr fun x hx=>by
  show decide (zj p x (ngP p low)=_)=true;exact decide_eq_true (zkj hp he hl hx)
 rw [h2] at h1;exact h1.length_le
abbrev Gt:=List (List Int×List (List Int))
def zd7 (G:Gt) (key low:List Int):Gt:=if key∈G.map (·.1) then G.map (fun g=>if g.1=key then (g.1,g.2++[low]) else g) else G++[(key,[low])]
def Gof (k:Nat) (vs:List (List Int)):Gt:=vs.foldl (fun G v=>zd7 G (v.drop k) (v.take k)) []
theorem zbv (k:Nat) (vs:List (List Int)) (v:List Int):Gof k (vs++[v])=zd7 (Gof k vs) (v.drop k) (v.take k):=by
 unfold Gof; rw [fR]; rfl
theorem zkk {G:Gt} {key low:List Int}:∀ g∈zd7 G key low,∀ l∈g.2,(∃ g'∈G,g'.1=g.1∧l∈g'.2)∨(g.1=key∧l=low):=by
 intro g hg l hl;unfold zd7 at hg;split at hg
 ·obtain⟨g',h1,h2⟩:=aI.mp hg;split at h2
  ·rename_i e
   subst h2;rcases aM.mp hl with h | h
   ·exact .inl ⟨g',h1,rfl,h⟩
   ·exact .inr ⟨e,aH.mp h⟩
  ·subst h2;exact .inl ⟨g',h1,rfl,hl⟩
 ·rcases aM.mp hg with h | h
  ·exact .inl ⟨g,h,rfl,hl⟩
  ·rw [aH.mp h] at hl ⊢;exact .inr ⟨rfl,aH.mp hl⟩
theorem zcA {k:Nat}:∀ (n:Nat) (vs:List (List Int)),vs.length=n→∀ g∈Gof k vs,∀ l∈g.2,∃ v∈vs,l=v.take k∧g.1=v.drop k
 | 0,vs,hn,g,hg,l,hl=>by
  rw [bR] at hn;subst hn;cases hg
 | n+1,vs,hn,g,hg,l,hl=>by
  have jU:vs≠[]:=fun e=>by rw [e] at hn; cases hn
  rw [← ck jU,zbv] at hg;rcases zkk g hg l hl with ⟨g',h1,h2,h3⟩ | ⟨h1,h2⟩
  ·obtain⟨v,e1,e2,e3⟩:=zcA n vs.dropLast (by rw [dO]; lia) g' h1 l h3;exact⟨v,List.dropLast_subset _ e1,e2,h2 ▸ e3⟩
  ·exact⟨_,List.getLast_mem jU,h2,h1⟩
theorem zlA (G:Gt) (key low:List Int):zd7 G key low≠[]:=by
 unfold zd7;split
 ·rename_i h
  intro e
  (rw [hX.mp e] at h)
  cases h
 ·intro e;have:=congrArg cF e;rw [av] at this;simp at this
theorem zlB {k:Nat} {vs:List (List Int)} (h:vs≠[]):Gof k vs≠[]:=by
 rw [← ck h,zbv];exact zlA _ _ _
theorem zh5 {G:Gt} {key low:List Int} (h:(G.map (·.1)).Nodup):((zd7 G key low).map (·.1)).Nodup:=by
 unfold zd7;split
 ·have:(G.map (fun g=>if g.1=key then (g.1,g.2++[low]) else g)).map (·.1)=G.map (·.1):=by
   rw [bn];refine bO fun g _=>?_
   show (if g.1=key then (g.1,g.2++[low]) else g).1=g.1;split <;> rfl
  rw [this]; exact h
 ·rename_i hn
  rw [aD];refine db.mpr ⟨h,#[M],fun a ha b hb e=>hn ?_⟩;have pH:b=key:=by simpa using hb
  rw [← pH,← e]; exact ha
theorem zlC {α:Type} {xs:List α} {m:Nat} (h:m≤xs.length):(chs xs m).map (·.2)≠[]:=fun e=>by
 have:xs.take m∈(chs xs m).map (·.2):=zb4.mpr ⟨bZ _ _,by rw [aF]; lia⟩;rw [e] at this;cases this
def sgm (f:Nat→Nat):Nat→Nat
 | 0=>0
 | n+1=>sgm f n+f n
def b01 (g:Nat→Bool) (x:Nat):Nat:=if g x then 1 else 0
def cnq (n:Nat) (g:Nat→Bool):Nat:=sgm (b01 g) n
theorem zbJ (g:Nat→Bool):∀ n,cnq n g=((br n).filter g).length
 | 0=>rfl
 | n+1=>by
  rw [jb,cf,av,← zbJ g n];show sgm (b01 g) n+b01 g n=_;unfold b01 cnq;cases h:g n <;> simp [h] <;> rfl
def cvr (ss:List (Nat→Bool)) (x:Nat):Nat:=(ss.map fun g=>b01 g x).sum
theorem zb7 (f g:Nat→Nat):∀ n,sgm (fun x=>f x+g x) n=sgm f n+sgm g n
 | 0=>rfl
 | n+1=>by
  show sgm (fun x=>f x+g x) n+(f n+g n)=sgm f n+f n+(sgm g n+g n);rw [zb7 f g n]; lia
theorem zfR {f g:Nat→Nat} (h:∀ x,f x≤g x):∀ n,sgm f n≤sgm g n
 | 0=>ag _
 | n+1=>Nat.add_le_add (zfR h n) (h n)
theorem zcB:∀ n,sgm (fun _=>0) n=0
 | 0=>rfl
 | n+1=>by show sgm (fun _=>0) n+0=0; rw [zcB n]
theorem zaW {f g:Nat→Nat} (h:∀ x,f x=g x) (n:Nat):sgm f n=sgm g n:=by
 rw [show f=g from funext h]
theorem zkl (g h:Nat→Bool) (x:Nat):b01 g x*b01 h x=b01 (fun x=>g x && h x) x:=by
 unfold b01;cases e1:g x <;> cases e2:h x <;> simp [e1,e2]
theorem zhf {n c:Nat} (a:Nat→Bool):∀ (ss:List (Nat→Bool)),(∀ g∈ss,cnq n (fun x=>a x && g x)≤c)→sgm (fun x=>b01 a x*cvr ss x) n≤ss.length*c
 | [],_=>by
  rw [zaW (g:=fun _=>0) (fun x=>by show b01 a x*0=0; rw [Nat.mul_zero]),zcB];exact a8 _
 | g :: ss,h=>by
  have e:∀ x,b01 a x*cvr (g :: ss) x=b01 (fun x=>a x && g x) x+b01 a x*cvr ss x:=fun x=>by
   show b01 a x*(b01 g x+cvr ss x)=_;rw [Nat.mul_add,zkl]
  rw [zaW e,zb7,bT,Nat.add_mul,Nat.one_mul];have h1:=h g aB;have h2:=zhf a ss fun g hg=>h g (aj _ hg)
  unfold cnq at h1;lia
theorem zhg {n few:Nat}:∀ (ss:List (Nat→Bool)),(∀ g∈ss,cnq n g=few)→sgm (cvr ss) n=ss.length*few
 | [],_=>by
  rw [zaW (f:=cvr []) (g:=fun _=>0) (fun x=>rfl),zcB,cZ,Nat.zero_mul]
 | g :: ss,h=>by
  rw [zaW (f:=cvr (g :: ss)) (g:=fun x=>b01 g x+cvr ss x) (fun x=>rfl),zb7,zhg ss fun g hg=>h g (aj _ hg),bT,Nat.add_mul,Nat.one_mul];have:=h g aB;unfold cnq at this;lia
theorem zjp {n few c:Nat}:∀ (ss:List (Nat→Bool)),(∀ g∈ss,cnq n g=few)→ss.Pairwise (fun g h=>cnq n (fun x=>g x && h x)≤c)→sgm (fun x=>cvr ss x*cvr ss x) n+ss.length*c≤ss.length*few+ss.length*ss.length*c
 | [],_,_=>by
  rw [zaW (f:=fun x=>cvr [] x*cvr [] x) (g:=fun _=>0) (fun x=>rfl),zcB];simp
 | g :: ss,h,hp=>by
  (obtain⟨h1,h2⟩:=List.pairwise_cons.mp hp)
  have e:∀ x,cvr (g :: ss) x*cvr (g :: ss) x=b01 g x+2*(b01 g x*cvr ss x)+cvr ss x*cvr ss x:=fun x=>by
   show (b01 g x+cvr ss x)*(b01 g x+cvr ss x)=_;have:b01 g x*b01 g x=b01 g x:=by unfold b01; cases g x <;> rfl
   grind
  have e2:∀ n,sgm (fun x=>2*(b01 g x*cvr ss x)) n=2*sgm (fun x=>b01 g x*cvr ss x) n:=by
   intro n;rw [zaW (g:=fun x=>b01 g x*cvr ss x+b01 g x*cvr ss x) (fun x=>by lia),zb7];lia
  rw [zaW e,zb7,zb7,e2,bT];have i1:=zhf (n:=n) g ss h1;have i2:=zjp (n:=n) ss (fun g hg=>h g (aj _ hg)) h2;have i3:=h g aB;unfold cnq at i3;rw [i3];generalize sgm (fun x=>b01 g x*cvr ss x) n=A at i1 ⊢;generalize sgm (fun x=>cvr ss x*cvr ss x) n=B at i2 ⊢;generalize ss.length=L at i1 i2 ⊢;have z1:(L+1)*c=L*c+c:=by grind
  have z2:(L+1)*few=L*few+few:=by grind
  have z3:(L+1)*(L+1)*c=L*L*c+2*(L*c)+c:=by grind
  rw [z1,z2,z3];lia
theorem zlD (a b:Nat):2*(a*b)≤a*a+b*b:=by
 rcases Nat.le_total a b with h | h
 ·obtain⟨d,rfl⟩:=jt h;have:a*a+(a+d)*(a+d)=2*(a*(a+d))+d*d:=by grind
  lia
 ·obtain⟨d,rfl⟩:=jt h;have:(b+d)*(b+d)+b*b=2*((b+d)*b)+d*d:=by grind
  lia
theorem zhh (f:Nat→Nat) (a:Nat):∀ n,2*(a*sgm f n)≤sgm (fun x=>f x*f x) n+n*(a*a)
 | 0=>by show 2*(a*0)≤_; lia
 | n+1=>by
  have h:=zhh f a n;have h2:=zlD a (f n);show 2*(a*(sgm f n+f n))≤sgm (fun x=>f x*f x) n+f n*f n+(n+1)*(a*a);have e1:a*(sgm f n+f n)=a*sgm f n+a*f n:=Nat.mul_add ..;have e2:(n+1)*(a*a)=n*(a*a)+a*a:=by grind
  rw [e1,e2];lia
theorem zdO (f:Nat→Nat):∀ n,sgm f n*sgm f n≤n*sgm (fun x=>f x*f x) n
 | 0=>ag _
 | n+1=>by
  have h:=zdO f n;have h2:=zhh f (f n) n;show (sgm f n+f n)*(sgm f n+f n)≤(n+1)*(sgm (fun x=>f x*f x) n+f n*f n);generalize sgm (fun x=>f x*f x) n=Q at h h2 ⊢;generalize sgm f n=S at h h2 ⊢;generalize f n=a at h2 ⊢;have e1:(S+a)*(S+a)=S*S+2*(a*S)+a*a:=by grind
  have e2:(n+1)*(Q+a*a)=n*Q+n*(a*a)+Q+a*a:=by grind
  rw [e1,e2];lia
def zd8 (few:Nat) (g:Nat→Bool):Nat→Bool:=fun x=>g x && decide (cnq x g < few)
theorem zhi (few:Nat) (g:Nat→Bool):∀ n,cnq n (zd8 few g)=min few (cnq n g)
 | 0=>by show 0=min few 0; lia
 | n+1=>by
  have h:=zhi few g n;show cnq n (zd8 few g)+b01 (zd8 few g) n=min few (cnq n g+b01 g n);rw [h];unfold b01 zd8;cases hg:g n with
  | false=>simp
  | true =>
   by_cases hl:cnq n g < few
   ·simp [hl]; lia
   ·simp [hl]; lia
theorem zjq {g h:Nat→Bool} (hh:∀ x,g x=true→h x=true) (n:Nat):cnq n g≤cnq n h:=zfR (fun x=>by
 unfold b01;cases e:g x with
 | false=>simp
 | true=>simp [hh x e]) n
theorem zjr {n few c:Nat} (hc:c+1≤few) (ss:List (Nat→Bool)) (h1:∀ g∈ss,few≤cnq n g) (h2:ss.Pairwise fun g h=>cnq n (fun x=>g x && h x)≤c):(ss.length:Int)*((few:Int)*few - n*c)≤n*((few:Int) - c):=by
 have a1:∀ g∈ss.map (zd8 few),cnq n g=few:=fun g hg=>by
  obtain⟨g',hg',rfl⟩:=aI.mp hg;rw [zhi];have:=h1 g' hg';lia
 have a2:(ss.map (zd8 few)).Pairwise fun g h=>cnq n (fun x=>g x && h x)≤c:=by
  rw [cn];refine h2.imp fun {g h} hgh=>aZ (zjq (fun x e=>?_) n) hgh
  unfold zd8 at e;simp only [cw] at e ⊢;exact⟨e.1.1,e.2.1⟩
 have b1:=zhg _ a1;have b2:=zjp _ a1 a2;have b3:=zdO (cvr (ss.map (zd8 few))) n;rw [b1] at b3;rw [ab] at b2 b3;generalize sgm (fun x=>cvr (ss.map (zd8 few)) x*cvr (ss.map (zd8 few)) x) n=Q at b2 b3;generalize ss.length=L at b2 b3 ⊢;by_cases hL:L=0
 ·subst hL;have:(0:Int)≤n*((few:Int) - c):=jg #[O] #[O];simpa using this
 ·have c1:((L*few*(L*few):Nat):Int)≤((n*Q:Nat):Int):=Int.ofNat_le.mpr b3;have c2:((n*(Q+L*c):Nat):Int)≤((n*(L*few+L*L*c):Nat):Int):=Int.ofNat_le.mpr (Nat.mul_le_mul_left n b2);simp only [Int.natCast_mul,Int.natCast_add] at c1 c2;have c3:(L:Int)*((L:Int)*((few:Int)*few - n*c))≤(L:Int)*(n*((few:Int) - c)):=by grind
  exact Int.le_of_mul_le_mul_left c3 #[O]
def zmF (H:Hp) (kv:List Key×V) (g:List Int×List (List Int)):Prop:=kv.1=g.1.map bp∧∃ (l:Addr) (rs:List Addr),kv.2 = .ref l∧H l=some (.lst (rs.map V.ref))∧Paired (fun r low=>H r=some (.lst (low.map V.int))) rs g.2
def zaR (H:Hp):List (List Key×V)→Gt→Prop:=Paired (zmF H)
theorem zaR.sub {H H':Hp} (s:∀ b xs,H b=some (.lst xs)→H' b=some (.lst xs)) {jw:List (List Key×V)} {G:Gt} (h:zaR H jw G):zaR H' jw G:=dB (fun _ _ z=>by
 obtain⟨z1,l,rs,z2,z3,z4⟩:=z;exact⟨z1,l,rs,z2,s _ _ z3,dB (fun _ _ y=>s _ _ y) z4⟩) h
theorem zaR.same {H H':Hp} (s:zy H H') {jw:List (List Key×V)} {G:Gt} (h:zaR H jw G):zaR H' jw G:=h.sub fun b xs e=>s _ _ e
theorem zaR.dic {H:Hp} {d:Addr} {ks:List (List Key×V)} {o:HO} (hd:H d=some (.dT ks)) {jw:List (List Key×V)} {G:Gt} (h:zaR H jw G):zaR (jA H d o) jw G:=h.sub fun b xs e=>by
 rw [zm (fun z=>by rw [z,hd] at e; cases e)]; exact e
def zcC (G:Gt) (key:List Int):Gt:=if key∈G.map (·.1) then G else G++[(key,[])]
def zlE (G:Gt) (key low:List Int):Gt:=G.map fun g=>if g.1=key then (g.1,g.2++[low]) else g
theorem zeZ (G:Gt) (key low:List Int):zd7 G key low=zlE (zcC G key) key low:=by
 unfold zd7 zcC zlE;split
 ·rfl
 ·rename_i h
  rw [aD];have e:G.map (fun g=>if g.1=key then (g.1,g.2++[low]) else g)=G:=by
   conv=>rhs; rw [← gA G]
   refine bO fun g hg=>?_
   rw [if_neg (fun e=>h (by rw [← e]; exact bi hg))]; rfl
  rw [e];simp
theorem zb8 {α β:Type} {f:α→β}:∀ {l:List α},(l.map f).Nodup→∀ {a b:α},a∈l→b∈l→f a=f b→a=b
 | [],_,_,_,h,_,_=>by cases h
 | x :: l,hn,a,b,ha,hb,e=>by
  (rw [aS,cp] at hn)
  rcases aA.mp ha with h1 | h1 <;> rcases aA.mp hb with h2 | h2
  ·rw [h1,h2]
  ·exact absurd (by rw [← h1,e]; exact bi h2) hn.1
  ·exact absurd (by rw [← h2,← e]; exact bi h1) hn.1
  ·exact zb8 hn.2 h1 h2 e
theorem zdP {α β:Type} {F F':α→β→Prop} {f:β→β}:∀ {as:List α} {bs:List β},Paired F as bs→(∀ a∈as,∀ b∈bs,F a b→F' a (f b))→Paired F' as (bs.map f)
 | _,_,.nil,_=>.nil
 | _,_,.cons r t,h=>.cons (h _ aB _ aB r) (zdP t fun a ha b hb=>h a (aj _ ha) b (aj _ hb))
theorem zjs {as bs:List Addr} (h:as.map V.ref=bs.map V.ref):as=bs:=iw (fun _ _ e=>by cases e; rfl) |>.mp h
theorem zgn {as:List Addr} {ns:List Int} (hn:ns≠[]) (h:as.map V.ref=ns.map V.int):False:=by
 cases ns with
 | nil=>exact hn rfl
 | cons n ns =>
  cases as with
  | nil=>cases h
  | cons a as=>cases h
theorem zkm {H:Hp} {jw:List (List Key×V)} {G:Gt} {key low:List Int} {l lo:Addr} {rs:List Addr} (h:zaR H jw G) (hA:∀ kv∈jw,kv.1=key.map bp↔kv.2 = .ref l) (hl:H l=some (.lst (rs.map V.ref))) (lD:H lo=some (.lst (low.map V.int))) (jU:low≠[])
  (pg:∀ g∈G,∀ x∈g.2,x≠[]):zaR (jA H l (.lst (rs.map V.ref++[.ref lo]))) jw (zlE G key low):=by
 have vE:∀ r (x:List Int),x≠[]→H r=some (.lst (x.map V.int))→r≠l:=fun r x hx e z=>by
  rw [z,hl] at e;injection e with e
  injection e with e
  exact zgn hx e
 refine zdP h fun kv hkv g hg z=>?_
 obtain⟨z1,l',rs',z2,z3,z4⟩:=z;have sv:Paired (fun r x=>jA H l (.lst (rs.map V.ref++[.ref lo])) r=some (.lst (x.map V.int))) rs' g.2:=by
  have:∀ {as:List Addr} {bs:List (List Int)},Paired (fun r x=>H r=some (.lst (x.map V.int))) as bs→(∀ x∈bs,x≠[])→Paired (fun r x=>jA H l (.lst (rs.map V.ref++[.ref lo])) r=some (.lst (x.map V.int))) as bs:=by
   intro as bs a;induction a with
   | nil=>intro _; exact .nil
   | cons r t ih=>intro hh; exact .cons (by rw [zm (vE _ _ (hh _ aB) r)]; exact r) (ih fun x hx=>hh x (aj _ hx))
  exact this z4 (pg g hg)
 by_cases e:g.1=key
 ·have e2:kv.2 = .ref l:=(hA kv hkv).mp (by rw [z1,e]);rw [e2] at z2;cases z2;rw [hl] at z3;injection z3 with z3
  injection z3 with z3
  have e3:=zjs z3;subst e3;rw [if_pos e];exact⟨z1,l,rs++[lo],e2,by rw [zb,aD]; rfl,dg sv (by rw [zm (vE lo low jU lD)]; exact lD)⟩
 ·have vD:l'≠l:=fun e2=>e (by
   have:=(hA kv hkv).mpr (by rw [z2,e2]);rw [z1] at this;exact zdg this)
  rw [if_neg e];exact⟨z1,l',rs',z2,by rw [zm vD]; exact z3,sv⟩
theorem zhj {κ:Type} [DecidableEq κ] {jw:List (κ×V)} {k:κ} {v:V} (h:za6 jw k=some v):(k,v)∈jw:=by
 unfold za6 at h;obtain⟨x,h1,h2⟩:=gw.mp h;have h3:=List.find?_some h1;have h4:=List.mem_of_find?_eq_some h1;have h5:x.1=k:=of_decide_eq_true h3;rw [← h5,← h2];exact h4
theorem zfS {κ:Type} [DecidableEq κ] {jw:List (κ×V)} {k:κ} (h:za6 jw k=none):k∉jw.map (·.1):=fun hm=>by
 unfold za6 at h;rw [Option.map_eq_none_iff,List.find?_eq_none] at h;obtain⟨x,h1,h2⟩:=aI.mp hm;exact h x h1 (decide_eq_true h2)
theorem zlF {κ:Type} [DecidableEq κ] {jw:List (κ×V)} {k:κ} {v:V} (hn:(jw.map (·.1)).Nodup) (h:(k,v)∈jw):za6 jw k=some v:=by
 cases e:za6 jw k with
 | none=>exact absurd (bi (f:=(·.1)) h) (zfS e)
 | some u =>
  have:=zb8 hn h (zhj e) rfl;cases this;rfl
theorem zcD {H:Hp}:∀ {jw:List (List Key×V)} {G:Gt},zaR H jw G→jw.map (·.1)=(G.map (·.1)).map (·.map bp)
 | _,_,.nil=>rfl
 | _,_,.cons r t=>by rw [aS,aS,aS,zcD t,r.1]
theorem zeC {ks:List (List Int)} (h:ks.Nodup):(ks.map (·.map bp):List (List Key)).Nodup:=by
 rw [c7,cn];rw [c7] at h;exact h.imp fun {a b} ug e=>ug (zdg e)
theorem zcQ (k:Nat):∀ (n:Nat) (vs:List (List Int)),vs.length=n→((Gof k vs).map (·.1)).Nodup
 | 0,vs,hn=>by
  rw [bR] at hn;subst hn;exact .nil
 | n+1,vs,hn=>by
  have jU:vs≠[]:=fun e=>by rw [e] at hn; cases hn
  rw [← ck jU,zbv];exact zh5 (zcQ k n vs.dropLast (by rw [dO]; lia))
theorem ze0 (k:Nat):∀ (n:Nat) (vs:List (List Int)),vs.length=n→∀ g∈Gof k vs,g.2.length≤n
 | 0,vs,hn=>by
  rw [bR] at hn;subst hn;intro g hg;cases hg
 | n+1,vs,hn=>by
  have jU:vs≠[]:=fun e=>by rw [e] at hn; cases hn
  have ih:=ze0 k n vs.dropLast (by rw [dO]; lia);rw [← ck jU,zbv,zeZ];intro g hg;obtain⟨g',h1,h2⟩:=aI.mp hg;have h3:g'.2.length≤n:=by
   unfold zcC at h1;split at h1
   ·exact ih g' h1
   ·rcases aM.mp h1 with h | h
    ·exact ih g' h
    ·rw [aH.mp h]; exact a8 _
  split at h2 <;> subst h2
  ·(rw [av,cB]; lia)
  ·lia
theorem zhk (k:Nat):∀ (n:Nat) (vs:List (List Int)),vs.length=n→∀ v∈vs,∃ g∈Gof k vs,v.take k∈g.2
 | 0,vs,hn,v,hv=>by
  rw [bR] at hn;subst hn;cases hv
 | n+1,vs,hn,v,hv=>by
  have jU:vs≠[]:=fun e=>by rw [e] at hn; cases hn
  have ih:=zhk k n vs.dropLast (by rw [dO]; lia);rw [← ck jU] at hv ⊢;rw [zbv,zeZ];rcases aM.mp hv with hv | hv
  ·obtain⟨g,h1,h2⟩:=ih v hv;have h3:g∈zcC (Gof k vs.dropLast) ((vs.getLast jU).drop k):=by
    unfold zcC;split
    ·exact h1
    ·exact aL _ h1
   refine⟨_,bi h3,?_⟩;split
   ·exact aL _ h2
   ·exact h2
  ·have hv:v=vs.getLast jU:=by simpa using hv
   have h3:∃ g∈zcC (Gof k vs.dropLast) ((vs.getLast jU).drop k),g.1=(vs.getLast jU).drop k:=by
    unfold zcC;split
    ·rename_i h
     obtain⟨g,h1,h2⟩:=aI.mp h;exact⟨g,h1,h2⟩
    ·exact⟨_,aw _ (aH.mpr rfl),rfl⟩
   obtain⟨g,h1,h2⟩:=h3;refine⟨_,bi h1,?_⟩;rw [if_pos h2,hv];exact aw _ (aH.mpr rfl)
theorem zkn {G:Gt} {key:List Int} (h:∀ g∈G,∀ x∈g.2,x≠[]):∀ g∈zcC G key,∀ x∈g.2,x≠[]:=by
 unfold zcC;split
 ·exact h
 ·intro g hg x hx;rcases aM.mp hg with hg | hg
  ·exact h g hg x hx
  ·rw [aH.mp hg] at hx;cases hx
structure NewL (B:Hp) (jw:List (List Key×V)):Prop where
 nd:(jw.map (·.2)).Nodup
 nw:∀ kv∈jw,∃ l,kv.2 = .ref l∧B l=none
theorem zgo {H B:Hp} {jw:List (List Key×V)} {G:Gt} {key:List Int} {v:V} (h:zaR H jw G) (hG:(G.map (·.1)).Nodup) (hN:NewL B jw) (e:za6 jw (key.map bp)=some v) :
  ∃ (l:Addr) (rs:List Addr),v = .ref l∧H l=some (.lst (rs.map V.ref))∧B l=none∧(∃ g∈G,rs.length=g.2.length)∧zaR H jw (zcC G key)∧∀ kv∈jw,kv.1=key.map bp↔kv.2 = .ref l:=by
 have hm:=zhj e;have hk:=zcD h;have p7:(jw.map (·.1)).Nodup:=by rw [hk]; exact zeC hG
 obtain⟨i,hi⟩:=cN hm;obtain⟨g,hg,z1,l,rs,z2,z3,z4⟩:=Paired.get h hi;obtain⟨l',e1,e2⟩:=hN.nw _ hm;have z2:v = .ref l:=z2;subst z2;cases e1;have mM:key∈G.map (·.1):=by
  have z1:key.map bp=g.1.map bp:=z1;rw [zdg z1];exact bi (aJ hg)
 refine⟨l,rs,rfl,z3,e2,⟨g,aJ hg,dP z4⟩,by unfold zcC; rw [if_pos mM]; exact h,fun kv hkv=>⟨fun e3=>?_,fun e3=>?_⟩⟩
 ·rw [zb8 p7 hkv hm e3]
 ·rw [zb8 hN.nd hkv hm e3]
theorem zjt {H B:Hp} {jw:List (List Key×V)} {G:Gt} {key:List Int} {d l:Addr} (h:zaR H jw G) (hN:NewL B jw) (hB:B l=none) (hl:H l=some (.lst [])) (hd:H d=some (.dT jw)) (oV:∀ kv∈jw,kv.2≠.ref l) (e:za6 jw (key.map bp)=none) :
  zaR (jA H d (.dT (jw++[(key.map bp,.ref l)]))) (jw++[(key.map bp,.ref l)]) (zcC G key)∧NewL B (jw++[(key.map bp,.ref l)])∧∀ kv∈jw++[(key.map bp,V.ref l)],kv.1=key.map bp↔kv.2 = .ref l:=by
 have hk:=zcD h;have p7:=zfS e;have mM:key∉G.map (·.1):=fun hm=>p7 (by rw [hk]; exact bi (f:=fun x:List Int=>(x.map bp:List Key)) hm)
 have uy:l≠d:=fun z=>by rw [z,hd] at hl; cases hl
 refine⟨?_,⟨?_,fun kv hkv=>?_⟩,fun kv hkv=>?_⟩
 ·unfold zcC;rw [if_neg mM];exact dg (h.dic hd) ⟨rfl,l,[],rfl,by rw [zm uy]; exact hl,.nil⟩
 ·rw [aD];refine db.mpr ⟨hN.nd,#[M],fun a ha b hb e=>?_⟩;obtain⟨kv,h1,h2⟩:=aI.mp ha;have pH:b = .ref l:=by simpa using hb
  exact oV kv h1 (by rw [h2,e,pH])
 ·rcases aM.mp hkv with hkv | hkv
  ·exact hN.nw kv hkv
  ·rw [aH.mp hkv];exact⟨l,rfl,hB⟩
 ·rcases aM.mp hkv with hkv | hkv
  ·exact⟨fun e3=>absurd (by rw [← e3]; exact bi hkv) p7,fun e3=>absurd e3 (oV kv hkv)⟩
  ·rw [aH.mp hkv];exact⟨fun _=>rfl,fun _=>rfl⟩
theorem zdQ {H:Hp} {k:Nat} {B:Int}:∀ {ps:List (Addr×List Int)},zfD H k B ps→zcy H (ps.map (·.1)) (ps.map (·.2))
 | [],_=>.nil
 | q :: ps,h=>.cons (h q aB).1 (zdQ fun x hx=>h x (aj _ hx))
def top (i:Nat):Stmt:=PySem.Challenge.pw_slipcurve_k24_whole_few_can_be_near.main.body.getD i (.Pass ⟨0,0,0,0⟩)
abbrev zbK:Stmt:=top 1
abbrev zb9:Stmt:=top 2
abbrev zaS:Stmt:=top 3
abbrev zdR:Stmt:=top 4
abbrev zca:Stmt:=top 5
abbrev zat:Stmt:=top 10
abbrev zdS:Stmt:=top 11
abbrev za8:Stmt:=top 13
abbrev zaA:Stmt:=top 14
abbrev zbc:Stmt:=top 15
abbrev za7:Stmt:=top 17
abbrev zaT:Stmt:=top 18
abbrev zal:Stmt:=top 19
abbrev zcE:Stmt:=top 21
abbrev zcb:Stmt:=top 22
abbrev zbV:Stmt:=top 23
abbrev zcc:Stmt:=top 24
abbrev zau:Stmt:=top 25
abbrev zcF:Stmt:=top 26
abbrev zbg:Stmt:=top 27
structure Adr where
 tab:Addr
 SlipError:Addr
 TooFew:Addr
 value_at:Addr
 inverse:Addr
 times_root:Addr
 bent:Addr
 through:Addr
 heard_points:Addr
 fits:Addr
 choices:Addr
 all_through:Addr
 all_near:Addr
 check_many:Addr
 vanishing_at:Addr
 many_near:Addr
 l_cell:Addr
 l_draws:Addr
 l_code:Addr
 l_value:Addr
 l_polynomial:Addr
 l_row:Addr
 law:Addr
structure Txt (K:af) (mg:Str→Option Value) (base:Heap) (t:Adr):Prop where
 bm:zd5 mg base
 tb:TabOf K t.many_near t.tab
 len_:mg "len" = none
 range_:mg "range" = none
 list_:mg "list" = none
 tuple_:mg "tuple" = none
 min_:mg "min" = none
 max_:mg "max" = none
 zip_:mg "zip" = none
 enumerate_:mg "enumerate" = none
 reversed_:mg "reversed" = none
 sorted_:mg "sorted" = none
 x_SlipError:mg "SlipError" = some (.ref t.SlipError)
 x_TooFew:mg "TooFew" = some (.ref t.TooFew)
 sb:jo K t.SlipError (.type "BaseException")=some true
 m_value_at:mg "value_at" = some (.ref t.value_at)
 m_inverse:mg "inverse" = some (.ref t.inverse)
 m_times_root:mg "times_root" = some (.ref t.times_root)
 m_bent:mg "bent" = some (.ref t.bent)
 m_through:mg "through" = some (.ref t.through)
 m_heard_points:mg "heard_points" = some (.ref t.heard_points)
 m_fits:mg "fits" = some (.ref t.fits)
 m_choices:mg "choices" = some (.ref t.choices)
 m_all_through:mg "all_through" = some (.ref t.all_through)
 m_all_near:mg "all_near" = some (.ref t.all_near)
 m_check_many:mg "check_many" = some (.ref t.check_many)
 m_vanishing_at:mg "vanishing_at" = some (.ref t.vanishing_at)
 m_many_near:mg "many_near" = some (.ref t.many_near)
 m_l_cell:mg "_law_cell" = some (.ref t.l_cell)
 m_l_draws:mg "_law_draws" = some (.ref t.l_draws)
 m_l_code:mg "_law_code" = some (.ref t.l_code)
 m_l_value:mg "_law_value" = some (.ref t.l_value)
 m_l_polynomial:mg "_law_polynomial" = some (.ref t.l_polynomial)
 m_l_row:mg "_law_row" = some (.ref t.l_row)
 f_value_at:∃ fd,Fun K "value_at" "value_at" zbK t.value_at fd∧Binds K fd ["p","polynomial","x"] []
 f_inverse:∃ fd,Fun K "inverse" "inverse" zb9 t.inverse fd∧Binds K fd ["p","number"] []
 f_times_root:∃ fd,Fun K "times_root" "times_root" zaS t.times_root fd∧Binds K fd ["p","polynomial","root"] []
 f_bent:∃ fd,Fun K "bent" "bent" zdR t.bent fd∧Binds K fd ["p","polynomial","vanishing","point"] []
 f_through:∃ fd,Fun K "through" "through" zca t.through fd∧Binds K fd ["p","points"] []
 f_heard_points:∃ fd,Fun K "heard_points" "heard_points" zat t.heard_points fd∧Binds K fd ["code","row"] []
 f_fits:∃ fd,Fun K "fits" "fits" zdS t.fits fd∧Binds K fd ["code","row","polynomial"] []
 f_choices:∃ fd,Fun K "choices" "choices" za8 t.choices fd∧Binds K fd ["things","many"] []
 f_all_through:∃ fd,Fun K "all_through" "all_through" zaA t.all_through fd∧Binds K fd ["code","points"] []
 f_all_near:∃ fd,Fun K "all_near" "all_near" zbc t.all_near fd∧Binds K fd ["code","row","t"] []
 f_check_many:∃ fd,Fun K "check_many" "check_many" za7 t.check_many fd∧Binds K fd ["code","t"] []
 f_vanishing_at:∃ fd,Fun K "vanishing_at" "vanishing_at" zaT t.vanishing_at fd∧Binds K fd ["p","roots"] []
 f_many_near:∃ fd,Fun K "many_near" "many_near" zal t.many_near fd∧Binds K fd ["code","t"] []
 f_l_cell:∃ fd,Fun K "_law_cell" "_law_cell" zcE t.l_cell fd∧Binds K fd ["script","k"] []
 f_l_draws:∃ fd,Fun K "_law_draws" "_law_draws" zcb t.l_draws fd∧Binds K fd ["script","k","many","base"] []
 f_l_code:∃ fd,Fun K "_law_code" "_law_code" zbV t.l_code fd∧Binds K fd ["script","at","most_k","most_n"] []
 f_l_value:∃ fd,Fun K "_law_value" "_law_value" zcc t.l_value fd∧Binds K fd ["p","polynomial","x"] []
 f_l_polynomial:∃ fd,Fun K "_law_polynomial" "_law_polynomial" zau t.l_polynomial fd∧Binds K fd ["draws","p","k"] []
 f_l_row:∃ fd,Fun K "_law_row" "_law_row" zcF t.l_row fd∧Binds K fd ["script","at","code"] []
section
variable {P:Program} {w:World} {K:af} {mg:Str→Option Value} {base:Heap} {t:Adr}
theorem zh6:FnScope ["script","k"] ["script","k"] (zh zcE):=#[S]
theorem zh7 {fd:FuncData} (T:Txt K mg base t) (F:Fun K "_law_cell" "_law_cell" zcE t.l_cell fd):FnOk P w K mg base CX0 1 t.l_cell fd ["script","k"] (zhG K):=by
 refine F.ok zh6 (fun vs H Q E h=>?_) (fun jW A outer s H vs Q E hr h=>?_)
 ·obtain⟨a,ns,k,rfl,_⟩:=h; rfl
 ·obtain⟨a,ns,k,rfl,hS,jE,k0,k1,q⟩:=h;refine zbp ?_; intro zX;refine⟨_,#[zd,#[za9,#[zL,#[zil],#[pvx,1],#[zF,#[zw],T.len_,bU,#[ya,#[pvx,0]]],(zZ _)],#[zp,#[zR,#[zP,#[zB],#[pvx,0],#[pvx,1]]]],#[zan]],#[zd,#[za9,#[zL,#[zdk],#[zF,#[zw],T.len_,bU,#[ya,#[pvx,0]]],#[ze],(zZ _)],#[zp,#[zR,#[zg,#[zU],#[zg,#[zN],#[ze],#[pvx,1]],#[ze]]]],#[zan]],#[zp,#[zR,#[zg,#[zU],#[zg,#[zA],#[zP,#[zB],#[pvx,0],#[zg,#[zA],#[pvx,1],#[zF,#[zw],T.len_,bU,#[ya,#[pvx,0]]]]],#[ze]],#[zg,#[zN],#[ze],#[pvx,1]]]]]]],?_⟩;refine ziu ?_; intro oO nr;refine⟨_,rfl,_,rfl,a,_,rfl,.inl hS,_,_,rfl,rfl,_,rfl,?_⟩; rw [ab];refine zbd (fun h=>?_) (fun h=>?_)
  ·have h:k < (ns.length:Int):=by simpa using h
   obtain⟨c,hc⟩:=zc7 k0 h;exact⟨_,rfl,_,rfl,a,_,k,_,rfl,rfl,hS,hc,q c⟩
  ·have h:¬ k < (ns.length:Int):=by simpa using h
   refine⟨_,rfl,a,_,rfl,.inl hS,rfl,_,rfl,?_⟩;rw [ab];refine zbd (fun h2=>?_) (fun h2=>?_)
   ·exact⟨_,rfl,_,_,rfl,rfl,.inl ⟨#[D],#[D]⟩,_,_,rfl,rfl,q _⟩
   ·have h2:¬ V.int (ns.length:Int)=V.int 0:=by simpa using h2
    have vF:0 < (ns.length:Int):=by
     have:(ns.length:Int)≠0:=fun z=>h2 (by rw [z])
     lia
    have m0:=aK k (show (ns.length:Int)≠0 by lia);have m1:=aC k vF;obtain⟨c,hc⟩:=zc7 m0 m1;refine⟨_,rfl,_,rfl,_,rfl,a,_,rfl,.inl hS,_,_,rfl,rfl,by rw [ab]; exact vF,a,_,_,_,rfl,rfl,hS,by rw [ab]; exact hc,_,_,rfl,rfl,(by show (0:Int) < 1000003; decide),?_⟩;exact⟨_,rfl,_,_,rfl,rfl,.inl ⟨#[D],#[D]⟩,_,_,rfl,rfl,q _⟩
theorem zO:FnScope ["script","k","many","base","primes","cell","rest","row","j","mash"] ["script","k","many","base"] (zh zcb):=#[S]
theorem zco {fd:FuncData} (T:Txt K mg base t) (F:Fun K "_law_draws" "_law_draws" zcb t.l_draws fd):FnOk P w K mg base CX0 2 t.l_draws fd ["script","k","many","base"] (zgc K):=by
 obtain⟨ph,nM,lT⟩:=T.f_l_cell;have qf:=zh7 (P:=P) (w:=w) (base:=base) T nM;refine F.ok zO (fun vs H Q E h=>?_) (fun jW A outer s H vs Q E hr h=>?_)
 ·obtain⟨a,ns,k,many,base,rfl,_⟩:=h;rfl
 ·obtain⟨a,ns,k,many,bs,rfl,hS,jE,k0,k1,m0,m1,b0,b1,q⟩:=h;refine zbp ?_; intro zX;refine⟨_,#[zd,#[zn,4,zO.nd,#[A],#[zck,#[zcg,#[zcg,#[zcg,#[zcg,#[zcg,#[za,#[ze],#[za,#[ze],#[ya,#[ze]]]]]]]]]]],#[zd,#[zn,5,zO.nd,#[A],#[zC,qf,(hr.mono #[D]),T.m_l_cell,nM.kp,lT,#[zaa],#[za,#[pvx,0],#[ya,#[pvx,1]]]]],#[zd,#[zn,6,zO.nd,#[A],#[ze]],#[zd,#[za9,#[zL,#[zgv],#[pvx,5],#[zg,(@zkX _),#[ze],#[ze]],(zZ _)],#[zp,#[zn,6,zO.nd,#[A],#[pvx,5]]],#[zan]],#[zd,#[zn,7,zO.nd,#[A],#[zad,#[zf]]],#[zd,#[zaV,bA,#[zaI,T.range_,#[ya,#[pvx,2]]],#[zi,8,zO.nd,#[A]],#[zd,#[zn,9,zO.nd,#[A],#[zg,#[zN],#[zg,#[zA],#[pvx,5],#[zP,#[zcH],#[pvx,4],#[zg,#[zA],#[pvx,8],#[ze]]]],#[zg,#[zU],#[ze],#[zg,#[zN],#[zg,#[zN],#[ze],#[pvx,8]],#[pvx,8]]]]],#[zd,#[zn,9,zO.nd,#[A],#[zg,#[zU],#[zg,#[zU],#[pvx,9],#[zg,#[zN],#[zg,#[zN],#[ze],#[zg,#[zU],#[pvx,8],#[ze]]],#[zg,#[zU],#[pvx,8],#[ze]]]],#[zg,#[zN],#[ze],#[pvx,1]]]],#[zd,#[zn,9,zO.nd,#[A],#[zg,#[zA],#[pvx,9],#[zP,#[zcH],#[pvx,4],#[zg,#[zA],#[zg,#[zU],#[zg,#[zN],#[ze],#[pvx,8]],#[pvx,1]],#[ze]]]]],#[zd,#[zn,9,zO.nd,#[A],#[zg,#[zA],#[zg,#[zN],#[zg,#[zN],#[pvx,9],#[pvx,9]],#[pvx,9]],#[zP,#[zcH],#[pvx,4],#[zg,#[zA],#[zg,#[zU],#[pvx,8],#[ze]],#[ze]]]]],#[zd,#[za9,#[zL,#[zeh],#[pvx,6],#[ze],(zZ _)],#[zp,#[zn,9,zO.nd,#[A],#[pvx,6]]],#[zan]],#[zd,#[zc5,#[zgx,du,ee,eg,#[zcI],#[pvx,7],#[ya,#[zg,#[zA],#[pvx,9],#[pvx,3]]]]],#[zp,#[zn,6,zO.nd,#[A],#[zg,#[zc6],#[pvx,6],#[pvx,3]]]]]]]]]]],#[zp,#[zR,#[pvx,7]]]]]]]]],?_⟩;refine zl0 ?_; intro Ae w4 uz rC oO nr;refine⟨by show 8≤sizeLine; rw [bu]; decide,fun tp ht=>?_⟩;have s1:zy H (jA H tp (.tup zjR)):=zc ht;refine⟨_,rfl,_,rfl,a,ns,k,rfl,s1.seq hS,jE,k0,k1,fun c=>?_⟩;refine⟨_,rfl,_,_,rfl,rfl,⟨#[D],#[D],#[D]⟩,_,_,rfl,rfl,_,rfl,?_⟩;refine zbd (fun _=>⟨_,rfl,?_⟩) (fun _=>?_)
  all_goals
   refine⟨a8 _,fun l hl=>?_⟩;have Af:H l=none:=zy.free s1 hl;have uA:tp≠l:=zu zb hl;refine⟨_,rfl,many,rfl,#[O],#[O],zaF (lo:=0) (n:=many.toNat) (fun i σ H'=>∃ (r:Int) (v8 v9:Option V) (ds:List Int),σ = [some (.ref a),some (.int k),some (.int many),some (.int bs),some (.ref tp),some (.int c),some (.int r),some (.ref l),v8,v9]∧zeN i bs ds∧zy H H'∧H' tp=some (.tup zjR)∧H' l=some (.lst (ds.map V.int)))
    ⟨_,none,none,[],rfl,⟨rfl,#[M]⟩,zaq s1 Af,by rw [zm uA]; exact zb,zb⟩ ?_ ?_⟩
   ·rintro zD zT i σ H2 hi ⟨r,v8,v9,ds,rfl,hd,s2,tQ,rD⟩;obtain⟨q1,e1,q1p,q1l⟩:=zds (0+(i:Int));obtain⟨q2,e2,q2p,q2l⟩:=zds (3*(0+(i:Int))+k);obtain⟨q3,e3,q3p,q3l⟩:=zds (0+(i:Int)+5);have c1:=aK c (show q1≠0 by lia);have c2:=aC c q1p;have lL:(i:Int) < 1000:=by lia
    refine⟨_,rfl,_,rfl,_,rfl,_,_,rfl,rfl,(by show (0:Int) < 8; decide),tp,_,_,_,rfl,rfl,jI.of tQ,e1,_,_,rfl,rfl,q1p,_,rfl,_,_,rfl,rfl,.inl ⟨#[D],#[D]⟩,_,rfl,_,_,rfl,rfl,.inl ⟨#[O],#[O]⟩,_,_,rfl,rfl,_,_,rfl,rfl,.inl ⟨#[O],#[O]⟩,?_⟩;refine⟨_,rfl,_,rfl,_,_,rfl,rfl,_,_,rfl,rfl,.inl ⟨#[D],#[D]⟩,_,rfl,_,_,rfl,rfl,_,_,rfl,rfl,.inl ⟨#[O],#[O]⟩,_,_,rfl,rfl,_,rfl,_,_,rfl,rfl,.inl ⟨#[D],#[D]⟩,_,_,rfl,rfl,?_⟩;refine⟨_,rfl,_,rfl,_,rfl,_,_,rfl,rfl,.inl ⟨#[D],#[D]⟩,_,rfl,_,_,rfl,rfl,_,_,rfl,rfl,(by show (0:Int) < 8; decide),tp,_,_,_,rfl,rfl,jI.of tQ,e2,_,_,rfl,rfl,q2p,?_⟩;generalize c % q1*(48271+2*(0+(i:Int))*(0+(i:Int)))+7919*(0+(i:Int)+1)*(0+(i:Int)+1)+104729*k=ms;have d1:=aK ms (show q2≠0 by lia);have d2:=aC ms q2p;refine⟨_,rfl,_,rfl,_,_,rfl,rfl,.inl ⟨#[O],#[O]⟩,_,rfl,_,_,rfl,rfl,.inr ⟨#[O],#[O]⟩,_,rfl,_,rfl,_,_,rfl,rfl,_,_,rfl,rfl,(by show (0:Int) < 8; decide),tp,_,_,_,rfl,rfl,jI.of tQ,e3,_,_,rfl,rfl,q3p,?_⟩;refine⟨_,rfl,_,_,rfl,rfl,_,rfl,?_⟩;have uy:=hd.1;refine zbd (fun _=>⟨_,rfl,?_⟩) (fun _=>?_)
    all_goals
     refine⟨_,rfl,.inl ⟨rfl,_,jy.of rD⟩,_,rfl,_,rfl,_,_,rfl,rfl,b0,l,_,_,rfl,rfl,rD,zae (by rw [ab]; lia),?_⟩;refine⟨_,rfl,_,rfl,_,_,rfl,rfl,⟨b0,b1⟩,?_⟩;refine⟨_,_,_,ds++[_],rfl,⟨by rw [av,uy]; rfl,fun d hm=>?_⟩,zaq s2 Af,by rw [zm uA]; exact tQ,by rw [zb,aD]; rfl⟩; rcases aM.mp hm with hm | hm
     ·exact hd.2 d hm
     ·have e:=aH.mp hm;rw [e];exact⟨aK _ #[O],aC _ b0⟩
   ·rintro σ H2 ⟨r,v8,v9,ds,rfl,hd,s2,tQ,rD⟩;exact⟨_,rfl,q l ds H2 Af s2 hd rD⟩
theorem zaX:FnScope ["script","at","most_k","most_n","plan","primes","p","k","many","left"] ["script","at","most_k","most_n"] (zh zbV):=#[S]
theorem zh8 {fd:FuncData} (T:Txt K mg base t) (F:Fun K "_law_code" "_law_code" zbV t.l_code fd):FnOk P w K mg base CX0 3 t.l_code fd ["script","at","most_k","most_n"] (zhH K):=by
 obtain⟨kU,jL,jM⟩:=T.f_l_draws;have jV:=zco (P:=P) (w:=w) (base:=base) T jL;refine F.ok zaX (fun vs H Q E h=>?_) (fun jW A outer s H vs Q E hr h=>?_)
 ·obtain⟨a,ns,at',mk,mn,rfl,_⟩:=h;rfl
 ·obtain⟨a,ns,at',mk,mn,rfl,hS,jE,a0,a1,k1,k5,kn,n16,q⟩:=h;refine zbp ?_; intro zX;refine⟨_,#[zd,#[zn,4,zaX.nd,(cR rfl),#[zC,jV,(hr.mono #[D]),T.m_l_draws,jL.kp,jM,#[zaa],#[za,#[pvx,0],by exact #[za,#[pvx,1],#[za,#[ze],#[ya,#[ze]]]]]]],(by exact (@ziE _ 5 _ _ _ _ _ _ _ [5,7,11,13,17,19,23,29,31,37,41,43,47,53,59,61,67,71,73,79,83,89,97] #[N] zaX.nd rfl #[A] (by first | exact .inl rfl | exact .inr rfl) (by exact #[zd,#[zn,6,zaX.nd,#[A],#[zP,#[zB],#[zad,#[za,#[zP,#[zB],#[pvx,5],#[zg,#[zA],#[zP,#[zB],#[pvx,4],#[ze]],#[ze]]],#[ya,#[zP,#[zB],#[pvx,5],#[zg,#[zA],#[zP,#[zB],#[pvx,4],#[ze]],#[ze]]]]]],#[zg,#[zA],#[zP,#[zB],#[pvx,4],#[ze]],#[ze]]]],#[zd,#[zn,7,zaX.nd,#[A],#[zg,#[zU],#[ze],#[zg,#[zA],#[zP,#[zB],#[pvx,4],#[ze]],#[zF,#[zcG],T.min_,boot_min,#[za,#[pvx,2],#[ya,#[pvx,6]]]]]]],#[zd,#[zn,8,zaX.nd,#[A],#[zg,#[zU],#[pvx,7],#[zg,#[zA],#[zP,#[zB],#[pvx,4],#[ze]],#[zg,#[zU],#[zg,#[zby],#[zF,#[zcG],T.min_,boot_min,#[za,#[pvx,3],#[ya,#[pvx,6]]]],#[pvx,7]],#[ze]]]]],#[zd,#[zn,9,zaX.nd,(cR rfl),#[zaJ,(@zd3 _ rfl),T.list_,boot_list,#[ya,#[zaJ,(@zfh _),T.range_,iX,#[ya,#[pvx,6]]]]]],#[zp,#[zR,#[zck,#[za,#[pvx,6],#[za,#[pvx,7],#[ya,#[zaJ,#[zax],T.tuple_,fV,#[ya,#[zaB,(CompSc.of (N':=["j","left","plan"]) (ix:=[none,some 9,some 4]) (zh zbV) ["script","at","most_k","most_n","plan","primes","p","k","many","left"] rfl rfl #[N]),#[zaN],#[zaI,T.range_,#[ya,#[pvx,8]]],(fun _ _ _ _=>#[zi,0,(show (["j","left","plan"]:List Str).Nodup from #[N]),#[A]]),(fun _ _ _ _=>#[zap]),(fun _ _ _ _=>(@zld _ (K) _ _ _ _ _ _ _ _ _ _ _ rfl du PySem.F.slot_list_pop PySem.F.type_list_pop (@zir _) #[pvx,1] #[ya,#[zg,#[zA],#[zP,#[zfi,(K)],#[pvx,2],#[zg,#[zU],#[ze],#[pvx,0]]],#[zF,#[za1,(K)],T.len_,bU,#[ya,#[pvx,1]]]]] (by rfl) (by rfl) (by rfl) (by rfl) (by rfl)))]]]]]]]]]]]]])))],?_⟩;refine zl0 ?_; intro Ae w4 uz rC oO nr;refine⟨_,rfl,_,rfl,a,ns,at',20,27720,rfl,hS,jE,a0,a1,#[D],#[D],#[D],#[D],fun l ds H1 hl s1 hd lC=>?_⟩;have uy:ds.length=20:=hd.1;have dat:∀ m:Int,0≤m→m < 20→∃ c:Int,atI (ds.map V.int) m=some (.int c):=fun m h0 h1=>zc7 h0 #[O]
  refine⟨by show 23≤sizeLine; rw [bu]; decide,fun pr hpr=>?_⟩;have Ag:l≠pr:=zu lC hpr;obtain⟨d0,ed0⟩:=dat 0 #[D] #[D];obtain⟨d1,ed1⟩:=dat 1 #[D] #[D];obtain⟨d2,ed2⟩:=dat 2 #[D] #[D];obtain⟨d3,ed3⟩:=dat 3 #[D] #[D];have lQ:(jA H1 pr (.lst (zt.map V.int))) l=some (.lst (ds.map V.int)):=by rw [zm Ag]; exact lC
  obtain⟨p1,mp1,ep1⟩:=ziM (ns:=zt) (k:=d0 % 23) (aK _ #[D]) (aC _ #[D]);obtain⟨p2,mp2,ep2⟩:=ziM (ns:=zt) (k:=d0 % 3) (aK _ #[D]) (by have:=aC d0 (show (0:Int) < 3 by decide); have e:(zt.length:Int)=23:=rfl; lia);obtain⟨p,ep,hpp⟩:=zlf (x:=p1) (y:=p2) (m:=d1 % 2) (aK _ #[D]) (aC _ #[D]);have mp:p∈zt:=by rcases hpp with e | e <;> rw [e] <;> assumption
  have rp:=zM mp;refine⟨_,rfl,_,rfl,l,_,_,_,rfl,rfl,jy.of lQ,ed0,_,_,rfl,rfl,(by show (0:Int) < 23; decide),pr,_,_,_,rfl,rfl,jy.of zb,ep1,
   _,rfl,_,rfl,l,_,_,_,rfl,rfl,jy.of lQ,ed0,_,_,rfl,rfl,(by show (0:Int) < 3; decide),pr,_,_,_,rfl,rfl,jy.of zb,ep2,zaK,fun l2 mV=>?_⟩
  have Ah:l≠l2:=zu lQ mV;have qP:(jA (jA H1 pr (.lst (zt.map V.int))) l2 (.lst [.int p1,.int p2])) l=some (.lst (ds.map V.int)):=by rw [zm Ah]; exact lQ
  refine⟨_,rfl,l,_,_,_,rfl,rfl,jy.of qP,ed1,_,_,rfl,rfl,(by show (0:Int) < 2; decide),l2,_,_,_,rfl,rfl,jy.of zb,ep,?_⟩;have sh:(0:Int) < (if p < mk then p else mk):=by split <;> lia
  have pJ:(if p < mk then p else mk)≤mk:=by split <;> lia
  have yE:(if p < mk then p else mk)≤p:=by split <;> lia
  refine⟨_,rfl,l,_,_,_,rfl,rfl,jy.of qP,ed2,_,rfl,_,rfl,_,_,rfl,_,_,rfl,rfl,sh,_,_,rfl,rfl,?_⟩;generalize (if p < mk then p else mk)=mm at sh pJ yE ⊢;have pL:=aK d2 (show mm≠0 by lia);have pN:=aC d2 sh;have qM:(if p < mn then p else mn)≤mn:=by split <;> lia
  have nX:(if p < mn then p else mn)≤p:=by split <;> lia
  have hn3:mm≤(if p < mn then p else mn):=by split <;> lia
  refine⟨_,rfl,_,rfl,l,_,_,_,rfl,rfl,jy.of qP,ed3,_,rfl,_,rfl,_,_,rfl,_,rfl,_,_,rfl,rfl,_,_,rfl,rfl,_,_,rfl,rfl,#[O],_,_,rfl,rfl,?_⟩;generalize (if p < mn then p else mn)=nn at qM nX hn3 ⊢;have hq0:=aK d3 (show nn - (1+d2 % mm)+1≠0 by lia);have mB:=aC d3 (show 0 < nn - (1+d2 % mm)+1 by lia);refine⟨_,rfl,p,rfl,fun r ve=>⟨r,p,rfl,zb,#[O],#[O],fun lf Ai=>?_⟩⟩;have um:l≠r:=zu qP ve;have vG:l≠lf:=by
   refine zu (H:=jA (jA (jA H1 pr (.lst (zt.map V.int))) l2 (.lst [.int p1,.int p2])) r (.rng 0 p)) (o:=.lst (ds.map V.int)) ?_ Ai;rw [zm um]; exact qP
  have sA:zy H (jA (jA H1 pr (.lst (zt.map V.int))) l2 (.lst [.int p1,.int p2])):=(s1.trans (zc hpr)).trans (zc mV);have sB:=(sA.trans (zc (o:=.rng 0 p) ve)).trans (zc (o:=.lst ((zbl 0 p.toNat).map V.int)) Ai);have Aj:H lf=none:=(sA.trans (zc (o:=.rng 0 p) ve)).free Ai;obtain⟨nd0,rg0⟩:=zhI p;refine⟨_,rfl,_,rfl,_,rfl,_,rfl,#[O],#[O],zab (n:=(1+d2 % mm+d3 % (nn - (1+d2 % mm)+1)).toNat) (fun i ys H'=>∃ xs ls:List Int,ys=xs.map V.int∧xs.length=i∧zy H H'∧H' l=some (.lst (ds.map V.int))∧H' lf=some (.lst (ls.map V.int))∧ls.length+i=p.toNat∧(xs++ls).Nodup∧∀ y∈xs++ls,0≤y∧y < p)
   ⟨[],zbl 0 p.toNat,rfl,rfl,sB,by rw [zm vG,zm um]; exact qP,zb,by rw [zcf]; rfl,by simpa using nd0,by simpa using rg0⟩ (fun i ys H' hi _=>hi) (fun ys H' _=>ag _) ?_ ?_⟩
  ·rintro zS zT zE i x ys H4 H5 hi ⟨xs,ls,rfl,yH,s4,tR,rE,vD,nd,rg⟩ ⟨rfl,rfl⟩;refine gY ?_;obtain⟨c,ec⟩:=dat (4+(0+(i:Int))) #[O] #[O];have lpos:0 < ls.length:=by lia
   have lm:((ls.map V.int).length:Int)=(ls.length:Int):=by rw [ab]
   have c0:=aK c (show (ls.length:Int)≠0 by lia);have c1:=aC c (show (0:Int) < ls.length by lia);have nW:=bu;obtain⟨y,ey⟩:∃ y,ls[(c % (ls.length:Int)).toNat]? = some y:=⟨ls[(c % (ls.length:Int)).toNat]'#[O],#[M]⟩;refine⟨_,rfl,.inl ⟨rfl,_,jy.of rE⟩,_,rfl,_,rfl,_,_,rfl,rfl,l,_,_,_,rfl,rfl,jy.of tR,ec,_,rfl,lf,_,rfl,.inl (jy.of rE),_,_,rfl,rfl,(by rw [lm]; lia),lf,_,_,(c % (ls.length:Int)).toNat,.int y,rfl,rfl,rE,?_⟩;rw [lm];refine⟨#[O],#[O],by rw [ab]; exact gp c0 c1,by rw [am,ey]; rfl,zae (by rw [ab]; lia),xs++[y],ls.eraseIdx (c % (ls.length:Int)).toNat,by rw [aD]; rfl,by rw [av,yH]; rfl,zaq s4 Aj,by rw [zm vG]; exact tR,by rw [zb,zes],?_,zjT ey nd rg⟩;rw [List.length_eraseIdx];split <;> lia
  ·rintro ys H4 D ⟨xs,ls,rfl,yH,s4,tR,rE,vD,nd,rg⟩ hD;refine⟨D,_,rfl,.inl ⟨jy.of zb,fun tt vH=>⟨by show 3≤sizeLine; rw [bu]; decide,fun c hc=>?_⟩⟩⟩;have s5:=(s4.trans (zc (o:=.lst (xs.map V.int)) hD)).trans (zc (o:=.tup (xs.map V.int)) vH);refine q c tt p _ xs _ (s5.free hc) (s5.trans (zc hc)) ⟨mp,#[O],#[O],#[O],#[O],(db.mp nd).1,fun y hy=>rg y (aL _ hy)⟩ zb ?_;rw [zm (zu zb hc)];exact zb
theorem zaY:FnScope ["p","polynomial","x","total","power","number"] ["p","polynomial","x"] (zh zcc):=#[S]
theorem zgp {fd:FuncData} (T:Txt K mg base t) (F:Fun K "_law_value" "_law_value" zcc t.l_value fd):FnOk P w K mg base CX0 1 t.l_value fd ["p","polynomial","x"] (zgd K):=by
 refine F.ok zaY (fun vs H Q E h=>?_) (fun jW A outer s H vs Q E hr h=>?_)
 ·obtain⟨p,x,a,cs,rfl,_⟩:=h;rfl
 ·obtain⟨p,x,a,cs,rfl,hS,p0,p1,x0,x1,q⟩:=h;refine zbp ?_; intro zX;refine⟨_,#[zd,#[zn,3,zaY.nd,#[A],#[ze]],#[zd,#[zn,4,zaY.nd,#[A],#[ze]],#[zd,#[zaV,bA,(@zlc _ _ _ _ #[pvx,1]),#[zi,5,zaY.nd,#[A]],#[zd,#[zn,3,zaY.nd,#[A],#[zg,#[zA],#[zg,#[zU],#[pvx,3],#[zg,#[zN],#[pvx,5],#[pvx,4]]],#[pvx,0]]],#[zp,#[zn,4,zaY.nd,#[A],#[zg,#[zA],#[zg,#[zN],#[pvx,4],#[pvx,2]],#[pvx,0]]]]]],#[zp,#[zR,#[pvx,3]]]]]],?_⟩;refine zk4 ?_; intro rC oO nr;refine⟨_,rfl,a,rfl,?_⟩;rcases hS with hS | hS
  ·refine .inl ⟨⟨_,hS⟩,zbr (K:=K) (a:=a) (xs:=cs.map V.int) (fun i σ H'=>H'=H∧∃ (jC power:Int) (nb:Option V),σ = [some (.int p),some (.ref a),some (.int x),some (.int jC),some (.int power),nb]∧0≤power∧power≤97∧lv p x jC power (cs.drop i)=lv p x 0 1 cs)
    ⟨rfl,0,1,none,rfl,#[D],#[D],rfl⟩ (fun i σ H' _ ⟨e,_⟩=>by rw [e]; exact hS) ?_ ?_⟩
   ·rintro zD zT i y σ H1 hy ⟨rfl,jC,power,nb,rfl,w0,w1,hl⟩;obtain⟨c,rfl,hc⟩:=zao hy;have m0:=aK (power*x) (show p≠0 by lia);have m1:=aC (power*x) p0;refine⟨_,rfl,_,rfl,_,rfl,_,_,rfl,rfl,.inr ⟨#[O],#[O]⟩,_,_,rfl,rfl,_,rfl,_,_,rfl,rfl,p0,?_⟩;refine⟨_,rfl,_,rfl,_,_,rfl,rfl,.inl ⟨#[O],#[O]⟩,_,rfl,_,_,rfl,rfl,p0,?_⟩;exact⟨rfl,_,_,_,rfl,m0,#[O],(zgJ hc).symm.trans hl⟩
   ·rintro σ H1 ⟨rfl,jC,power,nb,rfl,w0,w1,hl⟩;rw [ab,eL] at hl;have hl:jC=lv p x 0 1 cs:=hl;rw [zgF p0] at hl;rw [← hl] at q;exact⟨_,rfl,q⟩
  ·refine .inr ⟨⟨_,hS⟩,ziw (K:=K) (a:=a) (xs:=cs.map V.int) (fun i σ H'=>H'=H∧∃ (jC power:Int) (nb:Option V),σ = [some (.int p),some (.ref a),some (.int x),some (.int jC),some (.int power),nb]∧0≤power∧power≤97∧lv p x jC power (cs.drop i)=lv p x 0 1 cs)
    ⟨rfl,0,1,none,rfl,#[D],#[D],rfl⟩ (fun i σ H' _ ⟨e,_⟩=>by rw [e]; exact hS) ?_ ?_⟩
   ·rintro zD zT i y σ H1 hy ⟨rfl,jC,power,nb,rfl,w0,w1,hl⟩;obtain⟨c,rfl,hc⟩:=zao hy;have m0:=aK (power*x) (show p≠0 by lia);have m1:=aC (power*x) p0;refine⟨_,rfl,_,rfl,_,rfl,_,_,rfl,rfl,.inr ⟨#[O],#[O]⟩,_,_,rfl,rfl,_,rfl,_,_,rfl,rfl,p0,?_⟩;refine⟨_,rfl,_,rfl,_,_,rfl,rfl,.inl ⟨#[O],#[O]⟩,_,rfl,_,_,rfl,rfl,p0,?_⟩;exact⟨rfl,_,_,_,rfl,m0,#[O],(zgJ hc).symm.trans hl⟩
   ·rintro σ H1 ⟨rfl,jC,power,nb,rfl,w0,w1,hl⟩;rw [ab,eL] at hl;have hl:jC=lv p x 0 1 cs:=hl;rw [zgF p0] at hl;rw [← hl] at q;exact⟨_,rfl,q⟩
theorem zgq (xs:List V) (j:Nat):zdl xs none (some (j:Int))=xs.take j:=by
 unfold zdl;rw [HT.sIx_nat,HT.sIx_none,iz,fo];by_cases h:j≤xs.length
 ·rw [ge h]
 ·rw [show min j xs.length=xs.length by lia,aR (ag _),aR (show xs.length≤j by lia)]
def zh9 (K:af):Sp:=fun vs H Q _=>∃ (a:Addr) (ds:List Int) (p k:Int),vs = [.ref a,.int p,.int k]∧jy K H a (ds.map V.int)∧ds.length≤1000∧0 < p ∧
 ∀ (l:Addr) (jQ:List Int) (H':Hp),H l=none→zy H H'→(jQ.length≤ds.length∧∀ x∈jQ,0≤x∧x < p)→H' l=some (.tup (jQ.map V.int))→(∀ n:Nat,k=(n:Int)→n≤ds.length→jQ.length=n)→Q (.ref l) H'
theorem zc1:FnScope ["draws","p","k"] ["draws","p","k"] (zh zau):=#[S]
theorem zc2 {fd:FuncData} (T:Txt K mg base t) (F:Fun K "_law_polynomial" "_law_polynomial" zau t.l_polynomial fd):FnOk P w K mg base CX0 1 t.l_polynomial fd ["draws","p","k"] (zh9 K):=by
 refine F.ok zc1 (fun vs H Q E h=>?_) (fun jW A outer s H vs Q E hr h=>?_)
 ·obtain⟨a,ds,p,k,rfl,_⟩:=h;rfl
 ·obtain⟨a,ds,p,k,rfl,ha,hn,p0,q⟩:=h;refine zbp ?_; intro zX;refine⟨_,#[zp,#[zR,#[zaJ,#[zax],T.tuple_,fV,#[ya,#[zaB,(CompSc.of (N':=["draw","p"]) (ix:=[none,some 1]) (zh zau) ["draws","p","k"] rfl rfl #[N]),#[zaN],#[zar,#[zbo,zbZ,#[pvx,0],#[zbX],#[zbY,#[pvx,2]]]],(fun _ _ _ _=>#[zi,0,(show (["draw","p"]:List Str).Nodup from #[N]),#[A]]),(fun _ _ _ _=>#[zap]),(fun _ _ _ _=>#[zg,#[zA],#[pvx,0],#[pvx,1]])]]]]],?_⟩;obtain⟨ms,w6,lms⟩:=zfq ds none (some k);refine⟨_,rfl,_,rfl,_,rfl,a,_,rfl,ha,fun z hz=>?_⟩;rw [w6];have s4:=zc (o:=.lst (ms.map V.int)) hz;refine⟨z,rfl,⟨_,jy.of zb⟩,zhK (K:=K) (xs:=ms.map V.int) (fs:=ms.map fun d=>V.int (d % p)) (jy.of zb) (by rw [ab,ab]) (by rw [ab]; lia) ?_ ?_⟩
  ·intro j x y R B hx hy hR;obtain⟨c,_,rfl,rfl⟩:=zfr hx hy;refine gY ?_;exact⟨_,rfl,_,rfl,_,_,rfl,rfl,p0,hR⟩
  intro D hD;have Ak:(ms.map fun d=>V.int (d % p))=(ms.map (· % p)).map V.int:=by rw [bn]; rfl
  rw [Ak];refine⟨D,_,rfl,.inl ⟨jy.of zb,fun po vI=>?_⟩⟩;have s5:=s4.trans (zc (o:=.lst ((ms.map (· % p)).map V.int)) hD);refine q po _ _ (s5.free vI) (s5.trans (zc vI)) ⟨by rw [ab]; exact lms,fun x hx=>?_⟩ zb (fun n p7 hle=>?_)
  ·obtain⟨d,_,rfl⟩:=aI.mp hx;exact⟨aK _ #[O],aC _ p0⟩
  ·have h1:=congrArg cF w6;rw [p7,zgq,aF,ab,ab] at h1;rw [ab];lia
def zju (K:af):Sp:=fun vs H Q _=>∃ (a c tt:Addr) (ns:List Int) (at' p k:Int) (pl:List Int),vs = [.ref a,.int at',.ref c]∧jy K H a (ns.map V.int)∧ns.length≤63∧0≤at'∧at'≤900∧zaw H c tt p k pl∧0 < p∧p≤97∧(∀ x∈pl,0≤x∧x < p)∧pl.length≤16 ∧
 ∀ (l:Addr) (rw:List (Option Int)) (H':Hp),H l=none→zy H H'→rw.length=pl.length→(∀ z,some z∈rw→0≤z∧z < p)→H' l=some (.lst (rw.map nF))→Q (.ref l) H'
theorem zlG {a b m:Int} (h0:0≤m) (h1:m < 6) (a0:0≤a) (a1:a < 3) (b0:0≤b) (b1:b < 3):∃ z:Int,atI [V.int 0,.int 0,.int a,.int b,.int 0,.int 0] m=some (.int z)∧0≤z∧z < 3:=by
 have:m=0∨m=1∨m=2∨m=3∨m=4∨m=5:=by lia
 rcases this with e | e | e | e | e | e <;> subst e
 ·exact⟨0,rfl,#[D],#[D]⟩
 ·exact⟨0,rfl,#[D],#[D]⟩
 ·exact⟨a,rfl,a0,a1⟩
 ·exact⟨b,rfl,b0,b1⟩
 ·exact⟨0,rfl,#[D],#[D]⟩
 ·exact⟨0,rfl,#[D],#[D]⟩
theorem zko {m:Int} (h0:0≤m) (h1:m < 6):∃ z:Int,atI [V.int 4,.int 9,.int 9,.int 9,.int 2,.int 1] m=some (.int z)∧0 < z:=by
 have:m=0∨m=1∨m=2∨m=3∨m=4∨m=5:=by lia
 rcases this with e | e | e | e | e | e <;> subst e <;> exact⟨_,rfl,#[D]⟩
theorem zkp {m:Int} (h0:0≤m) (h1:m < 2):∃ z:Int,atI [V.int 9,.int 3] m=some (.int z)∧0 < z:=by
 have:m=0∨m=1:=by lia
 rcases this with e | e <;> subst e <;> exact⟨_,rfl,#[D]⟩
theorem zme (n:Nat):(aE n [V.non]).flatten=(aE n (none:Option Int)).map nF:=by
 induction n with
 | zero=>rfl
 | succ n ih=>rw [bN,c9,ih,bN]; rfl
def ze1 (H:Hp) (on:Addr):Prop:=∃ os:List Addr,os.length=3∧H on=some (.lst (os.map V.ref))∧∀ o∈os,∃ ms:List Int,H o=some (.tup (ms.map V.int))
theorem ze1.same {H H':Hp} {on:Addr} (s:zy H H') (h:ze1 H on):ze1 H' on:=by
 obtain⟨os,h1,h2,h3⟩:=h;exact⟨os,h1,s _ _ h2,fun o ho=>let ⟨ms,e⟩:=h3 o ho; ⟨ms,s _ _ e⟩⟩
theorem zjv {p:Int} {rw:List (Option Int)} (h:∀ z,some z∈rw→0≤z∧z < p):∀ z,some z∈rw++[none]→0≤z∧z < p:=by
 intro z hz;rcases aM.mp hz with m | m
 ·exact h z m
 ·cases aH.mp m
theorem zfT {p i:Int} {rw:List (Option Int)} (h:∀ z,some z∈rw→0≤z∧z < p) (hi:0≤i∧i < p):∀ z,some z∈rw++[some i]→0≤z∧z < p:=by
 intro z hz;rcases aM.mp hz with m | m
 ·exact h z m
 ·cases aH.mp m;exact hi
theorem zfU {p x:Int} {cs:List Int} (hp:0 < p):0≤zj p x cs∧zj p x cs < p:=⟨zaO hp cs,zaP hp cs⟩
theorem zac:FnScope ["script","at","code","p","k","places","plan","ones","slips","way","row","number","which","entry"] ["script","at","code"] (zh zcF):=#[S]
theorem zjw {fd:FuncData} (T:Txt K mg base t) (F:Fun K "_law_row" "_law_row" zcF t.l_row fd):FnOk P w K mg base CX0 3 t.l_row fd ["script","at","code"] (zju K):=by
 obtain⟨kU,jL,jM⟩:=T.f_l_draws;have jV:=zco (P:=P) (w:=w) (base:=base) T jL;obtain⟨lI,kG,jX⟩:=T.f_l_polynomial;have lU:=zc2 (P:=P) (w:=w) (base:=base) T kG;obtain⟨og,mS,lg⟩:=T.f_l_value;have pj:=zgp (P:=P) (w:=w) (base:=base) T mS;refine F.ok zac (fun vs H Q E h=>?_) (fun jW A outer s H vs Q E hr h=>?_)
 ·obtain⟨a,c,tt,ns,at',p,k,pl,rfl,_⟩:=h;rfl
 ·obtain⟨a,c,tt,ns,at',p,k,pl,rfl,hS,jE,a0,a1,hc,p0,p1,lC,hn,q⟩:=h;refine zbp ?_; intro zX;refine⟨_,#[zd,#[zbw,#[pvx,2],#[zba,#[zo,#[zi,3,zac.nd,(cR rfl)],#[zo,#[zi,4,zac.nd,(cR rfl)],#[zo,#[zi,5,zac.nd,#[A]],#[z9]]]]]],#[zd,#[zn,6,zac.nd,(cR rfl),#[zC,jV,(hr.mono #[D]),T.m_l_draws,jL.kp,jM,#[zaa],#[za,#[pvx,0],by exact #[za,#[pvx,1],#[za,#[ze],#[ya,#[ze]]]]]]],#[zd,#[zbC,7,zac.nd,#[A],(CompSc.of (N':=["j","plan","p","k"]) (ix:=[none,some 6,some 3,some 4]) (zh zcF) ["script","at","code","p","k","places","plan","ones","slips","way","row","number","which","entry"] rfl rfl #[N]),#[zaN],#[zaI,T.range_,#[ya,#[ze]]],(fun _ _ _ _=>#[zi,0,(show (["j","plan","p","k"]:List Str).Nodup from #[N]),#[A]]),(fun _ _ _ _=>#[zap]),(fun _ _ _ _=>#[zC,lU,(hr.mono #[D]),T.m_l_polynomial,kG.kp,jX,#[zaa],#[za,#[zbo,(ziF (K:=K) rfl),#[pvx,1],#[zbY,#[zg,#[zN],#[ze],#[pvx,0]]],#[zbX]],#[za,#[pvx,2],#[ya,#[pvx,3]]]]])],#[zd,#[zn,8,zac.nd,#[A],#[zC,jV,(hr.mono #[D]),T.m_l_draws,jL.kp,jM,#[zaa],#[za,#[pvx,0],by exact #[za,#[zg,#[zU],#[pvx,1],#[ze]],#[za,#[ze],#[ya,#[ze]]]]]]],#[zd,#[zn,9,zac.nd,#[A],#[zg,#[zA],#[zP,#[zB],#[pvx,8],#[ze]],#[ze]]],#[zd,#[zn,10,zac.nd,#[A],#[zad,#[zf]]],#[zd,#[zaV,bA,#[zaI,T.range_,#[ya,#[zF,#[zw],T.len_,bU,#[ya,#[pvx,5]]]]],#[zi,11,zac.nd,#[A]],#[zd,#[zn,12,zac.nd,#[A],#[zP,#[zB],#[zad,#[zcg,#[zcg,#[za,#[zg,#[zA],#[zP,#[zB],#[pvx,8],#[pvx,11]],#[ze]],by exact #[za,#[zg,#[zA],#[zP,#[zB],#[pvx,8],#[pvx,11]],#[ze]],#[za,#[ze],#[ya,#[ze]]]]]]]],#[pvx,9]]],#[zd,#[zn,13,zac.nd,#[A],#[zC,pj,(hr.mono #[D]),T.m_l_value,mS.kp,lg,#[zaa],#[za,#[pvx,3],#[za,#[zP,#[zB],#[pvx,7],#[pvx,12]],#[ya,#[zP,#[zcH],#[pvx,5],#[pvx,11]]]]]]],#[zd,#[za9,#[zL,#[zdk],#[zg,#[zA],#[zg,#[zc6],#[zP,#[zB],#[pvx,8],#[pvx,11]],#[ze]],#[zP,#[zB],#[zad,#[zcg,#[zcg,#[zcg,#[za,#[ze],#[za,#[ze],#[ya,#[ze]]]]]]]],#[pvx,9]]],#[ze],(zZ _)],#[zp,#[zn,13,zac.nd,#[A],#[zg,#[zA],#[zg,#[zc6],#[zP,#[zB],#[pvx,8],#[pvx,11]],#[ze]],#[pvx,3]]]],#[zan]],#[zd,#[za9,(@PW.pt _ _ _ #[zie,#[zL,#[zdk],#[zg,#[zA],#[zg,#[zc6],#[zP,#[zB],#[pvx,8],#[pvx,11]],#[ze]],#[zP,#[zB],#[zad,#[za,#[ze],#[ya,#[ze]]]],#[zg,#[zA],#[zP,#[zB],#[pvx,8],#[ze]],#[ze]]]],#[ze],(zZ _)],#[zgu,#[zL,#[zeh],#[zg,#[zA],#[zP,#[zB],#[pvx,8],#[ze]],#[ze]],#[ze],(zZ _)]]]),#[zp,#[zn,13,zac.nd,#[A],#[zf0]]],#[zan]],#[zp,#[zc5,#[zgx,du,ee,eg,#[zcI],#[pvx,10],#[ya,#[pvx,13]]]]]]]]]],#[zp,#[zR,(@zif _ _ _ _ _ _ _ _ #[zL,#[zdk],#[zg,#[zA],#[zP,#[zB],#[pvx,8],#[ze]],#[ze]],#[ze],(zZ _)] #[zg,#[zf6],#[zad,#[ya,#[zf0]]],#[zF,#[zw],T.len_,bU,#[ya,#[pvx,10]]]] #[pvx,10])]]]]]]]]],?_⟩;refine zl1 ?_; intro zN8 Ae w4 uz rC oO nr;have nW:=bu;refine⟨_,rfl,c,_,rfl,jI.of hc.1,rfl,_,_,rfl,_,_,rfl,_,_,rfl,rfl,?_⟩;refine⟨_,rfl,_,rfl,a,ns,at',16,27720,rfl,hS,jE,a0,#[O],#[D],#[D],#[D],#[D],fun l ds H1 hl s1 hd qg=>?_⟩;have uy:ds.length=16:=hd.1;refine⟨3,rfl,#[D],#[D],zab (n:=3) (fun i ys H'=>zy H1 H'∧∃ os:List Addr,os.length=i∧ys=os.map V.ref∧∀ o∈os,∃ ms:List Int,H' o=some (.tup (ms.map V.int))) ⟨fun _ _ e=>e,[],rfl,rfl,#[M]⟩ (fun i ys H' hi _=>hi) (fun ys H' _=>ag _) ?_ ?_⟩
  ·rintro zS zT zE i xx ys H4 H5 hi ⟨s4,os,ho,rfl,Al⟩ ⟨rfl,rfl⟩;refine gY ?_;refine⟨_,rfl,_,rfl,_,_,rfl,rfl,.inl ⟨#[D],#[D]⟩,_,rfl,l,_,rfl,jy.of (s4 _ _ qg),fun z hz=>?_⟩;obtain⟨ms,w6,lms⟩:=zfq ds (some (3*(0+(i:Int)))) none;rw [w6];refine⟨_,rfl,_,rfl,z,ms,p,k,rfl,jy.of zb,#[O],p0,fun po jQ H6 vI s6 _ h6 _=>?_⟩;have s5:=(zc (o:=.lst (ms.map V.int)) hz).trans s6;refine⟨zae (by rw [ab]; lia),s4.trans s5,os++[po],by rw [av,ho]; rfl,by rw [aD]; rfl,fun o hm=>?_⟩;rcases (aM.mp hm) with hm | hm
   ·obtain⟨m2,e⟩:=Al o hm;exact⟨m2,s5 _ _ e⟩
   ·rw [aH.mp hm]; exact⟨jQ,h6⟩
  ·rintro ys H4 on ⟨s4,os,ho,rfl,Al⟩ hon;have s5:=s1.trans (s4.trans (zc (o:=.lst (os.map V.ref)) hon));have sx:ze1 (jA H4 on (.lst (os.map V.ref))) on:=⟨os,ho,zb,fun o hm=>let ⟨ms,e⟩:=Al o hm; ⟨ms,(zc hon) _ _ e⟩⟩;generalize jA H4 on (.lst (os.map V.ref))=H5 at s5 sx ⊢;refine⟨_,rfl,_,rfl,_,_,rfl,rfl,a,ns,at'+1,20,27720,rfl,s5.seq hS,jE,#[O],#[O],#[D],#[D],#[D],#[D],fun sl es H6 hsl6 s6 he Am=>?_⟩;have hel:es.length=20:=he.1;have her:=he.2;have vJ:∀ m:Int,0≤m→m < 20→∃ c:Int,atI (es.map V.int) m=some (.int c):=fun m h0 h1=>zc7 h0 #[O]
   obtain⟨An,oQ⟩:=vJ 16 #[D] #[D];obtain⟨d17,oR⟩:=vJ 17 #[D] #[D];obtain⟨d18,e18⟩:=vJ 18 #[D] #[D];obtain⟨d19,e19⟩:=vJ 19 #[D] #[D];have w0:=aK An (show (6:Int)≠0 by decide);have w1:=aC An (show (0:Int) < 6 by decide);refine⟨_,rfl,sl,_,_,_,rfl,rfl,jy.of Am,oQ,_,_,rfl,rfl,(by show (0:Int) < 6; decide),?_⟩;obtain⟨way,vK⟩:∃ way,An % 6=way:=⟨_,rfl⟩;rw [vK] at w0 w1;refine⟨a8 _,fun ro vL=>?_⟩;have oS:sl≠ro:=zu Am vL;have Ao:H ro=none:=(s5.trans s6).free vL;have tS:H5 ro=none:=s6.free vL;refine⟨_,rfl,tt,_,rfl,.inr (jI.of ((((s5.trans s6).trans (zc vL))) _ _ hc.2)),_,rfl,by rw [ab]; lia,by rw [ab]; lia,?_⟩;rw [ab,bE];refine zaF (lo:=0) (n:=pl.length) (fun i σ H'=>∃ (rw:List (Option Int)) (v11 Ap Aq:Option V),σ = [some (.ref a),some (.int at'),some (.ref c),some (.int p),some (.int k),some (.ref tt),some (.ref l),some (.ref on),some (.ref sl),some (.int way),some (.ref ro),v11,Ap,Aq] ∧
    rw.length=i∧zy H5 H'∧H' ro=some (.lst (rw.map nF))∧H' sl=some (.lst (es.map V.int))∧∀ z,some z∈rw→0≤z∧z < p)
    ⟨[],none,none,none,by subst vK; rfl,rfl,s6.trans (zc vL),zb,by rw [zm oS]; exact Am,fun z hz=>by simp at hz⟩ ?_ ?_
   ·rintro zD zT i σ H7 hi ⟨rw,v11,Ap,Aq,rfl,nu,s7,xa,vM,pb⟩;obtain⟨di,ei⟩:=vJ (0+(i:Int)) #[O] #[O];obtain⟨x,hx⟩:∃ x,pl[i]? = some x:=⟨pl[i]'hi,#[M]⟩;obtain⟨x0,x1⟩:=lC x (aJ hx);have Ar:atI (pl.map V.int) (0+(i:Int))=some (.int x):=by rw [iA]; exact zbz (by rw [am,hx]; rfl)
    have m20:=aK di (show (2:Int)≠0 by decide);have m21:=aC di (show (0:Int) < 2 by decide);have m30:=aK di (show (3:Int)≠0 by decide);have m31:=aC di (show (0:Int) < 3 by decide);obtain⟨wh,ewh,wh0,wh1⟩:=zlG w0 w1 m20 #[O] m30 m31;refine⟨_,rfl,_,rfl,sl,_,_,_,rfl,rfl,jy.of vM,ei,_,_,rfl,rfl,(by show (0:Int) < 2; decide),_,rfl,_,rfl,sl,_,_,_,rfl,rfl,jy.of vM,ei,_,_,rfl,rfl,(by show (0:Int) < 3; decide),by show 6≤sizeLine; lia,fun l6 As=>?_⟩;refine⟨_,rfl,l6,_,_,_,rfl,rfl,jy.of zb,ewh,?_⟩;have s8:=s7.trans (zc (o:=.lst [.int 0,.int 0,.int (di % 2),.int (di % 3),.int 0,.int 0]) As);have h8r:=(zc (o:=.lst [.int 0,.int 0,.int (di % 2),.int (di % 3),.int 0,.int 0]) As) _ _ xa;have Au:=(zc (o:=.lst [.int 0,.int 0,.int (di % 2),.int (di % 3),.int 0,.int 0]) As) _ _ vM;obtain⟨H8,hH8⟩:∃ H8,H8=jA H7 l6 (.lst [.int 0,.int 0,.int (di % 2),.int (di % 3),.int 0,.int 0]):=⟨_,rfl⟩;rw [← hH8] at s8 h8r Au ⊢;have hc8:=hc.same (s5.trans s8);obtain⟨Av,o1,o2,o3⟩:=sx.same s8;obtain⟨ow,how⟩:∃ ow,Av[wh.toNat]? = some ow:=⟨Av[wh.toNat]'#[O],#[M]⟩;obtain⟨mw,hmw⟩:=o3 ow (aJ how);have Aw:atI (Av.map V.ref) wh=some (.ref ow):=by
     have e:((wh.toNat:Nat):Int)=wh:=by lia
     rw [← e];exact zbz (by rw [am,how]; rfl)
    refine⟨_,rfl,_,rfl,_,rfl,on,_,_,_,rfl,rfl,jy.of o2,Aw,_,rfl,_,rfl,tt,_,_,_,rfl,rfl,jI.of hc8.2,Ar,p,x,ow,mw,rfl,.inr (jI.of hmw),p0,p1,x0,x1,?_⟩;obtain⟨z6,ez6,z60⟩:=zko w0 w1;refine⟨_,rfl,_,rfl,sl,_,_,_,rfl,rfl,jy.of Au,ei,_,_,rfl,rfl,⟨#[D],#[D]⟩,by show 6≤sizeLine; lia,fun l7 hl7=>?_⟩;have u7:=zc (o:=.lst [.int 4,.int 9,.int 9,.int 9,.int 2,.int 1]) hl7;refine⟨_,rfl,l7,_,_,_,rfl,rfl,jy.of zb,ez6,_,_,rfl,rfl,z60,rfl,_,rfl,?_⟩;have s9:=s8.trans u7;have h9r:=u7 _ _ h8r;have xb:=u7 _ _ Au;generalize jA H8 l7 (.lst [.int 4,.int 9,.int 9,.int 9,.int 2,.int 1])=H9 at s9 h9r xb ⊢;have t0:=aK d17 (show (2:Int)≠0 by decide);have t1:=aC d17 (show (0:Int) < 2 by decide);obtain⟨z2,ez2,z20⟩:=zkp t0 t1;refine zbd (fun _=>⟨_,rfl,_,rfl,sl,_,_,_,rfl,rfl,jy.of xb,ei,_,_,rfl,rfl,⟨#[D],#[D]⟩,_,rfl,_,_,rfl,rfl,p0,?_⟩) (fun _=>?_)
    all_goals
     refine⟨_,rfl,_,rfl,sl,_,_,_,rfl,rfl,jy.of xb,ei,_,_,rfl,rfl,⟨#[D],#[D]⟩,zaK,fun l8 hl8=>?_⟩;have u8:=zc (o:=.lst [.int 9,.int 3]) hl8;have sX:=s9.trans u8;have uB:=u8 _ _ h9r;have vN:=u8 _ _ xb;refine⟨_,rfl,sl,_,_,_,rfl,rfl,jy.of vN,oR,_,_,rfl,rfl,(by show (0:Int) < 2; decide),l8,_,_,_,rfl,rfl,jy.of zb,ez2,_,_,rfl,rfl,z20,rfl,_,rfl,?_⟩; refine zbd (fun _=>?_) (fun _=>?_)
     ·refine⟨_,rfl,sl,_,_,_,rfl,rfl,jy.of vN,e18,_,_,rfl,rfl,(by show (0:Int) < 3; decide),_,_,rfl,rfl,_,rfl,?_⟩; refine zbd (fun _=>?_) (fun _=>?_)
      ·exact⟨_,rfl,.inl ⟨rfl,_,jy.of uB⟩,_,rfl,ro,_,_,rfl,rfl,uB,zae (by rw [ab]; lia),rw++[none],_,_,_,rfl,by rw [av,nu]; rfl,zaq sX tS,by rw [zb,aD]; rfl,by rw [zm oS]; exact vN,zjv pb⟩
      ·exact⟨_,rfl,.inl ⟨rfl,_,jy.of uB⟩,_,rfl,ro,_,_,rfl,rfl,uB,zae (by rw [ab]; lia),rw++[some _],_,_,_,rfl,by rw [av,nu]; rfl,zaq sX tS,by rw [zb,aD]; rfl,by rw [zm oS]; exact vN,zfT pb (by first | exact⟨aK _ #[O],aC _ p0⟩ | exact zfU p0)⟩
     ·refine zit ?_;exact⟨_,rfl,.inl ⟨rfl,_,jy.of uB⟩,_,rfl,ro,_,_,rfl,rfl,uB,zae (by rw [ab]; lia),rw++[some _],_,_,_,rfl,by rw [av,nu]; rfl,zaq sX tS,by rw [zb,aD]; rfl,by rw [zm oS]; exact vN,zfT pb (by first | exact⟨aK _ #[O],aC _ p0⟩ | exact zfU p0)⟩
   ·rintro σ H7 ⟨rw,v11,Ap,Aq,rfl,nu,s7,xa,vM,pb⟩;refine⟨_,rfl,sl,_,_,_,rfl,rfl,jy.of vM,e19,_,_,rfl,rfl,(by show (0:Int) < 30; decide),rfl,_,rfl,?_⟩;refine zbd (fun _=>?_) (fun _=>⟨_,rfl,q ro rw H7 Ao (s5.trans s7) nu pb xa⟩);refine⟨by show 1≤sizeLine; lia,fun z hz=>⟨_,rfl,ro,_,rfl,.inl (jy.of ((zc hz) _ _ xa)),z,_,[.non],rfl,rfl,zb,by rw [ab]; lia,by rw [ab]; lia,by rw [ab]; show 1*_≤sizeLine; lia,fun y hy=>?_⟩⟩;have s8:=(s5.trans s7).trans (zc (o:=.lst [.non]) hz);refine q y (aE pl.length none) _ (s8.free hy) (s8.trans (zc hy)) (by rw [eM]) (fun z hz=>by cases List.eq_of_mem_replicate hz) ?_;rw [zb,ab,zme,nu,bE]
theorem zbh:FnScope ["p","polynomial","x","value","number"] ["p","polynomial","x"] (zh zbK):=#[S]
theorem zbW {fd:FuncData} (T:Txt K mg base t) (F:Fun K "value_at" "value_at" zbK t.value_at fd):FnOk P w K mg base CX0 1 t.value_at fd ["p","polynomial","x"] (zcT K):=by
 refine F.ok zbh (fun vs H Q E h=>?_) (fun jW A outer s H vs Q E hr h=>?_)
 ·obtain⟨p,x,a,cs,rfl,_⟩:=h;rfl
 ·obtain⟨p,x,a,cs,rfl,hS,p0,p1,x0,x1,q⟩:=h;refine zbp ?_; intro zX;refine⟨_,#[zd,#[zn,3,zbh.nd,#[A],#[ze]],#[zd,#[zaV,bA,(@zla _ _ _ _ _ _ rfl T.reversed_ #[ya,#[pvx,1]] (by rfl)),#[zi,4,zbh.nd,#[A]],#[zp,#[zn,3,zbh.nd,#[A],#[zg,#[zA],#[zg,#[zU],#[zg,#[zN],#[pvx,3],#[pvx,2]],#[pvx,4]],#[pvx,0]]]]],#[zp,#[zR,#[pvx,3]]]]],?_⟩;refine ziu ?_; intro oO nr;refine⟨_,rfl,a,cs.map V.int,rfl,?_⟩;rcases hS with hS | hS
  ·refine .inl ⟨hS,?_⟩;rw [ab];refine zgz (n:=cs.length) (fun i σ H'=>H'=H∧∃ nb,σ = [some (.int p),some (.ref a),some (.int x),some (.int (zj p x (cs.drop (cs.length - i)))),nb]) ⟨rfl,none,by rw [iz,eL]; rfl⟩
    (fun i σ H' hi ⟨e,_⟩=>⟨hi,cs.map V.int,by rw [e]; exact hS,by rw [ab]⟩) (fun σ H' _=>ag _) ?_ ?_
   ·rintro zD zT i y σ H1 H2 hi ⟨rfl,nb,rfl⟩ ⟨rfl,hy⟩;obtain⟨c,rfl,hc⟩:=zao (hy _ hS);have v0:=zaO (x:=x) p0 (cs.drop (cs.length - i));have v1:=zaP (x:=x) p0 (cs.drop (cs.length - i));refine⟨_,rfl,_,rfl,_,_,rfl,rfl,.inl ⟨#[O],#[O]⟩,_,rfl,_,_,rfl,rfl,_,rfl,_,_,rfl,rfl,p0,?_⟩;refine⟨rfl,some (.int c),?_⟩;rw [zet hi hc];show _ = [some (V.int p),_,_,some (V.int ((c+x*zj p x (cs.drop (cs.length - i))) % p)),_];rw [Int.add_comm c,ir x];rfl
   ·rintro σ H1 ⟨rfl,nb,rfl⟩;rw [Nat.sub_self,fo];exact⟨_,rfl,q⟩
  ·refine .inr ⟨hS,?_⟩;rw [ab];refine zgz (n:=cs.length) (fun i σ H'=>H'=H∧∃ nb,σ = [some (.int p),some (.ref a),some (.int x),some (.int (zj p x (cs.drop (cs.length - i)))),nb]) ⟨rfl,none,by rw [iz,eL]; rfl⟩
    (fun i σ H' hi ⟨e,_⟩=>⟨hi,cs.map V.int,by rw [e]; exact hS,by rw [ab]⟩) (fun σ H' _=>ag _) ?_ ?_
   ·rintro zD zT i y σ H1 H2 hi ⟨rfl,nb,rfl⟩ ⟨rfl,hy⟩;obtain⟨c,rfl,hc⟩:=zao (hy _ hS);have v0:=zaO (x:=x) p0 (cs.drop (cs.length - i));have v1:=zaP (x:=x) p0 (cs.drop (cs.length - i));refine⟨_,rfl,_,rfl,_,_,rfl,rfl,.inl ⟨#[O],#[O]⟩,_,rfl,_,_,rfl,rfl,_,rfl,_,_,rfl,rfl,p0,?_⟩;refine⟨rfl,some (.int c),?_⟩;rw [zet hi hc];show _ = [some (V.int p),_,_,some (V.int ((c+x*zj p x (cs.drop (cs.length - i))) % p)),_];rw [Int.add_comm c,ir x];rfl
   ·rintro σ H1 ⟨rfl,nb,rfl⟩;rw [Nat.sub_self,fo];exact⟨_,rfl,q⟩
theorem zaG:FnScope ["p","number","product","square","left"] ["p","number"] (zh zb9):=#[S]
theorem zgr {fd:FuncData} (T:Txt K mg base t) (F:Fun K "inverse" "inverse" zb9 t.inverse fd):FnOk P w K mg base CX0 1 t.inverse fd ["p","number"] (zge K):=by
 refine F.ok zaG (fun vs H Q E h=>?_) (fun jW A outer s H vs Q E hr h=>?_)
 ·obtain⟨p,h,rfl,_⟩:=h;rfl
 ·obtain⟨p,hh,rfl,mp,h0,h1,q⟩:=h;refine zbp ?_; intro zX;refine⟨_,#[zd,#[zn,2,zaG.nd,#[A],#[ze]],#[zd,#[zn,3,zaG.nd,#[A],#[zg,#[zA],#[pvx,1],#[pvx,0]]],#[zd,#[zn,4,zaG.nd,#[A],#[zg,#[zby],#[pvx,0],#[ze]]],#[zd,(@zih _ _ _ _ _ _ bA #[zL,#[zeh],#[pvx,4],#[ze],(zZ _)] #[zd,#[za9,#[zL,#[zdk],#[zg,#[zA],#[pvx,4],#[ze]],#[ze],(zZ _)],#[zp,#[zn,2,zaG.nd,#[A],#[zg,#[zA],#[zg,#[zN],#[pvx,2],#[pvx,3]],#[pvx,0]]]],#[zan]],#[zd,#[zn,3,zaG.nd,#[A],#[zg,#[zA],#[zg,#[zN],#[pvx,3],#[pvx,3]],#[pvx,0]]],#[zp,(@zkU _ _ (4) _ _ _ _ _ _ zaG.nd rfl #[A] #[ze] zik (by trivial))]]]),#[zp,#[zR,#[pvx,2]]]]]]],?_⟩;refine zlZ ?_; intro uz rC oO nr;have rp:=zM mp;have e0:=aK hh (show p≠0 by lia);have e1:=aC hh (show 0 < p by lia);refine⟨_,rfl,_,rfl,_,_,rfl,rfl,(by show 0 < p; lia),_,rfl,_,_,rfl,rfl,?_⟩;refine zij (fun σ H'=>H'=H∧∃ (prod sq left:Int) (n:Nat),σ = [some (.int p),some (.int hh),some (.int prod),some (.int sq),some (.int left)]∧0≤prod∧prod < p∧0≤sq∧sq < p∧0≤left∧left < 2 ^ n∧zb1 p n prod sq left=inv p hh) (fun σ _=>zlg σ)
   ⟨rfl,1,hh % p,p - 2,7,rfl,#[O],#[O],e0,e1,#[O],#[O],rfl⟩ ?_ ?_
  ·rintro σ H1 ⟨rfl,prod,sq,left,n,rfl,b0,b1,s0,s1,l0,l1,hi⟩;refine⟨_,rfl,_,_,rfl,rfl,_,rfl,?_⟩;refine zbd (fun hl=>?_) (fun hl=>?_)
   ·have hl:0 < left:=by simpa using hl
    obtain⟨m,rfl⟩:∃ m,n=m+1:=by
     cases n with
     | zero=>lia
     | succ m=>exact⟨m,rfl⟩
    rw [zeO hl l1] at hi;have l2:left / 2 < 2 ^ m:=by
     have:(2:Int) ^ (m+1)=2 ^ m*2:=Int.pow_succ ..;lia
    have m0:=aK (prod*sq) (show p≠0 by lia);have m1:=aC (prod*sq) (show 0 < p by lia);have n0:=aK (sq*sq) (show p≠0 by lia);have n1:=aC (sq*sq) (show 0 < p by lia);refine⟨_,rfl,_,_,rfl,rfl,(by show (0:Int) < 2; decide),rfl,_,rfl,?_⟩; refine zbd (fun ho=>?_) (fun ho=>?_)
    ·have ho:left % 2=1:=by simpa using ho
     rw [if_pos ho] at hi;refine⟨_,rfl,_,rfl,_,_,rfl,rfl,.inl ⟨#[O],#[O]⟩,_,rfl,_,_,rfl,rfl,(by show 0 < p; lia),?_⟩;refine⟨_,rfl,_,rfl,_,_,rfl,rfl,.inl ⟨#[O],#[O]⟩,_,rfl,_,_,rfl,rfl,(by show 0 < p; lia),?_⟩;refine⟨_,rfl,_,_,rfl,rfl,⟨#[D],#[D]⟩,⟨rfl,_,_,_,m,rfl,m0,m1,n0,n1,#[O],l2,hi⟩,?_⟩;show (left / 2).toNat < left.toNat;lia
    ·have ho:¬ left % 2=1:=by simpa using ho
     rw [if_neg ho] at hi;refine⟨_,rfl,_,rfl,_,_,rfl,rfl,.inl ⟨#[O],#[O]⟩,_,rfl,_,_,rfl,rfl,(by show 0 < p; lia),?_⟩;refine⟨_,rfl,_,_,rfl,rfl,⟨#[D],#[D]⟩,⟨rfl,_,_,_,m,rfl,b0,b1,n0,n1,#[O],l2,hi⟩,?_⟩;show (left / 2).toNat < left.toNat;lia
   ·have hl:¬ 0 < left:=by simpa using hl
    have el:left=0:=by lia
    subst el;rw [zfn] at hi;rw [← hi] at q;exact⟨_,rfl,q⟩
  ·rintro σ H1 Q1 Q2 hq ⟨v,e,i,j,e1,e2,k,e3,q⟩;exact⟨v,e,i,j,e1,e2,k,e3,hq _ _ q⟩
def zdT (K:af):Sp:=fun vs H Q _=>∃ (p r:Int) (a:Addr) (cs:List Int),vs = [.int p,.ref a,.int r]∧H a=some (.lst (cs.map V.int))∧cs.length≤1000∧0 < p∧-97≤r∧r≤97 ∧
 ∀ (l:Addr) (H':Hp),H l=none→zy H H'→H' l=some (.lst ((zbf p r cs).map V.int))→Q (.ref l) H'
theorem zbm:FnScope ["p","polynomial","root","raised","kept"] ["p","polynomial","root"] (zh zaS):=#[S]
theorem zcj {fd:FuncData} (T:Txt K mg base t) (F:Fun K "times_root" "times_root" zaS t.times_root fd):FnOk P w K mg base CX0 1 t.times_root fd ["p","polynomial","root"] (zdT K):=by
 refine F.ok zbm (fun vs H Q E h=>?_) (fun jW A outer s H vs Q E hr h=>?_)
 ·obtain⟨p,r,a,cs,rfl,_⟩:=h;rfl
 ·obtain⟨p,r,a,cs,rfl,ha,jE,p0,r0,r1,q⟩:=h;refine zbp ?_; intro zX;refine⟨_,#[zd,#[zn,3,zbm.nd,#[A],#[zg,#[zdn],#[zad,#[ya,#[ze]]],#[pvx,1]]],#[zd,#[zn,4,zbm.nd,#[A],#[zg,#[zdn],#[pvx,1],#[zad,#[ya,#[ze]]]]],#[zp,#[zR,#[zaB,(CompSc.of (N':=["high","low","root","p"]) (ix:=[none,none,some 2,some 0]) (zh zaS) ["p","polynomial","root","raised","kept"] rfl rfl #[N]),#[zcK,#[zas,#[zas,#[zb0]]]],#[zgE,T.zip_,#[za,#[pvx,3],#[ya,#[pvx,4]]]],(fun _ _ _ _=>#[zbE,(K),2,#[zo,#[zi,0,(show (["high","low","root","p"]:List Str).Nodup from #[N]),#[A]],#[zo,#[zi,1,(show (["high","low","root","p"]:List Str).Nodup from #[N]),#[A]],#[z9]]]]),(fun _ _ _ _=>#[zap]),(fun _ _ _ _=>#[zg,#[zA],#[zg,#[zby],#[pvx,0],#[zg,#[zN],#[pvx,2],#[pvx,1]]],#[pvx,3]])]]]]],?_⟩;refine ziu ?_; intro oO nr;have nW:=bu;refine⟨by show 1≤sizeLine; lia,fun z hz=>⟨_,rfl,z,a,[.int 0],cs.map V.int,rfl,rfl,zb,by rw [zm (zu ha hz)]; exact ha,by rw [ab]; show 1+cs.length≤sizeLine; lia,fun ra rF=>?_⟩⟩;have s1:zy H (jA (jA H z (.lst [.int 0])) ra (.lst ([.int 0]++cs.map V.int))):=(zc hz).trans (zc rF);refine⟨_,rfl,by show 1≤sizeLine; lia,fun z2 pS=>⟨a,z2,cs.map V.int,[.int 0],rfl,rfl,by rw [zm (zu (s1 _ _ ha) pS)]; exact s1 _ _ ha,zb,by rw [ab]; show cs.length+1≤sizeLine; lia,fun ke hke=>?_⟩⟩;have s2:=s1.trans ((zc (o:=.lst [.int 0]) pS).trans (zc (o:=.lst (cs.map V.int++[.int 0])) hke));have qh:jA (jA (jA (jA H z (.lst [.int 0])) ra (.lst ([.int 0]++cs.map V.int))) z2 (.lst [.int 0])) ke (.lst (cs.map V.int++[.int 0])) ra=some (.lst ((0 :: cs).map V.int)) :=
   ((zc (o:=.lst [.int 0]) pS).trans (zc (o:=.lst (cs.map V.int++[.int 0])) hke)) _ _ zb
  have ql:jA (jA (jA (jA H z (.lst [.int 0])) ra (.lst ([.int 0]++cs.map V.int))) z2 (.lst [.int 0])) ke (.lst (cs.map V.int++[.int 0])) ke=some (.lst ((cs++[0]).map V.int)):=by rw [zb,aD]; rfl
  generalize jA (jA (jA (jA H z (.lst [.int 0])) ra (.lst ([.int 0]++cs.map V.int))) z2 (.lst [.int 0])) ke (.lst (cs.map V.int++[.int 0]))=H2 at s2 qh ql ⊢;refine⟨_,rfl,_,rfl,ra,ke,_,_,rfl,jy.of qh,jy.of ql,zab (n:=cs.length+1) (fun i ys H'=>ys=((zbf p r cs).take i).map V.int∧zy H2 H') ⟨#[M],fun _ _ e=>e⟩ ?_ ?_ ?_ ?_⟩
  ·rintro i ys H3 hi ⟨_,s3⟩;obtain⟨x,hx⟩:∃ x,(0 :: cs)[i]? = some x:=⟨(0 :: cs)[i]'(by simpa using hi),#[M]⟩;obtain⟨y,hy⟩:∃ y,(cs++[0])[i]? = some y:=⟨(cs++[0])[i]'(by simpa using hi),#[M]⟩;exact⟨_,_,.int x,.int y,jy.of (s3 _ _ qh),jy.of (s3 _ _ ql),by rw [am,hx]; rfl,by rw [am,hy]; rfl⟩
  ·rintro ys H3 ⟨_,s3⟩;exact⟨_,_,jy.of (s3 _ _ qh),jy.of (s3 _ _ ql),.inl #[M]⟩
  ·rintro zS zT zE i x ys H3 H4 hi ⟨rfl,s3⟩ ⟨T,u,v,hT,rfl,rfl,hu,hv⟩;obtain⟨x,rfl,hx⟩:=zao (hu _ (jy.of (s3 _ _ qh)));obtain⟨y,rfl,hy⟩:=zao (hv _ (jy.of (s3 _ _ ql)));refine gY2 (jI.of zb) ?_;refine⟨_,rfl,_,rfl,_,rfl,_,_,rfl,rfl,.inl ⟨#[O],#[O]⟩,_,_,rfl,rfl,_,rfl,_,_,rfl,rfl,p0,zae ?_,?_,s3.trans (zc hT)⟩
   ·rw [ab];exact aZ (ff _ _) #[O]
   ·show _=(List.take (i+1) (be (trF p r) (0 :: cs) (cs++[0]))).map V.int;rw [zfo hx hy,aD];rfl
  ·rintro ys H3 D ⟨rfl,s3⟩ hD;refine q D _ ((s2.trans s3).free hD) ((s2.trans s3).trans (zc hD)) ?_;rw [zb,aR (by rw [zcL]; exact ag _)]
theorem zjx {p f:Int}:∀ (cs vs:List Int),vs.length≤cs.length→ad p f cs vs=be (fun number other=>(number+f*other) % p) cs vs++cs.drop vs.length
 | [],[],_=>rfl
 | _ :: _,[],_=>rfl
 | [],_ :: _,h=>by simp at h
 | c :: cs,v :: vs,h=>by
  show (c+f*v) % p :: ad p f cs vs=(c+f*v) % p :: (be _ cs vs++cs.drop vs.length);rw [zjx cs vs (by simpa using h)]
theorem zfV {xs:List V} {k:Nat} (h:k≤xs.length):zdl xs (some (k:Int)) none=xs.drop k:=by
 have e1:HT.sIx xs.length 0 (some (k:Int))=k:=by
  unfold HT.sIx;simp;split <;> lia
 have e2:HT.sIx xs.length xs.length none=xs.length:=rfl;unfold zdl;rw [e1,e2];exact aR (by rw [cv]; exact ag _)
def zkq (K:af):Sp:=fun vs H Q _=>∃ (p x y:Int) (c v b:Addr) (cs ws:List Int),vs = [.int p,.ref c,.ref v,.ref b]∧H c=some (.lst (cs.map V.int))∧H v=some (.lst (ws.map V.int))∧H b=some (.tup [.int x,.int y])∧p∈zt∧0≤x∧x < p∧0≤y∧y < 10000∧0 < zj p x ws∧zj p x ws < p∧ws.length≤cs.length∧cs.length≤1000 ∧
 ∀ (l:Addr) (H':Hp),H l=none→zy H H'→H' l=some (.lst ((ad p ((y - zj p x cs)*inv p (zj p x ws) % p) cs ws).map V.int))→Q (.ref l) H'
theorem zcd:FnScope ["p","polynomial","vanishing","point","x","y","missing","factor","added"] ["p","polynomial","vanishing","point"] (zh zdR):=#[S]
theorem zkr {fd:FuncData} (T:Txt K mg base t) (F:Fun K "bent" "bent" zdR t.bent fd):FnOk P w K mg base CX0 2 t.bent fd ["p","polynomial","vanishing","point"] (zkq K):=by
 obtain⟨kH,jJ,jK⟩:=T.f_value_at;have jR:=zbW (P:=P) (w:=w) (base:=base) T jJ;obtain⟨oh,mT,lh⟩:=T.f_inverse;have pq:=zgr (P:=P) (w:=w) (base:=base) T mT;refine F.ok zcd (fun vs H Q E h=>?_) (fun jW A outer s H vs Q E hr h=>?_)
 ·obtain⟨p,x,y,c,v,b,cs,ws,rfl,_⟩:=h;rfl
 ·obtain⟨p,x,y,c,v,b,cs,ws,rfl,hc,hv,hb,mp,x0,x1,y0,y1,g0,g1,hle,jE,q⟩:=h;refine zbp ?_; intro zX;refine⟨_,#[zd,#[zbw,#[pvx,3],#[zba,#[zo,#[zi,4,zcd.nd,#[A]],#[zo,#[zi,5,zcd.nd,#[A]],#[z9]]]]],#[zd,#[zn,6,zcd.nd,#[A],#[zg,#[zby],#[pvx,5],#[zC,jR,(hr.mono #[D]),T.m_value_at,jJ.kp,jK,#[zaa],#[za,#[pvx,0],#[za,#[pvx,1],#[ya,#[pvx,4]]]]]]],#[zd,#[zn,7,zcd.nd,(cR rfl),#[zg,#[zA],#[zg,#[zN],#[pvx,6],#[zC,pq,(hr.mono #[D]),T.m_inverse,mT.kp,lh,#[zaa],#[za,#[pvx,0],#[ya,#[zC,jR,(hr.mono #[D]),T.m_value_at,jJ.kp,jK,#[zaa],#[za,#[pvx,0],#[za,#[pvx,2],#[ya,#[pvx,4]]]]]]]]],#[pvx,0]]],#[zd,#[zbC,8,zcd.nd,#[A],(CompSc.of (N':=["number","other","factor","p"]) (ix:=[none,none,some 7,some 0]) (zh zdR) ["p","polynomial","vanishing","point","x","y","missing","factor","added"] rfl rfl #[N]),#[zcK,#[zas,#[zas,#[zb0]]]],#[zgE,T.zip_,#[za,#[pvx,1],#[ya,#[pvx,2]]]],(fun _ _ _ _=>#[zbE,(K),2,#[zo,#[zi,0,(show (["number","other","factor","p"]:List Str).Nodup from #[N]),#[A]],#[zo,#[zi,1,(show (["number","other","factor","p"]:List Str).Nodup from #[N]),#[A]],#[z9]]]]),(fun _ _ _ _=>#[zap]),(fun _ _ _ _=>#[zg,#[zA],#[zg,#[zU],#[pvx,0],#[zg,#[zN],#[pvx,2],#[pvx,1]]],#[pvx,3]])],#[zp,#[zR,#[zg,#[zdn],#[pvx,8],#[zbo,zbZ,#[pvx,1],#[zbY,#[zF,#[zw],T.len_,bU,#[ya,#[pvx,8]]]],#[zbX]]]]]]]]],?_⟩;refine zlZ ?_; intro uz rC oO nr;have nW:=bu;have rp:=zM mp;have p0:0 < p:=by lia
  have v0:=zaO (x:=x) p0 cs;have v1:=zaP (x:=x) p0 cs;refine⟨_,rfl,b,_,rfl,jI.of hb,rfl,_,_,rfl,_,_,rfl,rfl,?_⟩;refine⟨_,rfl,_,rfl,_,rfl,_,rfl,p,x,c,cs,rfl,.inl (jy.of hc),p0,#[O],x0,x1,_,_,rfl,rfl,?_⟩;refine⟨_,rfl,_,rfl,_,rfl,_,rfl,_,rfl,p,x,v,ws,rfl,.inl (jy.of hv),p0,#[O],x0,x1,p,_,rfl,mp,#[O],#[O],_,_,rfl,rfl,.inl ⟨#[O],#[O]⟩,_,rfl,_,_,rfl,rfl,p0,?_⟩;have f0:=aK ((y - zj p x cs)*inv p (zj p x ws)) (show p≠0 by lia);have f1:=aC ((y - zj p x cs)*inv p (zj p x ws)) p0;refine⟨_,rfl,_,rfl,c,v,_,_,rfl,jy.of hc,jy.of hv,zhJ (n:=ws.length) (f:=fun number other=>(number+((y - zj p x cs)*inv p (zj p x ws) % p)*other) % p) hc hv hle (ag _) (.inr (ag _)) #[O] ?_ ?_⟩
  ·intro j u w H6 T R B hu hv s6 hT hR;refine gY2 (jI.of zb) ?_;exact⟨_,rfl,_,rfl,_,rfl,_,_,rfl,rfl,.inl ⟨#[O],#[O]⟩,_,_,rfl,rfl,_,rfl,_,_,rfl,rfl,p0,hR⟩
  ·intro D H6 s6 hD;obtain⟨f,hf⟩:∃ f,(y - zj p x cs)*inv p (zj p x ws) % p=f:=⟨_,rfl⟩;rw [hf] at q ⊢;have lz:(be (fun number other=>(number+f*other) % p) cs ws).length=ws.length:=by rw [fe]; lia
   have s7:=s6.trans (zc (o:=.lst ((be (fun number other=>(number+f*other) % p) cs ws).map V.int)) hD);have Ax:jA H6 D (.lst ((be (fun number other=>(number+f*other) % p) cs ws).map V.int)) D=some (.lst ((be (fun number other=>(number+f*other) % p) cs ws).map V.int)):=zb;generalize jA H6 D (.lst ((be (fun number other=>(number+f*other) % p) cs ws).map V.int))=H7 at s7 Ax ⊢;have h7c:=s7 _ _ hc;refine⟨_,rfl,_,rfl,_,rfl,D,_,rfl,.inl (jy.of Ax),?_⟩;refine⟨_,rfl,c,_,rfl,jy.of h7c,fun z hz=>?_⟩;have ec:zdl (cs.map V.int) (some ((((be (fun number other=>(number+f*other) % p) cs ws).map V.int).length:Nat):Int)) none=(cs.drop ws.length).map V.int:=by
    rw [ab,lz,zfV (by rw [ab]; exact hle),gQ]
   rw [ec];have s8:=zc (o:=.lst ((cs.drop ws.length).map V.int)) hz;refine⟨D,z,_,_,rfl,rfl,s8 _ _ Ax,zb,by rw [ab,ab,lz,cv]; lia,fun l hl=>q l _ (((s7.trans s8).free hl)) ((s7.trans s8).trans (zc hl)) ?_⟩;rw [zb,zjx cs ws hle,aD]
theorem zaH:FnScope ["p","points","polynomial","vanishing","x","y"] ["p","points"] (zh zca):=#[S]
theorem zgs {fd:FuncData} (T:Txt K mg base t) (F:Fun K "through" "through" zca t.through fd):FnOk P w K mg base CX0 3 t.through fd ["p","points"] (zfO K):=by
 obtain⟨rG,qo,oj⟩:=T.f_bent;have tT:=zkr (P:=P) (w:=w) (base:=base) T qo;obtain⟨kQ,jO,jP⟩:=T.f_times_root;have ko:=zcj (P:=P) (w:=w) (base:=base) T jO;refine F.ok zaH (fun vs H Q E h=>?_) (fun jW A outer s H vs Q E hr h=>?_)
 ·obtain⟨p,a,jG,rfl,_⟩:=h;rfl
 ·obtain⟨p,a,jG,rfl,hP,jE,mp,hp,hyr,q⟩:=h;refine zbp ?_; intro zX;refine⟨_,#[zd,#[zn,2,zaH.nd,#[A],#[zg,#[zf6],#[zad,#[ya,#[ze]]],#[zF,#[zw],T.len_,bU,#[ya,#[pvx,1]]]]],#[zd,#[zn,3,zaH.nd,#[A],#[zad,#[ya,#[ze]]]],#[zd,#[zaV,bA,#[zar,#[pvx,1]],#[zba,#[zo,#[zi,4,zaH.nd,#[A]],#[zo,#[zi,5,zaH.nd,#[A]],#[z9]]]],#[zd,#[zn,2,zaH.nd,#[A],#[zC,tT,(hr.mono #[D]),T.m_bent,qo.kp,oj,#[zaa],#[za,#[pvx,0],by exact #[za,#[pvx,2],#[za,#[pvx,3],#[ya,#[zck,#[za,#[pvx,4],#[ya,#[pvx,5]]]]]]]]]],#[zp,#[zn,3,zaH.nd,#[A],#[zC,ko,(hr.mono #[D]),T.m_times_root,jO.kp,jP,#[zaa],#[za,#[pvx,0],#[za,#[pvx,3],#[ya,#[pvx,4]]]]]]]]],#[zp,#[zR,#[zaJ,#[zax],T.tuple_,fV,#[ya,#[pvx,2]]]]]]]],?_⟩;refine zk4 ?_; intro rC oO nr;have nW:=bu;have rp:=zM mp;have p0:0 < p:=by lia
  obtain⟨bs,hS,Ay,hb⟩:=id hP;refine⟨by show 1≤sizeLine; lia,fun z hz=>⟨_,rfl,a,_,rfl,.inl ((zc hz).seq hS),z,_,[.int 0],rfl,rfl,zb,by rw [ab]; lia,by rw [ab]; lia,by rw [ab]; show 1*_≤sizeLine; lia,fun c hc=>?_⟩⟩;have s0:=zc (o:=.lst [.int 0]) hz;have hcH:H c=none:=s0.free hc;refine⟨by show 1≤sizeLine; lia,fun v hv=>?_⟩;have hcv:c≠v:=zu zb hv;rw [ab,zfp,Ay,bE] at hv ⊢;have s2:zy H (jA (jA (jA H z (.lst [.int 0])) c (.lst ((aE jG.length 0).map V.int))) v (.lst [.int 1])):=(s0.trans (zc hc)).trans (zc hv);refine⟨_,rfl,a,rfl,⟨_,s2.seq hS⟩,zbr (K:=K) (a:=a) (xs:=bs.map V.ref) (fun i σ H'=>∃ (c v:Addr) (s:List Int×List Int) (e4 e5:Option V),σ = [some (.int p),some (.ref a),some (.ref c),some (.ref v),e4,e5] ∧
   s=(jG.take i).foldl (zbS p) (aE jG.length 0,[1])∧Nw p jG.length ((jG.take i).map (md p)) s∧zy H H'∧H' c=some (.lst (s.1.map V.int))∧H' v=some (.lst (s.2.map V.int)))
   ⟨c,v,_,none,none,rfl,rfl,by rw [eA]; exact zfm mp _,s2,by rw [zm hcv]; exact zb,zb⟩ (fun i σ H' _ ⟨_,_,_,_,_,_,_,_,s3,_⟩=>s3.seq hS) ?_ ?_⟩
  ·rintro zD zT i y σ H1 hy ⟨c,v,s,e4,e5,rfl,hs,nw,s1,mF,Az⟩;obtain⟨b,rfl,sy⟩:=zaQ hy;obtain⟨hi,_⟩:=aG.mp sy;obtain⟨⟨x,y⟩,hq⟩:∃ q,jG[i]? = some q:=⟨jG[i]'#[O],#[M]⟩;have hbq:=s1 _ _ (hb i b _ sy hq);have pF:=zdu hq;have nD:=hp;rw [pF,aD,aS] at nD;have xc:=nD.apart;obtain⟨x0,x1,m0,m1⟩:=hp.rg _ (aI.mpr ⟨_,aJ hq,rfl⟩);obtain⟨y0,y1⟩:=hyr _ (aJ hq);dsimp only [md] at x0 x1 m0 m1 y0 y1;have Ab:i < jG.length:=by lia
   have uA:(jG.take i).length=i:=by rw [aF]; lia
   have AA:=zgI mp nw (q:=md p (x,y)) (by rw [ab,uA]; exact Ab) x0 x1 m0 m1 xc;rw [zfN] at AA;obtain⟨xf,wX⟩:=zgH mp nw (q:=(x,y)) x0 x1 (fun a ha=>⟨(xc a ha).1,(xc a ha).2.1,(xc a ha).2.2.1⟩);dsimp only at xf wX;have ml:zbS p s (x,y)=(ad p ((y - zj p x s.1)*inv p (zj p x s.2) % p) s.1 s.2,zbf p x s.2):=rfl;rw [ml] at AA;have l1:=nw.lc;have l2:=nw.lv;rw [ab,uA] at l2;refine⟨b,_,rfl,jI.of hbq,rfl,_,_,rfl,_,_,rfl,rfl,?_⟩;refine⟨_,rfl,_,rfl,_,rfl,_,rfl,_,rfl,by show 2≤sizeLine; lia,fun tt ht=>?_⟩;have t1:=zc (o:=.tup [.int x,.int y]) ht;refine⟨p,x,y,c,v,tt,s.1,s.2,rfl,t1 _ _ mF,t1 _ _ Az,zb,mp,x0,x1,y0,y1,xf,wX,#[O],#[O],fun l H3 hl s3 qp=>?_⟩;have s4:=t1.trans s3;refine⟨_,rfl,_,rfl,_,rfl,p,x,v,s.2,rfl,s4 _ _ Az,#[O],p0,#[O],#[O],fun l2 H4 mV s5 AB=>?_⟩;refine⟨l,l2,zbS p s (x,y),_,_,rfl,?_,?_,(s1.trans s4).trans s5,?_,?_⟩
   ·rw [take_snoc hq,fR,← hs];rfl
   ·rw [take_snoc hq,ml,aD];exact AA
   ·rw [ml];exact s5 _ _ qp
   ·rw [ml];exact AB
  ·rintro σ H1 ⟨c,v,s,e4,e5,rfl,hs,nw,s1,mF,Az⟩;rw [ab,Ay,bC] at hs;refine⟨_,rfl,c,_,rfl,.inl ⟨jy.of mF,fun l hl=>q l _ (s1.free hl) (s1.trans (zc hl)) ?_⟩⟩;rw [zb,hs,zlx];rfl
theorem zaD:FnScope ["code","row","p","k","places"] ["code","row"] (zh zat):=#[S]
theorem zc3 {fd:FuncData} (T:Txt K mg base t) (F:Fun K "heard_points" "heard_points" zat t.heard_points fd):FnOk P w K mg base CX0 1 t.heard_points fd ["code","row"] (zkg K):=by
 refine F.ok zaD (fun vs H Q E h=>?_) (fun jW A outer s H vs Q E hr h=>?_)
 ·obtain⟨c,tt,r,p,k,pl,rw,rfl,_⟩:=h;rfl
 ·obtain⟨c,tt,r,p,k,pl,rw,rfl,hc,qr,hn,q⟩:=h;refine zbp ?_; intro zX;refine⟨_,#[zd,#[zbw,#[pvx,0],#[zba,#[zo,#[zi,2,zaD.nd,#[A]],#[zo,#[zi,3,zaD.nd,#[A]],#[zo,#[zi,4,zaD.nd,#[A]],#[z9]]]]]],#[zp,#[zR,#[zaB,(CompSc.of (N':=["place","entry"]) (ix:=[none,none]) (zh zat) ["code","row","p","k","places"] rfl rfl #[N]),#[zcK,#[zas,#[zas,#[zb0]]]],(@ziU _ _ _ _ _ _ _ _ _ rfl T.zip_ #[za,#[pvx,4],#[ya,#[pvx,1]]] (by rfl) (by rfl)),(fun _ _ _ _=>#[zbE,(K),2,#[zo,#[zi,0,(show (["place","entry"]:List Str).Nodup from #[N]),#[A]],#[zo,#[zi,1,(show (["place","entry"]:List Str).Nodup from #[N]),#[A]],#[z9]]]]),(fun _ _ _ _=>#[zbq,#[zL,(@zjI _),#[pvx,1],#[zf0],(zZ _)]]),(fun _ _ _ _=>#[zck,#[za,#[pvx,0],#[ya,#[pvx,1]]]])]]]],?_⟩;refine zjO ?_; intro nr;have nW:=bu;have hl:=qr.len;refine⟨_,rfl,c,_,rfl,jI.of hc.1,rfl,_,_,rfl,_,_,rfl,_,_,rfl,rfl,?_⟩;refine⟨_,rfl,_,rfl,tt,r,_,_,rfl,jI.of hc.2,qr.at',zab (n:=pl.length) (fun i ys H'=>zy H H'∧∃ us:List Addr,ys=us.map V.ref∧PtB H' us (jS (pl.take i) (rw.take i))) ⟨fun _ _ e=>e,[],rfl,.nil⟩ ?_ ?_ ?_ ?_⟩
  ·rintro i ys H3 hi ⟨s3,_⟩;obtain⟨o,ho⟩:∃ o,rw[i]? = some o:=⟨rw[i]'#[O],#[M]⟩;exact⟨_,_,.int pl[i],nF o,jI.of (s3 _ _ hc.2),s3.seq qr.at',by rw [am,az hi]; rfl,by rw [am,ho]; rfl⟩
  ·rintro ys H3 ⟨s3,_⟩;exact⟨_,_,jI.of (s3 _ _ hc.2),s3.seq qr.at',.inl (by rw [ab])⟩
  ·rintro zS zT zE i xx ys H3 H4 hi ⟨s3,us,rfl,kD⟩ ⟨T,u,v,hT,rfl,rfl,hu,hv⟩;obtain⟨x,rfl,hx⟩:=zao (hu _ (jI.of (s3 _ _ hc.2)));obtain⟨o,rfl,ho⟩:=zgL (hv _ (s3.seq qr.at'));have v4:=zc (o:=.tup [.int x,nF o]) hT;have s4:=s3.trans v4;have hs:=zdK hx ho;have rH:=kD.length;have hb:=zcx (pl.take i) (rw.take i);rw [aF] at hb;refine⟨T,_,rfl,jI.of zb,rfl,_,_,rfl,_,_,rfl,rfl,?_⟩;refine⟨_,rfl,rfl,_,rfl,?_⟩;cases o with
   | none =>
    refine zit ⟨s4,us,rfl,?_⟩;rw [hs,bQ];exact kD.same v4
   | some z =>
    refine zmw ⟨_,rfl,_,rfl,by show 2≤sizeLine; lia,fun T2 qQ=>⟨by rw [ab]; lia,s4.trans (zc qQ),us++[T2],by rw [aD]; rfl,?_⟩⟩;rw [hs];exact dg (kD.same (v4.trans (zc qQ))) zb
  ·rintro ys H3 D ⟨s3,us,rfl,kD⟩ hD;rw [bC,aR #[O]] at kD;exact q D us _ (s3.free hD) (s3.trans (zc hD)) zb (kD.same (zc hD))
end
section
variable {P:Program} {w:World} {K:af} {mg:Str→Option Value} {base:Heap} {t:Adr}
def zfW (K:af):Sp:=fun vs H Q _=>∃ (a:Addr) (m:Nat) (xs:List V),vs = [.ref a,.int (m:Int)]∧(jy K H a xs∨jI K H a xs)∧xs.length≤16∧m≤1000 ∧
 ∀ (l:Addr) (ls:List Addr) (H':Hp),H l=none→zy H H'→H' l=some (.lst (ls.map V.ref))→zfH H' ls ((chs xs m).map (·.2))→Q (.ref l) H'
theorem zbL:FnScope ["things","many","chosen","step"] ["things","many"] (zh za8):=#[S]
theorem zdU {fd:FuncData} (T:Txt K mg base t) (F:Fun K "choices" "choices" za8 t.choices fd):FnOk P w K mg base CX0 1 t.choices fd ["things","many"] (zfW K):=by
 refine F.ok zbL (fun vs H Q E h=>?_) (fun jW A outer s H vs Q E hr h=>?_)
 ·obtain⟨a,m,xs,rfl,_⟩:=h;rfl
 ·obtain⟨a,m,xs,rfl,hS,hx,hm,q⟩:=h;refine zbp ?_; intro zX;refine⟨_,#[zd,#[zn,2,zbL.nd,#[A],#[zad,#[ya,#[zck,#[za,#[ze],#[ya,#[zad,#[zf]]]]]]]],#[zd,#[zaV,bA,#[zaI,T.range_,#[ya,#[pvx,1]]],#[zi,3,zbL.nd,#[A]],#[zp,(@zgk _ _ _ _ _ _ _ _ _ _ _ _ _ _ _ _ _ _ _ _ _ (2) _ _ _ zbL.nd rfl #[A] (CompSc.of (N':=["start","picked","at","things"]) (ix:=[none,none,none,some 0]) (zh za8) ["things","many","chosen","step"] rfl rfl #[N]) rfl (zix (js:=[0,1]) (zdo (js:=[0,1]) (i:=0) #[D] (zdo (js:=[0,1]) (i:=1) #[D] (zgB (js:=[0,1]))))) (zgA (js:=[2]) (i:=2) #[D]) #[D] #[D] #[zar,#[pvx,2]] (fun _ _ _ _=>#[zbE,(K),2,#[zo,#[zi,0,(show (["start","picked","at","things"]:List Str).Nodup from #[N]),#[A]],#[zo,#[zi,1,(show (["start","picked","at","things"]:List Str).Nodup from #[N]),#[A]],#[z9]]]]) (fun _ _ _ _=>#[zap]) (fun _ _ _ _=>#[zef,T.range_,#[za,#[pvx,0],#[ya,#[zF,#[za1,(K)],T.len_,bU,#[ya,#[pvx,3]]]]]]) (fun _ _ _ _=>#[zi,2,(show (["start","picked","at","things"]:List Str).Nodup from #[N]),#[A]]) (fun _ _ _ _=>#[zap]) (fun _ _ _ _=>#[zck,#[za,#[zg,#[zU],#[pvx,2],#[ze]],#[ya,#[zg,#[zdn],#[pvx,1],#[zad,#[ya,#[zP,(zmE (K:=K) rfl),#[pvx,3],#[pvx,2]]]]]]]]) (by rfl) (by intro _; rfl) (by intros; rfl) (by trivial))]],#[zp,#[zR,#[zaB,(CompSc.of (N':=["start","picked"]) (ix:=[none,none]) (zh za8) ["things","many","chosen","step"] rfl rfl #[N]),#[zcK,#[zas,#[zas,#[zb0]]]],#[zar,#[pvx,2]],(fun _ _ _ _=>#[zbE,(K),2,#[zo,#[zi,0,(show (["start","picked"]:List Str).Nodup from #[N]),#[A]],#[zo,#[zi,1,(show (["start","picked"]:List Str).Nodup from #[N]),#[A]],#[z9]]]]),(fun _ _ _ _=>#[zap]),(fun _ _ _ _=>#[pvx,1])]]]]],?_⟩;refine ziu ?_; intro oO nr;have nW:=bu;refine⟨a8 _,fun L0 hL0=>⟨by show 2≤sizeLine; lia,fun T0 hT0=>⟨by show 1≤sizeLine; lia,fun c hc=>?_⟩⟩⟩;have u0:=zc (o:=.lst []) hL0;have u1:=zc (o:=.tup [.int 0,.ref L0]) hT0;have u2:=zc (o:=.lst [.ref T0]) hc;have vO:zdH (jA (jA (jA H L0 (.lst [])) T0 (.tup [.int 0,.ref L0])) c (.lst [.ref T0])) [T0] (chs xs 0):=.cons ⟨L0,u2 _ _ zb,(u1.trans u2) _ _ zb⟩ .nil;have vp:jA (jA (jA H L0 (.lst [])) T0 (.tup [.int 0,.ref L0])) c (.lst [.ref T0]) c=some (.lst ([T0].map V.ref)):=zb;have s0:=(u0.trans u1).trans u2;generalize jA (jA (jA H L0 (.lst [])) T0 (.tup [.int 0,.ref L0])) c (.lst [.ref T0])=H0 at vO vp s0 ⊢;refine⟨_,rfl,_,rfl,#[O],#[O],?_⟩;rw [bE];refine zaF (lo:=0) (n:=m) (fun i σ H'=>∃ (c:Addr) (ts:List Addr) (e3:Option V),σ = [some (.ref a),some (.int m),some (.ref c),e3]∧zy H H'∧H' c=some (.lst (ts.map V.ref))∧zdH H' ts (chs xs i)) ⟨c,[T0],none,rfl,s0,vp,vO⟩ ?_ ?_
  ·rintro zD zT i σ H1 hi ⟨c,ts,e3,rfl,s1,mF,nU⟩;have nV:=nU.length;have pK:=zbu (xs:=xs) (i+1) hx;have xg:((chs xs i).flatMap (nxt xs)).length≤65536:=pK;refine⟨_,rfl,c,rfl,⟨_,jy.of mF⟩,zkK (n:=ts.length) (fun i' ys H'=>∃ us:List Addr,ys=us.map V.ref∧zy H1 H'∧zdH H' us (((chs xs i).take i').flatMap (nxt xs))) ⟨[],rfl,fun _ _ e=>e,.nil⟩ ?_ ?_ ?_ ?_⟩
   ·rintro i' ys H2 lL ⟨us,_,s2,_⟩;exact⟨_,.ref ts[i'],jy.of (s2 _ _ mF),by rw [am,az lL]; rfl⟩
   ·rintro ys H2 ⟨us,_,s2,_⟩;exact⟨_,jy.of (s2 _ _ mF),by rw [ab]; exact ag _⟩
   ·rintro i' y ys H2 H3 lL ⟨us,rfl,s2,kD⟩ ⟨rfl,hy⟩;obtain⟨tt,rfl,vH⟩:=zaQ (hy _ (jy.of (s2 _ _ mF)));obtain⟨cc,j9,mQ⟩:=Paired.get nU vH;obtain⟨L,uh,ui⟩:=mQ.same s2;have hle:=zlv (aJ j9);have lC:=zfG (aJ j9);obtain⟨st,pk⟩:=cc;dsimp only at uh ui hle lC;refine gY2 (jI.of uh) ?_;refine⟨_,rfl,_,rfl,a,xs,rfl,hS.imp (s1.trans s2).seq (zy.sqT (s1.trans s2)),_,_,rfl,⟨#[O],#[O],#[O],#[O]⟩,?_⟩;have en:((xs.length:Int) - (st:Int)).toNat=xs.length - st:=by lia
    rw [en];refine zkK (n:=xs.length - st) (fun j ys H'=>∃ us:List Addr,ys=us.map V.ref∧zy H3 H'∧zdH H' us (((chs xs i).take i').flatMap (nxt xs)++(nxt xs (st,pk)).take j)) ⟨us,rfl,fun _ _ e=>e,by rw [eA,bQ]; exact kD⟩ (fun j ys H' hj _=>hj) (fun ys H' _=>ag _) ?_ ?_
    ·rintro j z ys H4 H5 hj ⟨us,rfl,s4,kD⟩ ⟨rfl,rfl⟩;obtain⟨x,oX⟩:∃ x,xs[st+j]? = some x:=⟨xs[st+j]'#[O],#[M]⟩;have mQ:atI xs ((st:Int)+(j:Int))=some x:=by
      have e:((st+j:Nat):Int)=(st:Int)+j:=by lia
      rw [← e];exact zbz oX
     have hng:=zka (c:=(st,pk)) oX;have rH:=kD.length;have hpart:=zhX (f:=nxt xs) j9 (show j < (nxt xs (st,pk)).length by rw [zeX]; exact hj);have vE:=zeX xs (st,pk);refine gY ?_;refine⟨_,rfl,_,_,rfl,rfl,_,rfl,_,rfl,_,rfl,a,xs,_,x,rfl,rfl,hS.imp ((s1.trans s2).trans s4).seq (zy.sqT ((s1.trans s2).trans s4)),mQ,by show 1≤sizeLine; lia,fun b hb=>?_⟩;have v1:=zc (o:=.lst [x]) hb;refine⟨L,b,pk,[x],rfl,rfl,(s4.trans v1) _ _ ui,zb,by show pk.length+1≤sizeLine; lia,fun L2 vP=>⟨by show 2≤sizeLine; lia,fun T2 qQ=>⟨?_,us++[T2],by rw [aD]; rfl,?_,?_⟩⟩⟩
     ·rw [ab,rH,av,aF];lia
     ·exact s4.trans (v1.trans ((zc vP).trans (zc qQ)))
     ·rw [take_snoc hng,← bf];refine dg (kD.same (v1.trans ((zc vP).trans (zc qQ)))) ⟨L2,?_,(zc qQ) _ _ zb⟩;rw [zb];show some (HO.tup [.int ((st:Int)+(j:Int)+1),.ref L2])=some (HO.tup [.int ((st+j+1:Nat):Int),.ref L2]);have e:((st+j+1:Nat):Int)=(st:Int)+j+1:=by lia
      rw [e]
    ·rintro ys H4 ⟨us,rfl,s4,kD⟩;rw [aR (l:=nxt xs (st,pk)) (by rw [zeX]; exact ag _)] at kD;exact⟨us,rfl,s2.trans s4,by rw [zhY j9]; exact kD⟩
   ·rintro ys H2 ⟨us,rfl,s2,kD⟩ D hD;rw [nV,aR (ag _)] at kD;exact⟨D,us,_,rfl,s1.trans (s2.trans (zc hD)),zb,kD.same (zc hD)⟩
  ·rintro σ H1 ⟨c,ts,e3,rfl,s1,mF,nU⟩;have nV:=nU.length;have pK:=zbu (xs:=xs) m hx;refine⟨_,rfl,c,rfl,⟨_,jy.of mF⟩,zab (n:=ts.length) (fun i ys H'=>H'=H1∧∃ us:List Addr,ys=us.map V.ref∧zfH H1 us (((chs xs m).map (·.2)).take i)) ⟨rfl,[],rfl,.nil⟩ ?_ ?_ ?_ ?_⟩
   ·rintro i ys H2 hi ⟨rfl,_⟩;exact⟨_,.ref ts[i],jy.of mF,by rw [am,az hi]; rfl⟩
   ·rintro ys H2 ⟨rfl,_⟩;exact⟨_,jy.of mF,by rw [ab]; exact ag _⟩
   ·rintro zS zT zE i y ys H2 H3 hi ⟨rfl,us,rfl,kD⟩ ⟨rfl,hy⟩;obtain⟨tt,rfl,vH⟩:=zaQ (hy _ (jy.of mF));obtain⟨cc,j9,L,uh,ui⟩:=Paired.get nU vH;have rH:=kD.length;refine gY2 (jI.of uh) ⟨_,rfl,?_,rfl,us++[L],by rw [aD]; rfl,?_⟩
    ·rw [ab,rH,aF,ab];lia
    ·have AD:((chs xs m).map (·.2))[i]? = some cc.2:=by rw [am,j9]; rfl
     rw [take_snoc AD];exact dg kD ui
   ·rintro ys H2 D ⟨rfl,us,rfl,kD⟩ hD;rw [aR (by rw [ab,nV]; exact ag _)] at kD;exact q D us _ (s1.free hD) (s1.trans (zc hD)) zb (kD.same (zc hD))
def zlH (K:af):Sp:=fun vs H Q _=>∃ (c tt:Addr) (p k T:Int) (pl:List Int),vs = [.ref c,.int T]∧zaw H c tt p k pl∧k≤T∧T≤(pl.length:Int)∧Q .non H
theorem za2:FnScope ["code","t","p","k","places"] ["code","t"] (zh za7):=#[S]
theorem zd9 {fd:FuncData} (T:Txt K mg base t) (F:Fun K "check_many" "check_many" za7 t.check_many fd):FnOk P w K mg base CX0 1 t.check_many fd ["code","t"] (zlH K):=by
 refine F.ok za2 (fun vs H Q E h=>?_) (fun jW A outer s H vs Q E hr h=>?_)
 ·obtain⟨c,tt,p,k,T',pl,rfl,_⟩:=h;rfl
 ·obtain⟨c,tt,p,k,T',pl,rfl,hc,pN,mW,q⟩:=h;refine zbp ?_; intro zX;refine⟨_,#[zd,#[zbw,#[pvx,0],#[zba,#[zo,#[zi,2,za2.nd,#[A]],#[zo,#[zi,3,za2.nd,#[A]],#[zo,#[zi,4,za2.nd,#[A]],#[z9]]]]]],#[zp,#[za9,(@zkS _ _ _ _ (@zim _ _ _ _ _ _ _ _ _ _ _ _ #[zkz] #[zkz] #[pvx,3] #[pvx,1] #[zF,#[zw],T.len_,bU,#[ya,#[pvx,4]]] (by with_unfolding_all rfl))),#[zed],#[zan]]]],?_⟩;refine zjO ?_; intro nr;refine⟨_,rfl,c,_,rfl,jI.of hc.1,rfl,_,_,rfl,_,_,rfl,_,_,rfl,rfl,?_⟩;refine⟨_,rfl,_,rfl,_,_,rfl,rfl,_,rfl,?_⟩;refine zbd (fun _=>?_) (fun h=>absurd (decide_eq_true pN) h);refine⟨_,rfl,tt,_,rfl,.inr (jI.of hc.2),_,_,rfl,rfl,_,rfl,?_⟩;rw [decide_eq_true (by rw [ab]; exact mW)];exact zit q
def zlI (K:af):Sp:=fun vs H Q _=>∃ (a:Addr) (p:Int) (rs:List Int),vs = [.int p,.ref a]∧H a=some (.lst (rs.map V.int))∧rs.length≤16∧(∀ r∈rs,0≤r∧r < p)∧1 < p∧p≤97 ∧
 ∀ (l:Addr) (H':Hp),H l=none→zy H H'→H' l=some (.lst ((van p rs).map V.int))→Q (.ref l) H'
theorem zaE:FnScope ["p","roots","polynomial","root"] ["p","roots"] (zh zaT):=#[S]
theorem zc4 {fd:FuncData} (T:Txt K mg base t) (F:Fun K "vanishing_at" "vanishing_at" zaT t.vanishing_at fd):FnOk P w K mg base CX0 2 t.vanishing_at fd ["p","roots"] (zlI K):=by
 obtain⟨kQ,jO,jP⟩:=T.f_times_root;have ko:=zcj (P:=P) (w:=w) (base:=base) T jO;refine F.ok zaE (fun vs H Q E h=>?_) (fun jW A outer s H vs Q E hr h=>?_)
 ·obtain⟨a,p,rs,rfl,_⟩:=h;rfl
 ·obtain⟨a,p,rs,rfl,ha,hl,qr,p0,p1,q⟩:=h;refine zbp ?_; intro zX;refine⟨_,#[zd,#[zn,2,zaE.nd,#[A],#[zad,#[ya,#[ze]]]],#[zd,#[zaV,bA,#[zar,#[pvx,1]],#[zi,3,zaE.nd,#[A]],#[zp,#[zn,2,zaE.nd,#[A],#[zC,ko,(hr.mono #[D]),T.m_times_root,jO.kp,jP,#[zaa],#[za,#[pvx,0],#[za,#[pvx,2],#[ya,#[pvx,3]]]]]]]],#[zp,#[zR,#[pvx,2]]]]],?_⟩;refine ziu ?_; intro oO nr;have nW:=bu;refine⟨by show 1≤sizeLine; lia,fun z hz=>?_⟩;have u0:=zc (o:=.lst ([1].map V.int)) hz;refine⟨_,rfl,a,rfl,⟨_,jy.of (u0 _ _ ha)⟩,zbr (K:=K) (a:=a) (xs:=rs.map V.int) (fun i σ H'=>∃ (c:Addr) (e3:Option V),σ = [some (.int p),some (.ref a),some (.ref c),e3]∧H c=none∧zy H H'∧H' c=some (.lst ((van p (rs.take i)).map V.int))) ⟨z,none,rfl,hz,u0,zb⟩ (fun i σ H' _ hq=>by obtain⟨_,_,_,_,s3,_⟩:=hq; exact jy.of (s3 _ _ ha)) ?_ ?_⟩
  ·rintro zD zT i y σ H1 hy ⟨c,e3,rfl,hc,s1,mF⟩;obtain⟨r,rfl,wO⟩:=zao hy;obtain⟨r0,r1⟩:=qr r (aJ wO);refine⟨_,rfl,_,rfl,_,rfl,p,r,c,_,rfl,mF,?_,#[O],#[O],#[O],fun l H2 mV s2 h2=>⟨l,_,rfl,s1.free mV,s1.trans s2,?_⟩⟩
   ·rw [zb6,aF]; lia
   ·rw [take_snoc wO,zjm]; exact h2
  ·rintro σ H1 ⟨c,e3,rfl,hc,s1,mF⟩;rw [ab,bC] at mF;exact⟨_,rfl,q c H1 hc s1 mF⟩
end
section
variable {P:Program} {w:World} {K:af} {mg:Str→Option Value} {base:Heap} {t:Adr}
abbrev zmf:Pos:=⟨84,25,84,51⟩
abbrev zmg:Str:=(bd "many_near"++bd ".<locals>.")++bd "<lambda>"
def TbA (t:Adr) (H:Hp):Prop:=TbI t.tab zmf zmg H
theorem TbA.same {t:Adr} {H H':Hp} (s:zy H H') (h:TbA t H):TbA t H':=by
 obtain⟨ps,h1,h2,h3⟩:=h;exact⟨ps,s _ _ h1,h2,h3.imp id fun ⟨c,z1,z2⟩=>⟨c,z1,s _ _ z2⟩⟩
theorem TbA.at_ {t:Adr} {H:Hp} (h:TbA t H):∃ ps,H t.tab=some (.tbl ps):=by
 obtain⟨ps,h1,_⟩:=h;exact⟨ps,h1⟩
def zkt (t:Adr) (K:af):Sp:=fun vs H Q _=>∃ (c tt:Addr) (p:Int) (k m:Nat) (pl:List Int),vs = [.ref c,.int (m:Int)]∧zaw H c tt p k pl∧pl.length≤16∧p∈zt∧pl.Nodup∧(∀ x∈pl,0≤x∧x < p)∧1≤k∧k≤m∧m≤pl.length∧TbA t H ∧
 ∀ (T r l:Addr) (rs:List Addr) (qs:List (List Int)) (high:List Int) (lows:List (List Int)) (H':Hp),H T=none→zy (hide H t.tab) H'→TbA t H'→H' T=some (.tup [.ref r,.ref l])→H' r=some (.lst ((rowOf p k high pl).map V.int))→H' l=some (.lst (rs.map V.ref))→zcy H' rs qs→qs.Perm (lows.map (ngP p)) →
  (high,lows)∈Gof k (((chs pl m).map (·.2)).map (van p))→(∀ g∈Gof k (((chs pl m).map (·.2)).map (van p)),g.2.length≤lows.length)→(qs.Pairwise fun a b=>Srt.num p a≤Srt.num p b)→Q (.ref T) H'
theorem zQ:FnScope ["code","t","p","k","places","lows","roots","vanishing","high","row","polynomials"] ["code","t"] (zh zal):=#[S]
theorem ze2 {fd:FuncData} (T:Txt K mg base t) (F:Fun K "many_near" "many_near" zal t.many_near fd):FnOk P w K mg base CX0 4 t.many_near fd ["code","t"] (zkt t K):=by
 obtain⟨mG,k7,kq⟩:=T.f_check_many;have m7:=zd9 (P:=P) (w:=w) (base:=base) T k7;obtain⟨lV,kc,kd⟩:=T.f_choices;have lj:=zdU (P:=P) (w:=w) (base:=base) T kc;obtain⟨lJ,kJ,jY⟩:=T.f_vanishing_at;have lW:=zc4 (P:=P) (w:=w) (base:=base) T kJ;obtain⟨kH,jJ,jK⟩:=T.f_value_at;have jR:=zbW (P:=P) (w:=w) (base:=base) T jJ;refine F.okT T.tb zQ (fun vs H Q E h=>?_) (fun cP hKc A outer s H vs Q E hr h=>?_)
 ·obtain⟨c,tt,p,k,m,pl,rfl,_⟩:=h;rfl
 ·obtain⟨c,tt,p,k,m,pl,rfl,hc,hn,hp,oJ,lC,k1,km,mn,tM,q⟩:=h;have hu:(A.deeper (envOfC (bd "many_near") (zh zal) s.heap.objs.size t.many_near (.ref cP))).units+1 < cLine:=by have:=hr.units; lia
  have AE:(A.deeper (envOfC (bd "many_near") (zh zal) s.heap.objs.size t.many_near (.ref cP))).units+20 < cLine:=by have:=hr.units; lia
  refine zbp ?_; intro zX;refine⟨_,#[zd,#[zc5,#[zC,m7,(hr.mono #[D]),T.m_check_many,k7.kp,kq,#[zaa],#[za,#[pvx,0],#[ya,#[pvx,1]]]]],#[zd,#[zbw,#[pvx,0],#[zba,#[zo,#[zi,2,zQ.nd,(cR rfl)],#[zo,#[zi,3,zQ.nd,(cR rfl)],#[zo,#[zi,4,zQ.nd,#[A]],#[z9]]]]]],#[zd,#[zn,5,zQ.nd,(cR rfl),#[zfv]],#[zd,#[zaV,bA,#[zar,#[zC,lj,(hr.mono #[D]),T.m_choices,kc.kp,kd,#[zaa],#[za,#[pvx,4],#[ya,#[pvx,1]]]]],#[zi,6,zQ.nd,#[A]],#[zd,#[zn,7,zQ.nd,#[A],#[zC,lW,(hr.mono #[D]),T.m_vanishing_at,kJ.kp,jY,#[zaa],#[za,#[pvx,2],#[ya,#[pvx,6]]]]],#[zp,#[zc5,#[zgx,du,ee,eg,#[zcI],(zjl hu #[pvx,5] #[zaJ,#[zax],T.tuple_,fV,#[ya,#[zbo,zbZ,#[pvx,7],#[zbY,#[pvx,3]],#[zbX]]]] #[zad,#[zf]] ⟨rfl,rfl,rfl,rfl⟩),#[ya,#[zbo,zbZ,#[pvx,7],#[zbX],#[zbY,#[pvx,3]]]]]]]]],#[zd,#[zn,8,zQ.nd,(cR rfl),(@zki _ t.tab cP _ _ _ _ _ _ _ _ _ _ _ _ _ _ _ 5 rfl hKc T.bm (by exact⟨rfl,rfl,rfl,rfl,rfl,rfl,#[D],#[D],(fun _ _ _ _ _ _ _ _=>rfl),(fun _=>rfl)⟩) rfl rfl rfl hr.depth AE rfl T.max_ T.len_ #[pvx,5] rfl rfl rfl rfl)],#[zd,#[zbC,9,zQ.nd,#[A],(CompSc.of (N':=["place","p","k","high"]) (ix:=[none,some 2,some 3,some 8]) (zh zal) ["code","t","p","k","places","lows","roots","vanishing","high","row","polynomials"] rfl rfl #[N]),#[zaN],(@zkV _ _ _ _ #[pvx,4]),(fun _ _ _ _=>#[zi,0,(show (["place","p","k","high"]:List Str).Nodup from #[N]),#[A]]),(fun _ _ _ _=>#[zap]),(fun _ _ _ _=>#[zC,jR,(hr.mono #[D]),T.m_value_at,jJ.kp,jK,#[zaa],#[za,#[pvx,1],#[za,#[zg,#[zdn],#[zg,#[zf6],#[zad,#[ya,#[ze]]],#[pvx,2]],#[zaJ,(zd6 (K:=K) rfl),T.list_,boot_list,#[ya,#[pvx,3]]]],#[ya,#[pvx,0]]]]])],#[zd,#[zbC,10,zQ.nd,#[A],(CompSc.of (N':=["low","p"]) (ix:=[none,some 2]) (zh zal) ["code","t","p","k","places","lows","roots","vanishing","high","row","polynomials"] rfl rfl #[N]),#[zaN],#[zar,(@zjZ _ _ _ _ _ _ hu #[pvx,5] #[pvx,8] (fun _ _=>rfl))],(fun _ _ _ _=>#[zi,0,(show (["low","p"]:List Str).Nodup from #[N]),#[A]]),(fun _ _ _ _=>#[zap]),(fun _ _ _ _=>#[zaJ,(zdM (K:=K) rfl),T.tuple_,fV,#[ya,#[zaB,(CompSc.of (N':=["number","p"]) (ix:=[none,some 1]) ({ kind:=.function,names:=[(".0",.local),("low",.local),("tuple",.globalImplicit),("p",.cell)],isGenerator:=false,isCoroutine:=false }) ["low","p"] (by with_unfolding_all rfl) rfl #[N]),#[zaN],(@zji _ (K) _ _ _ rfl #[pvx,0]),(fun _ _ _ _=>#[zi,0,(show (["number","p"]:List Str).Nodup from #[N]),#[A]]),(fun _ _ _ _=>#[zap]),(fun _ _ _ _=>#[zg,#[zA],(@zlR _ _ _ _ _ _ zkY #[pvx,0]),#[pvx,1]])]]])],#[zp,#[zR,#[zck,#[za,#[pvx,9],#[ya,#[zF,(@zeW _),T.sorted_,boot_sorted,#[ya,#[pvx,10]]]]]]]]]]]]]]],?_⟩;refine zl1 ?_; intro zN8 Ae w4 uz rC oO nr;have nW:=bu;have rp:=zM hp;refine⟨_,rfl,_,rfl,c,tt,p,k,m,pl,rfl,hc,#[O],#[O],?_⟩;refine⟨_,rfl,c,_,rfl,jI.of hc.1,rfl,_,_,rfl,_,_,rfl,_,_,rfl,rfl,fun D hD=>?_⟩;have s0:=zc (o:=.dT []) hD;have tU:jA H D (.dT []) D=some (.dT []):=zb;generalize jA H D (.dT [])=H0 at s0 tU ⊢;refine⟨_,rfl,_,rfl,tt,m,_,rfl,.inr (jI.of (s0 _ _ hc.2)),by rw [ab]; lia,#[O],fun l ls H1 hl s1 qg rJ=>?_⟩;have AF:l≠D:=fun e=>by rw [e,tU] at hl; cases hl
  rw [zcP V.int pl m] at rJ;have vQ:=rJ.length;rw [ab,ab] at vQ;have pK:=zbu (xs:=pl) m hn;obtain⟨lN,mH⟩:∃ lN,(chs pl m).map (·.2)=lN:=⟨_,rfl⟩;rw [mH] at rJ q;have su:ls.length=lN.length:=by rw [vQ,← mH,ab]
  have AG:∀ z∈lN,z.Sublist pl∧z.length=m:=fun z hz=>zb4.mp (by rw [mH]; exact hz)
  have m8:H1 D=some (.dT []):=s1 _ _ tU;have hid:=zdx H1 D;have hBD:hide H1 D D=none:=by unfold hide; rw [if_pos rfl]
  refine⟨l,rfl,⟨_,jy.of qg⟩,zbr (K:=K) (a:=l) (xs:=ls.map V.ref) (fun i σ H'=>∃ (jw:List (List Key×V)) (e6 e7:Option V),σ = [some (.ref c),some (.int m),some (.int p),some (.int k),some (.ref tt),some (.ref D),e6,e7,none,none,none]∧zy (hide H1 D) H'∧H' D=some (.dT jw)∧zaR H' jw (Gof k ((lN.take i).map (van p)))∧NewL (hide H1 D) jw∧jw.length≤i)
   ⟨[],none,none,rfl,hid,m8,.nil,⟨.nil,fun _ z=>by cases z⟩,ag _⟩ (fun i σ H' _ hq=>by obtain⟨_,_,_,_,s3,_⟩:=hq; exact jy.of (s3 _ _ (zag qg AF))) ?_ ?_⟩
  ·rintro zD zT i y σ H2 hy ⟨jw,e6,e7,rfl,s2,qR,qt,hN,xh⟩;obtain⟨b,rfl,sy⟩:=zaQ hy;obtain⟨hi,_⟩:=aG.mp sy;obtain⟨vk,qu,nH⟩:=Paired.get rJ sy;obtain⟨zk,vR,rfl⟩:∃ zk,lN[i]? = some zk∧vk=zk.map V.int:=by
    rw [am] at qu;cases e:lN[i]? with
    | none=>rw [e] at qu; cases qu
    | some zk=>rw [e] at qu; exact⟨zk,rfl,(aN qu).symm⟩
   have AH:b≠D:=fun e=>by rw [e,m8] at nH; cases nH
   obtain⟨o7,jE⟩:=AG zk (aJ vR);have xI:=zb6 p zk;refine⟨_,rfl,_,rfl,b,p,zk,rfl,s2 _ _ (zag nH AH),#[O],(fun r hr=>lC r (o7.subset hr)),#[O],#[O],fun v H3 hv s3 h3=>?_⟩;refine⟨_,rfl,D,rfl,.inr ⟨jw,.inl (s3 _ _ qR)⟩,_,rfl,_,rfl,_,rfl,v,_,rfl,jy.of h3,fun z1 mC=>?_⟩;rw [zfV (by rw [ab,xI]; lia),← gQ];refine⟨z1,_,rfl,.inl ⟨jy.of zb,fun kt hkt=>⟨a8 _,fun l0 hl0=>?_⟩⟩⟩;have v1:=zc (o:=.lst (((van p zk).drop k).map V.int)) mC;have v2:=zc (o:=.tup (((van p zk).drop k).map V.int)) hkt;have v3:=zc (o:=.lst []) hl0;have hk4:=v3 _ _ (zb (H:=jA H3 z1 (.lst (((van p zk).drop k).map V.int))) (a:=kt) (o:=.tup (((van p zk).drop k).map V.int)));have vS:jA (jA (jA H3 z1 (.lst (((van p zk).drop k).map V.int))) kt (.tup (((van p zk).drop k).map V.int))) l0 (.lst []) l0=some (.lst []):=zb;have xi:=v1.trans (v2.trans v3);have tV:=(v1.trans v2).free hl0;generalize jA (jA (jA H3 z1 (.lst (((van p zk).drop k).map V.int))) kt (.tup (((van p zk).drop k).map V.int))) l0 (.lst [])=H4 at hk4 vS xi ⊢;have vT:=s3.trans xi;have xj:=vT _ _ qR;have AI:=zcQ k _ ((lN.take i).map (van p)) rfl;refine⟨jw,((van p zk).drop k).map bp,kt,xj,rfl,?_,#[O],(fun y H'=>∃ (l':Addr) (rs:List Addr) (om:List (List Key×V)),y = .ref l'∧zy (hide H1 D) H'∧H' v=some (.lst ((van p zk).map V.int))∧H' D=some (.dT om)∧H' l'=some (.lst (rs.map V.ref))∧rs.length≤i∧hide H1 D l'=none∧zaR H' om (zcC (Gof k ((lN.take i).map (van p))) ((van p zk).drop k))∧NewL (hide H1 D) om∧om.length≤i+1∧∀ kv∈om,kv.1=((van p zk).drop k).map bp↔kv.2 = .ref l'),fun y e=>?_,fun e=>?_,?_⟩
   ·rw [hk4,bn]; rfl
   ·obtain⟨l',rs,rfl,g1,g2,⟨g0,g5,g6⟩,g3,g4⟩:=zgo (qt.same vT) AI hN e;have g7:=ze0 k _ _ rfl g0 g5;rw [ab,aF] at g7;exact⟨l',rs,jw,rfl,s2.trans vT,xi _ _ h3,xj,g1,#[O],g2,g3,hN,#[O],g4⟩
   ·have vU:hide H1 D l0=none:=(s2.trans s3).free tV;have oV:∀ kv∈jw,kv.2≠.ref l0:=fun kv hkv z=>by
     obtain⟨j,hj⟩:=cN hkv;obtain⟨g,_,_,l',rs,z2,z3,_⟩:=Paired.get qt hj;rw [z] at z2;cases z2;rw [s3 _ _ z3] at tV;cases tV
    obtain⟨g1,g2,g3⟩:=zjt (qt.same vT) hN vU vS xj oV e;have hDl:l0≠D:=fun z=>by rw [z,xj] at vS; cases vS
    have hvD:v≠D:=fun z=>by rw [z,qR] at hv; cases hv
    exact⟨l0,[],_,rfl,zaq (s2.trans vT) hBD,by rw [zm hvD]; exact xi _ _ h3,zb,by rw [zm hDl]; exact vS,a8 _,vU,g1,g2,by rw [av,cB]; lia,g3⟩
   rintro y H5 ⟨l',rs,om,rfl,s5,h5v,h5D,tW,nu,hlB,AJ,hN',AK,hA⟩;refine⟨.inl ⟨rfl,_,jy.of tW⟩,_,rfl,_,rfl,_,rfl,v,_,rfl,jy.of h5v,fun lo lD=>?_⟩;rw [zgq,← gP];have v6:=zc (o:=.lst (((van p zk).take k).map V.int)) lD;have h6o:jA H5 lo (.lst (((van p zk).take k).map V.int)) lo=some (.lst (((van p zk).take k).map V.int)):=zb;generalize jA H5 lo (.lst (((van p zk).take k).map V.int))=H6 at v6 h6o ⊢;have xk:=v6 _ _ tW;have h6D:=v6 _ _ h5D;have AL:D≠l':=fun e=>by rw [← e,h6D] at xk; cases xk
   have pg:∀ g∈Gof k ((lN.take i).map (van p)),∀ x∈g.2,x≠[]:=fun g hg x hx e=>by
    obtain⟨y,h1,h2,_⟩:=zcA _ _ rfl g hg x hx;obtain⟨z,_,rfl⟩:=aI.mp h1;have:=congrArg cF h2;rw [e,aF,zb6,cZ] at this;lia
   refine⟨l',_,_,rfl,rfl,xk,by rw [ab]; lia,om,_,_,rfl,zaq (s5.trans v6) hlB,by rw [zm AL]; exact h6D,?_,hN',AK⟩;rw [take_snoc vR,aD,aS,fY,zbv,zeZ];exact zkm (AJ.same v6) hA xk h6o (fun e=>by
    have:=congrArg cF e;rw [aF,xI,cZ] at this;lia) (zkn pg)
  ·rintro σ H2 ⟨jw,e6,e7,rfl,s2,qR,qt,hN,xh⟩;rw [ab,su,bC] at qt;rw [ab,su] at xh;have vV:lN≠[]:=by rw [← mH]; exact zlC mn
   have AI:=zcQ k _ (lN.map (van p)) rfl;have AM:Gof k (lN.map (van p))≠[]:=zlB (fun e=>vV (hX.mp e));have vW:=qt.length;obtain⟨ps1,hP1⟩:=((tM.same s0).same s1).at_;have vX:TbA t H2:=by
    obtain⟨ps,h1,h2,h3⟩:=(tM.same s0).same s1;exact⟨ps,s2 _ _ (zag h1 fun e=>by rw [e,m8] at h1; cases h1),h2,h3.imp id fun ⟨c,z1,z2⟩=>⟨c,z1,s2 _ _ (zag z2 fun e=>by rw [e,m8] at z2; cases z2)⟩⟩
   have hct:zaw H2 c tt p k pl:=by
    have h1:=(s0.trans s1) _ _ hc.1;have h2:=(s0.trans s1) _ _ hc.2;exact⟨s2 _ _ (zag h1 fun e=>by rw [e,m8] at h1; cases h1),s2 _ _ (zag h2 fun e=>by rw [e,m8] at h2; cases h2)⟩
   refine⟨_,rfl,D,jw,rfl,rfl,qR,fun e=>AM (by rw [e] at vW; exact bR.mp vW.symm),(fun kv hkv=>?_),vX,fun b key l' xs H3 hm qT AN hb s3 AO=>?_⟩
   ·obtain⟨j,hj⟩:=cN hkv;obtain⟨g,_,_,l',rs,z2,z3,_⟩:=Paired.get qt hj;exact⟨l',_,z2,z3⟩
   obtain⟨j0,oa⟩:=cN hm;obtain⟨⟨high,lows⟩,xf,z1,l2,xl,z2,z3,z4⟩:=Paired.get qt oa;have z1:key=high.map bp:=z1;have z2:V.ref l' = .ref l2:=z2;cases z2;subst z1;rw [qT] at z3;injection z3 with z3
   injection z3 with z3
   subst z3;have uC:=aJ xf;have tw:H3 b=some (.tup (high.map V.int)):=by rw [hb,bn]; rfl
   have hlin:lows.length≤lN.length:=by have:=ze0 k _ _ rfl _ uC; rw [ab] at this; exact this
   have hzk6:lN.length≤65536:=by rw [← mH,ab]; exact pK
   have z4l:xl.length=lows.length:=z4.length;have vC:∀ g∈Gof k (lN.map (van p)),g.2.length≤lows.length:=fun g hg=>by
    obtain⟨j,hj⟩:=cN hg;obtain⟨kv,e1,_,l3,rs3,e2,e3,e4⟩:=zcn qt hj;have:=AN kv (aJ e1) l3 _ e2 e3;rw [ab,ab] at this;have e5:=e4.length;show g.2.length≤lows.length;lia
   obtain⟨ps2,hP2⟩:=vX.at_;have s23:zy (hide H2 t.tab) H3:=fun b o e=>by
    by_cases hb:b=t.tab
    ·rw [hb] at e; unfold hide at e; rw [if_pos rfl] at e; cases e
    ·unfold hide at e; rw [if_neg hb] at e; exact s3 b hb o e
   have kp:∀ b o,H2 b=some o→(∀ ps,o≠.tbl ps)→H3 b=some o:=fun b o e hn=>s3 b (fun z=>by rw [z,hP2] at e; exact hn ps2 (aN e).symm) o e
   have AQ:=kp D _ qR (fun _ z=>by cases z);have qp:=kp l' _ qT (fun _ z=>by cases z);have xm:=kp tt _ hct.2 (fun _ z=>by cases z);have h3lw:zaR H3 jw (Gof k (lN.map (van p))):=qt.sub fun b xs e=>kp b _ e (fun _ z=>by cases z)
   have z43:Paired (fun r low=>H3 r=some (.lst (low.map V.int))) xl lows:=dB (fun _ _ y=>kp _ _ y (fun _ z=>by cases z)) z4;have p7:(jw.map (·.1)).Nodup:=by rw [zcD qt]; exact zeC AI
   have AR:=zlF p7 hm;have vY:∀ x∈lows,x.length=k:=fun x hx=>by
    obtain⟨y,h1,h2,_⟩:=zcA _ _ rfl _ uC x hx;obtain⟨z,hz,rfl⟩:=aI.mp h1;have:=(AG z hz).2;rw [h2,aF,zb6];lia
   have hhl:high.length≤17:=by
    cases hlz:lows with
    | nil =>
     exfalso;obtain⟨z,hz⟩:=List.exists_mem_of_ne_nil _ vV;have hsz:=zhk k _ _ rfl (van p z) (bi hz);obtain⟨g,h1,h2⟩:=hsz;have:=vC g h1;rw [hlz,cZ] at this;have h3:=List.length_pos_of_mem h2;lia
    | cons x xs =>
     obtain⟨y,h1,_,h2⟩:=zcA _ _ rfl _ uC x (by rw [hlz]; exact aB);obtain⟨z,hz,rfl⟩:=aI.mp h1;have h2:high=(van p z).drop k:=h2;have:=(AG z hz).2;rw [h2,cv,zb6];lia
   refine⟨_,rfl,tt,rfl,⟨_,jI.of xm⟩,zab (n:=pl.length) (fun i ys H'=>ys=((rowOf p k high pl).take i).map V.int∧zy H3 H') ⟨rfl,fun _ _ e=>e⟩ ?_ ?_ ?_ ?_⟩
   ·rintro i ys H4 hi ⟨_,s4⟩;exact⟨_,.int pl[i],jI.of (s4 _ _ xm),by rw [am,az hi]; rfl⟩
   ·rintro ys H4 ⟨_,s4⟩;exact⟨_,jI.of (s4 _ _ xm),by rw [ab]; exact ag _⟩
   ·rintro zS zT zE i y ys H4 H5 hi ⟨rfl,s4⟩ ⟨rfl,hy⟩;obtain⟨x,rfl,hx⟩:=zao (hy _ (jI.of (s4 _ _ xm)));obtain⟨x0,x1⟩:=lC x (aJ hx);refine gY ⟨_,rfl,by show 1≤sizeLine; lia,fun z0 wG=>⟨_,rfl,z0,_,[.int 0],rfl,rfl,zb,#[O],#[O],by show 1*_≤sizeLine; lia,fun z1 mC=>?_⟩⟩;rw [zfp,bE];have w0:=zc (o:=.lst [.int 0]) wG;have w1:=zc (o:=.lst ((aE k 0).map V.int)) mC;have h6:jA (jA H5 z0 (.lst [.int 0])) z1 (.lst ((aE k 0).map V.int)) z1=some (.lst ((aE k 0).map V.int)):=zb;have AS:=w0.trans w1;generalize jA (jA H5 z0 (.lst [.int 0])) z1 (.lst ((aE k 0).map V.int))=H6 at h6 AS ⊢;refine⟨_,rfl,b,_,rfl,.inr (jI.of ((s4.trans AS) _ _ tw)),fun z2 pS=>?_⟩;have w2:=zc (o:=.lst (high.map V.int)) pS;refine⟨z1,z2,_,_,rfl,rfl,w2 _ _ h6,zb,by rw [ab,ab,eM]; lia,fun z3 hz3=>?_⟩;have w3:=zc (o:=.lst ((aE k 0).map V.int++high.map V.int)) hz3;refine⟨_,rfl,p,x,z3,aE k 0++high,rfl,.inl (jy.of (by rw [aD]; exact zb)),#[O],#[O],#[O],#[O],?_⟩;refine⟨by rw [ab,aF]; lia,?_,s4.trans (AS.trans (w2.trans w3))⟩;have oX:(rowOf p k high pl)[i]? = some (zj p x (aE k 0++high)):=by unfold rowOf; rw [am,hx]; rfl
    rw [take_snoc oX,aD];rfl
   ·rintro ys H4 r ⟨rfl,s4⟩ hr4;rw [aR (by unfold rowOf; rw [ab]; exact ag _)];have w5:=zc (o:=.lst ((rowOf p k high pl).map V.int)) hr4;have xn:jA H4 r (.lst ((rowOf p k high pl).map V.int)) r=some (.lst ((rowOf p k high pl).map V.int)):=zb;have rK:=s4.trans w5;generalize jA H4 r (.lst ((rowOf p k high pl).map V.int))=H5 at xn rK ⊢;have h5b:H5 b=some (.tup ((high.map bp:List Key).map kV)):=rK _ _ hb;refine⟨_,rfl,_,rfl,D,_,rfl,(by rw [← AR]; exact zhM.t (rK _ _ AQ) h5b),l',rfl,⟨_,jy.of (rK _ _ qp)⟩,zab (n:=xl.length) (fun i ys H'=>zy H5 H'∧∃ ps:List (Addr×List Int),ys=ps.map (fun q=>V.ref q.1)∧ps.map (·.2)=(lows.take i).map (ngP p)∧zfD H' k p ps) ⟨fun _ _ e=>e,[],rfl,rfl,fun _ z=>by cases z⟩ ?_ ?_ ?_ ?_⟩
    ·rintro i ys H6 hi ⟨s6,_⟩;exact⟨_,.ref xl[i],jy.of ((rK.trans s6) _ _ qp),by rw [am,az hi]; rfl⟩
    ·rintro ys H6 ⟨s6,_⟩;exact⟨_,jy.of ((rK.trans s6) _ _ qp),by rw [ab]; exact ag _⟩
    ·rintro zS zT zE i y ys H6 H7 hi ⟨s6,ps,rfl,jS,hT⟩ ⟨rfl,hy⟩;obtain⟨rb,rfl,vZ⟩:=zaQ (hy _ (jy.of ((rK.trans s6) _ _ qp)));obtain⟨low,pg,mQ⟩:=Paired.get z43 vZ;have rL:=(rK.trans s6) _ _ mQ;have yn:=vY low (aJ pg);have hpsl:ps.length=i:=by
      have:=congrArg cF jS;rw [ab,ab,aF] at this;lia
     refine gY ⟨_,rfl,rb,rfl,⟨_,jy.of rL⟩,zab (n:=low.length) (fun j zs H'=>zs=((ngP p low).take j).map V.int∧zy H7 H') ⟨rfl,fun _ _ e=>e⟩ ?_ ?_ ?_ ?_⟩
     ·rintro j zs H8 hj ⟨_,s8⟩;exact⟨_,.int low[j],jy.of (s8 _ _ rL),by rw [am,az hj]; rfl⟩
     ·rintro zs H8 ⟨_,s8⟩;exact⟨_,jy.of (s8 _ _ rL),by rw [ab]; exact ag _⟩
     ·rintro zS zT zE j y zs H8 H9 hj ⟨rfl,s8⟩ ⟨rfl,hy⟩;obtain⟨nb,rfl,wR⟩:=zao (hy _ (jy.of (s8 _ _ rL)));refine gY ⟨_,rfl,_,rfl,_,rfl,_,_,rfl,rfl,#[O],?_⟩;refine⟨by rw [ab,aF]; lia,?_,s8⟩;have oX:(ngP p low)[j]? = some (-nb % p):=by unfold ngP; rw [am,wR]; rfl
      rw [take_snoc oX,aD];rfl
     ·rintro zs H8 zl ⟨rfl,s8⟩ su;rw [aR (by unfold ngP; rw [ab]; exact ag _)];refine⟨zl,_,rfl,.inl ⟨jy.of zb,fun tp tQ=>?_⟩⟩;have w9:=(zc (o:=.lst ((ngP p low).map V.int)) su).trans (zc (o:=.tup ((ngP p low).map V.int)) tQ);refine⟨by rw [ab]; lia,s6.trans (s8.trans w9),ps++[(tp,ngP p low)],by rw [aD]; rfl,?_,fun q hq=>?_⟩
      ·rw [aD,jS,take_snoc pg,aD];rfl
      ·rcases (aM.mp hq) with hq | hq
       ·obtain⟨h1,h2⟩:=hT q hq;exact⟨(s8.trans w9) _ _ h1,h2⟩
       ·(rw [aH.mp hq])
        exact⟨zb,(zgm #[O] yn).1,(zgm #[O] yn).2⟩
    ·rintro ys H6 pa ⟨s6,ps,rfl,jS,hT⟩ hpa;rw [z4l,bC] at jS;have w7:=zc (o:=.lst (ps.map (fun q=>V.ref q.1))) hpa;have h7p:jA H6 pa (.lst (ps.map (fun q=>V.ref q.1))) pa=some (.lst (ps.map (fun q=>V.ref q.1))):=zb;have AU:zfD (jA H6 pa (.lst (ps.map (fun q=>V.ref q.1)))) k p ps:=fun q hq=>⟨w7 _ _ (hT q hq).1,(hT q hq).2⟩
     have sC:=s6.trans w7;generalize jA H6 pa (.lst (ps.map (fun q=>V.ref q.1)))=H7 at h7p AU sC ⊢;refine⟨_,rfl,_,rfl,pa,k,p,ps,rfl,jy.of h7p,AU,k1,#[O],fun sl kE tX xo hpw=>⟨by show 2≤sizeLine; lia,fun T9 AV=>?_⟩⟩;have w8:=zc (o:=.lst (kE.map (fun q=>V.ref q.1))) tX;have w9:=zc (o:=.tup [.ref r,.ref sl]) AV;have tY:=w9 _ _ (zb (H:=H7) (a:=sl) (o:=.lst (kE.map (fun q=>V.ref q.1))));have h9T:jA (jA H7 sl (.lst (kE.map (fun q=>V.ref q.1)))) T9 (.tup [.ref r,.ref sl]) T9=some (.tup [.ref r,.ref sl]):=zb;have AW:=(rK.trans sC).trans w8;have AX:=AW.trans w9;have rM:=AV;generalize jA (jA H7 sl (.lst (kE.map (fun q=>V.ref q.1)))) T9 (.tup [.ref r,.ref sl])=H9 at w9 tY h9T AX ⊢;have uD:TbA t H3:=AO;have hH2:∀ b o,b≠t.tab→H b=some o→H3 b=some o:=fun b o hb e=>s3 b hb o (s2 _ _ (zag ((s0.trans s1) _ _ e) fun z=>by rw [z,hD] at e; cases e))
     have eq9:kE.map (fun q=>V.ref q.1)=(kE.map (·.1)).map V.ref:=by rw [bn]; rfl
     rw [eq9] at tY;refine q T9 r sl (kE.map (·.1)) (kE.map (·.2)) high lows H9 ?_ (fun b o e=>?_) (uD.same AX) h9T ((sC.trans (w8.trans w9)) _ _ xn) tY (zdQ (k:=k) (B:=p) fun x hx=>?_) ?_ uC vC (by rw [cn]; exact hpw)
     ·cases e:H T9 with
      | none=>rfl
      | some o =>
       exfalso;by_cases hb:T9=t.tab
       ·obtain⟨ps3,AY⟩:=(uD.same AW).at_;rw [hb,AY] at rM;cases rM
       ·rw [AW _ _ (hH2 _ _ hb e)] at rM;cases rM
     ·unfold hide at e;by_cases hb:b=t.tab
      ·rw [if_pos hb] at e; cases e
      ·rw [if_neg hb] at e;exact AX _ _ (hH2 b o hb e)
     ·obtain⟨h1,h2⟩:=AU x (xo.mem_iff.mp hx);exact⟨(w8.trans w9) _ _ h1,h2⟩
     ·rw [← jS];exact xo.map _
end
section
variable {P:Program} {w:World} {K:af} {mg:Str→Option Value} {base:Heap} {t:Adr}
theorem zdh:FnScope ["code","row","polynomial","p","k","places"] ["code","row","polynomial"] (zh zdS):=#[S]
theorem zhl {fd:FuncData} (T:Txt K mg base t) (F:Fun K "fits" "fits" zdS t.fits fd):FnOk P w K mg base CX0 2 t.fits fd ["code","row","polynomial"] (zjX K):=by
 obtain⟨kH,jJ,jK⟩:=T.f_value_at;have jR:=zbW (P:=P) (w:=w) (base:=base) T jJ;refine F.ok zdh (fun vs H Q E h=>?_) (fun jW A outer s H vs Q E hr h=>?_)
 ·obtain⟨c,tt,ra,po,p,k,pl,jQ,rw,rfl,_⟩:=h;rfl
 ·obtain⟨c,tt,ra,po,p,k,pl,jQ,rw,rfl,hc,rF,nu,vI,p0,p1,lC,hn,q⟩:=h;refine zbp ?_; intro zX;refine⟨_,#[zd,#[zbw,#[pvx,0],#[zba,#[zo,#[zi,3,zdh.nd,(cR rfl)],#[zo,#[zi,4,zdh.nd,#[A]],#[zo,#[zi,5,zdh.nd,#[A]],#[z9]]]]]],#[zp,#[zR,#[zaB,(CompSc.of (N':=["at","place","entry","p","polynomial"]) (ix:=[none,none,none,some 3,some 2]) (zh zdS) ["code","row","polynomial","p","k","places"] rfl rfl #[N]),#[zcK,#[zas,(@zhz _ _ _ #[zcK,#[zas,#[zas,#[zb0]]]] #[zb0] zgi)]],(@zgh _ _ _ _ _ _ _ _ _ _ _ rfl T.enumerate_ rfl T.zip_ #[za,#[pvx,5],#[ya,#[pvx,1]]] (by rfl) (by rfl) (by rfl)),(fun _ _ _ _=>#[zbE,(K),2,#[zo,#[zi,0,(show (["at","place","entry","p","polynomial"]:List Str).Nodup from #[N]),#[A]],#[zo,#[zbE,(K),2,#[zo,#[zi,1,(show (["at","place","entry","p","polynomial"]:List Str).Nodup from #[N]),#[A]],#[zo,#[zi,2,(show (["at","place","entry","p","polynomial"]:List Str).Nodup from #[N]),#[A]],#[z9]]]],#[z9]]]]),(fun _ _ _ _=>#[zbq,#[zL,#[zdk],#[pvx,2],#[zC,jR,(hr.mono #[D]),T.m_value_at,jJ.kp,jK,#[zaa],#[za,#[pvx,3],#[za,#[pvx,4],#[ya,#[pvx,1]]]]],(zZ _)]]),(fun _ _ _ _=>#[pvx,0])]]]],?_⟩;refine zjO ?_; intro nr;refine⟨_,rfl,c,_,rfl,jI.of hc.1,rfl,_,_,rfl,_,_,rfl,_,_,rfl,rfl,?_⟩;refine⟨_,rfl,_,rfl,tt,ra,_,_,rfl,jI.of hc.2,jy.of rF,zab (n:=pl.length) (fun i ys H'=>ys=(zaz p pl rw jQ i).map V.int∧zy H H') ⟨rfl,fun _ _ e=>e⟩ ?_ ?_ ?_ ?_⟩
  ·rintro i ys H3 hi ⟨_,s3⟩;obtain⟨o,ho⟩:∃ o,rw[i]? = some o:=⟨rw[i]'#[O],#[M]⟩;exact⟨_,_,.int pl[i],nF o,jI.of (s3 _ _ hc.2),jy.of (s3 _ _ rF),by rw [am,az hi]; rfl,by rw [am,ho]; rfl⟩
  ·rintro ys H3 ⟨_,s3⟩;exact⟨_,_,jI.of (s3 _ _ hc.2),jy.of (s3 _ _ rF),by rw [ab]⟩
  ·rintro zS zT zE i xx ys H3 H4 hi ⟨rfl,s3⟩ ⟨T1,T2,u,v,hT1,qQ,jU,rfl,rfl,hu,hv⟩;obtain⟨x,rfl,hx⟩:=zao (hu _ (jI.of (s3 _ _ hc.2)));obtain⟨o,rfl,ho⟩:=zgL (hv _ (jy.of (s3 _ _ rF)));obtain⟨x0,x1⟩:=lC x (aJ hx);have s4:zy H3 (jA (jA H3 T1 (.tup [.int x,nF o])) T2 (.tup [.int i,.ref T1])):=zaq (zc hT1) qQ;refine⟨T2,_,rfl,jI.of zb,rfl,_,_,rfl,_,_,rfl,T1,_,rfl,jI.of (by rw [zm jU]; exact zb),rfl,_,_,rfl,_,_,rfl,rfl,rfl,?_⟩;refine⟨_,rfl,_,rfl,_,rfl,_,rfl,p,x,po,jQ,rfl,.inr (jI.of ((s3.trans s4) _ _ vI)),p0,p1,x0,x1,ziQ o _,_,rfl,?_⟩;rw [zeu,ziR hx ho,aD];have jE:=zcU p pl rw jQ i;refine zbd (fun h1=>⟨_,rfl,zae (by rw [ab]; lia),?_,s3.trans s4⟩) (fun h1=>⟨?_,s3.trans s4⟩)
   ·rw [if_pos h1];rfl
   ·rw [if_neg h1];simp
  ·rintro ys H3 D ⟨rfl,s3⟩ hD;exact q D _ (s3.free hD) (s3.trans (zc hD)) zb
theorem zkL {p:Int} {jG:List (Int×Int)} (hP:Pts p jG):jG.map (md p)=jG:=by
 refine (bO fun q hq=>?_).trans (gA _);obtain⟨_,_,h1,h2⟩:=hP.rg q hq;show (q.1,q.2 % p)=q;rw [dD h1 h2]
theorem zaj:FnScope ["code","points","p","k","places","found","picked"] ["code","points"] (zh zaA):=#[S]
theorem zdV {fd:FuncData} (T:Txt K mg base t) (F:Fun K "all_through" "all_through" zaA t.all_through fd):FnOk P w K mg base CX0 4 t.all_through fd ["code","points"] (zdL K):=by
 obtain⟨lV,kc,kd⟩:=T.f_choices;have lj:=zdU (P:=P) (w:=w) (base:=base) T kc;obtain⟨oo,mU,lq⟩:=T.f_through;have pv:=zgs (P:=P) (w:=w) (base:=base) T mU;refine F.ok zaj (fun vs H Q E h=>?_) (fun jW A outer s H vs Q E hr h=>?_)
 ·obtain⟨c,tt,a,p,k,pl,bs,jG,rfl,_⟩:=h;rfl
 ·obtain⟨c,tt,a,p,k,pl,bs,jG,rfl,hc,hS,hB,hn,hp,hP,k0,k1,q⟩:=h;have hu:(A.deeper (envOfC (bd "all_through") (zh zaA) s.heap.objs.size t.all_through jW)).units+1 < cLine:=by have:=hr.units; lia
  refine zbp ?_; intro zX;refine⟨_,#[zd,#[zbw,#[pvx,0],#[zba,#[zo,#[zi,2,zaj.nd,#[A]],#[zo,#[zi,3,zaj.nd,#[A]],#[zo,#[zi,4,zaj.nd,#[A]],#[z9]]]]]],#[zd,#[zn,5,zaj.nd,#[A],#[zfv]],#[zd,#[zaV,bA,#[zar,#[zC,lj,(hr.mono #[D]),T.m_choices,kc.kp,kd,#[zaa],#[za,#[pvx,1],#[ya,#[pvx,3]]]]],#[zi,6,zaj.nd,#[A]],#[zp,(@zj0 _ _ _ _ _ _ _ _ _ hu #[pvx,5] #[zC,pv,(hr.mono #[D]),T.m_through,mU.kp,lq,#[zaa],#[za,#[pvx,2],#[ya,#[pvx,6]]]] #[zec] rfl)]],#[zp,#[zR,#[zF,(@zeV _ rfl),T.sorted_,boot_sorted,#[ya,#[pvx,5]]]]]]]],?_⟩;refine zk4 ?_; intro rC oO nr;have nW:=bu;have rp:=zM hp;obtain⟨zs,rfl,rfl,hz⟩:=hB.zs;rw [ab] at hn;refine⟨_,rfl,c,_,rfl,jI.of hc.1,rfl,_,_,rfl,_,_,rfl,_,_,rfl,rfl,fun D hD=>?_⟩;have s0:=zc (o:=.dT []) hD;have tU:jA H D (.dT []) D=some (.dT []):=zb;generalize jA H D (.dT [])=H0 at s0 tU ⊢;refine⟨_,rfl,_,rfl,a,k,_,rfl,.inl (s0.seq hS),by rw [ab,ab]; lia,#[O],fun l ls H1 hl s1 qg rJ=>?_⟩;have AF:l≠D:=fun e=>by rw [e,tU] at hl; cases hl
  rw [bn,zcP (V.ref ∘ fun z:Addr×Int×Int=>z.1) zs k] at rJ;have lC:=rJ.length;rw [ab,ab] at lC;have pK:=zbu (xs:=zs) k hn;obtain⟨lN,mH⟩:∃ lN,(chs zs k).map (·.2)=lN:=⟨_,rfl⟩;rw [mH] at rJ;have su:ls.length=lN.length:=by rw [lC,← mH,ab]
  have m8:H1 D=some (.dT []):=s1 _ _ tU;have hid:=zdx H1 D;refine⟨l,rfl,⟨_,jy.of qg⟩,zbr (K:=K) (a:=l) (xs:=ls.map V.ref) (fun i σ H'=>∃ (jw:List (List Key×V)) (kh:List (List Int)) (e6:Option V),σ = [some (.ref c),some (.ref a),some (.int p),some (.int k),some (.ref tt),some (.ref D),e6] ∧
   zy (hide H1 D) H'∧H' D=some (.dT jw)∧KeysAre jw kh∧kh.Nodup∧kh.length≤i∧∀ x,x∈kh↔∃ zk∈lN.take i,x=thr p (zk.map (·.2)))
   ⟨[],[],none,rfl,hid,m8,rfl,#[M],ag _,fun x=>by simp⟩ (fun i σ H' _ ⟨_,_,_,_,s3,_⟩=>jy.of (s3 _ _ (zag qg AF))) ?_ ?_⟩
  ·rintro zD zT i y σ H2 hy ⟨jw,kh,e6,rfl,s2,qR,rq,oJ,ux,kO⟩;obtain⟨b,rfl,sy⟩:=zaQ hy;obtain⟨hi,_⟩:=aG.mp sy;obtain⟨vk,qu,nH⟩:=Paired.get rJ sy;obtain⟨zk,vR,rfl⟩:∃ zk,lN[i]? = some zk∧vk=zk.map (V.ref ∘ fun z:Addr×Int×Int=>z.1):=by
    rw [am] at qu;cases e:lN[i]? with
    | none=>rw [e] at qu; cases qu
    | some zk=>rw [e] at qu; exact⟨zk,rfl,(aN qu).symm⟩
   have AH:b≠D:=fun e=>by rw [e,m8] at nH; cases nH
   obtain⟨o7,jE⟩:=zb4.mp (by rw [mH]; exact aJ vR:zk∈(chs zs k).map (·.2));have xp:Pts p (zk.map (·.2)):=hP.sub (o7.map _);have AZ:zkG K H2 b (zk.map (·.2)):=by
    refine⟨zk.map (·.1),?_,by rw [ab,ab],fun j b' q' h1 h2=>?_⟩
    ·have:=s2 _ _ (zag nH AH);rw [bn];exact jy.of this
    ·rw [am] at h1 h2;cases e:zk[j]? with
     | none=>rw [e] at h1; cases h1
     | some z =>
      rw [e] at h1 h2;cases h1;cases h2;have mC:=hz z (o7.subset (aJ e));have hzD:z.1≠D:=zu mC hD;exact s2 _ _ (zag ((s0.trans s1) _ _ mC) hzD)
   have A0:jw.length=kh.length:=by
    have:=congrArg cF rq;rw [ab,ab] at this;exact this
   refine⟨_,rfl,_,rfl,_,rfl,p,b,_,rfl,AZ,by rw [ab]; lia,hp,(by rw [zkL xp]; exact xp),(fun q hq=>by have:=xp.rg q hq; lia),fun tl H3 uA s3 h3=>?_⟩;rw [zkL xp] at h3;have AQ:=s3 _ _ qR;refine⟨D,_,rfl,ziY.t (k:=(thr p (zk.map (·.2))).map bp) AQ (by rw [h3,bn]; rfl) #[O],?_⟩;obtain⟨pd,m1,m2,m3,m4⟩:=zjg rq oJ (thr p (zk.map (·.2))) (.bl true);refine⟨_,pd,_,rfl,?_,zb,m1,m2,#[O],fun x=>?_⟩
   ·refine zaq (s2.trans s3) ?_;unfold hide;rw [if_pos rfl]
   ·rw [m4 x,kO x,take_snoc vR];constructor
    ·rintro (⟨A8,h1,h2⟩ | e)
     ·exact⟨A8,aL _ h1,h2⟩
     ·exact⟨zk,aw _ (aH.mpr rfl),e⟩
    ·rintro⟨A8,h1,h2⟩;rcases (aM.mp h1) with h1 | h1
     ·exact .inl ⟨A8,h1,h2⟩
     ·rw [aH.mp h1] at h2;exact .inr h2
  ·rintro σ H2 ⟨jw,kh,e6,rfl,s2,qR,rq,oJ,ux,kO⟩;rw [ab,su] at kO ux;rw [bC] at kO;rw [← su,lC] at ux;have mv:∀ x,x∈kh↔∃ pk∈(chs (zs.map (·.2)) k).map (·.2),x=thr p pk:=fun x=>by
    rw [kO x,zcP,mH];constructor
    ·rintro⟨zk,h1,h2⟩;exact⟨_,bi h1,h2⟩
    ·rintro⟨pk,h1,h2⟩;obtain⟨zk,h3,rfl⟩:=aI.mp h1;exact⟨zk,h3,h2⟩
   have v5:∀ x∈kh,IsP p k x:=fun x hx=>by
    obtain⟨pk,h1,rfl⟩:=(mv x).mp hx;exact zg5 hp hP h1
   refine⟨_,rfl,D,k,p,jw,kh,rfl,qR,rq,fun ms hm=>v5 ms hm,k0,#[O],fun r kE qr mR wa hH=>?_⟩;have hHs:zy H H2:=fun x u e=>s2 _ _ (zag ((s0.trans s1) _ _ e) (zu e hD))
   have e1:kE.map (fun q=>V.ref q.1)=(kE.map (·.1)).map V.ref:=by rw [bn]; rfl
   rw [e1];refine q r (kE.map (·.1)) (kE.map (·.2)) _ (hHs.free qr) (hHs.trans (zc qr)) zb ((zcy.of hH).same (zc qr)) (by rw [mR.length_eq]; lia) (zke #[O] (fun x hx=>v5 x (mR.mem_iff.mp hx)) (mR.nodup_iff.mpr oJ) ?_) fun x=>?_
   ·rw [cn];exact wa
   ·rw [mR.mem_iff];exact mv x
def ze3 (K:af):Sp:=fun vs H Q _=>∃ (c tt r:Addr) (p:Int) (k:Nat) (T:Int) (pl:List Int) (rw:List (Option Int)),vs = [.ref c,.ref r,.int T]∧zaw H c tt p k pl∧H r=some (.lst (rw.map nF))∧rw.length=pl.length∧pl.length≤16∧p∈zt∧pl.Nodup∧(∀ x∈pl,0≤x∧x < p)∧(∀ z,some z∈rw→0≤z∧z < p)∧1≤k∧k≤100∧(k:Int)≤T ∧
 ∀ (l:Addr) (rs:List Addr) (qs:List (List Int)) (H':Hp),H l=none→zy H H'→H' l=some (.lst (rs.map V.ref))→zcy H' rs qs→zfM p k qs→(∀ q,q∈qs↔IsP p k q∧T≤(hits p q (jS pl rw):Int))→Q (.ref l) H'
theorem zbi:FnScope ["code","row","t","k","points","first"] ["code","row","t"] (zh zbc):=#[S]
theorem zfX {fd:FuncData} (T:Txt K mg base t) (F:Fun K "all_near" "all_near" zbc t.all_near fd):FnOk P w K mg base CX0 5 t.all_near fd ["code","row","t"] (ze3 K):=by
 obtain⟨lK,kK,jZ⟩:=T.f_heard_points;have lX:=zc3 (P:=P) (w:=w) (base:=base) T kK;obtain⟨oT,lY,lZ⟩:=T.f_fits;have oq:=zhl (P:=P) (w:=w) (base:=base) T lY;obtain⟨l4,kR,j7⟩:=T.f_all_through;have mI:=zdV (P:=P) (w:=w) (base:=base) T kR;refine F.ok zbi (fun vs H Q E h=>?_) (fun jW A outer s H vs Q E hr h=>?_)
 ·obtain⟨c,tt,r,p,k,T',pl,rw,rfl,_⟩:=h;rfl
 ·obtain⟨c,tt,r,p,k,T',pl,rw,rfl,hc,rF,nu,hn,hp,oJ,lC,uE,k0,k1,h1,q⟩:=h;refine zbp ?_; intro zX;refine⟨_,#[zd,#[zn,3,zbi.nd,#[A],#[zP,#[zcH],#[pvx,0],#[ze]]],#[zd,#[za9,#[zL,#[zil],#[pvx,2],#[pvx,3],(zZ _)],#[zed],#[zan]],#[zd,#[zn,4,zbi.nd,#[A],#[zC,lX,(hr.mono #[D]),T.m_heard_points,kK.kp,jZ,#[zaa],#[za,#[pvx,0],#[ya,#[pvx,1]]]]],#[zd,#[za9,#[zL,#[zeh],#[pvx,2],#[zF,#[zw],T.len_,bU,#[ya,#[pvx,4]]],(zZ _)],#[zp,#[zR,#[zad,#[zf]]]],#[zan]],#[zd,#[zn,5,zbi.nd,#[A],#[zbo,zbZ,#[pvx,4],#[zbX],#[zbY,#[zg,#[zU],#[zg,#[zby],#[zF,#[zw],T.len_,bU,#[ya,#[pvx,4]]],#[pvx,2]],#[pvx,3]]]]],#[zp,#[zR,#[zaB,(CompSc.of (N':=["polynomial","code","row","t"]) (ix:=[none,some 0,some 1,some 2]) (zh zbc) ["code","row","t","k","points","first"] rfl rfl #[N]),#[zaN],#[zar,#[zC,mI,(hr.mono #[D]),T.m_all_through,kR.kp,j7,#[zaa],#[za,#[pvx,0],#[ya,#[pvx,5]]]]],(fun _ _ _ _=>#[zi,0,(show (["polynomial","code","row","t"]:List Str).Nodup from #[N]),#[A]]),(fun _ _ _ _=>#[zbq,#[zL,#[zgv],#[zF,#[za1,(K)],T.len_,bU,#[ya,#[zC,oq,(hr.mono #[D]),T.m_fits,lY.kp,lZ,#[zaa],#[za,#[pvx,1],#[za,#[pvx,2],#[ya,#[pvx,0]]]]]]],#[pvx,3],(zZ _)]]),(fun _ _ _ _=>#[pvx,0])]]]]]]]],?_⟩;refine zmx ?_; intro w4 uz rC oO nr;have nW:=bu;have rp:=zM hp;have hR:RowAt K H r pl.length rw:=⟨jy.of rF,nu⟩;have hP:=zg6 oJ lC uE;have hhl:=zcx pl rw;refine⟨_,rfl,c,_,_,_,rfl,rfl,jI.of hc.1,rfl,?_⟩;refine⟨_,rfl,_,rfl,_,_,rfl,rfl,_,rfl,?_⟩
  ·refine zbd (fun h=>absurd (of_decide_eq_true h) #[O]) (fun _=>?_);refine⟨_,rfl,_,rfl,c,tt,r,p,k,pl,rw,rfl,hc,hR,#[O],fun l bs H1 pU s1 qg hB=>?_⟩;have Ay:bs.length=(jS pl rw).length:=hB.length;refine⟨_,rfl,_,rfl,l,_,rfl,.inl (jy.of qg),_,_,rfl,rfl,_,rfl,?_⟩;rw [ab];refine zbd (fun jN=>?_) (fun lb=>?_)
   ·have jN:=of_decide_eq_true jN;refine⟨a8 _,fun z hz=>q z [] [] _ (s1.free hz) (s1.trans (zc hz)) zb .nil ⟨#[M],.nil⟩ fun x=>?_⟩;have:=cD (hit p x) (jS pl rw);constructor
    ·intro h; cases h
    ·rintro⟨_,h⟩;unfold hits at h;lia
   ·have lb:¬ T' > (bs.length:Int):=fun h=>lb (decide_eq_true h)
    obtain⟨tn,rfl⟩:∃ tn:Nat,T'=tn:=⟨T'.toNat,#[O]⟩;refine⟨_,rfl,_,rfl,l,_,rfl,.inl (jy.of qg),_,rfl,_,_,rfl,rfl,_,rfl,_,_,rfl,rfl,_,rfl,l,_,rfl,jy.of qg,fun z hz=>?_⟩;have A9:((bs.map V.ref).length:Int) - (tn:Int)+(k:Int)=((bs.length - tn+k:Nat):Int):=by rw [ab]; lia
    rw [A9,zgq,← gP];have v1:=zc (o:=.lst ((bs.take (bs.length - tn+k)).map V.ref)) hz;have hzz:jA H1 z (.lst ((bs.take (bs.length - tn+k)).map V.ref)) z=some (.lst ((bs.take (bs.length - tn+k)).map V.ref)):=zb;have s2:=s1.trans v1;have nI:=(hB.same v1).take (bs.length - tn+k);generalize jA H1 z (.lst ((bs.take (bs.length - tn+k)).map V.ref))=H2 at v1 hzz s2 nI ⊢;have hPt:Pts p ((jS pl rw).take (bs.length - tn+k)):=hP.sub (bZ _ _);refine⟨_,rfl,_,rfl,c,tt,z,p,k,pl,_,_,rfl,hc.same s2,jy.of hzz,nI,by rw [aF]; lia,hp,hPt,k0,k1,fun l2 rs qs H3 mV s3 qp hT hql wc kO=>?_⟩;have xq:=hT.length;have s13:=s2.trans s3;refine⟨l2,rfl,⟨_,jy.of qp⟩,zab (n:=rs.length) (fun i ys H'=>zy H3 H'∧∃ us:List Addr,ys=us.map V.ref∧us.length≤i∧zcy H' us ((qs.take i).filter fun x=>decide ((tn:Int)≤(hits p x (jS pl rw):Int)))) ⟨fun _ _ e=>e,[],rfl,ag _,.nil⟩ ?_ ?_ ?_ ?_⟩
    ·rintro i ys H4 hi ⟨s4,_⟩;exact⟨_,.ref rs[i],jy.of (s4 _ _ qp),by rw [am,az hi]; rfl⟩
    ·rintro ys H4 ⟨s4,_⟩;exact⟨_,jy.of (s4 _ _ qp),by rw [ab]; exact ag _⟩
    ·rintro zS zT zE i y ys H4 H5 hi ⟨s4,us,rfl,rH,kD⟩ ⟨rfl,hy⟩;obtain⟨rb,rfl,vZ⟩:=zaQ (hy _ (jy.of (s4 _ _ qp)));obtain⟨qq,Ba,mQ⟩:=Paired.get hT vZ;have wd:=s13.trans s4;refine⟨_,rfl,_,rfl,_,rfl,c,tt,r,rb,p,k,pl,qq,rw,rfl,hc.same wd,wd _ _ rF,nu,s4 _ _ mQ,#[O],#[O],lC,#[O],fun fl H6 xg s6 h6=>?_⟩;refine⟨fl,_,rfl,.inl (jy.of h6),_,rfl,_,_,rfl,rfl,_,rfl,?_⟩;have ef:((zaz p pl rw qq pl.length).map V.int).length=hits p qq (jS pl rw):=by rw [ab]; exact zg7 nu
     rw [ef];have tj:(qs.take (i+1)).filter (fun x=>decide ((tn:Int)≤(hits p x (jS pl rw):Int)))=(qs.take i).filter (fun x=>decide ((tn:Int)≤(hits p x (jS pl rw):Int)))++[qq].filter (fun x=>decide ((tn:Int)≤(hits p x (jS pl rw):Int))):=by rw [take_snoc Ba,cf]
     refine zbd (fun h=>⟨_,rfl,?_,s4.trans s6,us++[rb],by rw [aD]; rfl,by rw [av]; exact iL rH,?_⟩) (fun h=>⟨s4.trans s6,us,rfl,#[O],?_⟩)
     ·rw [ab]; lia
     ·rw [tj,dq (p:=fun x=>decide ((tn:Int)≤(hits p x (jS pl rw):Int))) h];exact dg (kD.same s6) ((s4.trans s6) _ _ mQ)
     ·rw [tj,dt (p:=fun x=>decide ((tn:Int)≤(hits p x (jS pl rw):Int))) h,List.filter_nil,bQ];exact kD.same s6
    ·rintro ys H4 D ⟨s4,us,rfl,rH,kD⟩ hD;rw [xq,bC] at kD;have wd:=s13.trans s4;refine q D us _ _ (wd.free hD) (wd.trans (zc hD)) zb (kD.same (zc hD)) (wc.filter _) fun x=>?_
     rw [bG,kO x,decide_eq_true_iff];constructor
     ·rintro⟨⟨pk,h1,rfl⟩,h2⟩;exact⟨zg5 hp hPt h1,h2⟩
     ·rintro⟨h1',h2⟩;exact⟨zdJ hp hP h1' (t:=tn) #[O] #[O] #[O],h2⟩
end
theorem zfY {p:Int} {pl:List Int} {rw:List (Option Int)} {q:List Int} {j:Nat} (h:zay p pl rw q j=true):∃ x y,pl[j]? = some x∧rw[j]? = some (some y)∧y=zj p x q:=by
 unfold zay at h;split at h
 ·rename_i x y e1 e2
  exact⟨x,y,e1,e2,of_decide_eq_true h⟩
 ·cases h
theorem zdW {pl:List Int} (hn:pl.Nodup):∀ {js:List Nat},js.Nodup→(∀ j∈js,j < pl.length)→(js.map fun j=>pl.getD j 0).Nodup
 | [],_,_=>.nil
 | j :: js,h,hl=>by
  rw [cp] at h
  (rw [aS,cp])
  refine⟨fun hm=>?_,zdW hn h.2 fun i hi=>hl i (aj _ hi)⟩;obtain⟨i,hi,e⟩:=aI.mp hm;have l1:=hl j aB;have l2:=hl i (aj _ hi);have e:pl.getD i 0=pl.getD j 0:=e;rw [c8,c8,az l1,az l2] at e;have e:pl[i]=pl[j]:=e;have:i=j:=by
   rcases Nat.lt_trichotomy i j with z | z | z
   ·exact absurd e ((ca.mp hn) i j l2 l1 z)
   ·exact z
   ·exact absurd e.symm ((ca.mp hn) j i l1 l2 z)
  exact h.1 (by rw [← this]; exact hi)
theorem zfZ {p:Int} (hp:p∈zt) {pl:List Int} {rw:List (Option Int)} {k:Nat} {q q':List Int} (hn:pl.Nodup) (hr:∀ x∈pl,0≤x∧x < p) (hq:IsP p k q) (lM:IsP p k q') (jU:q≠q') (n:Nat) (k1:1≤k):cnq n (fun x=>zay p pl rw q x && zay p pl rw q' x)≤k - 1:=by
 rw [zbJ];refine Nat.le_of_lt_succ (Nat.lt_of_not_le fun hle=>jU ?_);have hj:∀ j∈(br n).filter (fun x=>zay p pl rw q x && zay p pl rw q' x),j < pl.length∧zj p (pl.getD j 0) q=zj p (pl.getD j 0) q':=fun j hj=>by
  have h2:=(bG.mp hj).2;rw [cw] at h2;obtain⟨x,y,e1,e2,e3⟩:=zfY h2.1;obtain⟨x',y',uU,qJ,e3'⟩:=zfY h2.2;rw [e1] at uU;cases uU;rw [e2] at qJ;cases qJ;refine⟨(aG.mp e1).1,?_⟩;rw [c8,e1];show zj p x q=zj p x q';rw [← e3,← e3']
 refine zcW hp (xs:=((br n).filter (fun x=>zay p pl rw q x && zay p pl rw q' x)).map fun j=>pl.getD j 0) (hq.1.trans lM.1.symm) (by rw [ab,hq.1]; lia) (zdW hn (iP.filter _) fun j h=>(hj j h).1) (fun x hx=>?_) hq.2 lM.2 fun x hx=>?_
 ·obtain⟨j,h1,rfl⟩:=aI.mp hx;have:=(hj j h1).1;rw [c8,az this];exact hr _ (dN this)
 ·obtain⟨j,h1,rfl⟩:=aI.mp hx;exact (hj j h1).2
theorem zjy {p:Int} {pl:List Int} {rw:List (Option Int)} {q q':List Int} (n:Nat):((zaz p pl rw q n).filter fun x=>decide (x∈zaz p pl rw q' n)).length=cnq n fun x=>zay p pl rw q x && zay p pl rw q' x:=by
 rw [zbJ];unfold zaz;rw [jd,ab,List.filter_filter];congr 1;refine List.filter_congr fun x hx=>?_
 have hx:=bW.mp hx;show (decide ((x:Int)∈((br n).filter (zay p pl rw q')).map fun (j:Nat)=>(j:Int)) && zay p pl rw q x)=_;have:decide ((x:Int)∈((br n).filter (zay p pl rw q')).map fun (j:Nat)=>(j:Int))=zay p pl rw q' x:=by
  rw [bI,decide_eq_true_iff,aI];constructor
  ·rintro⟨j,h1,h2⟩;have:j=x:=by lia
   rw [← this];exact (bG.mp h1).2
  ·intro h;exact⟨x,bG.mpr ⟨bW.mpr hx,h⟩,rfl⟩
 rw [this,Bool.and_comm]
theorem zjz {p:Int} (hp:p∈zt) {pl:List Int} {rw:List (Option Int)} {k few:Nat} {qs:List (List Int)} (hn:pl.Nodup) (hr:∀ x∈pl,0≤x∧x < p) (hR:zfM p k qs) (k1:1≤k) (hf:k≤few) :
  ((qs.filter fun q=>decide (few≤(zaz p pl rw q pl.length).length)).length:Int)*((few:Int)*few - pl.length*((k:Int) - 1))≤pl.length*((few:Int) - k+1):=by
 have h:=zjr (n:=pl.length) (few:=few) (c:=k - 1) #[O] ((qs.filter fun q=>decide (few≤(zaz p pl rw q pl.length).length)).map (zay p pl rw)) (fun g hg=>?_) ?_
 ·rw [ab] at h;have e1:((k - 1:Nat):Int)=(k:Int) - 1:=by lia
  rw [e1] at h;have e2:(few:Int) - ((k:Int) - 1)=(few:Int) - k+1:=by lia
  rw [e2] at h;exact h
 ·obtain⟨q,h1,rfl⟩:=aI.mp hg;have:=of_decide_eq_true (bG.mp h1).2;rw [zbJ];unfold zaz at this;rw [ab] at this;exact this
 ·rw [cn];have h2:(qs.filter fun q=>decide (few≤(zaz p pl rw q pl.length).length)).Pairwise fun a b=>Srt.num p a < Srt.num p b:=hR.2.sublist hW
  refine ed (R:=fun a b=>Srt.num p a < Srt.num p b) (fun {a b} ha hb ug=>?_) h2;exact zfZ hp hn hr (hR.1 a (bG.mp ha).1) (hR.1 b (bG.mp hb).1) (fun e=>by rw [e] at ug; lia) _ k1
theorem zgt {p:Int} (hp:p∈zt) {jG:List (Int×Int)} {k:Nat} {qs:List (List Int)} (hP:Pts p jG) (hl:jG.length≤16) (hR:zfM p k qs) (h:∀ q∈qs,k≤hits p q jG):qs.length≤65536:=by
 have hn:qs.Nodup:=hR.2.imp fun {a b} ug e=>by rw [e] at ug; lia
 have hs:qs ⊆ ((chs jG k).map (·.2)).map (thr p):=fun q hq=>by
  obtain⟨pk,h1,h2⟩:=zdJ hp hP (n:=jG.length) (hR.1 q hq) (ag k) #[O] (h q hq);rw [bC] at h1;exact aI.mpr ⟨pk,h1,h2.symm⟩
 have:=hn.length_le_of_subset hs;rw [ab,ab] at this;exact aZ this (zbu k hl)
end My
end
section
namespace My
open PySem PySem.Spec L2 PyProof.Rows
noncomputable def isAt (H:Hp) (q:List Int) (u:Value):Bool:=@decide (∃ b,u = .ref b∧H b=some (.tup (q.map V.int))) (gb _)
theorem zhm {p q:List Int} (h:some (HO.tup (p.map V.int))=some (HO.tup (q.map V.int))):p=q :=
 (iw fun a b z=>by simpa using z).mp (HO.tup.inj (aN h))
theorem zhn {H:Hp} {q q':List Int} {b:Addr} (h:H b=some (.tup (q'.map V.int))):isAt H q (.ref b)=decide (q'=q):=by
 unfold isAt;rw [bI,@decide_eq_true_iff _ (gb _),decide_eq_true_iff];constructor
 ·rintro⟨b',eb,hb⟩;cases eb;exact zhm (h.symm.trans hb)
 ·rintro rfl;exact⟨b,rfl,h⟩
theorem zcX {H:Hp} {q:List Int}:∀ {rs:List Addr} {qs:List (List Int)} {us:List Value},zcy H rs qs→zG (rs.map V.ref) us→us.any (isAt H q)=decide (q∈qs)
 | _,_,_,.nil,.nil=>by simp
 | r :: rs,q' :: qs,u :: us,.cons h t,.cons ru tu=>by
  have ih:=zcX (q:=q) t tu;cases ru;rw [dS,ih,zhn h,bI,i8,decide_eq_true_iff,decide_eq_true_iff,decide_eq_true_iff,aA];exact⟨fun z=>z.imp Eq.symm id,fun z=>z.imp Eq.symm id⟩
theorem zia {X:Cx} {K:af} (hK:X.K=K) (hu:X.A.units+20 < cLine):OpR X (compareOp .NotIn) (fun x y H Q=>∃ (a l:Addr) (q:List Int) (rs:List Addr) (qs:List (List Int)),x = .ref a∧y = .ref l∧H a=some (.tup (q.map V.int))∧jy K H l (rs.map V.ref)∧zcy H rs qs∧Q (.bl (!decide (q∈qs))) H):=by
 subst hK;intro jv s σ H x y v u Q I rx ry h;obtain⟨a,l,q,rs,qs,rfl,rfl,ha,hl,hT,hQ⟩:=h;cases rx;cases ry;obtain⟨jx,r,pl,hz⟩:=I.list hl;refine SeqAt.notIn_listAt (isAt H q) pl.isList (fun w hw=>?_) ⟨.bl _,H,I,rfl,?_⟩
 ·have hw:w∈jx:=by simpa using hw
  obtain⟨j,hj⟩:=List.mem_iff_getElem?.mp hw;obtain⟨rk,nk⟩:=aG.mp hj;obtain⟨z,mC,rz⟩:=r.getE (j:=j) rk;obtain⟨b,rfl,hb⟩:=zaQ mC;obtain⟨q',lM,hH⟩:=Paired.get hT hb;have qc:jx.toArray[j]=w:=by simpa using nk
  rw [qc] at rz;cases rz;have hH:H b=some (.tup (q'.map V.int)):=hH;rw [zhn hH];by_cases e:b=a
  ·subst e;rw [zhm (hH.symm.trans ha),decide_eq_true rfl];exact (EqD.same (K:=X.K) (H:=H) (d:=8) (a:=b)).at I X.A.in1 (.ref b) (.ref b) rfl rfl (by simp only [cA]; lia)
  ·have e2:=(EqD.tups (d:=8) e (jI.of hH) (jI.of ha) ziC).at I X.A.in1 (.ref b) (.ref a) rfl rfl (by simp only [cA]; lia);have e4:((br (min (q'.map V.int).length (q.map V.int).length)).all (fun j=>decide (q'[j]? = q[j]?)) && (q'.map V.int).length == (q.map V.int).length)=decide (q'=q):=by
    rw [ab,ab,bI];simp only [cw,dk,bW,decide_eq_true_eq,beq_iff_eq];constructor
    ·rintro⟨h1,h2⟩;refine fO fun j=>?_
     by_cases hj:j < q'.length
     ·exact h1 j #[O]
     ·rw [dI #[O],dI #[O]]
    ·rintro rfl;exact⟨fun _ _=>rfl,rfl⟩
   rw [← e4];exact e2
 ·rw [List.any_toArray,zcX hT r];exact hQ
end My
end
section
namespace My
open PySem L2 PyProof.Rows
section
variable {K:af}
theorem zkM {many:Nat} {base:Int} {ds:List Int} (h:zeN many base ds) {i:Int} (h0:0≤i) (h1:i < many):∃ d,atI (ds.map V.int) i=some (.int d)∧0≤d∧d < base:=by
 obtain⟨n,rfl⟩:∃ n:Nat,i=n:=⟨i.toNat,#[O]⟩;have hn:n < ds.length:=by rw [h.1]; lia
 refine⟨ds[n]'hn,zbz (by rw [am,az hn]; rfl),h.2 _ (dN hn)⟩
end
section
variable {P:Program} {w:World} {K:af} {mg:Str→Option Value} {base:Heap} {t:Adr}
theorem zku (i:Int) (ms:List Int):inV (.int i) (ms.map V.int)=decide (i∈ms):=by
 rw [bI,decide_eq_true_iff];unfold inV;rw [f'];constructor
 ·rintro⟨y,hy,e⟩;obtain⟨m,hm,rfl⟩:=aI.mp hy;have:m=i:=by simpa [eqV] using e
  rw [← this];exact hm
 ·intro h;exact⟨.int i,aI.mpr ⟨i,h,rfl⟩,by simp [eqV]⟩
theorem zkv {H:Hp} {a b:Addr} {xs:List V} {ps:Array Value} (hP:H b=some (.tbl ps)) (h:jy K H a xs):jy K (hide H b) a xs:=by
 rcases h with (h | ⟨o,h⟩) | h
 ·exact .inl (.inl (zag h fun e=>by rw [e,hP] at h; cases h))
 ·exact .inl (.inr ⟨o,zag h fun e=>by rw [e,hP] at h; cases h⟩)
 ·exact .inr h
theorem zkw {t:Adr} {H G H':Hp} (h0:G t.tab=none) (s:zy G H) (s':zy (hide H t.tab) H'):zy G H':=fun b u e=>s' _ _ (zag (s _ _ e) (zu e h0))
theorem zaw.hid {H:Hp} {b c tt:Addr} {p k:Int} {pl:List Int} {ps:Array Value} (hP:H b=some (.tbl ps)) (h:zaw H c tt p k pl):zaw (hide H b) c tt p k pl:=⟨zag h.1 (fun e=>by have:=h.1; rw [e,hP] at this; cases this),zag h.2 (fun e=>by have:=h.2; rw [e,hP] at this; cases this)⟩
theorem zib {H:Hp} {Q:VK} {a b:Addr} {xs ys:List V} (ha:jy K H a xs) (hb:jy K H b ys) (hl:xs.length=ys.length) (he:∀ (j:Nat) x y,xs[j]? = some x→ys[j]? = some y→EqD K H 8 x y true) (q:Q (.bl false) H):zl2 K true (.ref a) (.ref b) H Q:=by
 refine⟨a,b,_,_,rfl,rfl,.inl ⟨ha,hb⟩,.inr ⟨hl,fun _=>true,he,?_⟩⟩;have:(br xs.length).all (fun _=>true)=true:=by simp
 rw [this];exact q
def zho (p:Int) (pl:List Int) (rw:List (Option Int)) (H:Hp):List Addr→List (List Int)→Prop:=Paired fun a q=>H a=some (.lst ((zaz p pl rw q pl.length).map V.int))
theorem zho.same {p:Int} {pl:List Int} {rw:List (Option Int)} {H H':Hp} (s:zy H H') {ks:List Addr} {qs:List (List Int)} (h:zho p pl rw H ks qs):zho p pl rw H' ks qs:=dB (fun _ _ z=>s _ _ z) h
theorem zic (ns:List Int):(ns.map V.int).all zbQ=true:=by
 rw [dk];intro y hy;obtain⟨n,_,rfl⟩:=aI.mp hy;rfl
def zjA (t:Adr) (K:af):Sp:=fun vs H Q _=>∃ (a:Addr) (ns:List Int),vs = [.ref a]∧jy K H a (ns.map V.int)∧ns.length≤63∧TbA t H∧∀ H',Q (.bl true) H'
theorem zak:FnScope ["script","at","code","p","k","places","n","plan","row","t","ones","near","known","j","i","few","more","some"] ["script"] (zh zbg):=#[S]
theorem zlJ {fd:FuncData} (T:Txt K mg base t) (F:Fun K "law" "law" zbg t.law fd):FnOk P w K mg base CX0 6 t.law fd ["script"] (zjA t K):=by
 obtain⟨pz,nN,l5⟩:=T.f_l_code;have qw:=zh8 (P:=P) (w:=w) (base:=base) T nN;obtain⟨kU,jL,jM⟩:=T.f_l_draws;have jV:=zco (P:=P) (w:=w) (base:=base) T jL;obtain⟨qz,oU,m9⟩:=T.f_l_row;have rN:=zjw (P:=P) (w:=w) (base:=base) T oU;obtain⟨nc,lG,kL⟩:=T.f_many_near;have nO:=ze2 (P:=P) (w:=w) (base:=base) T lG;obtain⟨nP,kW,kr⟩:=T.f_all_near;have l9:=zfX (P:=P) (w:=w) (base:=base) T kW;obtain⟨oT,lY,lZ⟩:=T.f_fits;have oq:=zhl (P:=P) (w:=w) (base:=base) T lY;refine F.ok zak (fun vs H Q E h=>?_) (fun jW A outer s H vs Q E hr h=>?_)
 ·obtain⟨a,ns,rfl,_⟩:=h;rfl
 ·obtain⟨a,ns,rfl,hS,jE,tM,q⟩:=h;have hu:(A.deeper (envOfC (bd "law") (zh zbg) s.heap.objs.size t.law jW)).units+20 < cLine:=by have:=hr.units; lia
  refine zbp ?_; intro zX;refine⟨_,#[zd,#[zaV,bA,#[zaI,T.range_,#[ya,#[ze]]],#[zi,1,zak.nd,#[A]],#[zd,#[zn,2,zak.nd,(cR rfl),#[zC,qw,(hr.mono #[D]),T.m_l_code,nN.kp,l5,#[zaa],#[za,#[pvx,0],by exact #[za,#[zg,#[zN],#[ze],#[pvx,1]],#[za,#[ze],#[ya,#[zP,#[zB],#[zad,#[za,#[ze],#[ya,#[ze]]]],#[pvx,1]]]]]]]],#[zd,#[zbw,#[pvx,2],#[zba,#[zo,#[zi,3,zak.nd,#[A]],#[zo,#[zi,4,zak.nd,#[A]],#[zo,#[zi,5,zak.nd,#[A]],#[z9]]]]]],#[zd,#[zn,6,zak.nd,#[A],#[zF,#[zw],T.len_,bU,#[ya,#[pvx,5]]]],#[zd,#[zn,7,zak.nd,#[A],#[zC,jV,(hr.mono #[D]),T.m_l_draws,jL.kp,jM,#[zaa],#[za,#[pvx,0],by exact #[za,#[zg,#[zU],#[zg,#[zN],#[ze],#[pvx,1]],#[ze]],#[za,#[ze],#[ya,#[ze]]]]]]],#[zd,#[zn,8,zak.nd,(cR rfl),#[zC,rN,(hr.mono #[D]),T.m_l_row,oU.kp,m9,#[zaa],#[za,#[pvx,0],#[za,#[zg,#[zU],#[zg,#[zN],#[ze],#[pvx,1]],#[ze]],#[ya,#[pvx,2]]]]]],#[zd,(zjh #[zn,9,zak.nd,#[A],#[zg,#[zU],#[pvx,4],#[zg,#[zA],#[zP,#[zB],#[pvx,7],#[ze]],#[zg,#[zU],#[zg,#[zby],#[pvx,6],#[pvx,4]],#[ze]]]]]),#[zd,(zjh #[za9,#[zL,#[zdk],#[zg,#[zA],#[zP,#[zB],#[pvx,7],#[ze]],#[ze]],#[ze],(zZ _)],#[zd,#[zbw,#[zC,nO,(hr.mono #[D]),T.m_many_near,lG.kp,kL,#[zaa],#[za,#[pvx,2],#[ya,#[pvx,9]]]],#[zba,#[zo,#[zi,8,zak.nd,(cR rfl)],#[zo,#[zi,10,zak.nd,#[A]],#[z9]]]]],#[zd,#[zn,11,zak.nd,(cR rfl),#[zC,l9,(hr.mono #[D]),T.m_all_near,kW.kp,kr,#[zaa],#[za,#[pvx,2],#[za,#[pvx,8],#[ya,#[pvx,9]]]]]],#[zp,#[za9,#[zL,(@zlb _ hu),#[zaB,(CompSc.of (N':=["one","near"]) (ix:=[none,some 11]) (zh zbg) ["script","at","code","p","k","places","n","plan","row","t","ones","near","known","j","i","few","more","some"] rfl rfl #[N]),#[zaN],#[zar,#[pvx,10]],(fun _ _ _ _=>#[zi,0,(show (["one","near"]:List Str).Nodup from #[N]),#[A]]),(fun _ _ _ _=>#[zbq,#[zL,(zia rfl hu),#[pvx,0],#[pvx,1],(by with_unfolding_all rfl)]]),(fun _ _ _ _=>#[pvx,0])],#[zad,#[zf]],(zZ _)],#[zp,#[zR,#[zec]]],#[zan]]]]],#[zan]]),#[zd,#[zn,11,zak.nd,(cR rfl),#[zC,l9,(hr.mono #[D]),T.m_all_near,kW.kp,kr,#[zaa],#[za,#[pvx,2],#[za,#[pvx,8],#[ya,#[pvx,9]]]]]],#[zd,#[zn,12,zak.nd,(cR rfl),#[zaB,(CompSc.of (N':=["one","code","row"]) (ix:=[none,some 2,some 8]) (zh zbg) ["script","at","code","p","k","places","n","plan","row","t","ones","near","known","j","i","few","more","some"] rfl rfl #[N]),#[zaN],#[zar,#[pvx,11]],(fun _ _ _ _=>#[zi,0,(show (["one","code","row"]:List Str).Nodup from #[N]),#[A]]),(fun _ _ _ _=>#[zap]),(fun _ _ _ _=>#[zC,oq,(hr.mono #[D]),T.m_fits,lY.kp,lZ,#[zaa],#[za,#[pvx,1],#[za,#[pvx,2],#[ya,#[pvx,0]]]]])]],#[zd,#[zaV,bA,#[zaI,T.range_,#[ya,#[zF,#[zcG],T.min_,boot_min,#[za,#[zF,#[zw],T.len_,bU,#[ya,#[pvx,11]]],#[ya,#[ze]]]]]],#[zi,13,zak.nd,(cR rfl)],#[zd,#[za9,#[zL,#[zil],#[zF,#[zw],T.len_,bU,#[ya,#[zP,#[zB],#[pvx,12],#[pvx,13]]]],#[pvx,9],(zZ _)],#[zp,#[zR,#[zec]]],#[zan]],#[zp,#[zaV,bA,#[zaI,T.range_,#[ya,#[pvx,13]]],#[zi,14,zak.nd,#[A]],#[zp,#[za9,#[zL,#[zgv],#[zF,#[zw],T.len_,bU,#[ya,#[zaB,(CompSc.of (N':=["number","known","j"]) (ix:=[none,some 12,some 13]) (zh zbg) ["script","at","code","p","k","places","n","plan","row","t","ones","near","known","j","i","few","more","some"] rfl rfl #[N]),#[zaN],#[zar,#[zP,#[zB],#[pvx,12],#[pvx,14]]],(fun _ _ _ _=>#[zi,0,(show (["number","known","j"]:List Str).Nodup from #[N]),#[A]]),(fun _ _ _ _=>#[zbq,#[zL,(@zga _ (K) rfl),#[pvx,0],#[zP,#[zfi,(K)],#[pvx,1],#[pvx,2]],(by with_unfolding_all rfl)]]),(fun _ _ _ _=>#[pvx,0])]]],#[pvx,4],(zZ _)],#[zp,#[zR,#[zec]]],#[zan]]]]]]],#[zp,#[zaV,bA,#[zef,T.range_,#[za,#[pvx,9],#[ya,#[zg,#[zU],#[pvx,6],#[ze]]]]],#[zi,15,zak.nd,(cR rfl)],#[zd,#[zn,16,zak.nd,#[A],#[zg,#[zby],#[zg,#[zN],#[pvx,15],#[pvx,15]],#[zg,#[zN],#[pvx,6],#[zg,#[zby],#[pvx,4],#[ze]]]]],#[zd,#[zn,17,zak.nd,#[A],#[zF,#[zw],T.len_,bU,#[ya,#[zaB,(CompSc.of (N':=["one","few"]) (ix:=[none,some 15]) (zh zbg) ["script","at","code","p","k","places","n","plan","row","t","ones","near","known","j","i","few","more","some"] rfl rfl #[N]),#[zaN],#[zar,#[pvx,12]],(fun _ _ _ _=>#[zi,0,(show (["one","few"]:List Str).Nodup from #[N]),#[A]]),(fun _ _ _ _=>#[zbq,#[zL,#[zgv],#[zF,#[za1,(K)],T.len_,bU,#[ya,#[pvx,0]]],#[pvx,1],(zZ _)]]),(fun _ _ _ _=>#[pvx,0])]]]],#[zp,#[za9,(@PW.pt _ _ _ #[zie,#[zL,#[zeh],#[pvx,16],#[ze],(zZ _)],#[zgu,#[zL,#[zeh],#[zg,#[zN],#[pvx,17],#[pvx,16]],#[zg,#[zN],#[pvx,6],#[zg,#[zU],#[zg,#[zby],#[pvx,15],#[pvx,4]],#[ze]]],(zZ _)]]]),#[zp,#[zR,#[zec]]],#[zan]]]]]]]]]]]]]]]]]],#[zp,#[zR,#[zec]]]],?_⟩;refine zjO ?_; intro nr;have nW:=bu;obtain⟨ps0,hP0⟩:=tM.at_;have hG0:hide H t.tab t.tab=none:=by unfold hide; rw [if_pos rfl]
  have xr:=zkv (K:=K) hP0 hS;have hGH:=zdx H t.tab;generalize hide H t.tab=G at hG0 xr hGH ⊢;refine⟨2,rfl,#[D],#[D],?_⟩;refine zaF (lo:=0) (n:=2) (fun i σ H'=>∃ e1 e2 e3 e4 e5 e6 e7 e8 e9 qA sD we qB nY pO oQ oR:Option V,σ = [some (.ref a),e1,e2,e3,e4,e5,e6,e7,e8,e9,qA,sD,we,qB,nY,pO,oQ,oR]∧zy G H'∧TbA t H') ⟨none,none,none,none,none,none,none,none,none,none,none,none,none,none,none,none,none,rfl,hGH,tM⟩ ?_ ?_
  ·rintro zD zT i σ H0 hi ⟨e1,e2,e3,e4,e5,e6,e7,e8,e9,qA,sD,we,qB,nY,pO,oQ,oR,rfl,s0,tb0⟩;obtain⟨mn,hmn,mn0,mn1⟩:∃ mn:Int,atI [V.int 16,.int 11] (0+(i:Int))=some (.int mn)∧11≤mn∧mn≤16:=by
    have:i=0∨i=1:=by lia
    rcases this with rfl | rfl
    ·exact⟨16,rfl,#[D],#[D]⟩
    ·exact⟨11,rfl,#[D],#[D]⟩
   refine⟨_,rfl,_,rfl,_,_,rfl,rfl,.inl ⟨#[D],#[D]⟩,by show 2≤sizeLine; lia,fun z hz=>⟨_,rfl,z,_,_,_,rfl,rfl,jy.of zb,hmn,?_⟩⟩;have u1:=zc (o:=.lst [.int 16,.int 11]) hz;have Bb:=s0.trans u1;have wg:=tb0.same u1;generalize jA H0 z (.lst [.int 16,.int 11])=H0' at u1 Bb wg ⊢;refine⟨a,ns,4*(0+(i:Int)),5,mn,rfl,Bb.seq xr,jE,#[O],#[O],#[D],#[D],#[O],#[O],fun c tt p kI pl H1 hc1 s1 co mF h1t=>?_⟩;have rp:=zM co.pr;have k1:=co.k1;have kk:=co.kk;have kn:=co.kl;have ln:=co.ln;have p0:0 < p:=by lia
   obtain⟨k,rfl⟩:∃ k:Nat,kI=k:=⟨kI.toNat,#[O]⟩;have hcA:zaw H1 c tt p k pl:=⟨mF,h1t⟩;have s01:=Bb.trans s1;refine⟨_,rfl,c,_,rfl,jI.of mF,rfl,_,_,rfl,_,_,rfl,_,_,rfl,rfl,?_⟩;refine⟨_,rfl,tt,_,rfl,.inr (jI.of h1t),?_⟩;rw [ab];refine⟨_,rfl,_,rfl,_,_,rfl,rfl,.inl ⟨#[D],#[D]⟩,_,_,rfl,rfl,a,ns,4*(0+(i:Int))+3,3,27720,rfl,s01.seq xr,jE,#[O],#[O],#[D],#[D],#[D],#[D],fun dl ds H2 uy s2 ok h2=>?_⟩;have s02:=s01.trans s2;refine⟨_,rfl,_,rfl,_,_,rfl,rfl,.inl ⟨#[D],#[D]⟩,_,_,rfl,rfl,_,rfl,a,c,tt,ns,4*(0+(i:Int))+1,p,k,pl,rfl,s02.seq xr,jE,#[O],#[O],hcA.same s2,#[O],#[O],co.rg,#[O],fun r rw H3 hr3 s3 nu uE h3r=>?_⟩;have Bc:=(hcA.same s2).same s3;have h3d:=s3 _ _ h2;have s03:=s02.trans s3;have uD:=wg.same (s1.trans (s2.trans s3));obtain⟨d0,hd0,_⟩:=zkM (i:=0) ok #[D] #[D];obtain⟨d1,hd1,_⟩:=zkM (i:=1) ok #[D] #[D];have m0:=aK d0 (show (pl.length:Int) - k+1≠0 by lia);have m1:=aC d0 (show 0 < (pl.length:Int) - k+1 by lia);obtain⟨tn,htn⟩:∃ tn:Nat,(k:Int)+d0 % ((pl.length:Int) - k+1)=tn:=⟨((k:Int)+d0 % ((pl.length:Int) - k+1)).toNat,#[O]⟩;refine⟨fun σ H'=>σ = [some (.ref a),some (.int (0+(i:Int))),some (.ref c),some (.int p),some (.int (k:Int)),some (.ref tt),some (.int (pl.length:Int)),some (.ref dl),some (.ref r),some (.int (tn:Int)),qA,sD,we,qB,nY,pO,oQ,oR]∧H'=H3,⟨_,rfl,_,rfl,dl,_,_,_,rfl,rfl,jy.of h3d,hd0,_,rfl,_,rfl,_,_,rfl,rfl,_,_,rfl,rfl,_,_,rfl,rfl,#[O],_,_,rfl,rfl,by rw [← htn]; rfl,rfl⟩,?_⟩;rintro σ3 H3' ⟨rfl,rfl⟩;refine⟨fun σ H'=>∃ (r':Addr) (nj:List (Option Int)) (qA sD:Option V),σ = [some (.ref a),some (.int (0+(i:Int))),some (.ref c),some (.int p),some (.int (k:Int)),some (.ref tt),some (.int (pl.length:Int)),some (.ref dl),some (.ref r'),some (.int (tn:Int)),qA,sD,we,qB,nY,pO,oQ,oR]∧zy G H'∧TbA t H'∧zaw H' c tt p k pl∧nj.length=pl.length∧(∀ z,some z∈nj→0≤z∧z < p)∧H' r'=some (.lst (nj.map nF)),?_,?_⟩
   ·refine⟨_,rfl,dl,_,_,_,rfl,rfl,jy.of h3d,hd1,_,_,rfl,rfl,(by show (0:Int) < 3; decide),rfl,_,rfl,?_⟩;refine zbd (fun _=>?_) (fun _=>⟨r,rw,qA,sD,rfl,s03,uD,Bc,nu,uE,h3r⟩);refine⟨_,rfl,_,rfl,c,tt,p,k,tn,pl,rfl,Bc,#[O],co.pr,co.nd,co.rg,#[O],#[O],#[O],uD,fun T9 r' l' rs qs high lows H4 AV s4 Bd h4T tZ AB hTp xo uC vC hpw=>?_⟩;obtain⟨ps3,AY⟩:=uD.at_;have wj:=(Bc.hid AY).same s4;have sG4:=zkw hG0 s03 s4;have eR:(rowOf p k high pl).map V.int=((rowOf p k high pl).map some).map nF:=by rw [bn]; rfl
    have Be:((rowOf p k high pl).map some).length=pl.length:=by unfold rowOf; rw [ab,ab]
    have Bf:∀ z,some z∈(rowOf p k high pl).map some→0≤z∧z < p:=fun z hz=>by
     obtain⟨z',h1,h2⟩:=aI.mp hz;cases h2;obtain⟨x,_,rfl⟩:=aI.mp h1;exact⟨zaO p0 _,zaP p0 _⟩
    have kO:∀ q'∈qs,IsP p k q'∧(tn:Int)≤(hits p q' (jS pl ((rowOf p k high pl).map some)):Int):=fun q' lM=>by
     obtain⟨low,h1,rfl⟩:=aI.mp (xo.mem_iff.mp lM);obtain⟨y,h2,h3,h4⟩:=zcA _ _ rfl _ uC low h1;obtain⟨z,hz,rfl⟩:=aI.mp h2;obtain⟨h5,h6⟩:=zb4.mp hz;have h4:high=(van p z).drop k:=h4;have hl:low.length=k:=by rw [h3,aF,zb6]; lia
     have h7:=zh4 p0 (rs:=z) (low:=low) (high:=high) (by rw [h3,h4,bD]) hl h5;exact⟨zgm p0 hl,#[O]⟩
    rw [eR] at tZ;generalize (rowOf p k high pl).map some=nj at Be Bf tZ kO;refine⟨T9,_,rfl,jI.of h4T,rfl,_,_,rfl,_,_,rfl,rfl,?_⟩;refine⟨_,rfl,_,rfl,_,rfl,c,tt,r',p,k,(tn:Int),pl,nj,rfl,wj,tZ,Be,#[O],co.pr,co.nd,co.rg,Bf,#[O],#[O],#[O],fun nl rO uF H5 vE s5 t6 xt uG xu=>?_⟩;have tW:=s5 _ _ AB;have hT5:=hTp.same s5;have xq:=hT5.length;refine⟨_,rfl,l',rfl,⟨_,jy.of tW⟩,zab (n:=rs.length) (fun i ys H'=>ys = []∧H'=H5) ⟨rfl,rfl⟩ ?_ ?_ ?_ ?_⟩
    ·rintro i ys H' hi ⟨_,rfl⟩;exact⟨_,.ref (rs[i]'#[O]),jy.of tW,by rw [am,az #[O]]; rfl⟩
    ·rintro ys H' ⟨_,rfl⟩;exact⟨_,jy.of tW,by rw [ab]; exact ag _⟩
    ·rintro zS zT zE i zz ys xv H12 hi ⟨rfl,rfl⟩ ⟨rfl,hx⟩;obtain⟨b,rfl,hb⟩:=zaQ (hx _ (jy.of tW));obtain⟨q',lM,hqa⟩:=Paired.get hT5 hb;have mM:q'∈uF:=(xu q').mpr (kO q' (aJ lM));refine⟨_,rfl,_,rfl,b,nl,q',rO,uF,rfl,rfl,hqa,jy.of t6,xt,_,rfl,?_⟩;rw [decide_eq_true mM];exact zit ⟨rfl,rfl⟩
    rintro ys xv D1 ⟨rfl,rfl⟩ hD1;refine⟨a8 _,fun Z1 hZ1=>?_⟩;have wz:=(zc (o:=.lst []) hD1).trans (zc (o:=.lst []) hZ1);have z1:jA (jA xv D1 (.lst [])) Z1 (.lst []) D1=some (.lst []):=(zc (o:=.lst []) hZ1) _ _ zb;have z2:jA (jA xv D1 (.lst [])) Z1 (.lst []) Z1=some (.lst []):=zb;generalize jA (jA xv D1 (.lst [])) Z1 (.lst [])=H12 at wz z1 z2 ⊢;refine zib (jy.of z1) (jy.of z2) rfl (fun j x y hx _=>by simp at hx) ⟨_,rfl,zit ?_⟩;have rP:=s5.trans wz;exact⟨r',nj,_,_,rfl,sG4.trans rP,Bd.same rP,wj.same rP,Be,Bf,rP _ _ tZ⟩
   rintro σ H4 ⟨r,rw,qA,sD,rfl,s04,Bd,wj,nu,uE,tZ⟩;refine⟨_,rfl,_,rfl,_,rfl,c,tt,r,p,k,(tn:Int),pl,rw,rfl,wj,tZ,nu,#[O],co.pr,co.nd,co.rg,uE,#[O],#[O],#[O],fun nl rO uF H5 vE s5 t6 xt uG xu=>?_⟩;have xq:=xt.length;have hnc:=zgt co.pr (zg6 co.nd co.rg uE) (aZ (zcx pl rw) #[O]) uG fun q' lM=>by have:=((xu q').mp lM).2; lia
   have hc5:=wj.same s5;have xn:=s5 _ _ tZ;refine⟨_,rfl,nl,rfl,⟨_,jy.of t6⟩,zab (n:=rO.length) (fun i ys H'=>zy H5 H'∧∃ ks:List Addr,ys=ks.map V.ref∧zho p pl rw H' ks (uF.take i)) ⟨fun _ _ e=>e,[],rfl,.nil⟩ ?_ ?_ ?_ ?_⟩
   ·rintro i ys H' hi ⟨s6,_⟩;exact⟨_,.ref rO[i],jy.of (s6 _ _ t6),by rw [am,az hi]; rfl⟩
   ·rintro ys H' ⟨s6,_⟩;exact⟨_,jy.of (s6 _ _ t6),by rw [ab]; exact ag _⟩
   ·rintro zS zT zE i y ys H6 H7 hi ⟨s6,ks,rfl,rm⟩ ⟨rfl,hy⟩;obtain⟨rb,rfl,vZ⟩:=zaQ (hy _ (jy.of (s6 _ _ t6)));obtain⟨qq,Ba,mQ⟩:=Paired.get xt vZ;have xh:=rm.length;rw [aF] at xh;refine gY ⟨_,rfl,_,rfl,_,rfl,c,tt,r,rb,p,k,pl,qq,rw,rfl,hc5.same s6,s6 _ _ xn,nu,s6 _ _ mQ,#[O],#[O],co.rg,#[O],fun fl H8 xg s8 h8=>⟨?_,s6.trans s8,ks++[fl],by rw [aD]; rfl,?_⟩⟩
    ·rw [ab]; lia
    ·rw [take_snoc Ba];exact dg (rm.same s8) h8
   rintro ys H6 kl ⟨s6,ks,rfl,rm⟩ Bg;rw [xq,bC] at rm;have v7:=zc (o:=.lst (ks.map V.ref)) Bg;have xw:jA H6 kl (.lst (ks.map V.ref)) kl=some (.lst (ks.map V.ref)):=zb;have qC:=rm.same v7;have sC:=s6.trans v7;generalize jA H6 kl (.lst (ks.map V.ref))=H7 at xw qC sC ⊢;have h7n:=sC _ _ t6;have hkq:=qC.length;have s07:=s04.trans (s5.trans sC);have tb7:=Bd.same (s5.trans sC);have sL:∀ q'∈uF,tn≤(zaz p pl rw q' pl.length).length:=fun q' lM=>by
    rw [zg7 nu];have:=((xu q').mp lM).2;lia
   have xg:∀ q',(zaz p pl rw q' pl.length).length≤16:=fun q'=>aZ (zcU p pl rw q' pl.length) #[O]
   obtain⟨mm,uV,ux⟩:∃ mm:Nat,(if (40:Int) < ((rO.map V.ref).length:Int) then (40:Int) else ((rO.map V.ref).length:Int))=mm∧mm≤rO.length:=by
    rw [ab];by_cases h:(40:Int) < (rO.length:Int)
    ·exact⟨40,by rw [if_pos h]; rfl,#[O]⟩
    ·exact⟨rO.length,by rw [if_neg h],ag _⟩
   refine⟨_,rfl,nl,_,rfl,.inl (jy.of h7n),_,_,rfl,?_⟩;refine⟨_,rfl,by rw [uV]; lia,by rw [uV]; lia,?_⟩;rw [uV,bE];refine zaF (lo:=0) (n:=mm) (fun j σ H'=>∃ qB nY:Option V,σ = [some (.ref a),some (.int (0+(i:Int))),some (.ref c),some (.int p),some (.int (k:Int)),some (.ref tt),some (.int (pl.length:Int)),some (.ref dl),some (.ref r),some (.int (tn:Int)),qA,some (.ref nl),some (.ref kl),qB,nY,pO,oQ,oR]∧zy H7 H') ⟨qB,nY,rfl,fun _ _ e=>e⟩ ?_ ?_
   ·rintro zD zT j σ H8 hj ⟨qB,nY,rfl,s8⟩;obtain⟨kj,hkj⟩:∃ kj,ks[j]? = some kj:=⟨ks[j]'#[O],#[M]⟩;obtain⟨qj,Bh,wm⟩:=Paired.get qC hkj;have wo:=aJ Bh;have wN:atI (ks.map V.ref) (0+(j:Int))=some (.ref kj):=by
     rw [iA]; exact zbz (by rw [am,hkj]; rfl)
    refine⟨_,rfl,_,rfl,kl,_,_,_,rfl,rfl,jy.of (s8 _ _ xw),wN,kj,_,rfl,.inl (jy.of (s8 _ _ wm)),_,rfl,_,_,rfl,rfl,_,rfl,?_⟩;rw [ab];refine zbd (fun h=>absurd (of_decide_eq_true h) (by have:=sL qj wo; lia)) (fun _=>?_);refine⟨_,rfl,_,rfl,#[O],#[O],?_⟩;rw [show (0+(j:Int)).toNat=j by lia];refine zaF (lo:=0) (n:=j) (fun i' σ H'=>∃ nY:Option V,σ = [some (.ref a),some (.int (0+(i:Int))),some (.ref c),some (.int p),some (.int (k:Int)),some (.ref tt),some (.int (pl.length:Int)),some (.ref dl),some (.ref r),some (.int (tn:Int)),qA,some (.ref nl),some (.ref kl),some (.int (0+(j:Int))),nY,pO,oQ,oR]∧zy H7 H') ⟨nY,rfl,s8⟩ ?_ ?_
    ·rintro zD zT i' σ H9 lL ⟨nY,rfl,s9⟩;obtain⟨ki,hki⟩:∃ ki,ks[i']? = some ki:=⟨ks[i']'#[O],#[M]⟩;obtain⟨qi,Bi,Bj⟩:=Paired.get qC hki;have Bk:atI (ks.map V.ref) (0+(i':Int))=some (.ref ki):=by
      rw [iA]; exact zbz (by rw [am,hki]; rfl)
     have t7:=s9 _ _ xw;have xy:=s9 _ _ Bj;have h9j:=s9 _ _ wm;refine⟨_,rfl,_,rfl,kl,_,_,_,rfl,rfl,jy.of t7,Bk,ki,rfl,⟨_,jy.of xy⟩,zab (n:=(zaz p pl rw qi pl.length).length) (fun m ys H'=>ys=(((zaz p pl rw qi pl.length).take m).filter fun x=>decide (x∈zaz p pl rw qj pl.length)).map V.int∧H'=H9) ⟨rfl,rfl⟩ ?_ ?_ ?_ ?_⟩
     ·rintro m ys H' hm ⟨_,rfl⟩;exact⟨_,.int (zaz p pl rw qi pl.length)[m],jy.of xy,by rw [am,az hm]; rfl⟩
     ·rintro ys H' ⟨_,rfl⟩;exact⟨_,jy.of xy,by rw [ab]; exact ag _⟩
     ·rintro zS zT zE m y ys H' H'' hm ⟨rfl,rfl⟩ ⟨rfl,hy⟩;obtain⟨nb,rfl,wR⟩:=zao (hy _ (jy.of xy));refine⟨_,rfl,_,rfl,_,rfl,kl,_,_,_,rfl,rfl,jy.of t7,wN,kj,_,rfl,.inl (jy.of h9j),rfl,zic _,_,rfl,?_⟩;rw [if_neg #[M],zku,take_snoc wR,cf,aD];have hfl2:=xg qi;refine zbd (fun h=>⟨_,rfl,?_,?_,rfl⟩) (fun h=>⟨?_,rfl⟩)
      ·rw [ab];exact iu (cD _ _) (by rw [aF]; lia)
      ·rw [dq (p:=fun x=>decide (x∈zaz p pl rw qj pl.length)) h]; rfl
      ·rw [dt (p:=fun x=>decide (x∈zaz p pl rw qj pl.length)) h]; simp
     rintro ys H' cl ⟨rfl,rfl⟩ nV;rw [bC];refine⟨cl,_,rfl,.inl (jy.of zb),_,rfl,_,_,rfl,rfl,_,rfl,?_⟩;rw [ab,zjy];have jU:qi≠qj:=fun e=>by
      have h1:=(ca.mp uG.2) i' j #[O] #[O] lL;rw [aG] at Bi Bh;obtain⟨_,g1⟩:=Bi;obtain⟨_,g2⟩:=Bh;rw [g1,g2,e] at h1;lia
     have hbf:=zfZ co.pr (rw:=rw) co.nd co.rg (uG.1 qi (aJ Bi)) (uG.1 qj wo) jU pl.length #[O];refine zbd (fun h=>absurd (of_decide_eq_true h) #[O]) (fun _=>?_);exact⟨_,rfl,s9.trans (zc nV)⟩
    ·rintro σ H9 ⟨nY,rfl,s9⟩;exact⟨_,_,rfl,s9⟩
   ·rintro σ H8 ⟨qB,nY,rfl,s8⟩;refine⟨_,rfl,_,rfl,_,_,rfl,rfl,_,_,rfl,⟨#[O],#[O],#[O],#[O]⟩,?_⟩;have en:((pl.length:Int)+1 - (tn:Int)).toNat=pl.length+1 - tn:=by lia
    rw [en];refine zaF (lo:=(tn:Int)) (n:=pl.length+1 - tn) (fun f σ H'=>∃ pO oQ oR:Option V,σ = [some (.ref a),some (.int (0+(i:Int))),some (.ref c),some (.int p),some (.int (k:Int)),some (.ref tt),some (.int (pl.length:Int)),some (.ref dl),some (.ref r),some (.int (tn:Int)),qA,some (.ref nl),some (.ref kl),qB,nY,pO,oQ,oR]∧zy H7 H') ⟨pO,oQ,oR,rfl,s8⟩ ?_ ?_
    ·rintro zD zT f σ H9 hf ⟨pO,oQ,oR,rfl,s9⟩;have t7:=s9 _ _ xw;refine⟨_,rfl,_,rfl,_,_,rfl,rfl,.inl ⟨#[O],#[O]⟩,_,rfl,_,rfl,_,_,rfl,rfl,_,_,rfl,rfl,.inl ⟨#[O],#[O]⟩,_,_,rfl,rfl,?_⟩;refine⟨_,rfl,kl,rfl,⟨_,jy.of t7⟩,zab (n:=ks.length) (fun m ys H'=>H'=H9∧∃ us:List Addr,ys=us.map V.ref∧us.length=((uF.take m).filter fun q'=>decide (tn+f≤(zaz p pl rw q' pl.length).length)).length) ⟨rfl,[],rfl,rfl⟩ ?_ ?_ ?_ ?_⟩
     ·rintro m ys H' hm ⟨rfl,_⟩;exact⟨_,.ref ks[m],jy.of t7,by rw [am,az hm]; rfl⟩
     ·rintro ys H' ⟨rfl,_⟩;exact⟨_,jy.of t7,by rw [ab]; exact ag _⟩
     ·rintro zS zT zE m y ys H' H'' hm ⟨rfl,us,rfl,kD⟩ ⟨rfl,hy⟩;obtain⟨km,rfl,rq⟩:=zaQ (hy _ (jy.of t7));obtain⟨qm,hqm,Bl⟩:=Paired.get qC rq;have rH:us.length≤m:=by
       rw [kD];exact aZ (cD _ _) (by rw [aF]; lia)
      refine⟨_,rfl,km,_,rfl,.inl (jy.of (s9 _ _ Bl)),_,rfl,_,_,rfl,rfl,_,rfl,?_⟩;rw [show ((zaz p pl rw qm pl.length).map V.int).length=(zaz p pl rw qm pl.length).length from ab ..];refine zbd (fun h=>⟨_,rfl,by rw [ab]; lia,rfl,us++[km],by rw [aD]; rfl,?_⟩) (fun h=>⟨rfl,us,rfl,?_⟩)
      ·have h:=of_decide_eq_true h;rw [take_snoc hqm,cf,av,av,kD,dq (p:=fun q'=>decide (tn+f≤(zaz p pl rw q' pl.length).length)) (decide_eq_true #[O])];rfl
      ·have h:¬ _:=fun z=>h (decide_eq_true z)
       rw [take_snoc hqm,cf,av,kD,dt (p:=fun q'=>decide (tn+f≤(zaz p pl rw q' pl.length).length)) (fun z=>h (by have:=of_decide_eq_true z; lia))];rfl
     rintro ys H' sl ⟨rfl,us,rfl,kD⟩ tX;rw [hkq,bC] at kD;refine⟨sl,_,rfl,.inl (jy.of zb),?_⟩;have A0:=zjz co.pr (rw:=rw) (few:=tn+f) co.nd co.rg uG #[O] #[O];rw [← kD] at A0;have rH:us.length≤65536:=by
      rw [kD];exact aZ (cD _ _) hnc
     have sE:=s9.trans (zc (o:=.lst (us.map V.ref)) tX);refine⟨_,rfl,_,_,rfl,rfl,_,rfl,?_⟩;refine zbd (fun h1=>?_) (fun _=>⟨_,_,_,rfl,sE⟩);refine⟨_,rfl,_,rfl,_,_,rfl,rfl,.inl ⟨by rw [ab]; lia,by rw [ab]; lia⟩,_,rfl,_,rfl,_,rfl,_,_,rfl,rfl,_,_,rfl,rfl,_,_,rfl,rfl,.inl ⟨#[O],#[O]⟩,_,_,rfl,rfl,_,rfl,?_⟩;refine zbd (fun h2=>absurd (of_decide_eq_true h2) ?_) (fun _=>⟨_,_,_,rfl,sE⟩);rw [ab];have e1:((tn+f:Nat):Int)=(tn:Int)+f:=by lia
     rw [e1] at A0;lia
    ·rintro σ H9 ⟨pO,oQ,oR,rfl,s9⟩;exact⟨_,_,_,_,_,_,_,_,_,_,_,_,_,_,_,_,_,rfl,s07.trans s9,tb7.same s9⟩
  ·rintro σ H0 ⟨e1,e2,e3,e4,e5,e6,e7,e8,e9,qA,sD,we,qB,nY,pO,oQ,oR,rfl,s0,tb0⟩;exact q _
end
structure Dn (K:af) (x:Str) (st:Stmt) (f:Addr) (fd:FuncData):Prop where
 a:bK K mainGlobals x=some (some (.ref f))
 f:Fun K x x st f fd
theorem zaU {K:af} {x:Str} {st:Stmt} {f:Addr} {od an:Option Addr} {sl:Array (Option Value)} {oc kV dc pm cd ct:Value} (a:bK K mainGlobals x=some (some (.ref f))) (l:K.lookup f=some ⟨oc,od,.func (cH x x (zbe st) (zaZ st) (zh st) .none kV dc pm an cd ct),sl⟩) (c:ek K cd x=true) (k:eh K (.ref f)=true):Dn K x st f (cH x x (zbe st) (zaZ st) (zh st) .none kV dc pm an cd ct):=⟨a,zis l c k⟩
theorem el0 {n:Nat} {us:List Value} (e:us.length=n+1):∃ a v,us=a :: v∧v.length=n:=by
 cases us with
 | nil=>cases e
 | cons a v=>exact⟨a,v,rfl,Nat.succ.inj e⟩
theorem el1 {us:List Value} (e:us.length=1):∃ a,us = [a]:=by
 obtain⟨a,v,rfl,h⟩:=el0 e;exact⟨a,by rw [List.eq_nil_of_length_eq_zero h]⟩
theorem el2 {us:List Value} (e:us.length=2):∃ a b,us = [a,b]:=by
 obtain⟨a,v,rfl,h⟩:=el0 e;obtain⟨b,rfl⟩:=el1 h;exact⟨a,b,rfl⟩
theorem el3 {us:List Value} (e:us.length=3):∃ a b c,us = [a,b,c]:=by
 obtain⟨a,v,rfl,h⟩:=el0 e;obtain⟨b,c,rfl⟩:=el2 h;exact⟨a,b,c,rfl⟩
theorem el4 {us:List Value} (e:us.length=4):∃ a b c d,us = [a,b,c,d]:=by
 obtain⟨a,v,rfl,h⟩:=el0 e;obtain⟨b,c,d,rfl⟩:=el3 h;exact⟨a,b,c,d,rfl⟩
def ze4 (TP:Addr) (K:af):Sp:=fun vs H Q _=>∃ (a:Addr) (ns:List Int),vs = [.ref a]∧jy K H a (ns.map V.int)∧ns.length≤63∧TbI TP zmf zmg H∧∀ H',Q (.bl true) H'
local macro_rules|`(#[E2])=>`(fun _ _ _ _ _ _ _ h=>by obtain⟨_,_,e⟩:=el2 h;subst e;exact rfl)
local macro_rules|`(#[E3])=>`(fun _ _ _ _ _ _ _ h=>by obtain⟨_,_,_,e⟩:=el3 h;subst e;exact rfl)
local macro_rules|`(#[E4])=>`(fun _ _ _ _ _ _ _ h=>by obtain⟨_,_,_,_,e⟩:=el4 h;subst e;exact rfl)
theorem zlK {TP:Addr} {l:gh} {w:World} {K:af} {h:Heap} {mg:Str→Option Value} {fa fl kM nQ:Addr} (X:K.In h) (G:h.Ns mainGlobals mg) (hfa:mg "law" = some (.ref fa))
  {od an:Option Addr} {sl:Array (Option Value)} {oc kV dc pm cd ct:Value} (nR:bK K mainGlobals "SlipError" = some (some (.ref kM))) (qD:bK K mainGlobals "TooFew" = some (some (.ref nQ))) (ou:∃ f fd,Dn K "value_at" zbK f fd) (pA:∃ f fd,Dn K "inverse" zb9 f fd) (ng:∃ f fd,Dn K "times_root" zaS f fd) (t8:∃ f fd,Dn K "bent" zdR f fd) (pB:∃ f fd,Dn K "through" zca f fd) (me:∃ f fd,Dn K "heard_points" zat f fd) (t9:∃ f fd,Dn K "fits" zdS f fd) (pC:∃ f fd,Dn K "choices" za8 f fd) (mJ:∃ f fd,Dn K "all_through" zaA f fd) (oz:∃ f fd,Dn K "all_near" zbc f fd) (nh:∃ f fd,Dn K "check_many" za7 f fd) (mf:∃ f fd,Dn K "vanishing_at" zaT f fd) (nS:∃ f fd,Dn K "many_near" zal f fd∧TabOf K f TP) (qE:∃ f fd,Dn K "_law_cell" zcE f fd) (pD:∃ f fd,Dn K "_law_draws" zcb f fd) (qF:∃ f fd,Dn K "_law_code" zbV f fd) (pE:∃ f fd,Dn K "_law_value" zcc f fd) (mh:∃ f fd,Dn K "_law_polynomial" zau f fd) (rQ:∃ f fd,Dn K "_law_row" zcF f fd)   (sb:jo K kM (.type "BaseException")=some true)
  (al:bK K mainGlobals "law" = some (some (.ref fl))) (ll:K.lookup fl=some ⟨oc,od,.func (cH "law" "law" (zbe zbg) (zaZ zbg) (zh zbg) .none kV dc pm an cd ct),sl⟩) (cl:ek K cd "law" = true) (kl:eh K (.ref fl)=true) (wq:bK K mainGlobals "len" = some none) (rR:bK K mainGlobals "range" = some none) (ua:bK K mainGlobals "list" = some none) (rS:bK K mainGlobals "tuple" = some none) (wt:bK K mainGlobals "min" = some none) (wu:bK K mainGlobals "max" = some none) (wx:bK K mainGlobals "zip" = some none) (nT:bK K mainGlobals "enumerate" = some none) (oA:bK K mainGlobals "reversed" = some none) (qG:bK K mainGlobals "sorted" = some none) :
  ∃ fd:FuncData,(∀ (s:Shared) (v:Value),BindsTo s fd ⟨[v],[]⟩ [("script",v)])∧∀ base:Heap,K.In base→base.Ns mainGlobals mg→zd5 mg base→FnOk l.prog w K mg base CX0 6 fa fd ["script"] (ze4 TP K):=by
 cases hfa.symm.trans (ba X G al);obtain⟨f_value_at,kH,kX⟩:=ou;have jK:=kX.f.binds (ps:=["p","polynomial","x"]) #[E3]
 obtain⟨f_inverse,oh,lr⟩:=pA;have lh:=lr.f.binds (ps:=["p","number"]) #[E2]
 obtain⟨f_times_root,kQ,ku⟩:=ng;have jP:=ku.f.binds (ps:=["p","polynomial","root"]) #[E3]
 obtain⟨f_bent,rG,oB⟩:=t8;have oj:=oB.f.binds (ps:=["p","polynomial","vanishing","point"]) #[E4]
 obtain⟨f_through,oo,lu⟩:=pB;have lq:=lu.f.binds (ps:=["p","points"]) #[E2]
 obtain⟨f_heard_points,lK,j1⟩:=me;have jZ:=j1.f.binds (ps:=["code","row"]) #[E2]
 obtain⟨f_fits,oT,oC⟩:=t9;have lZ:=oC.f.binds (ps:=["code","row","polynomial"]) #[E3]
 obtain⟨f_choices,lV,lx⟩:=pC;have kd:=lx.f.binds (ps:=["things","many"]) #[E2]
 obtain⟨f_all_through,l4,j8⟩:=mJ;have j7:=j8.f.binds (ps:=["code","points"]) #[E2]
 obtain⟨f_all_near,nP,kY⟩:=oz;have kr:=kY.f.binds (ps:=["code","row","t"]) #[E3]
 obtain⟨f_check_many,mG,kx⟩:=nh;have kq:=kx.f.binds (ps:=["code","t"]) #[E2]
 obtain⟨f_vanishing_at,lJ,j2⟩:=mf;have jY:=j2.f.binds (ps:=["p","roots"]) #[E2]
 obtain⟨f_many_near,nc,kN,tb⟩:=nS;have kL:=kN.f.binds (ps:=["code","t"]) #[E2]
 obtain⟨f_l_cell,ph,mi⟩:=qE;have lT:=mi.f.binds (ps:=["script","k"]) #[E2]
 obtain⟨f_l_draws,kU,ly⟩:=pD;have jM:=ly.f.binds (ps:=["script","k","many","base"]) #[E4]
 obtain⟨f_l_code,pz,mj⟩:=qF;have l5:=mj.f.binds (ps:=["script","at","most_k","most_n"]) #[E4]
 obtain⟨f_l_value,og,lA⟩:=pE;have lg:=lA.f.binds (ps:=["p","polynomial","x"]) #[E3]
 obtain⟨f_l_polynomial,lI,j3⟩:=mh;have jX:=j3.f.binds (ps:=["draws","p","k"]) #[E3]
 obtain⟨f_l_row,qz,ni⟩:=rQ;have m9:=ni.f.binds (ps:=["script","at","code"]) #[E3]
 let t:Adr:=⟨TP,kM,nQ,f_value_at,f_inverse,f_times_root,f_bent,f_through,f_heard_points,f_fits,f_choices,f_all_through,f_all_near,f_check_many,f_vanishing_at,f_many_near,f_l_cell,f_l_draws,f_l_code,f_l_value,f_l_polynomial,f_l_row,fa⟩
 have T:∀ base:Heap,zd5 mg base→Txt K mg base t:=fun base hB=>⟨hB,tb,bL X G wq,bL X G rR,bL X G ua,bL X G rS,bL X G wt,bL X G wu,bL X G wx,bL X G nT,bL X G oA,bL X G qG,ba X G nR,ba X G qD,sb,ba X G kX.a,ba X G lr.a,ba X G ku.a,ba X G oB.a,ba X G lu.a,ba X G j1.a,ba X G oC.a,ba X G lx.a,ba X G j8.a,ba X G kY.a,ba X G kx.a,ba X G j2.a,ba X G kN.a,ba X G mi.a,ba X G ly.a,ba X G mj.a,ba X G lA.a,ba X G j3.a,ba X G ni.a,⟨_,kX.f,jK⟩,⟨_,lr.f,lh⟩,⟨_,ku.f,jP⟩,⟨_,oB.f,oj⟩,⟨_,lu.f,lq⟩,⟨_,j1.f,jZ⟩,⟨_,oC.f,lZ⟩,⟨_,lx.f,kd⟩,⟨_,j8.f,j7⟩,⟨_,kY.f,kr⟩,⟨_,kx.f,kq⟩,⟨_,j2.f,jY⟩,⟨_,kN.f,kL⟩,⟨_,mi.f,lT⟩,⟨_,ly.f,jM⟩,⟨_,mj.f,l5⟩,⟨_,lA.f,lg⟩,⟨_,j3.f,jX⟩,⟨_,ni.f,m9⟩⟩
 have FL:=zis (st:=zbg) ll cl kl;exact⟨cH "law" "law" (zbe zbg) (zaZ zbg) (zh zbg) .none kV dc pm an cd ct,fun s v=>.of_eq rfl,fun base _ _ hB=>zlJ (t:=t) (T base hB) FL⟩
theorem walk {TP cP:Addr} {l:gh} {q:Program} {loose:List Str} {XP:(Str→Option Value)→Heap→Prop} {YP:World→Heap→Prop} {d:DefRec} {K:Params→af} (hn:l.most=some 63) (uN:d.params.defaults = []) (hY:∀ (w:World) (h:Heap),YP w h→(K w.params).In h∧h.get? TP=some (PySem.W.tabObj #[])) (vx:∀ w:World,(K w.params).lookup TP=none) (yW:∀ w:World,PySem.W.codeHdIn (K w.params) cP TP=true)
  (F:∀ (w:World) (mg:Str→Option Value) (fa:Addr) (h:Heap),(K w.params).In h→h.Ns mainGlobals mg→mg d.name=some (.ref fa)→∃ fd:FuncData,(∀ (s:Shared) (u:Value),BindsTo s fd ⟨[u],[]⟩ [("script",u)])∧∀ base:Heap,(K w.params).In base→base.Ns mainGlobals mg→zd5 mg base→FnOk l.prog w (K w.params) mg base CX0 6 fa fd ["script"] (ze4 TP (K w.params))):jn q loose XP YP l.row.toRowW d [] (fun f vs=>i7 f vs) :=
 L2.zjk (n:=63) (k:=6) (x:="script") (CX:=fun _=>CX0) (sp:=fun w=>ze4 TP (K w.params)) hn #[D] uN ⟨rfl,#[D],#[D]⟩ hY vx yW F (fun _ _ a ns hl hT hS=>⟨a,ns,rfl,hS,hl,⟨#[],hT,trivial,.inl rfl⟩,fun _=>rfl⟩) fun _ _ _ _ _ z=>z
end My
namespace PySem.W.Fast
def tw11420363336106479712:Unit:=()
def tw15217065424103786319:Unit:=()
def tw7973786044117669797:Unit:=()
def tw835232074478969251:Unit:=()
def tw2270660545997496894:Unit:=()
def tw3039696338148378953:Unit:=()
def tw2609206655275810155:Unit:=()
def tw5861100182497311443:Unit:=()
def tw3307221200075898075:Unit:=()
def tw6065237903027985822:Unit:=()
def tw16621759651480508913:Unit:=()
def tw7599992724481965813:Unit:=()
def tw7460614087532711006:Unit:=()
def tw6895617546999780314:Unit:=()
def tw10423285873111074649:Unit:=()
def tw14388644144927285167:Unit:=()
def tw3726804162876226803:Unit:=()
def tw7947648528359852695:Unit:=()
def tw3752577801524405517:Unit:=()
def tw14713503714753398942:Unit:=()
def tw5082006316141005159:Unit:=()
def tw3665352296806786325:Unit:=()
def tw7323792640421306385:Unit:=()
def tw7340689625387008285:Unit:=()
def tw15527681481296236269:Unit:=()
def tw5600551377287240957:Unit:=()
def tw5373649536220296845:Unit:=()
def tw12335739742928433446:Unit:=()
def tw17483170875781479619:Unit:=()
def tw619886944437619713:Unit:=()
def tw6485989521828207510:Unit:=()
def tw7578697694610580867:Unit:=()
def tw12283540168613635303:Unit:=()
def tw17296924480475445588:Unit:=()
def tw11067564525878523748:Unit:=()
def tw1341158179576202209:Unit:=()
def tw8926336991968358942:Unit:=()
def tw17515491249642485380:Unit:=()
def tw16698274211373908827:Unit:=()
def tw3103189615270431235:Unit:=()
def tw15236035207655969017:Unit:=()
def tw5678246656753281168:Unit:=()
def tw13633770362000726098:Unit:=()
def tw15561892127239445180:Unit:=()
def tw11613507324528150573:Unit:=()
def tw1982836363617373199:Unit:=()
def tw17530639953068345137:Unit:=()
def tw3631702483401399878:Unit:=()
def tw6933007247105662360:Unit:=()
def tw1576199467473774794:Unit:=()
def tw4456773088538268872:Unit:=()
def tw8715774023865204691:Unit:=()
def tw8500039084312261653:Unit:=()
def tw11632300976269526491:Unit:=()
def tw1509744996522302172:Unit:=()
def tw2693896736142363208:Unit:=()
def tw14476894061304890601:Unit:=()
def tw11043966406249447472:Unit:=()
def tw2098053754545086637:Unit:=()
def tw5490179014343086492:Unit:=()
end PySem.W.Fast
open PySem PySem.W
open PyProof.Rows
set_option maxHeartbeats 0 in
theorem PySem.Challenge.cw_slipcurve_k24_whole_few_can_be_near_holds : PySem.Challenge.rw_slipcurve_k24_whole_few_can_be_near.Holds := by
 w_on; o_law; k_head; (case hw=>w_witness2)
 k_fill
 refine My.walk (TP:=113) (cP:=?cP) (l:=PySem.Challenge.rw_slipcurve_k24_whole_few_can_be_near) rfl rfl (fun w h Y=>⟨PySem.W.km_in_of Y,PySem.W.km_tabs_of Y 113 #[D]⟩) (fun w=>?KT) (fun w=>?KC) ?F;rotate_left
 case KC=>first | (show PySem.W.codeHdIn _ 115 113=true; with_unfolding_all rfl)
 case KT=>with_unfolding_all rfl
 case F =>
  intro w mg fa h KX G hmg;refine' My.zlK KX G hmg ?a_SlipError ?a_TooFew ⟨_,_,My.zaU ?da_value_at ?dl_value_at ?dc_value_at ?dk_value_at⟩ ⟨_,_,My.zaU ?da_inverse ?dl_inverse ?dc_inverse ?dk_inverse⟩ ⟨_,_,My.zaU ?da_times_root ?dl_times_root ?dc_times_root ?dk_times_root⟩ ⟨_,_,My.zaU ?da_bent ?dl_bent ?dc_bent ?dk_bent⟩ ⟨_,_,My.zaU ?da_through ?dl_through ?dc_through ?dk_through⟩ ⟨_,_,My.zaU ?da_heard_points ?dl_heard_points ?dc_heard_points ?dk_heard_points⟩ ⟨_,_,My.zaU ?da_fits ?dl_fits ?dc_fits ?dk_fits⟩ ⟨_,_,My.zaU ?da_choices ?dl_choices ?dc_choices ?dk_choices⟩ ⟨_,_,My.zaU ?da_all_through ?dl_all_through ?dc_all_through ?dk_all_through⟩ ⟨_,_,My.zaU ?da_all_near ?dl_all_near ?dc_all_near ?dk_all_near⟩ ⟨_,_,My.zaU ?da_check_many ?dl_check_many ?dc_check_many ?dk_check_many⟩ ⟨_,_,My.zaU ?da_vanishing_at ?dl_vanishing_at ?dc_vanishing_at ?dk_vanishing_at⟩ ⟨_,_,My.zaU ?da_many_near ?dl_many_near ?dc_many_near ?dk_many_near,L2.zly ?dl_many_near rfl ?tc⟩ ⟨_,_,My.zaU ?da_l_cell ?dl_l_cell ?dc_l_cell ?dk_l_cell⟩ ⟨_,_,My.zaU ?da_l_draws ?dl_l_draws ?dc_l_draws ?dk_l_draws⟩ ⟨_,_,My.zaU ?da_l_code ?dl_l_code ?dc_l_code ?dk_l_code⟩ ⟨_,_,My.zaU ?da_l_value ?dl_l_value ?dc_l_value ?dk_l_value⟩ ⟨_,_,My.zaU ?da_l_polynomial ?dl_l_polynomial ?dc_l_polynomial ?dk_l_polynomial⟩ ⟨_,_,My.zaU ?da_l_row ?dl_l_row ?dc_l_row ?dk_l_row⟩ ?sb ?al ?ll ?cl ?kl ?z_len ?z_range ?z_list ?z_tuple ?z_min ?z_max ?z_zip ?z_enumerate ?z_reversed ?z_sorted
  (case a_SlipError=>k_is)
  (case a_TooFew=>k_is)
  (case da_value_at=>k_is)
  (case dl_value_at=>k_is)
  (case dc_value_at=>k_is)
  (case dk_value_at=>k_is)
  (case da_inverse=>k_is)
  (case dl_inverse=>k_is)
  (case dc_inverse=>k_is)
  (case dk_inverse=>k_is)
  (case da_times_root=>k_is)
  (case dl_times_root=>k_is)
  (case dc_times_root=>k_is)
  (case dk_times_root=>k_is)
  (case da_bent=>k_is)
  (case dl_bent=>k_is)
  (case dc_bent=>k_is)
  (case dk_bent=>k_is)
  (case da_through=>k_is)
  (case dl_through=>k_is)
  (case dc_through=>k_is)
  (case dk_through=>k_is)
  (case da_heard_points=>k_is)
  (case dl_heard_points=>k_is)
  (case dc_heard_points=>k_is)
  (case dk_heard_points=>k_is)
  (case da_fits=>k_is)
  (case dl_fits=>k_is)
  (case dc_fits=>k_is)
  (case dk_fits=>k_is)
  (case da_choices=>k_is)
  (case dl_choices=>k_is)
  (case dc_choices=>k_is)
  (case dk_choices=>k_is)
  (case da_all_through=>k_is)
  (case dl_all_through=>k_is)
  (case dc_all_through=>k_is)
  (case dk_all_through=>k_is)
  (case da_all_near=>k_is)
  (case dl_all_near=>k_is)
  (case dc_all_near=>k_is)
  (case dk_all_near=>k_is)
  (case da_check_many=>k_is)
  (case dl_check_many=>k_is)
  (case dc_check_many=>k_is)
  (case dk_check_many=>k_is)
  (case da_vanishing_at=>k_is)
  (case dl_vanishing_at=>k_is)
  (case dc_vanishing_at=>k_is)
  (case dk_vanishing_at=>k_is)
  (case da_many_near=>k_is)
  (case dl_many_near=>k_is)
  (case dc_many_near=>k_is)
  (case dk_many_near=>k_is)
  (case da_l_cell=>k_is)
  (case dl_l_cell=>k_is)
  (case dc_l_cell=>k_is)
  (case dk_l_cell=>k_is)
  (case da_l_draws=>k_is)
  (case dl_l_draws=>k_is)
  (case dc_l_draws=>k_is)
  (case dk_l_draws=>k_is)
  (case da_l_code=>k_is)
  (case dl_l_code=>k_is)
  (case dc_l_code=>k_is)
  (case dk_l_code=>k_is)
  (case da_l_value=>k_is)
  (case dl_l_value=>k_is)
  (case dc_l_value=>k_is)
  (case dk_l_value=>k_is)
  (case da_l_polynomial=>k_is)
  (case dl_l_polynomial=>k_is)
  (case dc_l_polynomial=>k_is)
  (case dk_l_polynomial=>k_is)
  (case da_l_row=>k_is)
  (case dl_l_row=>k_is)
  (case dc_l_row=>k_is)
  (case dk_l_row=>k_is)
  (case sb=>k_is)
  (case al=>k_is)
  (case ll=>k_is)
  (case cl=>k_is)
  (case kl=>k_is)
  (case z_len=>k_is)
  (case z_range=>k_is)
  (case z_list=>k_is)
  (case z_tuple=>k_is)
  (case z_min=>k_is)
  (case z_max=>k_is)
  (case z_zip=>k_is)
  (case z_enumerate=>k_is)
  (case z_reversed=>k_is)
  (case z_sorted=>k_is)
  (case tc=>with_unfolding_all rfl)
#print axioms PySem.Challenge.cw_slipcurve_k24_whole_few_can_be_near_holds
end