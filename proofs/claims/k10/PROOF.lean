import PyProof.Rows.All
import Wide.All
import OpenK.AllK
import Wide.FinOn
import Lean
import PyProof.EqAt
import PyProof.EqKinds
import PyProof.CollectWalk
import PyProof.SetRoads
import PyProof.IsRules
import PyProof.TupleKey
import PyProof.Rows.SetFrom
import KE.KDictOf
import PyProof.AttrMissHeap
import PyProof.Rows.MinMaxN
import PyProof.ListMulRoad
import KE.KUnpackStar
import KE.KIntText
import PyProof.CallStr
import KE.KDictSum
import KE.KSortTup
import PyProof.Walk
import PyProof.Rows.SortRuns
import PyProof.Rows.ChunkEnd
import PyProof.Rows.Range3
import PyProof.Rows.SeqGen
import PyProof.ConsumeWalk
import PyProof.ListRange
import PyProof.NeKinds
import PyProof.TupleCall
import PySem.Challenge.RW_slipcurve_k10_whole_curves_multiplied
set_option maxHeartbeats 3999000
open List renaming length_map→ab,getElem?_map→af,getElem?_eq_getElem→ai,getD_eq_getElem?_getD→am,replicate→ar,size_toArray→au,mem_cons_of_mem→aw,mem_map→az,mem_of_getElem?→aA,mem_append_right→aE,length_append→aF,mem_cons→aH,range→aI,mem_cons_self→aL,mem_singleton→aN,map_append→aO,mem_append→aP,length_replicate→aR,take_of_length_le→aT,length_take→aU,length_range→aW,mem_append_left→aY,mem_range→bd,append_assoc→bg,getElem?_eq_none→bq,getElem?_range→bv,getElem?_eq_some_iff→bw,lookup_cons→bx,getElem?_append_left→bG,mem_iff_getElem?→bN,getElem?_append_right→bP,getElem?_replicate→bQ,flatten_replicate_singleton→bT,getElem?_eq_none_iff→cg,map_map→cj,filterMap_cons→cv,map_congr_left→cz,mem_filter→cA,take_append_drop→cE,length_cons→cF,eq_of_mem_replicate→cH,ext_getElem?→cO,append_nil→cP,nodup_cons→cQ,map_replicate→cV,drop_eq_getElem_cons→cW,extract_eq_take_drop→cX,length_set→cZ,pairwise_map→db,nodup_append→de,replicate_succ→dh,getElem_mem→dm,drop_eq_nil_of_le→dq,map_cons→dA,pairwise_iff_getElem→dE,mem_or_eq_of_mem_set→dG,length_drop→dL,not_mem_nil→dN,getElem_of_mem→dR,getElem?_cons_succ→dS,length_eq_zero_iff→dU,length_nil→ed,pairwise_cons→et,getElem?_set_self→eA,zipWith→eD,length_filter_le→eJ,dropLast_concat_getLast→eM,map_set→eO,getElem?_set_ne→eR,mem_of_mem_take→eX,range_succ→ff,mem_filterMap→fi,getElem?_take_of_lt→fj,getElem?_drop→fo,getD→fw,flatten_cons→fJ,range_succ_eq_map→fR,pairwise_lt_range→fT,all_eq_true→fU,drop_length→f',concat_eq_append→ga,pairwise_append→gg,mem_of_mem_drop→gh,eq_nil_of_length_eq_zero→gk,length_take_le→gp,map_eq_nil_iff→gr,drop_zero→gz,nodup_nil→gA,length→gC,filterMap_map→gI,filter_append→gJ,nodup_iff_pairwise_ne→gP,take_sublist→gU,take_add_one→gX,getElem_take→gZ,set_eq_of_length_le→im,isEmpty_nil→iq,take_length→iz,getElem?_cons_zero→iA,of_mem_zip→iD,nil_append→iE,length_singleton→iR,drop_drop→iY,take_zero→iZ,eq_nil_or_concat→i3,dropLast_concat→jf,mem_iff_getElem→jh,replicate_succ'→ji,length_pos_iff→ju,map_nil→jy,getElem?_take→jE,map_filterMap→jF,find?_eq_none→jG,zip_cons_cons→jI,map_singleton→jM,ne_nil_of_mem→jO,drop_sublist→jQ,getElem?_set→jT,any_eq_false→jX,map_id→j5,nodup_range→j9,mem_flatMap→kc,foldl→km,foldl_cons→ko,forIn_cons→kr,filter_nil→kv,any_cons→kH
open PySem renaming wpAny_bind→ae,wpAny_pure→aj,sizeLine_eq→bm,wpAny_holding→bS,wpAny_newObj_type→bU,wpAny_of_eq→cc,wpAny_call_entry→cf,wpAny_setState_of→ci,boot_len→ck,wpAny_callSpecial?_slot→cq,codeAny_builtin→cC,wpAny_mono→cJ,isSubtype_type→cK,wpAny_rule→cT,builtinLookup_eq_fast→cU,plainId_quiet→df,wpAny_setField→dj,wpAny_field→dn,wpAny_Call_Name_kw→dr,wpAny_seqItems→dI,mem_of_lookup→dQ,wpAny_attempt→dW,typeLookup_type→dY,wpAny_specialOf→dZ,wpAny_truthy_bool→eB,wpAny_tryCatch→eI,wpAny_isInstance→eU,wpAny_standAt→eY,wpAny_passesOwn→fb,wpAny_updateSeq→fe,wpAny_pyIter_tuple→fh,wpAny_pyIter_list→fI,wpAny_pyIter_enum→fL,wpAny_pyIter_rangeiter→fO,wpAny_askSetting→fV,codeAny_mono→gb,call_meets→ge,codeAny_of_tree→gf,wpAny_setEntries_of→gq,seqIndex_of→gD,intItems_at→gE,wpAny_letOwnedTupleGo_enum→gN,wpAny_pyIter_slot→gW,noFill_tuple_add→h7,wpAny_comprehension_free→ic,numAt_eq→il,wpAny_forIn_list→ip,wpAny_execs_nil→iC,wpAny_loadPart'→iG,wpAny_pyNext_range_end→iK,wpAny_letGo→iO,entryFor_alias→iS,isSubtype_stop→iU,wpAny_eqIsQuiet_tuple→i5,wpAny_isSame_ref_self→i6,wpAny_pyIter_revIter→ja,codeAny_call_builtin→je,seq_tuple_add→jl,wpAny_handled→jm,nums_intItems→jo,concat_meets→jx,seqIndex_neg→jz,wpAny_typeOf→jK,wpAny_eqBool_tuple→jL,list_append→jP,wpAny_throw→j3,wpAny_Name→kg,wpAny_call→kh,typeIs_int→kj,call→kq
open PySem.W renaming Frag→ag,mg_of→bu,mg_none_of→bJ,nsIn→b9,fnOf→cY,keepIn→fz,codeIn→fA,methodObj→gS,OpenLaw→iF,cellsFrom_some→iL,kat_kind→kb,WalkO→kE
open Nat renaming le_refl→ah,ne_of_lt→ba,le_trans→bi,lt_of_lt_of_le→bj,zero_le→bp,zero_add→bE,lt_irrefl→bW,add_sub_cancel→cn,lt_succ_of_lt→cN,add_zero→c7,mod_lt→dF,lt_or_ge→dO,le_of_lt_succ→eC,sub_self→eK,succ_pos→eL,lt_succ_self→eS,strongRecOn→fg,sub_zero→fq,le_succ→fQ,succ_ne_self→fW,mul_succ→gj,le_of_succ_le→gV,le_of_lt→hU,ne_of_gt→hX,succ_mul→h8,le_max_right→io,add_sub_cancel_left→iB,min_eq_left→iH,le_max_left→iI,mul_le_mul_right→jj,pow_le_pow_right→jk,lt_of_le_of_lt→jD,pow_succ→jH,le_of_not_lt→j8,le_add_right→ke
open PySem.Heap renaming get?_push_of_some→ak,get?_push_size→aJ,lt_size→aK,get?_update_self→bD,get?_update_other→bH,size_push→bK,SameBut→dJ,get?_update_ne→jt,ExtBut→jZ
open PyProof.Rows renaming wpS_bind→ao,wpS_pure→ap,callWith_type1→bA,wpS_forRange→cG,zipApart_new→c6,boot_tuple→c9,wpS_mono→dk,wpS_modify→eW,wpS_get→fB,callWith_builtin1→gd,wpS_lift→gv,boot_max→gB,boot_list→gL,pairsOf_size→ij,subscriptTail_builtinR→iM,mirror_perm→iN,pairsOf_toList→i4,boot_range→i8,listUpdate_at→jn,getElem?_mirror_all→jr,seqEpoch_at→j4,boot_min→kf
open Classical renaming byContradiction→aq,em→jB
open Array renaming length_toList→av,getElem?_toList→aS,getElem?_eq_getElem→be,getElem?_eq_some_iff→br,toList_append→bz,getElem?_eq_none→bR,toList_extract→cL,mem_toList_iff→cM,getElem?_setIfInBounds→eF,getD_eq_getD_getElem?→eP,perm_iff_toList_perm→eZ,getD→fE,toList_reverse→gi,toList_push→g7,size_setIfInBounds→ie,toList_map→ii,toList_filterMap→iP,size_extract→jC,forIn_toList→jJ,getElem_mem→jV,mem_filter→kd,size_map→kB,toList→kM
open Int renaming emod_lt_of_pos→aB,emod_nonneg→aQ,le_refl→bC,zero_mul→bF,add_zero→bI,le_trans→bZ,mul_zero→b8,mul_le_mul_of_nonneg_right→c8,toNat_natCast→da,zero_add→dv,le_of_lt→eE,mul_comm→eH,emod_eq_of_lt→fN,mul_le_mul_of_nonneg_left→gm,pow_succ→ig,neg_mul→iQ,lt_trichotomy→jR
open Or renaming inl→aD,inr→fv
open Bool renaming false_eq_true→aG,false_ne_true→aZ,or_eq_true→bM,not_true→cI,and_eq_true→di,eq_iff_iff→dX,not_false→fF,and_false→iW
open PySem.Paired renaming length→aV,snoc→bV,mono→fS
open PySem.Value renaming ref→a8,none→cR,int→dH,type→eQ,isInt→jY,builtin→kJ
open Option.some renaming inj→bf,injEq→jS
open PySem.Builtin.Range renaming rangeFitsLong→bh,rangeSize→bo
open PySem.PassesOwn renaming never→bn
open PySem.Heap.SameBut renaming update→bO
open PySem.NameKind renaming free→bX,cell→cS
open PySem.Str renaming ofString→bY
open PySem.Around renaming under_plainId→b7,in1_units→eV
open PySem.Obj renaming data_mapFields→cm,mapSeq→cr,isFreed_of_fields→dz,cls_mapFields→fM,mapFields→gO,putSet→g8
open ForInStep renaming yield→cB,done→fC
open Ne renaming symm→cD
open PySem.Builtin.Builtins renaming bindParams→du
open PyProof.Rows.F renaming plain_set_update_loop→dw,entry_set_update_loop→fu
open PySem.F renaming slot_tuple_iterator_next→dB,args_tuple_add_2→fk,entry_tuple_add→fG,plainAttrs_list→fH,slot_tuple_add→fP,entry_max_loop→fX,plain_max_loop→fY,entry_min_loop→fZ,plain_min_loop→f9,args_tuple_iterator_next_1→gu,entry_tuple_iterator_next→gG,slot_list_append→iu,type_list_append→iw,typeCall_reversed_1→iT,slot_enumerate_next→iV,plain_set_new→i7,args_list_append_2→i9,newCall_reversed_1→jb,args_object_init_2→jc,entry_reversed_new→jd,plain_reversed_new→jg,entry_list_append→jp,slot_list_append→jA,plain_list_iadd→jW
open False renaming elim→dC
open PySem.Builtin.SmallTypes renaming nextOf→dD,newRecord→kz
open Option renaming getD_some→dM,getD_none→j6,toList→kF,none→kQ
open PySem.SetTable renaming toList_insertAt→dP,fits→gQ,fill→gR,grown→kC
open List.Perm renaming trans→fc,of_eq→kx,swap→kA
open PySem.Builtin.List renaming listTooLong→fm,listExtendWith→gK,listSameRef→ir
open List.Pairwise renaming nil→fK,imp_of_mem→ik,sublist→iX,imp→jU
open PySem.Calls renaming spliced_cons→gF,Name_function_global→gM,spliced_nil→gT
open PySem.SeqAt.EqAt renaming of_refs→gH,int_str→jv,str_int→jw,same→ki
open Sum renaming inl→g9,inr→hJ
open PySem.Data renaming fields→iJ
open PySem.SeqAt.RcNeAt renaming tuples→jq
open PySem.pickOrder renaming go→jN
open PySem.IsL renaming update→j7
open PyProof.Rows.SortSt renaming mk'→kt
open PySem.Walks renaming list→ku
open PySem.Builtin.Frozenset renaming updateFrom→kD,newClass→kK,addrOf→kN,sizeOf→kO,slot0→kP
open Function renaming comp→kG
open PySem.Shared renaming TypeIs→kL
open PySem.W.KatTups renaming cons→kR
local macro_rules | `(tactic| trivial)=>`(tactic| first | exact .inl rfl | exact .inr rfl | assumption)
local macro_rules|`(#[$xs,*])=>do
 let a:=xs.getElems
 if h:a.size=0 then Lean.Macro.throwUnsupported else
 let s:=a[0].raw.getId.eraseMacroScopes.toString
 if s=="O" then `(by lia) else if s=="D" then `(by decide) else if s=="N" then `(by decide +kernel) else if s=="S" then `(⟨rfl,rfl,rfl,by decide +kernel,rfl,by decide +kernel,by decide +kernel⟩) else if s=="A" then `(Or.inl rfl) else if s=="M" then `(by simp) else
 match [("_____eb","zf"),("________eee","zbA zg"),("________eeee","zau zhF"),("_e__f","pvx"),("_________ereeeddrr","zt zG"),("_","zA zn zaz zdU zv zam zy zK zd zg1 zl9 zeQ za6 z8 zw zcG zae zaP zck zfh zjC zhG"),("___er","ya"),("___e","zj zdX zhH"),("____e","zQ zaE zjR zdf zaf zdh zjx"),("_______eeeu","zJ"),("____","ze zhA"),("__e____efeert","zo"),("_____e","zbh"),("______b","zd0"),("_____eer","za zm"),("________________eefeeeneedrr","zk"),("________efeeei","zal"),("______feer","zac"),("__e_efet","zi"),("____er","zhB"),("____________eeeeeerrrrr","zjE"),("_f","zeJ zbE"),("_____________efeeeeei","zN"),("__f","zS"),("_ef","zcS zar"),("______eerrr","zbK"),("_______eeei","zcF"),("_____________e___efeefeeeeerit","zdY"),("________feer","zb6 zcR"),("______ferr","zbJ"),("_e___________fefeeedd","zhe"),("___fe","zaq"),("_e___e_fferr","zbc"),("_e___fe","zgr zh8"),("__________eeee","zf8"),("______ee","zjA"),("_e","zjQ")].find? fun q=>(q.2.splitOn " ").contains s with
 |none=>Lean.Macro.throwUnsupported
 |some (p,_)=>do
  let mut r:=#[]
  let mut i:=1
  for c in p.toList do
   if c=='e' then
    r:=r.push (a[i]!)
    i:=i+1
   else if c=='b' then
    r:=r.push (←`((by exact $(a[i]!))))
    i:=i+1
   else r:=r.push (←match c with|'_'=>`(_)|'r'=>`((by rfl))|'d'=>`((by decide))|'f'=>`(rfl)|'t'=>`((by trivial))|'i'=>`((by intro _; rfl))|'u'=>`((fun _ _=>rfl))|'n'=>`(.nil)|'l'=>`(Or.inl rfl)|'o'=>`(Or.inr rfl)|_=>`(nomark _))
  return Lean.Syntax.mkApp (←`(@$(⟨a[0].raw⟩):ident)) r
set_option Elab.async false
set_option linter.all false
set_option maxRecDepth 100000
namespace L2
open PySem PySem.Spec PyProof.Rows
abbrev Key:=Sum Int Str
def zl7:Key→Value→Bool
 | .inl k,v=>jY k v
 | .inr x,v=>Value.isStrOf x v
def zn3 (w:World):Key→Int
 | .inl k=>hashInt k
 | .inr x=>hashStr w x
theorem zad:∀ {k:Key} {v:Value},zl7 k v=true→(∃ i t,k=g9 i∧v=dH i t)∨(∃ x t,k=hJ x∧v=Value.str x t)
 | .inl i,v,h=>by
  obtain⟨t,e⟩:=Value.isInt_shape (k:=i) (v:=v) h;exact .inl ⟨i,t,rfl,e⟩
 | .inr x,v,h=>by
  obtain⟨t,e⟩:=Value.isStrOf_shape (x:=x) (v:=v) h;exact .inr ⟨x,t,rfl,e⟩
theorem zmp (a b:Int):decide ((g9 a:Key)=g9 b)=(a == b):=by
 by_cases e:a=b
 ·subst e; simp
 ·have h:¬ (g9 a:Key)=g9 b:=fun q=>e (Sum.inl.inj q)
  rw [decide_eq_false h];exact (beq_eq_false_iff_ne.mpr e).symm
theorem zmq (a b:Str):decide ((hJ a:Key)=hJ b)=decide (a=b):=by
 by_cases e:a=b
 ·subst e; simp
 ·have h:¬ (hJ a:Key)=hJ b:=fun q=>e (Sum.inr.inj q)
  rw [decide_eq_false h,decide_eq_false e]
theorem zmr (a:Int) (b:Str):decide ((g9 a:Key)=hJ b)=false:=decide_eq_false (fun q=>nomatch q)
theorem zms (a:Str) (b:Int):decide ((hJ a:Key)=g9 b)=false:=decide_eq_false (fun q=>nomatch q)
def zfe (prog:Program) (w:World):PySem.KeyKind prog w Key where
 is:=zl7
 hash:=zn3 w
 inj:=fun v a b ha hb=>by
  rcases zad ha with ⟨i,t,rfl,rfl⟩ | ⟨x,t,rfl,rfl⟩
  ·rcases zad hb with ⟨j,u,rfl,e⟩ | ⟨y,u,rfl,e⟩
   ·injection e with e1 _; rw [e1]
   ·exact nomatch e
  ·rcases zad hb with ⟨j,u,rfl,e⟩ | ⟨y,u,rfl,e⟩
   ·exact nomatch e
   ·injection e with e1 _; rw [e1]
 byValue:=fun k v h=>by
  rcases zad h with ⟨i,t,rfl,rfl⟩ | ⟨x,t,rfl,rfl⟩ <;> rfl
 pyHash:=fun hv h=>by
  rcases zad hv with ⟨i,t,rfl,rfl⟩ | ⟨x,t,rfl,rfl⟩
  ·exact wpAny_pyHash_int h
  ·exact wpAny_pyHash_str h
 eqBool:=fun hu hv h=>by
  rcases zad hu with ⟨i,t,rfl,rfl⟩ | ⟨x,t,rfl,rfl⟩
  ·rcases zad hv with ⟨j,u,rfl,rfl⟩ | ⟨y,u,rfl,rfl⟩
   ·rw [zmp] at h; exact wpAny_eqBool_int h
   ·rw [zmr] at h; exact jv i t y u _ _ _ _ h
  ·rcases zad hv with ⟨j,u,rfl,rfl⟩ | ⟨y,u,rfl,rfl⟩
   ·rw [zms] at h; exact jw x t j u _ _ _ _ h
   ·rw [zmq] at h; exact wpAny_eqBool_str h
 «strs»:=fun k x t v h=>by
  rcases zad h with ⟨i,u,rfl,e⟩ | ⟨y,u,rfl,e⟩
  ·exact nomatch e
  ·injection e with e1 _
   subst e1;cases v <;> rfl
inductive V where
 | non | bl (b:Bool) | int (i:Int) | str (x:Str) | byt (b:Array UInt8) | flt (b:UInt64) | ref (a:Addr) | ty (n:String)
 deriving DecidableEq
def RelV:V→Value→Prop
 | .non,u=>u=cR
 | .bl b,u=>u=Value.bool b
 | .int i,u=>∃ t,u=dH i t
 | .str x,u=>∃ t,u=Value.str x t
 | .byt b,u=>∃ t,u=Value.bytes b t
 | .flt b,u=>∃ t,u=Value.float b t
 | .ref a,u=>u=a8 a
 | .ty n,u=>u=eQ n
abbrev zE:List V→List Value→Prop:=Paired RelV
theorem zE.length {xs:List V} {us:List Value} (r:zE xs us):xs.length=us.length:=aV r
theorem zE.get:∀ {xs:List V} {us:List Value} {i:Nat} {x:V},zE xs us→xs[i]? = some x→∃ u,us[i]? = some u∧RelV x u
 | _,_,_,_,.nil,e=>by simp at e
 | _,_,0,_,.cons r _,e=>by simp at e; subst e; exact⟨_,rfl,r⟩
 | _,_,i+1,x,.cons _ t,e=>by
  obtain⟨u,h1,h2⟩:=zE.get (i:=i) (x:=x) t (by simpa using e);exact⟨u,by simpa using h1,h2⟩
theorem zE.set {x:V} {u:Value} (r:RelV x u):∀ {xs:List V} {us:List Value} (i:Nat),zE xs us→zE (xs.set i x) (us.set i u)
 | _,_,_,.nil=>.nil
 | _,_,0,.cons _ t=>.cons r t
 | _,_,i+1,.cons q t=>.cons q (zE.set r i t)
theorem zE.append:∀ {xs ys:List V} {us ws:List Value},zE xs us→zE ys ws→zE (xs++ys) (us++ws)
 | _,_,_,_,.nil,s=>s
 | _,_,_,_,.cons r t,s=>.cons r (zE.append t s)
theorem zE.take:∀ {xs:List V} {us:List Value} (n:Nat),zE xs us→zE (xs.take n) (us.take n)
 | _,_,0,_=>.nil
 | _,_,_+1,.nil=>.nil
 | _,_,n+1,.cons r t=>.cons r (zE.take n t)
theorem zE.drop:∀ {xs:List V} {us:List Value} (n:Nat),zE xs us→zE (xs.drop n) (us.drop n)
 | _,_,0,r=>r
 | _,_,_+1,.nil=>.nil
 | _,_,n+1,.cons _ t=>zE.drop n t
def znl:Option V→Option Value→Prop
 | some v,some u=>RelV v u
 | none,none=>True
 | _,_=>False
def KV {κ:Type}:List (κ×V)→List (κ×Value)→Prop:=Paired fun (p:κ×V) (q:κ×Value)=>p.1=q.1∧RelV p.2 q.2
def kV:Key→V
 | .inl i=>.int i
 | .inr x=>.str x
inductive HO where
 | lst (xs:List V)
 | tup (xs:List V)
 | dK (mP:List (Key×V)) | dT (mP:List (List Key×V))
 | set (S:Int→Bool) (n:Nat)
 | ins (C dx:Addr) (fs:List (Str×V))
 | own (x:Addr)
 | xd (fs:List (Str×V))
 | met (f x:Addr)
 | rng (lo hi:Int)
 | frz (o:Obj) (u:HO)
 | tbl (ps:Array Value)
 | ext (φ:Heap→Prop)
abbrev Hp:=Addr→Option HO
def kX (H:Hp) (a:Addr) (o:HO):Hp:=fun b=>if b=a then some o else H b
theorem zc {H:Hp} {a:Addr} {o:HO}:kX H a o a=some o:=by unfold kX; rw [if_pos rfl]
theorem zl {H:Hp} {a b:Addr} {o:HO} (h:b≠a):kX H a o b=H b:=by unfold kX; rw [if_neg h]
theorem zI {H:Hp} {a b:Addr} {o:HO} (h:H a=some o) (h':H b=none):a≠b:=by
 intro e; subst e; rw [h] at h'; cases h'
section
variable (P:Program) (w:World)
def zaJ (H:Hp) (h:Heap) (a:Addr):HO→Prop
 | .lst xs=>xs.length≤sizeLine∧∃ (kU:List Value) (n:Nat),zE xs kU∧h.get? a=some { cls:=.type "list",data:=.seq kU.toArray n }
 | .tup xs=>xs.length≤sizeLine∧∃ kU:List Value,zE xs kU∧IsTup h a kU.toArray
 | .dK mP=>mP.length≤sizeLine∧(a == sysModules)=false∧∃ vs,KV mP vs∧h.DictOf (zfe P w) a vs
 | .dT mP=>mP.length≤sizeLine∧(a == sysModules)=false∧∃ xs:List (List Key×Addr×Value),
   Paired (fun (p:List Key×V) (q:List Key×Addr×Value)=>p.1=q.1∧H q.2.1=some (.tup (p.1.map kV))∧RelV p.2 q.2.2) mP xs ∧
   ∃ o es ep,h.get? a=some o∧o.ExactDict∧o.data = .dict es ep∧es.toList=xs.map (entryOfKey (tupleKind (zfe P w)))∧(xs.map (·.1)).Nodup
 | .set S n=>h.SetOf (intKind P w) a S n
 | .ins C dx fs=>H dx=some (.own a)∧fs.length≤1000∧dx≠a∧h.get? a=some (PySem.W.instObj C dx) ∧
   ∃ mA,h.Ns1 dx mA∧(∀ f,znl (fs.lookup f) (mA f))∧PySem.Within mA (fs.map (·.1))
 | .own _=>∃ o,h.get? a=some o
 | .xd fs=>∃ mA,h.Ns1 a mA∧∀ f,znl (fs.lookup f) (mA f)
 | .rng lo hi=>∃ t u v,h.get? a=some { cls:=.type "range",data:=.fields #[.int lo t,.int hi u,.int 1 v] }
 | .frz o u=>h.get? a=some o∧zaJ H h a u
 | .tbl ps=>h.get? a=some { cls:=.none,data:=.fields ps }
 | .met f x=>h.get? a=some (gS (.ref f) (.ref x))
 | .ext φ=>φ h∧(∃ o,h.get? a=some o)∧∀ h1 h2:Heap,φ h1→(∀ o,h1.get? a=some o→h2.get? a=some o)→φ h2
def HOk (H:Hp) (h:Heap):Prop:=∀ a o,H a=some o→zaJ P w H h a o
end
section
variable {P:Program} {w:World} {H H':Hp} {h h':Heap} {a:Addr} {o:HO}
theorem zaJ.lt (x:zaJ P w H h a o):a < h.objs.size:=by
 cases o with
 | lst xs=>obtain⟨_,_,_,_,e⟩:=x; exact aK e
 | tup xs=>obtain⟨_,_,_,p⟩:=x; exact p.lt
 | dK mP=>obtain⟨_,_,_,_,o,_,_,e,_⟩:=x; exact aK e
 | dT mP=>obtain⟨_,_,_,_,o,_,_,e,_⟩:=x; exact aK e
 | set S n=>obtain⟨o,_,_,_,e,_⟩:=x; exact aK e
 | ins C dx fs=>obtain⟨_,_,_,e,_⟩:=x; exact aK e
 | own y=>obtain⟨_,e⟩:=x; exact aK e
 | xd fs=>obtain⟨_,⟨_,_,_,e,_⟩,_⟩:=x; exact aK e
 | rng lo hi=>obtain⟨_,_,_,e⟩:=x; exact aK e
 | frz ob u=>obtain⟨e,_⟩:=x; exact aK e
 | tbl ps=>exact aK (show h.get? a=some _ from x)
 | met f y=>exact aK (show h.get? a=some _ from x)
 | ext φ=>obtain⟨_,⟨_,e⟩,_⟩:=x; exact aK e
theorem Paired.mapP {α β:Type} {F G:α→β→Prop}:∀ {l₁:List α} {l₂:List β},Paired F l₁ l₂→(∀ a b,F a b→G a b)→Paired G l₁ l₂
 | _,_,.nil,_=>.nil
 | _,_,.cons r t,f=>.cons (f _ _ r) (Paired.mapP t f)
theorem zaJ.stay (x:zaJ P w H h a o) (k:∀ b u,(b=a∨H b=some (.own a))→h.get? b=some u→h'.get? b=some u)
  (ho:∀ b,H b=some (.own a)→H' b=some (.own a)) (ht:∀ b xs,H b=some (.tup xs)→H' b=some (.tup xs)):zaJ P w H' h' a o:=by
 induction o with
 | lst xs=>obtain⟨z,kU,n,r,e⟩:=x; exact⟨z,kU,n,r,k _ _ (.inl rfl) e⟩
 | tup xs=>obtain⟨z,kU,r,ob,e,c⟩:=x; exact⟨z,kU,r,ob,k _ _ (.inl rfl) e,c⟩
 | dK mP=>obtain⟨z,y,vs,r,ob,es,ep,e,c⟩:=x; exact⟨z,y,vs,r,ob,es,ep,k _ _ (.inl rfl) e,c⟩
 | dT mP =>
  obtain⟨z,y,xs,r,ob,es,ep,e,c⟩:=x;exact⟨z,y,xs,Paired.mapP r fun p q z=>⟨z.1,ht _ _ z.2.1,z.2.2⟩,ob,es,ep,k _ _ (.inl rfl) e,c⟩
 | set S n=>obtain⟨ob,es,ep,t,e,c⟩:=x; exact⟨ob,es,ep,t,k _ _ (.inl rfl) e,c⟩
 | ins C dx fs =>
  obtain⟨d,z,ne,e,mA,⟨od,es,ep,e2,c⟩,r⟩:=x;exact⟨ho _ d,z,ne,k _ _ (.inl rfl) e,mA,⟨od,es,ep,k _ _ (.inr d) e2,c⟩,r⟩
 | own y=>obtain⟨ob,e⟩:=x; exact⟨ob,k _ _ (.inl rfl) e⟩
 | xd fs=>obtain⟨mA,⟨od,es,ep,e,c⟩,r⟩:=x; exact⟨mA,⟨od,es,ep,k _ _ (.inl rfl) e,c⟩,r⟩
 | rng lo hi=>obtain⟨t,u,v,e⟩:=x; exact⟨t,u,v,k _ _ (.inl rfl) e⟩
 | frz ob u ih=>obtain⟨e,q⟩:=x; exact⟨k _ _ (.inl rfl) e,ih q⟩
 | tbl ps =>
  have e:h.get? a=some { cls:=.none,data:=.fields ps }:=x;show h'.get? a=some { cls:=.none,data:=.fields ps };exact k a _ (.inl rfl) e
 | met f y =>
  have e:h.get? a=some (gS (.ref f) (.ref y)):=x;show h'.get? a=some (gS (.ref f) (.ref y));exact k a _ (.inl rfl) e
 | ext φ=>obtain⟨p,⟨o,e⟩,st⟩:=x; exact⟨st _ _ p fun o q=>k _ _ (.inl rfl) q,⟨o,k _ _ (.inl rfl) e⟩,st⟩
theorem HOk.lt (x:HOk P w H h) (e:H a=some o):a < h.objs.size:=(x a o e).lt
theorem HOk.fresh (x:HOk P w H h) (e:h.objs.size≤a):H a=none:=by
 cases q:H a with
 | none=>rfl
 | some u=>exact absurd (bj (x.lt q) e) (bW _)
theorem HOk.kept (x:HOk P w H h) (k:∀ b u,h.get? b=some u→h'.get? b=some u):HOk P w H h':=fun a o e =>
 (x a o e).stay (fun b u _ q=>k b u q) (fun _ q=>q) fun _ _ q=>q
theorem HOk.laid (x:HOk P w H h) (k:∀ b u,h.get? b=some u→h'.get? b=some u) (hp:h.objs.size≤a) (new:zaJ P w (kX H a o) h' a o):HOk P w (kX H a o) h':=fun b u e=>by
 have hn:=x.fresh hp;by_cases hb:b=a
 ·subst hb; rw [zc] at e; cases e; exact new
 ·rw [zl hb] at e;exact (x b u e).stay (fun c v _ q=>k c v q) (fun c q=>by rw [zl (zI q hn)]; exact q) fun c xs q=>by rw [zl (zI q hn)]; exact q
end
def Rd (H:Hp) (a:Addr) (u:HO):Prop:=H a=some u∨∃ o,H a=some (.frz o u)
theorem Rd.ok {P:Program} {w:World} {H:Hp} {h:Heap} {a:Addr} {u:HO} (r:Rd H a u) (x:HOk P w H h):zaJ P w H h a u:=by
 rcases r with r | ⟨o,r⟩
 ·exact x a u r
 ·obtain⟨_,q⟩:=x a _ r;exact q
def Mut:Option HO→Prop
 | some (.lst _)=>True
 | some (.dK _)=>True
 | some (.dT _)=>True
 | some (.set _ _)=>True
 | some (.ins _ _ _)=>True
 | some (.ext _)=>True
 | _=>False
section
variable {P:Program} {w:World} {H:Hp} {h h':Heap} {x e:Addr} {o':HO}
theorem HOk.write (ok:HOk P w H h) (mu:Mut (H x)) (he:e=x∨H e=some (.own x)) (k:∀ b u,b≠e→h.get? b=some u→h'.get? b=some u) (wh:∃ u,h'.get? e=some u)
  (new:zaJ P w (kX H x o') h' x o'):HOk P w (kX H x o') h':=fun b u q=>by
 have wV:∀ c y,H c=some (.own y)→c≠x:=fun c y r z=>by subst z; rw [r] at mu; exact mu
 have AI:∀ c xs,H c=some (.tup xs)→c≠x:=fun c xs r z=>by subst z; rw [r] at mu; exact mu
 by_cases hb:b=x
 ·subst hb; rw [zc] at q; cases q; exact new
 ·rw [zl hb] at q;by_cases uX:b=e
  ·have q':H b=some (.own x):=by
    rcases he with z | z
    ·exact absurd (uX.trans z) hb
    ·rw [uX]; exact z
   rw [q] at q'; cases q';obtain⟨v,hv⟩:=wh;exact⟨v,by rw [uX]; exact hv⟩
  ·refine (ok b u q).stay (fun c v hc r=>k c v ?_ r) (fun c r=>by rw [zl (wV c b r)]; exact r) fun c xs r=>by rw [zl (AI c xs r)]; exact r
   rcases hc with rfl | hc
   ·exact uX
   ·rintro rfl;rcases he with z | z
    ·exact wV c b hc z
    ·rw [hc] at z; cases z; exact hb rfl
end
structure Un (fs ex:List Addr) (H H':Hp) (h h':Heap):Prop where
 keep:∀ b o,h.get? b=some o→H b=none→b∉fs→b∉ex→h'.get? b=some o
 slot:∀ b o,h.get? b=some o→H b=none→b∈fs→b∉ex→∃ sl,h'.get? b=some { o with slots:=sl }
 free:∀ b o,h.get? b=some o→H b=none→b∉ex→H' b=none
 there:∀ b o,h.get? b=some o→b∉ex→∃ o',h'.get? b=some o'
 tups:∀ b xs,H b=some (.tup xs)→H' b=some (.tup xs)
 frzs:∀ b o u,H b=some (.frz o u)→H' b=some (.frz o u)
 tbls:∀ b ps,H b=some (.tbl ps)→∃ more,H' b=some (.tbl (ps++more))
section
variable {fs fs' ex ex':List Addr} {H H1 H2:Hp} {h h1 h2 h':Heap} {a x e:Addr} {o:HO}
theorem Un.any (u:Un fs ex H H1 h h1) {b:Addr} {ob:Obj} (q:h.get? b=some ob) (n:H b=none) (hx:b∉ex):∃ sl,h1.get? b=some { ob with slots:=sl }:=by
 by_cases hb:b∈fs
 ·exact u.slot b ob q n hb hx
 ·exact⟨ob.slots,u.keep b ob q n hb hx⟩
theorem Un.kept (k:∀ b u,h.get? b=some u→h'.get? b=some u):Un fs ex H H h h' :=
 ⟨fun b ob q _ _ _=>k b ob q,fun b ob q _ _ _=>⟨ob.slots,k b ob q⟩,fun _ _ _ n _=>n,fun b ob q _=>⟨ob,k b ob q⟩,fun _ _ q=>q,fun _ _ _ q=>q,fun _ ps q=>⟨#[],by rw [q]; simp⟩⟩
theorem Un.refl:Un fs ex H H h h:=Un.kept fun _ _ q=>q
theorem Un.laid (k:∀ b u,h.get? b=some u→h'.get? b=some u) (hp:h.objs.size≤a) (hn:H a=none):Un fs ex H (kX H a o) h h' where
 keep:=fun b u q _ _ _=>k b u q
 slot:=fun b u q _ _ _=>⟨u.slots,k b u q⟩
 free:=fun b u q n _=>by rw [zl (ba (bj (aK q) hp))]; exact n
 there:=fun b u q _=>⟨u,k b u q⟩
 tups:=fun b xs q=>by rw [zl (zI q hn)]; exact q
 frzs:=fun b u xs q=>by rw [zl (zI q hn)]; exact q
 tbls:=fun b ps q=>⟨#[],by rw [zl (zI q hn),q]; simp⟩
theorem Un.write (mu:Mut (H x)) (he:e=x∨H e=some (.own x)) (k:∀ b u,b≠e→h.get? b=some u→h'.get? b=some u) (wh:∃ u,h'.get? e=some u):Un fs ex H (kX H x o) h h':=by
 have hx:∀ b,H b=none→b≠x:=fun b n z=>by subst z; rw [n] at mu; exact mu
 have hb:∀ b,H b=none→b≠e:=fun b n z=>by
  subst z;rcases he with r | r
  ·exact hx b n r
  ·rw [n] at r; cases r
 have hm:∀ b u,H b=some u→¬ Mut (some u)→b≠x:=fun b u q nm z=>by subst z; rw [q] at mu; exact nm mu
 refine⟨fun b u q n _ _=>k b u (hb b n) q,fun b u q n _ _=>⟨u.slots,k b u (hb b n) q⟩,fun b u q n _=>by rw [zl (hx b n)]; exact n,fun b u q _=>?_,
  fun b xs q=>by rw [zl (hm b _ q fun z=>z)]; exact q,fun b u xs q=>by rw [zl (hm b _ q fun z=>z)]; exact q,fun b ps q=>⟨#[],by rw [zl (hm b _ q fun z=>z),q]; simp⟩⟩
 by_cases uX:b=e
 ·subst uX; exact wh
 ·exact⟨u,k b u uX q⟩
end
def trk (h:Heap) (H:Hp):List Addr:=(aI h.objs.size).filter fun a=>(H a).isSome
def zff (h:Heap) (H:Hp):Heap:=PySem.W.hideAll h (trk h H)
theorem ziD (h:Heap) (H:Hp):(zff h H).objs.size=h.objs.size:=PySem.W.hideAll_size _ _
theorem zjw {h:Heap} {H:Hp} {b:Addr} {o:Obj} (e:h.get? b=some o) (n:H b=none):(zff h H).get? b=some o :=
 PySem.W.hideAll_get _ e fun hm=>by
  have q:(H b).isSome=true:=(cA.mp hm).2;rw [n] at q; simp at q
theorem zk6 {h:Heap} {H:Hp} {b:Addr} {o:Obj} (e:(zff h H).get? b=some o):h.get? b=some o∧H b=none:=by
 have e':h.get? b=some o:=PySem.W.of_hideAll (trk h H) e;refine⟨e',?_⟩;cases q:H b with
 | none=>rfl
 | some x =>
  have hm:b∈trk h H:=cA.mpr ⟨bd.mpr (aK e'),by simp [q]⟩;have z:(zff h H).get? b=none:=PySem.W.hideAll_none (trk h H) hm;rw [z] at e; cases e
structure Mod (K:ag) (mg:Str→Option Value) (base:Heap):Prop where
 kin:K.In base
 glob:base.Ns mainGlobals mg
 blt:∃ mb,base.Ns builtinsNs mb∧∀ x:Str,x≠"__name__"→mb x=bootBuiltins x
 nolimit:base.NoLimit
structure Cx where
 prog:Program
 w:World
 K:ag
 mg:Str→Option Value
 base:Heap
 A:Around
 N:List Str
 s₀:Shared
 H₀:Hp
 env:Env
 outer:List Env
 stack:List Env
 ex:List Addr
 fn:Str→Bool
 calm:Bool
 pn:List (Addr×Obj)
 xe:Value→Shared→Prop
def frs (l:List Env):List Addr:=l.filterMap (·.frame)
abbrev Cx.fs (X:Cx):List Addr:=frs X.outer
def Vis (sc:Scope) (x:Str):Prop:=sc.names.lookup x=some .local∨sc.names.lookup x=some .cell∨sc.names.lookup x=some .free
def Loc (sc:Scope) (x:Str):Prop:=sc.names.lookup x=some .local∨sc.names.lookup x=some .cell
def Look (env:Env) (h:Heap) (m:Str→Option Value) (x:Str) (u:Value):Prop :=
 (env.kindOf x=some .local∧m x=some u)∨((env.kindOf x=some .cell∨env.kindOf x=some .free)∧∃ c,env.cells.lookup x=some c∧h.IsCell c (some u))
structure Cx.Ok (X:Cx):Prop where
 mod:Mod X.K X.mg X.base
 kind:X.env.scope.kind = .function
 glob:X.env.globals=mainGlobals
 blt:X.env.builtins=builtinsNs
 above:X.s₀.heap.objs.size≤X.env.locals
 inj:∀ x y c,X.env.cells.lookup x=some c→X.env.cells.lookup y=some c→x=y
 has:∀ x,(X.env.kindOf x=some .cell∨X.env.kindOf x=some .free)→∃ c,X.env.cells.lookup x=some c
 cab:∀ x c,X.fn x=true→X.env.cells.lookup x=some c→X.s₀.heap.objs.size≤c
 hd:X.calm=true→X.A.handled=none
 frames:X.A.frames=some X.stack
 stk:X.stack=X.outer∨(X.stack=X.env :: X.outer∧X.env.frame=some X.env.locals)
 exf:∀ b∈X.ex,b≠X.env.locals∧∀ x c,X.env.cells.lookup x=some c→c≠b
 bs:∀ b o,X.base.get? b=some o→X.s₀.heap.get? b=some o∧X.H₀ b=none
 bsz:X.base.objs.size≤X.s₀.heap.objs.size
 noex:∀ b o,X.base.get? b=some o→b∉X.ex
 exfs:∀ b∈X.ex,b∉X.fs
 funs:X.s₀.heap.FunFrames X.base X.outer
 frf:∀ b∈X.fs,X.H₀ b=none
structure Inv (X:Cx) (kS:List (Addr×Obj)) (σ:List (Option V)) (H:Hp) (s:Shared):Prop where
 ok:X.Ok
 os:s.os=X.s₀.os
 bare:AllBare s.gens
 base:Un X.fs X.ex X.H₀ H X.s₀.heap s.heap
 loc:∃ m,s.heap.Ns X.env.locals m∧∀ (i:Nat) (x:Str) (v:V),X.N[i]? = some x→σ[i]? = some (some v)→Vis X.env.scope x→∃ u,RelV v u∧Look X.env s.heap m x u
 cell:∀ x c,X.env.cells.lookup x=some c→∃ v,s.heap.IsCell c v
 free:H X.env.locals=none
 freeC:∀ x c,X.env.cells.lookup x=some c→H c=none
 pin:∀ p∈X.pn++kS,s.heap.get? p.1=some p.2∧H p.1=none∧p.1≠X.env.locals∧p.1∉X.fs∧∀ v,p.2.data≠.cell v
 hok:HOk X.prog X.w H s.heap
 len:σ.length=X.N.length
section
variable {X:Cx} {kS:List (Addr×Obj)} {σ:List (Option V)} {H H':Hp} {s:Shared} {h':Heap}
theorem Cx.Ok.nofr (ok:X.Ok) {b:Addr} {o:Obj} (e:X.base.get? b=some o):b∉X.fs:=fun hb=>by
 have:=(ok.funs.mem hb).1;rw [e] at this; cases this
theorem Inv.bs (I:Inv X kS σ H s):∀ b o,X.base.get? b=some o→s.heap.get? b=some o∧H b=none:=fun b o e =>
 ⟨I.base.keep b o (I.ok.bs b o e).1 (I.ok.bs b o e).2 (I.ok.nofr e) (I.ok.noex b o e),I.base.free b o (I.ok.bs b o e).1 (I.ok.bs b o e).2 (I.ok.noex b o e)⟩
theorem Inv.bk (I:Inv X kS σ H s):∀ b o,X.base.get? b=some o→s.heap.get? b=some o:=fun b o e=>(I.bs b o e).1
theorem Inv.mod (I:Inv X kS σ H s):Mod X.K X.mg X.base:=I.ok.mod
theorem Inv.kIn (I:Inv X kS σ H s):X.K.In s.heap:=I.ok.mod.kin.keeps I.bk
theorem Inv.lt (I:Inv X kS σ H s):X.env.locals < s.heap.objs.size:=let ⟨_,hn,_⟩:=I.loc; hn.lt
theorem Inv.sz (I:Inv X kS σ H s):X.s₀.heap.objs.size≤s.heap.objs.size:=bi I.ok.above (hU I.lt)
theorem Inv.nofs (I:Inv X kS σ H s) {a:Addr} (h:s.heap.objs.size≤a):a∉X.fs:=fun hb=>by
 obtain⟨_,o,ho,_⟩:=I.ok.funs.mem hb;exact absurd (bj (aK ho) (bi I.sz h)) (bW _)
theorem Inv.cne (I:Inv X kS σ H s):∀ x c,X.env.cells.lookup x=some c→c≠X.env.locals:=fun x c e z=>by
 obtain⟨v,o,ho,hd⟩:=I.cell x c e;obtain⟨m,⟨o',es,ep,oZ,sP,_⟩,_⟩:=I.loc;rw [z,oZ] at ho; cases ho; rw [sP] at hd; cases hd
theorem Inv.funs (I:Inv X kS σ H s):s.heap.FunFrames X.base X.outer:=by
 have all:∀ (l:List Env),(∀ b∈frs l,b∈X.fs)→X.s₀.heap.FunFrames X.base l→s.heap.FunFrames X.base l:=by
  intro l;induction l with
  | nil=>intro _ _; trivial
  | cons env r ih =>
   intro hs hl;obtain⟨hk,⟨L,o,hf,hn,ho,hd⟩,hr⟩:=hl;have hL:L∈X.fs:=hs L (by unfold frs; rw [cv,hf]; exact aL);obtain⟨sl,e⟩:=I.base.slot L o ho (I.ok.frf L hL) hL fun z=>I.ok.exfs L z hL
   exact⟨hk,⟨L,_,hf,hn,e,hd⟩,ih (fun b hb=>hs b (by unfold frs; rw [cv,hf]; exact aw _ hb)) hr⟩
 exact all X.outer (fun _ hb=>hb) I.ok.funs
theorem Inv.stack (I:Inv X kS σ H s):s.heap.FunFrames X.base X.stack:=by
 rcases I.ok.stk with e | ⟨e,hf⟩
 ·rw [e]; exact I.funs
 ·rw [e];obtain⟨m,hn,_⟩:=I.loc;refine .cons (by rw [I.ok.kind]; decide) hf hn ?_ I.funs;exact Heap.get?_none_of_le (bi I.ok.bsz I.ok.above)
theorem Inv.stkSub (I:Inv X kS σ H s):∀ b∈frs X.stack,b∈X.env.locals :: X.fs:=fun b hb=>by
 rcases I.ok.stk with e | ⟨e,hf⟩
 ·rw [e] at hb; exact aw _ hb
 ·rw [e] at hb;unfold frs at hb;rw [cv,hf] at hb;exact hb
theorem Inv.stkFree (I:Inv X kS σ H s):∀ b∈frs X.stack,H b=none:=fun b hb=>by
 rcases aH.mp (I.stkSub b hb) with e | hb
 ·rw [e]; exact I.free
 ·obtain⟨_,o,ho,_⟩:=I.ok.funs.mem hb;exact I.base.free b o ho (I.ok.frf b hb) fun z=>I.ok.exfs b z hb
theorem Inv.step {g':Array GenState} {t':Nat} {d':Drawn} {ch:List Addr} (I:Inv X kS σ H s)
  (oz:∀ b∈ch,(b∈X.ex∨X.s₀.heap.objs.size≤b)∧b≠X.env.locals∧(∀ x c,X.env.cells.lookup x=some c→c≠b)∧∀ p∈X.pn++kS,p.1≠b)
  (keep:∀ b o,b≠X.env.locals→b∉X.fs→b∉ch→s.heap.get? b=some o→H b=none→h'.get? b=some o)
  (slot:∀ b o,b≠X.env.locals→b∈X.fs→b∉ch→s.heap.get? b=some o→H b=none→∃ sl,h'.get? b=some { o with slots:=sl }) (free:∀ b o,b∉ch→s.heap.get? b=some o→H b=none→H' b=none)
  (there:∀ b o,b∉ch→s.heap.get? b=some o→∃ o',h'.get? b=some o')
  (tups:∀ b xs,H b=some (.tup xs)→H' b=some (.tup xs)) (frzs:∀ b o u,H b=some (.frz o u)→H' b=some (.frz o u)) (tbls:∀ b ps,H b=some (.tbl ps)→∃ more,H' b=some (.tbl (ps++more)))
  (ns:∀ m,s.heap.Ns X.env.locals m→h'.Ns X.env.locals m) (hok:HOk X.prog X.w H' h') (hg:AllBare g') :
  Inv X kS σ H' { s with heap:=h',gens:=g',drawn:=d',toks:=t' }:=by
 have neL:∀ b o,X.s₀.heap.get? b=some o→b≠X.env.locals:=fun b o e=>ba (bj (aK e) I.ok.above)
 have yX:∀ b o,X.s₀.heap.get? b=some o→b∉X.ex→b∉ch:=fun b o e hx hb=>by
  rcases (oz b hb).1 with z | z
  ·exact hx z
  ·exact absurd (bj (aK e) z) (bW _)
 have cellK:∀ x c,X.env.cells.lookup x=some c→∀ v,s.heap.IsCell c v→h'.IsCell c v:=fun x c e v ⟨o,ho,hd⟩=>by
  have wW:c∉ch:=fun z=>(oz c z).2.2.1 x c e rfl
  by_cases hc:c∈X.fs
  ·obtain⟨sl,q⟩:=slot c o (I.cne x c e) hc wW ho (I.freeC x c e);exact⟨_,q,hd⟩
  ·exact⟨o,keep c o (I.cne x c e) hc wW ho (I.freeC x c e),hd⟩
 refine⟨I.ok,I.os,hg,⟨fun b o e n hb hx=>?_,fun b o e n hb hx=>?_,fun b o e n hx=>?_,fun b o e hx=>?_,fun b xs e=>tups b xs (I.base.tups b xs e),fun b o xs e=>frzs b o xs (I.base.frzs b o xs e),fun b ps e=>?_⟩,?_,fun x c e=>?_,?_,fun x c e=>?_,fun p hp=>?_,hok,I.len⟩
 ·exact keep b o (neL b o e) hb (yX b o e hx) (I.base.keep b o e n hb hx) (I.base.free b o e n hx)
 ·obtain⟨sl,e1⟩:=I.base.slot b o e n hb hx;obtain⟨sl',e2⟩:=slot b _ (neL b o e) hb (yX b o e hx) e1 (I.base.free b o e n hx);exact⟨sl',e2⟩
 ·obtain⟨o',e1⟩:=I.base.there b o e hx;exact free b o' (yX b o e hx) e1 (I.base.free b o e n hx)
 ·obtain⟨o',e1⟩:=I.base.there b o e hx;exact there b o' (yX b o e hx) e1
 ·obtain⟨m1,e1⟩:=I.base.tbls b ps e;obtain⟨m2,e2⟩:=tbls b _ e1;exact⟨m1++m2,by rw [e2,Array.append_assoc]⟩
 ·obtain⟨m,hn,hl⟩:=I.loc;refine⟨m,ns m hn,fun i x v e1 e2 e3=>?_⟩;obtain⟨u,r,l⟩:=hl i x v e1 e2 e3;refine⟨u,r,?_⟩;rcases l with l | ⟨k,c,e,z⟩
  ·exact .inl l
  ·exact .inr ⟨k,c,e,cellK x c e _ z⟩
 ·obtain⟨v,z⟩:=I.cell x c e;exact⟨v,cellK x c e v z⟩
 ·obtain⟨m,⟨o,_,_,ho,_⟩,_⟩:=I.loc;exact free _ o (fun z=>(oz _ z).2.1 rfl) ho I.free
 ·obtain⟨v,o,ho,hd⟩:=I.cell x c e;exact free c o (fun z=>(oz c z).2.2.1 x c e rfl) ho (I.freeC x c e)
 ·obtain⟨e,n,ne,nf,d⟩:=I.pin p hp;have wW:p.1∉ch:=fun z=>(oz p.1 z).2.2.2 p hp rfl
  exact⟨keep p.1 p.2 ne nf wW e n,free p.1 p.2 wW e n,ne,nf,d⟩
theorem Inv.un {t':Nat} (I:Inv X kS σ H s) (u:Un X.fs [] H H' s.heap h') (hok:HOk X.prog X.w H' h'):Inv X kS σ H' { s with heap:=h',toks:=t' }:=by
 obtain⟨m,⟨o,es,ep,ho,r⟩,_⟩:=id I.loc;obtain⟨sl,hL⟩:=u.any ho I.free #[M];exact I.step (g':=s.gens) (d':=s.drawn) (ch:=[]) (fun _ z=>nomatch z) (fun b o _ hb _ e n=>u.keep b o e n hb #[M]) (fun b o _ hb _ e n=>u.slot b o e n hb #[M]) (fun b o _ e n=>u.free b o e n #[M]) (fun b o _ e=>u.there b o e #[M]) u.tups u.frzs u.tbls (fun m' hm=>by
  obtain⟨o',es',AJ,oZ,r'⟩:=hm;rw [ho] at oZ; cases oZ;exact⟨_,es',AJ,hL,r'⟩) hok I.bare
theorem Inv.call {g':Array GenState} {t':Nat} {d':Drawn} {ch:List Addr} (I:Inv X kS σ H s) (u:Un (frs X.stack) ch H H' s.heap h') (hok:HOk X.prog X.w H' h') (hg:AllBare g')
  (oz:∀ b∈ch,(b∈X.ex∨X.s₀.heap.objs.size≤b)∧b≠X.env.locals∧(∀ x c,X.env.cells.lookup x=some c→c≠b)∧∀ p∈X.pn++kS,p.1≠b) :
  Inv X kS σ H' { s with heap:=h',gens:=g',drawn:=d',toks:=t' }:=by
 obtain⟨m,⟨o,es,ep,ho,r⟩,_⟩:=id I.loc;obtain⟨sl,hL⟩:=u.any ho I.free fun z=>(oz _ z).2.1 rfl
 exact I.step (ch:=ch) oz (fun b o hL hb hc e n=>u.keep b o e n (fun z=>(aH.mp (I.stkSub b z)).elim hL hb) hc) (fun b o _ _ hc e n=>u.any e n hc) (fun b o hc e n=>u.free b o e n hc) (fun b o hc e=>u.there b o e hc) u.tups u.frzs u.tbls (fun m' hm=>by
  obtain⟨o',es',AJ,oZ,r'⟩:=hm;rw [ho] at oZ; cases oZ;exact⟨_,es',AJ,hL,r'⟩) hok hg
theorem Inv.turned {t':Nat} {it:Addr} (I:Inv X kS σ H s) (k:∀ b o,b≠it→s.heap.get? b=some o→h'.get? b=some o) (hn:H it=none) (hL:it≠X.env.locals)
  (h1:it∈X.ex∨X.s₀.heap.objs.size≤it) (h2:∀ x c,X.env.cells.lookup x=some c→c≠it) (h3:∀ p∈X.pn++kS,p.1≠it):Inv X kS σ H { s with heap:=h',toks:=t' }:=by
 have uj:∀ b u,H b=some u→b≠it:=fun b u e z=>by rw [z,hn] at e; cases e
 refine I.step (g':=s.gens) (d':=s.drawn) (ch:=[it]) (fun b hb=>?_) (fun b o _ _ hc e _=>k b o (fun z=>hc (by simp [z])) e) (fun b o _ _ hc e _=>⟨o.slots,k b o (fun z=>hc (by simp [z])) e⟩) (fun _ _ _ _ n=>n)
  (fun b o hc e=>⟨o,k b o (fun z=>hc (by simp [z])) e⟩) (fun _ _ e=>e) (fun _ _ _ e=>e) (fun b ps e=>⟨#[],by rw [e]; simp⟩) (fun m hm=>?_) (fun b u e=>?_) I.bare
 ·have e:b=it:=by simpa using hb
  subst e;exact⟨h1,hL,h2,h3⟩
 ·obtain⟨o,es,ep,ho,r⟩:=hm;exact⟨o,es,ep,k _ o (cD hL) ho,r⟩
 ·refine (I.hok b u e).stay (fun c v hc q=>k c v ?_ q) (fun _ q=>q) fun _ _ q=>q
  rcases hc with z | z
  ·rw [z]; exact uj b u e
  ·exact uj c _ z
theorem Inv.tok (I:Inv X kS σ H s) (t:Nat):Inv X kS σ H { s with toks:=t }:=I.un (h':=s.heap) (t':=t) Un.refl I.hok
theorem Inv.kept {t':Nat} (I:Inv X kS σ H s) (k:∀ b u,s.heap.get? b=some u→h'.get? b=some u):Inv X kS σ H { s with heap:=h',toks:=t' }:=I.un (Un.kept k) (I.hok.kept k)
theorem Inv.laid {a:Addr} {o:HO} {t':Nat} (I:Inv X kS σ H s) (k:∀ b u,s.heap.get? b=some u→h'.get? b=some u) (hp:s.heap.objs.size≤a) (new:zaJ X.prog X.w (kX H a o) h' a o) :
  Inv X kS σ (kX H a o) { s with heap:=h',toks:=t' }:=I.un (Un.laid k hp (I.hok.fresh hp)) (I.hok.laid k hp new)
theorem Inv.write {x e:Addr} {o:HO} {t':Nat} (I:Inv X kS σ H s) (mu:Mut (H x)) (he:e=x∨H e=some (.own x)) (k:∀ b u,b≠e→s.heap.get? b=some u→h'.get? b=some u) (wh:∃ u,h'.get? e=some u)
  (new:zaJ X.prog X.w (kX H x o) h' x o):Inv X kS σ (kX H x o) { s with heap:=h',toks:=t' }:=I.un (Un.write mu he k wh) (I.hok.write mu he k wh new)
theorem Inv.weak {σ':List (Option V)} (I:Inv X kS σ H s) (hl:σ'.length=σ.length) (w:∀ (i:Nat) v,σ'[i]? = some (some v)→σ[i]? = some (some v)):Inv X kS σ' H s :=
 ⟨I.ok,I.os,I.bare,I.base,let ⟨m,hn,sQ⟩:=I.loc; ⟨m,hn,fun i x v e1 e2 e3=>sQ i x v e1 (w i v e2) e3⟩,I.cell,I.free,I.freeC,I.pin,I.hok,hl.trans I.len⟩
theorem Inv.pins_of {nH:List (Addr×Obj)} (I:Inv X kS σ H s) (h:∀ p∈nH,s.heap.get? p.1=some p.2∧H p.1=none∧p.1≠X.env.locals∧p.1∉X.fs∧∀ v,p.2.data≠.cell v):Inv X nH σ H s :=
 ⟨I.ok,I.os,I.bare,I.base,I.loc,I.cell,I.free,I.freeC,fun p hp=>(aP.mp hp).elim (fun z=>I.pin p (aY _ z)) (h p),I.hok,I.len⟩
theorem zf3 {N:List Str} (hN:N.Nodup) {i j:Nat} {x:Str} (a:N[i]? = some x) (b:N[j]? = some x):i=j:=by
 obtain⟨h1,e1⟩:=bw.mp a;obtain⟨h2,e2⟩:=bw.mp b;exact (List.getElem_inj hN).mp (e1.trans e2.symm)
theorem zeF {M:Model} {A:Around} {E:Value→Shared→Prop} {i:Nat} {x:Str} {v:V} {u:Value} {Q:Unit→Shared→Prop} (I:Inv X kS σ H s) (hN:X.N.Nodup) (hi:X.N[i]? = some x) (hx:Loc X.env.scope x) (r:RelV v u)
  (h:∀ s',Inv X kS (σ.set i (some v)) H s'→(∃ a,dJ a s.heap s'.heap∧(a=X.env.locals∨X.env.cells.lookup x=some a))→Q () s') (hf:X.fn x=true∨X.env.scope.names.lookup x=some .local:=by first | exact .inl rfl | exact .inr rfl | assumption):wpAny M A (storeName X.env x u) Q E s:=by
 obtain⟨m,hn,hl⟩:=id I.loc;have AK:(X.env.scope.kind == .class || (X.env.scope.kind == .module && X.env.locals != X.env.globals))=false:=by rw [I.ok.kind]; rfl
 have hiσ:i < σ.length:=by rw [I.len]; exact (bw.mp hi).1
 have cne:=I.cne;have tracked:∀ {a:Addr} {h':Heap},(∃ o,s.heap.get? a=some o∧H a=none)→dJ a s.heap h'→HOk X.prog X.w H h':=fun {a h'} ha hs b ob e=>by
  obtain⟨_,_,uk⟩:=ha;refine (I.hok b ob e).stay (fun c w' hc q=>(hs.2 c ?_).trans q) (fun _ q=>q) fun _ _ q=>q
  rintro rfl;rcases hc with rfl | hc
  ·rw [uk] at e; cases e
  ·rw [uk] at hc; cases hc
 rcases hx with hk | hk
 ·refine wpAny_storeName_local hk hn (fun h' wX hs=>?_) AK;obtain⟨oL,_,_,wY,_⟩:=id hn;refine h _ ⟨I.ok,I.os,I.bare,⟨fun b o e n hb hx=>?_,fun b o e n hb hx=>?_,I.base.free,fun b o e hx=>?_,I.base.tups,I.base.frzs,I.base.tbls⟩,⟨_,wX,fun j y v' e1 e2 e3=>?_⟩,fun y c e=>?_,I.free,I.freeC,fun p hp=>?_,tracked ⟨oL,wY,I.free⟩ hs,by simpa using I.len⟩ ⟨_,hs,.inl rfl⟩
  ·exact (hs.2 b (ba (bj (aK e) I.ok.above))).trans (I.base.keep b o e n hb hx)
  ·obtain⟨sl,e1⟩:=I.base.slot b o e n hb hx;exact⟨sl,(hs.2 b (ba (bj (aK e) I.ok.above))).trans e1⟩
  ·obtain⟨o',e1⟩:=I.base.there b o e hx;exact⟨o',(hs.2 b (ba (bj (aK e) I.ok.above))).trans e1⟩
  ·by_cases hj:j=i
   ·subst hj;rw [hi] at e1; cases e1;rw [eA hiσ] at e2;cases e2;exact⟨u,r,.inl ⟨hk,#[M]⟩⟩
   ·rw [eR (cD hj)] at e2;obtain⟨u',r',q⟩:=hl j y v' e1 e2 e3;refine⟨u',r',?_⟩;rcases q with ⟨k,e⟩ | ⟨k,c,e,z⟩
    ·refine .inl ⟨k,?_⟩;have:y≠x:=fun e=>hj (zf3 hN e1 (e ▸ hi))
     simp [this,e]
    ·exact .inr ⟨k,c,e,z.sameBut hs (cne y c e)⟩
  ·obtain⟨w',z⟩:=I.cell y c e;exact⟨w',z.sameBut hs (cne y c e)⟩
  ·obtain⟨e,n,ne,nf,d⟩:=I.pin p hp;exact⟨(hs.2 p.1 ne).trans e,n,ne,nf,d⟩
 ·have wZ:X.fn x=true:=by
   rcases hf with z | z
   ·exact z
   ·rw [z] at hk; cases hk
  obtain⟨c,hc⟩:=I.ok.has x (.inl hk);obtain⟨w',z⟩:=I.cell x c hc;refine wpAny_storeName_cell I.ok.kind hk hc z (fun h' lJ hs=>?_);obtain⟨oc,hoc,AM⟩:=id z;refine h { s with heap:=h' } ⟨I.ok,I.os,I.bare,⟨fun b o e n hb hx=>?_,fun b o e n hb hx=>?_,I.base.free,fun b o e hx=>?_,I.base.tups,I.base.frzs,I.base.tbls⟩,⟨m,hn.sameBut hs (cD (cne x c hc)),fun j y v' e1 e2 e3=>?_⟩,fun y c' e=>?_,I.free,I.freeC,fun p hp=>?_,tracked ⟨oc,hoc,I.freeC x c hc⟩ hs,by simpa using I.len⟩ ⟨c,hs,.inr hc⟩
  ·exact (hs.2 b (ba (bj (aK e) (I.ok.cab x c wZ hc)))).trans (I.base.keep b o e n hb hx)
  ·obtain⟨sl,e1⟩:=I.base.slot b o e n hb hx;exact⟨sl,(hs.2 b (ba (bj (aK e) (I.ok.cab x c wZ hc)))).trans e1⟩
  ·obtain⟨o',e1⟩:=I.base.there b o e hx;exact⟨o',(hs.2 b (ba (bj (aK e) (I.ok.cab x c wZ hc)))).trans e1⟩
  ·by_cases hj:j=i
   ·subst hj;rw [hi] at e1; cases e1;rw [eA hiσ] at e2;cases e2;exact⟨u,r,.inr ⟨.inl hk,c,hc,lJ⟩⟩
   ·rw [eR (cD hj)] at e2;obtain⟨u',r',q⟩:=hl j y v' e1 e2 e3;refine⟨u',r',?_⟩;rcases q with q | ⟨k,c',e,z'⟩
    ·exact .inl q
    ·refine .inr ⟨k,c',e,z'.sameBut hs ?_⟩;rintro rfl;exact hj (zf3 hN e1 (I.ok.inj _ _ _ e hc ▸ hi))
  ·by_cases oA:c'=c
   ·subst oA; exact⟨_,lJ⟩
   ·obtain⟨w2,z2⟩:=I.cell y c' e;exact⟨w2,z2.sameBut hs oA⟩
  ·obtain⟨e,n,ne,nf,d⟩:=I.pin p hp;refine⟨(hs.2 p.1 ?_).trans e,n,ne,nf,d⟩;intro q;rw [q,hoc] at e;have q':oc=p.2:=bf e;exact d w' (by rw [← q']; exact AM)
theorem zf4 {M:Model} {A:Around} {E:Value→Shared→Prop} {i:Nat} {x:Str} {v:V} {u:Value} {Q:Unit→Shared→Prop} (I:Inv X kS σ H s) (hN:X.N.Nodup) (hi:X.N[i]? = some x) (hx:Loc X.env.scope x) (r:RelV v u)
  (h:∀ s',Inv X kS (σ.set i (some v)) H s'→Q () s') (hf:X.fn x=true∨X.env.scope.names.lookup x=some .local:=by first | exact .inl rfl | exact .inr rfl | assumption):wpAny M A (storeName X.env x u) Q E s :=
 zeF I hN hi hx r (fun s' I' _=>h s' I') hf
theorem Inv.call' {s':Shared} {ch:List Addr} (I:Inv X kS σ H s) (ho:s'.os=s.os) (u:Un (frs X.stack) ch H H' s.heap s'.heap) (hok:HOk X.prog X.w H' s'.heap) (hg:AllBare s'.gens)
  (oz:∀ b∈ch,(b∈X.ex∨X.s₀.heap.objs.size≤b)∧b≠X.env.locals∧(∀ x c,X.env.cells.lookup x=some c→c≠b)∧∀ p∈X.pn++kS,p.1≠b):Inv X kS σ H' s':=by
 obtain⟨h',g',d',t',o'⟩:=s';have e:o'=s.os:=ho;subst e;exact I.call (g':=g') (t':=t') (d':=d') u hok hg oz
end
abbrev XK:=Value→Option Addr→Hp→Prop
abbrev St:=List (Option V)
abbrev VK:=V→Hp→Prop
abbrev TE:=St→Hp→VK→Prop
abbrev TT:=St→Hp→(Bool→Hp→Prop)→Prop
abbrev TA:=St→Hp→(List V→Hp→Prop)→Prop
structure Ends where
 nx:St→Hp→Prop
 rt:VK
 bk:St→Hp→Prop:=fun _ _=>False
 ct:St→Hp→Prop:=fun _ _=>False
abbrev TS:=Ends→St→Hp→Prop
def EP (X:Cx) (kS:List (Addr×Obj)) (σ:St) (Q:VK) (u:Value) (s':Shared):Prop:=∃ v H',Inv X kS σ H' s'∧RelV v u∧Q v H'
def TP (X:Cx) (kS:List (Addr×Obj)) (σ:St) (Q:Bool→Hp→Prop) (b:Bool) (s':Shared):Prop:=∃ H',Inv X kS σ H' s'∧Q b H'
def AP (X:Cx) (kS:List (Addr×Obj)) (σ:St) (Q:List V→Hp→Prop) (us:List Value) (s':Shared):Prop:=∃ vs H',Inv X kS σ H' s'∧zE vs us∧Q vs H'
def SP (X:Cx) (kS:List (Addr×Obj)) (D:Ends) (f:Flow) (s':Shared):Prop :=
 match f with
 | .next=>∃ σ' H',Inv X kS σ' H' s'∧D.nx σ' H'
 | .brk=>∃ σ' H',Inv X kS σ' H' s'∧D.bk σ' H'
 | .cont=>∃ σ' H',Inv X kS σ' H' s'∧D.ct σ' H'
 | .ret u=>∃ v σ' H',Inv X kS σ' H' s'∧RelV v u∧D.rt v H'
def PE (X:Cx) (e:Expr) (t:TE):Prop :=
 ∀ (kS:List (Addr×Obj)) (s:Shared) (σ:St) (H:Hp) (Q:VK),Inv X kS σ H s→t σ H Q→wpAny (model X.prog X.w) X.A (eval e X.env) (EP X kS σ Q) X.xe s
def PT (X:Cx) (e:Expr) (t:TT):Prop :=
 ∀ (kS:List (Addr×Obj)) (s:Shared) (σ:St) (H:Hp) (Q:Bool→Hp→Prop),Inv X kS σ H s→t σ H Q→wpAny (model X.prog X.w) X.A (isTrue e X.env (eval e X.env)) (TP X kS σ Q) X.xe s
def PA (X:Cx) (es:List Expr) (t:TA):Prop :=
 ∀ (pos:Pos) (kS:List (Addr×Obj)) (s:Shared) (σ:St) (H:Hp) (Q:List V→Hp→Prop),Inv X kS σ H s→t σ H Q→wpAny (model X.prog X.w) X.A (spliced (backTo pos (starEach es X.env))) (AP X kS σ Q) X.xe s
def PS (X:Cx) (st:Stmt) (t:TS):Prop :=
 ∀ (kS:List (Addr×Obj)) (s:Shared) (σ:St) (H:Hp) (D:Ends),Inv X kS σ H s→t D σ H→wpAny (model X.prog X.w) X.A (exec st X.env) (SP X kS D) X.xe s
def PSs (X:Cx) (st:List Stmt) (t:TS):Prop :=
 ∀ (kS:List (Addr×Obj)) (s:Shared) (σ:St) (H:Hp) (D:Ends),Inv X kS σ H s→t D σ H→wpAny (model X.prog X.w) X.A (execs st X.env) (SP X kS D) X.xe s
theorem thn {α:Type} {t:Sem α} {Q Q':α→Shared→Prop} {M:Model} {A:Around} {E:Value→Shared→Prop} {s:Shared} (h:wpAny M A t Q E s) (hQ:∀ a s,Q a s→Q' a s):wpAny M A t Q' E s:=cJ h hQ fun _ _ x=>x
section
variable {X:Cx}
def znm (i:Nat):TE:=fun σ H Q=>∃ v,σ[i]? = some (some v)∧Q v H
def tC (v:V):TE:=fun _ H Q=>Q v H
theorem zmt {i:Nat} {x:Str} {pos:Pos} (hN:X.N[i]? = some x) (hv:Vis X.env.scope x) (hd:(x == ("__debug__" : Str))=false:=by decide) (rN:(x == ("__classdict__" : Str))=false:=by decide):PE X (.Name x pos) (znm i):=by
 intro kS s σ H Q I h;obtain⟨v,e,h⟩:=h;obtain⟨m,hn,hl⟩:=I.loc;obtain⟨u,r,l⟩:=hl i x v hN e hv;have fin:EP X kS σ Q u s:=⟨v,H,I,r,h⟩;rcases l with ⟨hk,hm⟩ | ⟨hk,c,hc,oB⟩
 ·exact kg (wpAny_loadName_local I.ok.kind hk hn hm fin) hd
 ·rcases hk with hk | hk
  ·exact kg (wpAny_loadName_cell I.ok.kind hk hc oB fin) hd
  ·exact kg (wpAny_loadName_free I.ok.kind hk hc oB fin rN) hd
theorem ze {i j pos}:PE X (.Constant (.int i) j pos) (tC (.int i)):=fun _ _ _ H _ I h=>wpAny_Constant_int ⟨.int i,H,I.tok _,⟨_,rfl⟩,h⟩
theorem zhA {b j pos}:PE X (.Constant (.bool b) j pos) (tC (.bl b)):=fun _ _ _ H _ I h=>Constant_bool ⟨.bl b,H,I,rfl,h⟩
def Gl (X:Cx) (x:Str):Prop:=X.env.kindOf x=some .globalImplicit
theorem zk7 {E:Value→Shared→Prop} {kS:List (Addr×Obj)} {s:Shared} {σ:St} {H:Hp} {x:Str} {u:Value} {pos:Pos} {Q:Value→Shared→Prop} (I:Inv X kS σ H s) (hg:Gl X x) (hm:X.mg x=some u) (h:Q u s)
  (hd:(x == ("__debug__" : Str))=false:=by decide):wpAny (model X.prog X.w) X.A (eval (.Name x pos) X.env) Q E s :=
 gM I.ok.kind hg (Calls.loadGlobal_global (by rw [I.ok.glob]; exact I.mod.glob.keeps I.bk) hm h) hd
theorem za5 {E:Value→Shared→Prop} {kS:List (Addr×Obj)} {s:Shared} {σ:St} {H:Hp} {x:Str} {u:Value} {pos:Pos} {Q:Value→Shared→Prop} (I:Inv X kS σ H s) (hg:Gl X x) (hm:X.mg x=none) (hv:bootBuiltins x=some u) (h:Q u s)
  (hn:x≠"__name__":=by decide) (hd:(x == ("__debug__" : Str))=false:=by decide):wpAny (model X.prog X.w) X.A (eval (.Name x pos) X.env) Q E s:=by
 obtain⟨mb,h1,h2⟩:=I.mod.blt;exact gM I.ok.kind hg (Calls.loadGlobal_builtin (by rw [I.ok.glob]; exact I.mod.glob.keeps I.bk) hm (by rw [I.ok.blt]; exact h1.keeps I.bk) ((h2 x hn).trans hv) h) hd
variable {a b:Expr} {ta tb:TE} {pos:Pos}
def tB (t:TE):TT:=fun σ H Q=>t σ H fun x H1=>∃ c,x = .bl c∧Q c H1
theorem zmu {e:Expr} {t:TE} (h:PE X e t) (he:∀ whole,isTrue e X.env whole=(do let v ← whole; standAt e.pos; holding [v] (truthy v)):=by intro _; rfl):PT X e (tB t):=by
 intro kS s σ H Q I hw;refine isTrue_plain (thn (h kS s σ H _ I hw) fun v s1 ⟨x,H1,I1,r1,q1⟩=>?_) (he _);obtain⟨d,rfl,q⟩:=q1;cases r1;exact eB ⟨H1,I1,q⟩
variable {tA tB':TT} {rest:List Expr}
def zn4 (t:TT):TT:=fun σ H Q=>t σ H fun c H1=>Q (!c) H1
theorem zjx (ha:PT X a tA):PT X (.UnaryOp .Not a pos) (zn4 tA):=by
 intro kS s σ H Q I h;exact isTrue_not (ha kS s σ H (fun c H1=>Q (!c) H1) I h)
def znn (ta tb:TE):TE:=fun σ H Q=>ta σ H fun x H1=>∃ c,x = .bl c∧if c=true then tb σ H1 Q else Q (.bl false) H1
theorem zmv {op} {t:TE} (h:PE X a t):PE X (.BoolOp op [a] pos) t:=fun kS s σ H Q I hw=>BoolOp_one (h kS s σ H Q I hw)
theorem zmw (ha:PE X a ta) (hb:PE X (.BoolOp .And (b :: rest) pos) tb):PE X (.BoolOp .And (a :: b :: rest) pos) (znn ta tb):=by
 intro kS s σ H Q I h;refine BoolOp_and (thn (ha kS s σ H _ I h) fun v s1 ⟨x,H1,I1,r1,q1⟩=>?_);obtain⟨c,rfl,q1⟩:=q1;cases r1;refine eB ?_;cases c with
 | true=>exact hb kS s1 σ H1 Q I1 q1
 | false=>exact⟨.bl false,H1,I1,rfl,q1⟩
end
def kT (K:ag) (H:Hp) (a:Addr) (xs:List V):Prop :=
 Rd H a (.lst xs) ∨
  ∃ (o:Obj) (kU:Array Value) (n:Nat),K.lookup a=some o∧o.cls = .type "list"∧o.dict=none∧o.data = .seq kU n∧kU.size≤sizeLine∧zE xs kU.toList
def kZ (K:ag) (H:Hp) (a:Addr) (xs:List V):Prop :=
 Rd H a (.tup xs) ∨
  ∃ (o:Obj) (kU:Array Value) (n:Nat),K.lookup a=some o∧o.cls = .type "tuple"∧o.data = .seq kU n∧kU.size≤sizeLine∧zE xs kU.toList
def zn5:Value→Option V
 | .none=>some .non
 | .bool b=>some (.bl b)
 | .int i _=>some (.int i)
 | .str x _=>some (.str x)
 | .bytes b _=>some (.byt b)
 | .float b _=>some (.flt b)
 | .ref a=>some (.ref a)
 | .type n=>some (.ty n)
 | _=>none
theorem RelV.abs {x:V} {u:Value} (r:RelV x u):zn5 u=some x:=by
 cases x with
 | non=>cases r; rfl
 | bl _=>cases r; rfl
 | int _=>obtain⟨t,rfl⟩:=r; rfl
 | str _=>obtain⟨t,rfl⟩:=r; rfl
 | byt _=>obtain⟨t,rfl⟩:=r; rfl
 | flt _=>obtain⟨t,rfl⟩:=r; rfl
 | ref _=>cases r; rfl
 | ty _=>cases r; rfl
theorem RelV.inj {x y:V} {u:Value} (r:RelV x u) (q:RelV y u):x=y:=bf (r.abs.symm.trans q.abs)
theorem zE.inj:∀ {xs ys:List V} {us:List Value},zE xs us→zE ys us→xs=ys
 | _,_,_,.nil,.nil=>rfl
 | _,_,_,.cons r t,.cons r' t'=>by rw [r.inj r',zE.inj t t']
section
variable {X:Cx} {kS:List (Addr×Obj)} {σ:St} {H:Hp} {s:Shared} {a:Addr} {xs ys:List V}
theorem kT.of {K:ag} (h:H a=some (.lst xs)):kT K H a xs:=.inl (.inl h)
theorem kZ.of {K:ag} (h:H a=some (.tup xs)):kZ K H a xs:=.inl (.inl h)
theorem Inv.list (I:Inv X kS σ H s) (h:kT X.K H a xs):∃ kU:List Value,zE xs kU∧PlainL s.heap a kU.toArray∧xs.length≤sizeLine:=by
 rcases h with h | ⟨o,kU,n,hk,hc,hd,hs,hz,r⟩
 ·obtain⟨z,kU,n,r,e⟩:=h.ok I.hok;exact⟨kU,r,⟨_,n,e,rfl,rfl,rfl⟩,z⟩
 ·refine⟨kU.toList,r,⟨o,n,I.kIn a o hk,hc,hd,by simpa using hs⟩,?_⟩;have e:=r.length;simp only [av] at e;lia
theorem Inv.tuple (I:Inv X kS σ H s) (h:kZ X.K H a xs):∃ kU:List Value,zE xs kU∧IsTup s.heap a kU.toArray∧xs.length≤sizeLine:=by
 rcases h with h | ⟨o,kU,n,hk,hc,hs,hz,r⟩
 ·obtain⟨z,kU,r,p⟩:=h.ok I.hok;exact⟨kU,r,p,z⟩
 ·refine⟨kU.toList,r,⟨o,I.kIn a o hk,hc,n,by simpa using hs⟩,?_⟩;have e:=r.length;simp only [av] at e;lia
theorem Inv.list_inj (I:Inv X kS σ H s) (h:kT X.K H a xs) (h':kT X.K H a ys):xs=ys:=by
 obtain⟨kU,r,⟨o,n,e,_,_,d⟩,_⟩:=I.list h;obtain⟨its',r',⟨o',n',e',_,_,d'⟩,_⟩:=I.list h';rw [e] at e'; cases e';rw [d] at d';injection d' with d1 _
 have:kU=its':=by simpa using congrArg kM d1
 subst this;exact r.inj r'
theorem Inv.tuple_inj (I:Inv X kS σ H s) (h:kZ X.K H a xs) (h':kZ X.K H a ys):xs=ys:=by
 obtain⟨kU,r,⟨o,e,_,n,d⟩,_⟩:=I.tuple h;obtain⟨its',r',⟨o',e',_,n',d'⟩,_⟩:=I.tuple h';rw [e] at e'; cases e';rw [d] at d';injection d' with d1 _
 have:kU=its':=by simpa using congrArg kM d1
 subst this;exact r.inj r'
end
abbrev Cx.wish (X:Cx) (E:Value→Shared→Prop):Cx:={ X with xe:=E }
abbrev Cx.nox (X:Cx):Cx:=X.wish fun _ _=>False
theorem Cx.Ok.wish {X:Cx} (ok:X.Ok) (E:Value→Shared→Prop):(X.wish E).Ok :=
 ⟨ok.mod,ok.kind,ok.glob,ok.blt,ok.above,ok.inj,ok.has,ok.cab,ok.hd,ok.frames,ok.stk,ok.exf,ok.bs,ok.bsz,ok.noex,ok.exfs,ok.funs,ok.frf⟩
theorem Cx.Ok.unwish {X:Cx} {E:Value→Shared→Prop} (ok:(X.wish E).Ok):X.Ok :=
 ⟨ok.mod,ok.kind,ok.glob,ok.blt,ok.above,ok.inj,ok.has,ok.cab,ok.hd,ok.frames,ok.stk,ok.exf,ok.bs,ok.bsz,ok.noex,ok.exfs,ok.funs,ok.frf⟩
section
variable {X:Cx} {kS:List (Addr×Obj)} {σ:St} {H:Hp} {s:Shared} {E:Value→Shared→Prop}
theorem Inv.wish (I:Inv X kS σ H s) (E:Value→Shared→Prop):Inv (X.wish E) kS σ H s:=⟨I.ok.wish E,I.os,I.bare,I.base,I.loc,I.cell,I.free,I.freeC,I.pin,I.hok,I.len⟩
theorem Inv.unwish (I:Inv (X.wish E) kS σ H s):Inv X kS σ H s:=⟨I.ok.unwish,I.os,I.bare,I.base,I.loc,I.cell,I.free,I.freeC,I.pin,I.hok,I.len⟩
theorem SP.unwish {D:Ends} {f:Flow} {s':Shared} (h:SP (X.wish E) kS D f s'):SP X kS D f s':=by
 cases f with
 | next=>obtain⟨σ',H',I,q⟩:=h; exact⟨σ',H',I.unwish,q⟩
 | brk=>obtain⟨σ',H',I,q⟩:=h; exact⟨σ',H',I.unwish,q⟩
 | cont=>obtain⟨σ',H',I,q⟩:=h; exact⟨σ',H',I.unwish,q⟩
 | ret u=>obtain⟨v,σ',H',I,r,q⟩:=h; exact⟨v,σ',H',I.unwish,r,q⟩
theorem PSs.nox {st:List Stmt} {t:TS} (h:PSs X.nox st t):PSs X st t:=fun kS s σ H D I hw =>
 cJ (h kS s σ H D (I.wish _) hw) (fun _ _ q=>q.unwish) fun _ _ z=>dC z
end
section
variable {X:Cx} {st:Stmt} {rest:List Stmt} {t u:TS} {e:Expr} {te:TE} {pos:Pos}
def zno:TS:=fun D σ H=>D.nx σ H
def zas (t u:TS):TS:=fun D σ H=>t { D with nx:=u D } σ H
theorem zaz:PSs X [] zno:=fun _ _ σ H _ I h=>iC ⟨σ,H,I,h⟩
theorem zf (h1:PS X st t) (h2:PSs X rest u):PSs X (st :: rest) (zas t u):=by
 intro kS s σ H D I h;refine wpAny_execs_cons (thn (h1 kS s σ H { D with nx:=u D } I h) fun f s1 q=>?_);cases f with
 | next =>
  obtain⟨σ',H',I',q⟩:=q;exact h2 kS s1 σ' H' D I' q
 | ret v=>exact q
 | brk=>exact q
 | cont=>exact q
theorem zj (h1:PS X st t):PSs X [st] t:=by
 intro kS s σ H D I h;refine wpAny_execs_cons (thn (h1 kS s σ H D I h) fun f s1 q=>?_);cases f with
 | next=>exact iC q
 | ret v=>exact q
 | brk=>exact q
 | cont=>exact q
theorem Inv.quiet {kS:List (Addr×Obj)} {σ:St} {H:Hp} {s:Shared} (I:Inv X kS σ H s):interactive X.env=false:=by simp [interactive,I.ok.kind]
def znp (te:TE):TS:=fun D σ H=>te σ H fun _ H1=>D.nx σ H1
theorem zhB (he:PE X e te) (hs:swapsWith e none pos.line X.env=pure false:=by rfl):PS X (.Expr e pos) (znp te):=by
 intro kS s σ H D I h;exact wpAny_Expr_any (thn (he kS s σ H _ I h) fun v s1 ⟨x,H1,I1,r1,q1⟩=>⟨σ,H1,I1,q1⟩) I.quiet hs
def zn6 (te:TE):TS:=fun D σ H=>te σ H D.rt
theorem zQ (he:PE X e te):PS X (.Return (some e) pos) (zn6 te):=by
 intro kS s σ H D I h;exact wpAny_Return_some (thn (he kS s σ H _ I h) fun v s1 ⟨x,H1,I1,r1,q1⟩=>⟨x,σ,H1,I1,r1,q1⟩)
def zn7 (c:TT) (t u:TS):TS:=fun D σ H=>c σ H fun b H1=>if b=true then t D σ H1 else u D σ H1
theorem zbA {c:Expr} {a b:List Stmt} {tc:TT} (hc:PT X c tc) (ha:PSs X a t) (hb:PSs X b u):PS X (.If c a b pos) (zn7 tc t u):=by
 intro kS s σ H D I h;refine wpAny_If (thn (hc kS s σ H _ I h) fun d s1 ⟨H1,I1,q1⟩=>?_);cases d with
 | true=>exact ha kS s1 σ H1 D I1 q1
 | false=>exact hb kS s1 σ H1 D I1 q1
end
abbrev TG:=V→St→Hp→(St→Hp→Prop)→Prop
abbrev TGs:=List V→St→Hp→(St→Hp→Prop)→Prop
def PG (X:Cx) (target:Expr) (t:TG):Prop :=
 ∀ (kS:List (Addr×Obj)) (s:Shared) (σ:St) (H:Hp) (v:V) (u:Value) (Q:St→Hp→Prop),Inv X kS σ H s→RelV v u→t v σ H Q →
  wpAny (model X.prog X.w) X.A (assign target X.env u) (fun _ s'=>∃ σ' H',Inv X kS σ' H' s'∧Q σ' H') X.xe s
def PGs (X:Cx) (ts:List Expr) (t:TGs):Prop :=
 ∀ (kS:List (Addr×Obj)) (s:Shared) (σ:St) (H:Hp) (vs:List V) (us:List Value) (Q:St→Hp→Prop),Inv X kS σ H s→zE vs us→t vs σ H Q →
  wpAny (model X.prog X.w) X.A (assignInOrder ((assignEach ts X.env).map (·.2)) us) (fun _ s'=>∃ σ' H',Inv X kS σ' H' s'∧Q σ' H') X.xe s
abbrev zmx:=V→V→V→Hp→(Hp→Prop)→Prop
def znq (X:Cx) (t:zmx):Prop :=
 ∀ (kS:List (Addr×Obj)) (s:Shared) (σ:St) (H:Hp) (o i v:V) (ov iv u:Value) (Q:Hp→Prop),Inv X kS σ H s→RelV o ov→RelV i iv→RelV v u→t o i v H Q →
  wpAny (model X.prog X.w) X.A (setItem ov iv u) (fun _ s'=>∃ H',Inv X kS σ H' s'∧Q H') X.xe s
section
variable {X:Cx} {pos:Pos}
def zaK (i:Nat):TG:=fun v σ H Q=>Q (σ.set i (some v)) H
theorem zi {i:Nat} {x:Str} (hN:X.N.Nodup) (hi:X.N[i]? = some x) (hx:Loc X.env.scope x) (hf:X.fn x=true∨X.env.scope.names.lookup x=some .local:=by first | exact .inl rfl | exact .inr rfl | assumption):PG X (.Name x pos) (zaK i):=by
 intro kS s σ H v u Q I r h;exact wpAny_assign_Name (zf4 I hN hi hx r (fun s' I'=>⟨_,H,I',h⟩) hf)
def zk8:TGs:=fun vs σ H Q=>vs = []∧Q σ H
def zf5 (t:TG) (u:TGs):TGs:=fun vs σ H Q=>∃ v r,vs=v :: r∧t v σ H fun σ' H'=>u r σ' H' Q
theorem zae:PGs X [] zk8:=by
 intro kS s σ H vs us Q I r h;obtain⟨e,h⟩:=h;subst e;cases r;exact assignInOrder_nil ⟨σ,H,I,h⟩
theorem zm {e:Expr} {es:List Expr} {t:TG} {u:TGs} (h1:PG X e t) (h2:PGs X es u)
  (hs:(assignEach (e :: es) X.env).map (·.2)=assign e X.env :: (assignEach es X.env).map (·.2):=by rfl):PGs X (e :: es) (zf5 t u):=by
 intro kS s σ H vs us Q I r h;obtain⟨v,vr,e1,h⟩:=h;subst e1;cases r with
 | cons r rr =>
  rw [hs];refine assignInOrder_cons (thn (h1 kS s σ H _ _ _ I r h) fun _ s1 ⟨σ1,H1,I1,q1⟩=>?_);exact h2 kS s1 σ1 H1 _ _ Q I1 rr q1
def zjy (K:ag) (n:Nat) (t:TGs):TG:=fun v σ H Q=>∃ a xs,v = .ref a∧kZ K H a xs∧xs.length=n∧t xs σ H Q
theorem zbJ {es:List Expr} {k:Nat} {t:TGs} {n:Nat} (hc:X.calm=true) (h:PGs X es t)
  (hn:(assignEach es X.env).length=n:=by rfl) (lW:(assignEach es X.env).findIdx? (·.1)=none:=by rfl):PG X (.Tuple es k pos) (zjy X.K n t):=by
 intro kS s σ H v u Q I r hw;obtain⟨a,xs,e1,hq,hl,hw⟩:=hw;subst e1;cases r;obtain⟨kU,rv,ht,hz⟩:=I.tuple hq;refine assign_Tuple_tuple (I.ok.hd hc) ht (by simp [hn,← hl,rv.length]) lW fun h' hx=>?_
 have I1:Inv X kS σ H { s with heap:=h' }:=I.kept (t':=s.toks) fun b o e=>hx b o (ba (aK e)) e
 exact h kS _ σ H xs _ Q I1 (by simpa using rv) hw
def zn8 (to ti:TE) (t:zmx):TG:=fun v σ H Q=>to σ H fun o H1=>ti σ H1 fun i H2=>t o i v H2 fun H3=>Q σ H3
theorem zcF {o i:Expr} {to ti:TE} {t:zmx} (ho:PE X o to) (hi:PE X i ti) (hs:znq X t)
  (ha:∀ v,assign (.Subscript o i pos) X.env v=(do
   let ov ← holding [v] (eval o X.env)
   let iv ← holding [v,ov] (eval i X.env)
   standAt pos
   holding [v,ov,iv] (setItem ov iv v)
   release [v,ov,iv] []):=by intro _; rfl):PG X (.Subscript o i pos) (zn8 to ti t):=by
 intro kS s σ H v u Q I r h;rw [ha];refine ae (bS (thn (ho kS s σ H _ I h) fun ov s1 ⟨x,H1,I1,r1,q1⟩=>?_));refine ae (bS (thn (hi kS s1 σ H1 _ I1 q1) fun iv s2 ⟨y,H2,I2,r2,q2⟩=>?_));refine ae (eY (ae (bS (thn (hs kS s2 σ H2 x y v ov iv u _ I2 r1 r2 r q2) fun _ s3 ⟨H3,I3,q3⟩=>?_))));exact wpAny_release ⟨σ,H3,I3,q3⟩
def zgW (te:TE) (g:TG):TS:=fun D σ H=>te σ H fun x H1=>g x σ H1 D.nx
theorem zbK {tg e:Expr} {te:TE} {g:TG} (he:PE X e te) (hg:PG X tg g) (hs:swapsWithSole [tg] e pos.line X.env=pure false:=by rfl) (hw:swappedStores [tg] e X.env=pure none:=by rfl)
  (h1:(assignEach [tg] X.env).map (·.2) = [assign tg X.env]:=by rfl):PS X (.Assign [tg] e pos) (zgW te g):=by
 intro kS s σ H D I h;refine wpAny_Assign_stores (thn (he kS s σ H _ I h) fun v s1 ⟨x,H1,I1,r1,q1⟩=>?_) hs hw;rw [h1];exact thn (hg kS s1 σ H1 x v _ I1 r1 q1) fun _ s2 q=>q
theorem zo {i:Nat} {x:Str} {e:Expr} {te:TE} {pos':Pos} (hN:X.N.Nodup) (hi:X.N[i]? = some x) (hx:Loc X.env.scope x) (he:PE X e te) (hs:swapsWith e (some (.Name x pos')) pos.line X.env=pure false:=by rfl) (hf:X.fn x=true∨X.env.scope.names.lookup x=some .local:=by first | exact .inl rfl | exact .inr rfl | assumption) :
  PS X (.Assign [.Name x pos'] e pos) (zgW te (zaK i)):=by
 intro kS s σ H D I h;refine wpAny_Assign_Name (thn (he kS s σ H _ I h) fun v s1 ⟨y,H1,I1,r1,q1⟩=>?_) hs;exact zf4 I1 hN hi hx r1 (fun s2 I2=>⟨_,H1,I2,q1⟩) hf
end
structure It where
 go:Nat→Hp→Prop
 yld:Nat→Hp→V→Hp→Prop
 stop:Nat→Hp→Prop
def zb2 (X:Cx) (kS:List (Addr×Obj)) (H:Hp) (b:Addr):Prop :=
 H b=none∧b≠X.env.locals∧b∉X.fs∧(b∈X.ex∨X.s₀.heap.objs.size≤b)∧(∀ x c,X.env.cells.lookup x=some c→c≠b)∧∀ p∈X.pn++kS,p.1≠b
theorem Inv.fpOk {X:Cx} {kS:List (Addr×Obj)} {σ:St} {H H':Hp} {s:Shared} {b:Addr} (I:Inv X kS σ H s) (hb:s.heap.objs.size≤b) (hn:H' b=none):zb2 X kS H' b:=by
 refine⟨hn,hX (bj I.lt hb),I.nofs hb,.inr (bi I.sz hb),fun x c e z=>?_,fun p hp z=>?_⟩
 ·obtain⟨v,q⟩:=I.cell x c e;exact absurd (bj q.lt (by rw [z]; exact hb)) (bW _)
 ·exact absurd (bj (aK (I.pin p hp).1) (by rw [z]; exact hb)) (bW _)
structure Turn (P:Program) (w:World) (K:ag) (tg:Expr) (J:It) (fp:List Addr) (it:Addr) (tn:Nat→Heap→Prop):Prop where
 mem:it∈fp
 obj:∀ i h,tn i h→∀ b∈fp,∃ o,h.get? b=some o∧∀ v,o.data≠.cell v
 keep:∀ i h h',tn i h→(∀ b∈fp,∀ o,h.get? b=some o→h'.get? b=some o)→tn i h'
 item:∀ (X:Cx),X.prog=P→X.w=w→X.K=K→X.calm=true→∀ (i:Nat) (kS:List (Addr×Obj)) (s:Shared) (σ:St) (H:Hp) (E:Value→Shared→Prop),Inv X kS σ H s→(∀ b∈fp,zb2 X kS H b)→tn i s.heap→J.go i H →
  wpAny (model P w) X.A (pyNext (.ref it)) (fun r s1=>∃ u,r=some u ∧
   wpAny (model P w) X.A (letOwnedTupleGo tg (.ref it) u) (fun _ s2=>∃ x H',Inv X kS σ H' s2∧RelV x u∧J.yld i H x H'∧tn (i+1) s2.heap∧∀ b∈fp,H' b=none) E s1) E s
 done:∀ (X:Cx),X.prog=P→X.w=w→X.K=K→X.calm=true→∀ (i:Nat) (kS:List (Addr×Obj)) (s:Shared) (σ:St) (H:Hp) (E:Value→Shared→Prop),Inv X kS σ H s→(∀ b∈fp,zb2 X kS H b)→tn i s.heap→J.stop i H →
  wpAny (model P w) X.A (pyNext (.ref it)) (fun r s1=>r=none∧Inv X kS σ H s1) E s
 self:∀ (A:Around) (i:Nat) (s:Shared) (Q:Value→Shared→Prop) (E:Value→Shared→Prop),tn i s.heap→Q (.ref it) s→wpAny (model P w) A (pyIter (.ref it)) Q E s
abbrev TI:=St→Hp→(It→Hp→Prop)→Prop
def PIE (X:Cx) (kS:List (Addr×Obj)) (σ:St) (tg:Expr) (R:It→Hp→Prop) (uY:Value) (s2:Shared):Prop :=
 ∃ (it:Addr) (fp:List Addr) (tn:Nat→Heap→Prop) (J:It) (H':Hp),uY = .ref it∧Inv X kS σ H' s2∧Turn X.prog X.w X.K tg J fp it tn∧tn 0 s2.heap∧(∀ b∈fp,zb2 X kS H' b)∧R J H'
def PI (X:Cx) (tg iter:Expr) (wi:TI):Prop :=
 ∀ (kS:List (Addr×Obj)) (s:Shared) (σ:St) (H:Hp) (R:It→Hp→Prop),Inv X kS σ H s→wi σ H R →
  wpAny (model X.prog X.w) X.A (eval iter X.env) (fun v s1=>wpAny (model X.prog X.w) X.A (pyIter v) (PIE X kS σ tg R) X.xe s1) X.xe s
theorem zeG {M:Model} {A:Around} {E:Value→Shared→Prop} {s:Shared} {tg:Expr} {it:Addr} {u:Value} {o:Obj} {n:String} {vs:Array Value} {Q:Unit→Shared→Prop} (ho:s.heap.get? it=some o) (hc:o.cls = .type n) (hd:o.data = .fields vs)
  (hn:["enumerate","zip","dict_itemiterator","dict_reverseitemiterator","odict_iterator","itertools.zip_longest","itertools.pairwise"].contains n=false) (hQ:Q () s):wpAny M A (letOwnedTupleGo tg (.ref it) u) Q E s:=by
 unfold letOwnedTupleGo;cases tg <;> first
  | exact aj hQ
  | (cases u <;> first
    | exact aj hQ
    | (refine ae (wpAny_load ho ?_)
       rw [hc,hd];show wpAny M A (if (["enumerate","zip","dict_itemiterator","dict_reverseitemiterator","odict_iterator","itertools.zip_longest","itertools.pairwise"].contains n && vs[0]? == some (rawInt _))=true then _ else _) Q E s;rw [if_neg (by intro h; rw [hn,Bool.false_and] at h; cases h)];exact aj hQ))
def Itl (K:ag) (a:Addr):It :=
 ⟨fun i H=>∃ xs x,kT K H a xs∧xs[i]? = some x,fun i H x H'=>H'=H∧∀ xs,kT K H a xs→xs[i]? = some x,fun i H=>∃ xs,kT K H a xs∧xs.length≤i⟩
def Itt (K:ag) (a:Addr):It :=
 ⟨fun i H=>∃ xs x,kZ K H a xs∧xs[i]? = some x,fun i H x H'=>H'=H∧∀ xs,kZ K H a xs→xs[i]? = some x,fun i H=>∃ xs,kZ K H a xs∧xs.length≤i⟩
def Itr (lo:Int) (n:Nat):It:=⟨fun i _=>i < n,fun i H x H'=>H'=H∧x = .int (lo+i),fun i _=>n≤i⟩
theorem zeH {P:Program} {w:World} {K:ag} {tg:Expr} (a it:Addr):Turn P w K tg (Itl K a) [it] it (fun i h=>h.IsListIter it a i) where
 mem:=by simp
 obj:=fun i h st b hb=>by
  have e:b=it:=by simpa using hb
  subst e;obtain⟨o,e,c,d⟩:=st;exact⟨o,e,fun v z=>by rw [d] at z; cases z⟩
 keep:=fun i h h' st k=>st.at fun o e=>k it #[M] o e
 item:=by
  intro X hP hw hK hc i kS s σ H E I hf st hg;subst hP hw hK;obtain⟨xs,x,hq,hx⟩:=hg;obtain⟨kU,rv,p,hz⟩:=I.list hq;obtain⟨u,hu,ru⟩:=rv.get hx;obtain⟨f0,f1,f2,f3,f4,f5⟩:=hf it #[M];refine wpAny_pyNext_list_item st p.isList (x:=u) (by simpa using hu) fun h' kW sb=>?_
  have I1:Inv X kS σ H { s with heap:=h' }:=I.turned (t':=s.toks) (fun b o hb e=>(sb.2 b hb).trans e) f0 f1 f3 f4 f5;obtain⟨o,e,c,d⟩:=id kW;exact⟨u,rfl,zeG (s:={ s with heap:=h' }) e c d #[D] ⟨x,H,I1,ru,⟨rfl,fun ys hy=>by rw [I.list_inj hy hq]; exact hx⟩,kW,fun b hb=>(hf b hb).1⟩⟩
 done:=by
  intro X hP hw hK hc i kS s σ H E I hf st hg;subst hP hw hK;obtain⟨xs,hq,hx⟩:=hg;obtain⟨kU,rv,p,hz⟩:=I.list hq;obtain⟨f0,f1,f2,f3,f4,f5⟩:=hf it #[M];have hl:=rv.length;exact wpAny_pyNext_list_end (I.ok.hd hc) st p.isList (by simp; lia) fun h' eb=>⟨rfl,I.turned (t':=s.toks) (fun b o hb e=>eb b o hb e) f0 f1 f3 f4 f5⟩
 self:=fun _ _ _ _ _ st h=>wpAny_pyIter_listiter st h
theorem zdT {P:Program} {w:World} {K:ag} {tg:Expr} (a it:Addr):Turn P w K tg (Itt K a) [it] it (fun i h=>h.IsTupleIter it a i) where
 mem:=by simp
 obj:=fun i h st b hb=>by
  have e:b=it:=by simpa using hb
  subst e;obtain⟨o,e,c,d⟩:=st;exact⟨o,e,fun v z=>by rw [d] at z; cases z⟩
 keep:=fun i h h' st k=>st.at fun o e=>k it #[M] o e
 item:=by
  intro X hP hw hK hc i kS s σ H E I hf st hg;subst hP hw hK;obtain⟨xs,x,hq,hx⟩:=hg;obtain⟨kU,rv,p,hz⟩:=I.tuple hq;obtain⟨u,hu,ru⟩:=rv.get hx;obtain⟨f0,f1,f2,f3,f4,f5⟩:=hf it #[M];refine wpAny_pyNext_tuple_item st (show s.heap.IsTuple a kU.toArray from p) (x:=u) (by simpa using hu) fun h' kW sb=>?_
  have I1:Inv X kS σ H { s with heap:=h' }:=I.turned (t':=s.toks) (fun b o hb e=>(sb.2 b hb).trans e) f0 f1 f3 f4 f5;obtain⟨o,e,c,d⟩:=id kW;exact⟨u,rfl,zeG (s:={ s with heap:=h' }) e c d #[D] ⟨x,H,I1,ru,⟨rfl,fun ys hy=>by rw [I.tuple_inj hy hq]; exact hx⟩,kW,fun b hb=>(hf b hb).1⟩⟩
 done:=by
  intro X hP hw hK hc i kS s σ H E I hf st hg;subst hP hw hK;obtain⟨xs,hq,hx⟩:=hg;obtain⟨kU,rv,p,hz⟩:=I.tuple hq;obtain⟨f0,f1,f2,f3,f4,f5⟩:=hf it #[M];have hl:=rv.length;exact wpAny_pyNext_tuple_end (I.ok.hd hc) st (show s.heap.IsTuple a kU.toArray from p) (by simp; lia) fun h' eb=>⟨rfl,I.turned (t':=s.toks) (fun b o hb e=>eb b o hb e) f0 f1 f3 f4 f5⟩
 self:=fun _ _ _ _ _ st h=>wpAny_pyIter_tupleiter st h
theorem zgX {P:Program} {w:World} {K:ag} {tg:Expr} (it:Addr) (lo:Int) (n:Nat):Turn P w K tg (Itr lo n) [it] it (fun i h=>IsRangeIter h it (lo+(i:Nat)*1) ((n:Int) - (i:Nat)) 1) where
 mem:=by simp
 obj:=fun i h st b hb=>by
  have e:b=it:=by simpa using hb
  subst e;exact⟨_,st,fun v z=>by
   have z':iJ _=Data.cell v:=z;cases z'⟩
 keep:=fun i h h' st k=>k it #[M] _ st
 item:=by
  intro X hP hw hK hc i kS s σ H E I hf st hg;subst hP hw hK;obtain⟨f0,f1,f2,f3,f4,f5⟩:=hf it #[M];have W:=Walks.range (prog:=X.prog) (w:=X.w) (I.ok.hd hc) it lo 1 n;refine W.item i s _ _ hg st fun v h' tk hv kW kk=>?_
  obtain⟨t,rfl⟩:=hv;have I1:Inv X kS σ H { s with heap:=h',toks:=tk }:=I.turned (fun b o hb e=>kk b o (by simpa using hb) e) f0 f1 f3 f4 f5;refine⟨_,rfl,zeG (s:={ s with heap:=h',toks:=tk }) (n:="range_iterator") kW rfl rfl #[D] ⟨.int (lo+i),H,I1,⟨t,?_⟩,⟨rfl,rfl⟩,kW,fun b hb=>(hf b hb).1⟩⟩;rw [Int.mul_one]
 done:=by
  intro X hP hw hK hc i kS s σ H E I hf st hg;subst hP hw hK;obtain⟨f0,f1,f2,f3,f4,f5⟩:=hf it #[M];exact iK (I.ok.hd hc) st (by have:n≤i:=hg; lia) fun h' eb=>⟨rfl,I.turned (t':=s.toks) (fun b o hb e=>eb b o hb e) f0 f1 f3 f4 f5⟩
 self:=fun _ _ _ _ _ st h=>fO st h
section
variable {X:Cx} {tg:Expr}
def zl8 (K:ag) (tl:TE):TI:=fun σ H R=>tl σ H fun x H1=>∃ a,x = .ref a∧(∃ xs,kT K H1 a xs)∧R (Itl K a) H1
def znr (K:ag) (tl:TE):TI:=fun σ H R=>tl σ H fun x H1=>∃ a,x = .ref a∧(∃ xs,kZ K H1 a xs)∧R (Itt K a) H1
theorem zaf {l:Expr} {tl:TE} (hl:PE X l tl):PI X tg l (zl8 X.K tl):=by
 intro kS s σ H R I h;refine thn (hl kS s σ H _ I h) fun v s1 ⟨x,H1,I1,r1,q1⟩=>?_
 obtain⟨a,e,⟨xs,hq⟩,q⟩:=q1;subst e;cases r1;obtain⟨kU,rv,p,hz⟩:=I1.list hq;refine fI p.isList ?_;refine⟨s1.heap.objs.size,[s1.heap.objs.size],_,_,H1,rfl,I1.kept (t':=s1.toks) fun b o e=>ak _ e,zeH a _,⟨_,aJ _ rfl,rfl,rfl⟩,fun b hb=>?_,q⟩;have e:b=s1.heap.objs.size:=by simpa using hb
 subst e;exact I1.fpOk (ah _) (I1.hok.fresh (ah _))
theorem zdf {l:Expr} {tl:TE} (hl:PE X l tl):PI X tg l (znr X.K tl):=by
 intro kS s σ H R I h;refine thn (hl kS s σ H _ I h) fun v s1 ⟨x,H1,I1,r1,q1⟩=>?_
 obtain⟨a,e,⟨xs,hq⟩,q⟩:=q1;subst e;cases r1;obtain⟨kU,rv,p,hz⟩:=I1.tuple hq;refine fh (show s1.heap.IsTuple a kU.toArray from p) ?_;refine⟨s1.heap.objs.size,[s1.heap.objs.size],_,_,H1,rfl,I1.kept (t':=s1.toks) fun b o e=>ak _ e,zdT a _,⟨_,aJ _ rfl,rfl,rfl⟩,fun b hb=>?_,q⟩;have e:b=s1.heap.objs.size:=by simpa using hb
 subst e;exact I1.fpOk (ah _) (I1.hok.fresh (ah _))
theorem zf6 {kS:List (Addr×Obj)} {σ:St} {H:Hp} {s:Shared} {R:It→Hp→Prop} {E:Value→Shared→Prop} {lo hi:Int} {t u v:Tok} {tk:Nat} (I:Inv X kS σ H s) (h1:-(2 ^ 62)≤lo) (h2:lo < 2 ^ 62) (h3:-(2 ^ 62)≤hi) (h4:hi < 2 ^ 62)
  (q:R (Itr lo (hi - lo).toNat) H):wpAny (model X.prog X.w) X.A (pyIter (.ref s.heap.objs.size)) (PIE X kS σ tg R) E { s with heap:=s.heap.push { cls:=.type "range",data:=.fields #[.int lo t,.int hi u,.int 1 v] },toks:=tk }:=by
 refine wpAny_pyIter_range (IsRange.new ..) (small_one h1 h2 h3 h4) ?_;have I1:Inv X kS σ H { s with heap:=s.heap.push { cls:=.type "range",data:=.fields #[.int lo t,.int hi u,.int 1 v] },toks:=tk }:=I.kept fun b o e=>ak _ e
 refine⟨(s.heap.push { cls:=.type "range",data:=.fields #[.int lo t,.int hi u,.int 1 v] }).objs.size,[(s.heap.push { cls:=.type "range",data:=.fields #[.int lo t,.int hi u,.int 1 v] }).objs.size],_,_,H,rfl,
  I1.kept (t':=tk) fun b o e=>ak _ e,zgX _ lo (hi - lo).toNat,?_,fun b hb=>?_,q⟩
 ·have e1:lo+((0:Nat):Int)*1=lo:=by simp
  have e2:(((hi - lo).toNat:Nat):Int) - ((0:Nat):Int)=bo lo hi 1:=by rw [rangeSize_one]; split <;> lia
  show IsRangeIter _ _ (lo+((0:Nat):Int)*1) ((((hi - lo).toNat:Nat):Int) - ((0:Nat):Int)) 1;rw [e1,e2];exact aJ _ rfl
 ·have e:b=(s.heap.push { cls:=.type "range",data:=.fields #[.int lo t,.int hi u,.int 1 v] }).objs.size:=by simpa using hb
  subst e;exact I1.fpOk (ah _) (I1.hok.fresh (ah _))
def zns (ta:TA):TI:=fun σ H R=>ta σ H fun vs H1=>∃ j:Int,vs = [.int j]∧-(2 ^ 62)≤j∧j < 2 ^ 62∧R (Itr 0 j.toNat) H1
def znt (ta:TA):TI:=fun σ H R=>ta σ H fun vs H1=>∃ i j:Int,vs = [.int i,.int j]∧(-(2 ^ 62)≤i∧i < 2 ^ 62∧-(2 ^ 62)≤j∧j < 2 ^ 62)∧R (Itr i (j - i).toNat) H1
theorem zac {a:Expr} {ta:TA} {p pos:Pos} (hg:Gl X "range") (hm:X.mg "range" = none) (ha:PA X [a] ta) (hs:starEach [a] X.env = [(false,eval a X.env)]:=by rfl):PI X tg (.Call (.Name "range" p) [a] [] pos) (zns ta):=by
 intro kS s σ H R I h;refine Call_ (za5 I hg hm i8 (bA (thn (ha pos kS s σ H _ I h) fun us s1 ⟨vs,H1,I1,r1,q1⟩=>?_) hs rfl));obtain⟨j,e,q1,q2,q⟩:=q1;subst e;cases r1 with
 | cons r rr =>
  cases rr;obtain⟨t,rfl⟩:=r;exact call_range_1 (zf6 I1 #[O] #[O] q1 q2 (by simpa using q))
theorem ziE {a b:Expr} {ta:TA} {p pos:Pos} (hg:Gl X "range") (hm:X.mg "range" = none) (ha:PA X [a,b] ta) (hs:starEach [a,b] X.env = [(false,eval a X.env),(false,eval b X.env)]:=by rfl) (o6:starEach [b] X.env = [(false,eval b X.env)]:=by rfl) :
  PI X tg (.Call (.Name "range" p) [a,b] [] pos) (znt ta):=by
 intro kS s σ H R I h;refine Call_ (za5 I hg hm i8 (bA (thn (ha pos kS s σ H _ I h) fun us s1 ⟨vs,H1,I1,r1,q1⟩=>?_) (by rw [hs,o6]) (by rw [o6]; rfl)));obtain⟨i,j,e,⟨q1,q2,q3,q4⟩,q⟩:=q1;subst e;cases r1 with
 | cons r rr =>
  cases rr with
  | cons r' rr =>
   cases rr;obtain⟨t,rfl⟩:=r;obtain⟨t',rfl⟩:=r';exact call_range_2 (zf6 I1 q1 q2 q3 q4 q)
def zn9 (wi:TI) (g:TG) (tb:TS):TS:=fun D σ H=>wi σ H fun J H1=>∃ W:Nat→Nat→St→Hp→Prop,(∃ m,W 0 m σ H1)∧∀ i m σ H,W i m σ H →
 (J.stop i H∧D.nx σ H)∨(J.go i H∧∃ N:St→Hp→Prop,(∀ σ' H',N σ' H'→∃ m',m' < m∧W (i+1) m' σ' H')∧∀ x H',J.yld i H x H'→g x σ H' fun σ2 H2=>tb { D with nx:=N,ct:=N,bk:=D.nx } σ2 H2)
def zb3 (fp:List Addr) (h:Heap):List (Addr×Obj):=fp.filterMap fun b=>(h.get? b).map fun o=>(b,o)
theorem zbL {fp:List Addr} {h:Heap} {b:Addr} {o:Obj} (hb:b∈fp) (e:h.get? b=some o):(b,o)∈zb3 fp h:=fi.mpr ⟨b,hb,by rw [e]; rfl⟩
theorem zeI {fp:List Addr} {h:Heap} {p:Addr×Obj} (hp:p∈zb3 fp h):p.1∈fp∧h.get? p.1=some p.2:=by
 obtain⟨b,hb,e⟩:=fi.mp hp;cases q:h.get? b with
 | none=>rw [q] at e; cases e
 | some o =>
  rw [q] at e;have e':(b,o)=p:=bf e;subst e';exact⟨hb,q⟩
theorem Inv.pinned {kS:List (Addr×Obj)} {σ:St} {H:Hp} {s:Shared} {fp:List Addr} (I:Inv X kS σ H s) (hf:∀ b∈fp,zb2 X kS H b) (ho:∀ b∈fp,∃ o,s.heap.get? b=some o∧∀ v,o.data≠.cell v):Inv X (kS++zb3 fp s.heap) σ H s :=
 I.pins_of fun p hp=>(aP.mp hp).elim (fun z=>I.pin p (aE _ z)) fun z=>by
  obtain⟨hb,e⟩:=zeI z;obtain⟨f0,f1,f2,_⟩:=hf p.1 hb;obtain⟨o,e',d⟩:=ho p.1 hb;rw [e] at e'; cases e';exact⟨e,f0,f1,f2,d⟩
theorem Inv.unpinned {kS pl:List (Addr×Obj)} {σ:St} {H:Hp} {s:Shared} (I:Inv X (kS++pl) σ H s):Inv X kS σ H s:=I.pins_of fun p hp=>I.pin p (aE _ (aY _ hp))
theorem zal {iter:Expr} {body:List Stmt} {wi:TI} {g:TG} {tb:TS} {pos:Pos} (hp:PassesOwn (model X.prog X.w) X.A X.env X.xe) (hc:X.calm=true) (hi:PI X tg iter wi) (hg:PG X tg g) (hb:PSs X body tb)
  (hs:∀ x,foldedSetIterable iter X.env x=pure x:=by intro _; rfl):PS X (.For tg iter body [] pos) (zn9 wi g tb):=by
 intro kS s σ H D I h;refine wpAny_For (thn (hi kS s σ H _ I h) fun v s1 h1=>thn h1 fun uY s2 h2=>?_) hs;obtain⟨it,fp,tn,J,H2,e,I2,T,mE,f2,W,⟨m0,w0⟩,turn⟩:=h2;subst e;have uZ:∀ {H':Hp},(∀ b∈fp,H' b=none)→∀ b∈fp,zb2 X kS H' b:=fun hn b hb=>⟨hn b hb,(f2 b hb).2⟩
 refine codeAny_forLoop_any (fun n s'=>∃ i σ' H',Inv X kS σ' H' s'∧tn i s'.heap∧(∀ b∈fp,H' b=none)∧W i n σ' H') ?_ m0 ⟨0,σ,H2,I2,mE,fun b hb=>(f2 b hb).1,w0⟩;rintro n s3 ⟨i,σ3,H3,I3,yY,fr3,w3⟩;rcases turn i n σ3 H3 w3 with ⟨stop,qn⟩ | ⟨go,N,hN,step⟩
 ·refine fb hp (thn (T.done X rfl rfl rfl hc i kS s3 σ3 H3 X.xe I3 (uZ fr3) yY stop) fun r s4 ⟨hr,I4⟩=>?_);subst hr;exact iC ⟨σ3,H3,I4,qn⟩
 ·refine fb hp (thn (T.item X rfl rfl rfl hc i kS s3 σ3 H3 X.xe I3 (uZ fr3) yY go) fun r s4 ⟨u,hr,h4⟩=>?_);subst hr;refine fb hp (thn h4 fun _ s5 ⟨x,H5,I5,r5,y5,wj,fr5⟩=>?_);have I5':=I5.pinned (uZ fr5) (T.obj _ _ wj);refine fb hp (thn (hg _ s5 σ3 H5 x u _ I5' r5 (step x H5 y5)) fun _ s6 ⟨σ6,H6,I6,q6⟩=>?_);refine fb hp (thn (hb _ s6 σ6 H6 _ I6 q6) fun f s7 q7=>?_);have again:∀ {σ7:St} {H7:Hp},Inv X (kS++zb3 fp s5.heap) σ7 H7 s7→N σ7 H7→∃ m,m < n∧∃ i σ' H',Inv X kS σ' H' s7∧tn i s7.heap∧(∀ b∈fp,H' b=none)∧W i m σ' H':=fun {σ7 H7} I7 n7=>by
   obtain⟨m',hm,w7⟩:=hN σ7 H7 n7;refine⟨m',hm,i+1,σ7,H7,I7.unpinned,T.keep _ _ _ wj fun b hb o e=>(I7.pin (b,o) (aE _ (aE _ (zbL hb e)))).1,fun b hb=>?_,w7⟩;obtain⟨o,e,d⟩:=T.obj _ _ wj b hb;exact (I7.pin (b,o) (aE _ (aE _ (zbL hb e)))).2.1
  cases f with
  | next=>obtain⟨σ7,H7,I7,n7⟩:=q7; exact again I7 n7
  | cont=>obtain⟨σ7,H7,I7,n7⟩:=q7; exact again I7 n7
  | brk=>obtain⟨σ7,H7,I7,q7⟩:=q7; exact⟨σ7,H7,I7.unpinned,q7⟩
  | ret v=>obtain⟨x7,σ7,H7,I7,r7,q7⟩:=q7; exact⟨x7,σ7,H7,I7.unpinned,r7,q7⟩
end
theorem zjz {K:ag} {a:Addr} {xs:List V} {g:TG} {tb:TS} {D:Ends} {σ:St} {H:Hp} (Pv:Nat→St→Hp→Prop) (h0:Pv 0 σ H) (hl:∀ i σ H,i≤xs.length→Pv i σ H→kT K H a xs)
  (hs:∀ i x σ H,xs[i]? = some x→Pv i σ H→g x σ H fun σ2 H2=>tb { D with nx:=Pv (i+1),ct:=Pv (i+1),bk:=D.nx } σ2 H2) (hd:∀ σ H,Pv xs.length σ H→D.nx σ H) :
  ∃ W:Nat→Nat→St→Hp→Prop,(∃ m,W 0 m σ H)∧∀ i m σ H,W i m σ H →
   ((Itl K a).stop i H∧D.nx σ H)∨((Itl K a).go i H∧∃ N:St→Hp→Prop,(∀ σ' H',N σ' H'→∃ m',m' < m∧W (i+1) m' σ' H')∧∀ x H',(Itl K a).yld i H x H'→g x σ H' fun σ2 H2=>tb { D with nx:=N,ct:=N,bk:=D.nx } σ2 H2):=by
 refine⟨fun i m σ H=>m=xs.length - i∧i≤xs.length∧Pv i σ H,⟨xs.length,#[M],bp _,h0⟩,?_⟩;rintro i m σ H ⟨rfl,hi,p⟩;have q:=hl i σ H hi p;by_cases k9:i < xs.length
 ·refine .inr ⟨⟨xs,xs[i],q,by simp [k9]⟩,Pv (i+1),fun σ' H' p'=>⟨xs.length - (i+1),#[O],rfl,k9,p'⟩,fun x H' y=>?_⟩;obtain⟨e,y⟩:=y;subst e;exact hs i x σ _ (y xs q) p
 ·have e:i=xs.length:=by lia
  subst e;exact .inl ⟨⟨xs,q,ah _⟩,hd σ H p⟩
theorem zk9 {K:ag} {a:Addr} {xs:List V} {g:TG} {tb:TS} {D:Ends} {σ:St} {H:Hp} (Pv:Nat→St→Hp→Prop) (h0:Pv 0 σ H) (hl:∀ i σ H,i≤xs.length→Pv i σ H→kZ K H a xs)
  (hs:∀ i x σ H,xs[i]? = some x→Pv i σ H→g x σ H fun σ2 H2=>tb { D with nx:=Pv (i+1),ct:=Pv (i+1),bk:=D.nx } σ2 H2) (hd:∀ σ H,Pv xs.length σ H→D.nx σ H) :
  ∃ W:Nat→Nat→St→Hp→Prop,(∃ m,W 0 m σ H)∧∀ i m σ H,W i m σ H →
   ((Itt K a).stop i H∧D.nx σ H)∨((Itt K a).go i H∧∃ N:St→Hp→Prop,(∀ σ' H',N σ' H'→∃ m',m' < m∧W (i+1) m' σ' H')∧∀ x H',(Itt K a).yld i H x H'→g x σ H' fun σ2 H2=>tb { D with nx:=N,ct:=N,bk:=D.nx } σ2 H2):=by
 refine⟨fun i m σ H=>m=xs.length - i∧i≤xs.length∧Pv i σ H,⟨xs.length,#[M],bp _,h0⟩,?_⟩;rintro i m σ H ⟨rfl,hi,p⟩;have q:=hl i σ H hi p;by_cases k9:i < xs.length
 ·refine .inr ⟨⟨xs,xs[i],q,by simp [k9]⟩,Pv (i+1),fun σ' H' p'=>⟨xs.length - (i+1),#[O],rfl,k9,p'⟩,fun x H' y=>?_⟩;obtain⟨e,y⟩:=y;subst e;exact hs i x σ _ (y xs q) p
 ·have e:i=xs.length:=by lia
  subst e;exact .inl ⟨⟨xs,q,ah _⟩,hd σ H p⟩
theorem ziF {lo:Int} {n:Nat} {g:TG} {tb:TS} {D:Ends} {σ:St} {H:Hp} (Pv:Nat→St→Hp→Prop) (h0:Pv 0 σ H)
  (hs:∀ i σ H,i < n→Pv i σ H→g (.int (lo+i)) σ H fun σ2 H2=>tb { D with nx:=Pv (i+1),ct:=Pv (i+1),bk:=D.nx } σ2 H2) (hd:∀ σ H,Pv n σ H→D.nx σ H) :
  ∃ W:Nat→Nat→St→Hp→Prop,(∃ m,W 0 m σ H)∧∀ i m σ H,W i m σ H →
   ((Itr lo n).stop i H∧D.nx σ H)∨((Itr lo n).go i H∧∃ N:St→Hp→Prop,(∀ σ' H',N σ' H'→∃ m',m' < m∧W (i+1) m' σ' H')∧∀ x H',(Itr lo n).yld i H x H'→g x σ H' fun σ2 H2=>tb { D with nx:=N,ct:=N,bk:=D.nx } σ2 H2):=by
 refine⟨fun i m σ H=>m=n - i∧i≤n∧Pv i σ H,⟨n,#[M],bp _,h0⟩,?_⟩;rintro i m σ H ⟨rfl,hi,p⟩;by_cases k9:i < n
 ·refine .inr ⟨k9,Pv (i+1),fun σ' H' p'=>⟨n - (i+1),#[O],rfl,k9,p'⟩,fun x H' y=>?_⟩;obtain⟨e,y⟩:=y;subst e y;exact hs i σ _ k9 p
 ·have e:i=n:=by lia
  subst e;exact .inl ⟨ah _,hd σ H p⟩
abbrev R2:=V→V→Hp→VK→Prop
def OpR (X:Cx) (f:Value→Value→Sem Value) (r:R2):Prop :=
 ∀ (kS:List (Addr×Obj)) (s:Shared) (σ:St) (H:Hp) (x y:V) (v u:Value) (Q:VK),Inv X kS σ H s→RelV x v→RelV y u→r x y H Q →
  wpAny (model X.prog X.w) X.A (f v u) (EP X kS σ Q) X.xe s
def UnR (X:Cx) (f:Value→Sem Value) (r:V→Hp→VK→Prop):Prop :=
 ∀ (kS:List (Addr×Obj)) (s:Shared) (σ:St) (H:Hp) (x:V) (v:Value) (Q:VK),Inv X kS σ H s→RelV x v→r x H Q →
  wpAny (model X.prog X.w) X.A (f v) (EP X kS σ Q) X.xe s
def za8 (X:Cx) (f:Value) (r:List V→Hp→VK→Prop):Prop :=
 ∀ (kS:List (Addr×Obj)) (s:Shared) (σ:St) (H:Hp) (xs:List V) (us:List Value) (Q:VK),Inv X kS σ H s→zE xs us→r xs H Q →
  wpAny (model X.prog X.w) X.A (call f us) (EP X kS σ Q) X.xe s
def zoa (X:Cx) (r:V→Hp→(Bool→Hp→Prop)→Prop):Prop :=
 ∀ (kS:List (Addr×Obj)) (s:Shared) (σ:St) (H:Hp) (x:V) (v:Value) (Q:Bool→Hp→Prop),Inv X kS σ H s→RelV x v→r x H Q →
  wpAny (model X.prog X.w) X.A (truthy v) (TP X kS σ Q) X.xe s
def tOp (r:R2) (ta tb:TE):TE:=fun σ H Q=>ta σ H fun x H1=>tb σ H1 fun y H2=>r x y H2 Q
def tUn (r:V→Hp→VK→Prop) (ta:TE):TE:=fun σ H Q=>ta σ H fun x H1=>r x H1 Q
def rI (C:Int→Int→Prop) (g:Int→Int→V):R2:=fun x y H Q=>∃ i j,x = .int i∧y = .int j∧C i j∧Q (g i j) H
def rI0 (g:Int→Int→V):R2:=fun x y H Q=>∃ i j,x = .int i∧y = .int j∧Q (g i j) H
def rU (g:Int→V):V→Hp→VK→Prop:=fun x H Q=>∃ i,x = .int i∧Q (g i) H
section
variable {X:Cx} {a b c:Expr} {ta tb tc:TE} {pos:Pos}
theorem zmy (ha:PE X a ta) (hb:PE X b tb) {kS:List (Addr×Obj)} {s:Shared} {σ:St} {H:Hp} {R:V→V→Hp→Prop} (I:Inv X kS σ H s)
  (h:ta σ H fun x H1=>tb σ H1 fun y H2=>R x y H2) {Q:Value→Shared→Prop} {f:Value→Value→Sem Value}
  (hf:∀ v u s2 x y H2,Inv X kS σ H2 s2→RelV x v→RelV y u→R x y H2→wpAny (model X.prog X.w) X.A (f v u) Q X.xe s2) :
  wpAny (model X.prog X.w) X.A (eval a X.env) (fun v s₁=>wpAny (model X.prog X.w) X.A (eval b X.env) (fun u s₂=>wpAny (model X.prog X.w) X.A (f v u) Q X.xe s₂) X.xe s₁) X.xe s:=by
 refine thn (ha kS s σ H _ I h) fun v s1 ⟨x,H1,I1,r1,q1⟩=>?_
 refine thn (hb kS s1 σ H1 _ I1 q1) fun u s2 ⟨y,H2,I2,r2,q2⟩=>?_
 exact hf v u s2 x y H2 I2 r1 r2 q2
theorem zg {op:Operator} {r:R2} (ho:OpR X (binaryOp op) r) (ha:PE X a ta) (hb:PE X b tb):PE X (.BinOp a op b pos) (tOp r ta tb):=by
 intro kS s σ H Q I h;exact wpAny_BinOp (zmy ha hb I h fun v u s2 x y H2 I2 rx ry q=>ho kS s2 σ H2 x y v u Q I2 rx ry q)
theorem zjA {op:UnaryOp} {r:V→Hp→VK→Prop} (ho:UnR X (unaryOp op) r) (ha:PE X a ta):PE X (.UnaryOp op a pos) (tUn r ta):=by
 intro kS s σ H Q I h;exact UnaryOp_ (thn (ha kS s σ H _ I h) fun v s1 ⟨x,H1,I1,r1,q1⟩=>ho kS s1 σ H1 x v Q I1 r1 q1)
theorem opI {f:Value→Value→Sem Value} {C:Int→Int→Prop} {g:Int→Int→Int}
  (rule:∀ (i j:Int) (t u:Tok) (s:Shared) (Q:Value→Shared→Prop) (E:Value→Shared→Prop),C i j→Q (.int (g i j) s.toks) { s with toks:=s.toks+1 }→wpAny (model X.prog X.w) X.A (f (.int i t) (.int j u)) Q E s) :
  OpR X f (rI C fun i j=>.int (g i j)):=by
 intro kS s σ H x y v u Q I rx ry h;obtain⟨i,j,rfl,rfl,hc,q⟩:=h;obtain⟨t,rfl⟩:=rx;obtain⟨t',rfl⟩:=ry;exact rule i j t t' s _ _ hc ⟨.int (g i j),H,I.tok _,⟨_,rfl⟩,q⟩
theorem znu {f:Value→Value→Sem Value} {g:Int→Int→Int}
  (rule:∀ (i j:Int) (t u:Tok) (s:Shared) (Q:Value→Shared→Prop) (E:Value→Shared→Prop),Q (.int (g i j) s.toks) { s with toks:=s.toks+1 }→wpAny (model X.prog X.w) X.A (f (.int i t) (.int j u)) Q E s) :
  OpR X f (rI0 fun i j=>.int (g i j)):=by
 intro kS s σ H x y v u Q I rx ry h;obtain⟨i,j,rfl,rfl,q⟩:=h;obtain⟨t,rfl⟩:=rx;obtain⟨t',rfl⟩:=ry;exact rule i j t t' s _ _ ⟨.int (g i j),H,I.tok _,⟨_,rfl⟩,q⟩
theorem zmz {f:Value→Value→Sem Value} {g:Int→Int→Bool}
  (rule:∀ (i j:Int) (t u:Tok) (s:Shared) (Q:Value→Shared→Prop) (E:Value→Shared→Prop),Q (.bool (g i j)) s→wpAny (model X.prog X.w) X.A (f (.int i t) (.int j u)) Q E s) :
  OpR X f (rI0 fun i j=>.bl (g i j)):=by
 intro kS s σ H x y v u Q I rx ry h;obtain⟨i,j,rfl,rfl,q⟩:=h;obtain⟨t,rfl⟩:=rx;obtain⟨t',rfl⟩:=ry;exact rule i j t t' s _ _ ⟨.bl (g i j),H,I,rfl,q⟩
def zob (i j:Int):Prop:=0 < j∧j < 1073741824
def zoc (i j:Int):Prop:=0≤j∧j≤1000000∧i.natAbs < 2 ^ 64
def zmA (i j:Int):Prop:=(-(2 ^ 64) < i∧i < 2 ^ 64)∨(-(2 ^ 64) < j∧j < 2 ^ 64)
theorem zmA.ok {i j:Int} (h:zmA i j):IntMulOk i j:=by
 rcases h with ⟨h1,h2⟩ | ⟨h1,h2⟩
 ·exact .of_left (intBits_le_64 h1 h2)
 ·exact .of_right (intBits_le_64 h1 h2)
theorem zv:OpR X (binaryOp .Add) (rI0 fun i j=>.int (i+j)):=znu fun _ _ _ _ _ _ _ q=>add_int q
theorem za6:OpR X (binaryOp .Sub) (rI0 fun i j=>.int (i - j)):=znu fun _ _ _ _ _ _ _ q=>sub_int q
theorem zam:OpR X (binaryOp .Mult) (rI zmA fun i j=>.int (i*j)):=opI fun _ _ _ _ _ _ _ hc q=>mul_int q hc.ok
theorem zla:OpR X (binaryOp .FloorDiv) (rI zob fun i j=>.int (i / j)):=opI fun i j _ _ _ _ _ hc q=>by
 have h1:(0:Int) < j:=hc.1;have h2:j < 1073741824:=hc.2;exact floordiv_int #[O] (by rw [Int.fdiv_eq_ediv_of_nonneg i #[O]]; exact q) (.inl (PyProof.noPylong_small #[O]))
theorem zy:OpR X (binaryOp .Mod) (rI (fun _ j=>0 < j) fun i j=>.int (i % j)):=opI fun i j _ _ _ _ _ hc q=>by
 have h1:(0:Int) < j:=hc;exact mod_int' #[O] (by rw [Int.fmod_eq_emod_of_nonneg i #[O]]; exact q)
theorem zmB:OpR X (binaryOp .Pow) (rI zoc fun i j=>.int (i ^ j.toNat)):=opI fun _ _ _ _ _ _ _ hc q=>pow_int_small hc.1 hc.2.1 hc.2.2 q
theorem unI {f:Value→Sem Value} {g:Int→Int}
  (rule:∀ (i:Int) (t:Tok) (s:Shared) (Q:Value→Shared→Prop) (E:Value→Shared→Prop),Q (.int (g i) s.toks) { s with toks:=s.toks+1 }→wpAny (model X.prog X.w) X.A (f (.int i t)) Q E s) :
  UnR X f (rU fun i=>.int (g i)):=by
 intro kS s σ H x v Q I rx h;obtain⟨i,rfl,q⟩:=h;obtain⟨t,rfl⟩:=rx;exact rule i t s _ _ ⟨.int (g i),H,I.tok _,⟨_,rfl⟩,q⟩
theorem zgY:UnR X (unaryOp .USub) (rU fun i=>.int (-i)):=unI fun _ _ _ _ _ q=>neg_int q
end
def znv:V→V→Bool
 | .non,.non=>true | .non,.int _=>true | .int _,.non=>true | .non,.bl _=>true | .bl _,.non=>true | .non,.str _=>true | .str _,.non=>true
 | .int _,.int _=>true | .bl _,.bl _=>true | .str _,.str _=>true | .byt _,.byt _=>true
 | .int _,.str _=>true | .str _,.int _=>true | .bl _,.str _=>true | .str _,.bl _=>true
 | _,_=>false
def rEq:R2:=fun x y H Q=>znv x y=true∧Q (.bl (decide (x=y))) H
def rNe:R2:=fun x y H Q=>znv x y=true∧Q (.bl (!decide (x=y))) H
theorem zhC {i j:Int}:decide (V.int i=V.int j)=(i == j):=by
 rw [dX];simp
theorem zjB {i j:Bool}:decide (V.bl i=V.bl j)=(i == j):=by
 rw [dX];simp
theorem zhD {i j:Str}:decide (V.str i=V.str j)=(i == j):=by
 rw [dX];simp
theorem zhE {i j:Array UInt8}:decide (V.byt i=V.byt j)=(i.toList == j.toList):=by
 rw [dX];cases i;cases j;simp
section
variable {X:Cx} {a b c:Expr} {ta tb tc:TE} {pos:Pos}
theorem zP {kS:List (Addr×Obj)} {σ:St} {H:Hp} {s:Shared} {Q:VK} {k k':Bool} (I:Inv X kS σ H s) (q:Q (.bl k) H) (e:k=k'):EP X kS σ Q (.bool k') s:=by
 subst e;exact⟨.bl k,H,I,rfl,q⟩
theorem zdU:OpR X (compareOp .Eq) rEq:=by
 intro kS s σ H x y v u Q I rx ry h;obtain⟨hs,q⟩:=h;cases x with
 | non =>
  cases rx;cases y with
  | non=>cases ry; exact PySem.EqNone.eq_none_none (zP I q #[M])
  | bl j=>cases ry; exact PySem.EqNone.eq_none_bool (zP I q #[M])
  | int j=>obtain⟨t',rfl⟩:=ry; exact PySem.EqNone.eq_none_int (zP I q #[M])
  | str j=>obtain⟨t',rfl⟩:=ry; exact PySem.EqNone.eq_none_str (zP I q #[M])
  | _=>exact absurd (show false=true from hs) aZ
 | bl i =>
  cases rx;cases y with
  | non=>cases ry; exact PySem.EqNone.eq_bool_none (zP I q #[M])
  | bl j=>cases ry; exact eq_bool (zP I q zjB)
  | str j=>obtain⟨t',rfl⟩:=ry; exact PySem.EqMixed.eq_bool_str (zP I q #[M])
  | _=>exact absurd (show false=true from hs) aZ
 | int i =>
  obtain⟨t,rfl⟩:=rx;cases y with
  | non=>cases ry; exact PySem.EqNone.eq_int_none (zP I q #[M])
  | int j=>obtain⟨t',rfl⟩:=ry; exact eq_int (zP I q zhC)
  | str j=>obtain⟨t',rfl⟩:=ry; exact PySem.EqMixed.eq_int_str (zP I q #[M])
  | _=>exact absurd (show false=true from hs) aZ
 | str i =>
  obtain⟨t,rfl⟩:=rx;cases y with
  | non=>cases ry; exact PySem.EqNone.eq_str_none (zP I q #[M])
  | bl j=>cases ry; exact PySem.EqMixed.eq_str_bool (zP I q #[M])
  | int j=>obtain⟨t',rfl⟩:=ry; exact PySem.EqMixed.eq_str_int (zP I q #[M])
  | str j=>obtain⟨t',rfl⟩:=ry; exact eq_str (zP I q zhD)
  | _=>exact absurd (show false=true from hs) aZ
 | byt i =>
  obtain⟨t,rfl⟩:=rx;cases y with
  | byt j=>obtain⟨t',rfl⟩:=ry; exact PySem.W.eq_bytes (zP I q zhE)
  | _=>exact absurd (show false=true from hs) aZ
 | _=>cases y <;> exact absurd (show false=true from hs) aZ
theorem zjC:OpR X (compareOp .NotEq) rNe:=by
 intro kS s σ H x y v u Q I rx ry h;obtain⟨hs,q⟩:=h;cases x with
 | non =>
  cases rx;cases y with
  | non=>cases ry; exact PySem.EqNone.ne_none_none (zP I q #[M])
  | bl j=>cases ry; exact PySem.EqNone.ne_none_bool (zP I q #[M])
  | int j=>obtain⟨t',rfl⟩:=ry; exact PySem.EqNone.ne_none_int (zP I q #[M])
  | str j=>obtain⟨t',rfl⟩:=ry; exact PySem.EqNone.ne_none_str (zP I q #[M])
  | _=>exact absurd (show false=true from hs) aZ
 | bl i =>
  cases rx;cases y with
  | non=>cases ry; exact PySem.EqNone.ne_bool_none (zP I q #[M])
  | bl j=>cases ry; exact ne_bool (zP I q (congrArg not zjB))
  | str j=>obtain⟨t',rfl⟩:=ry; exact PySem.EqMixed.ne_bool_str (zP I q #[M])
  | _=>exact absurd (show false=true from hs) aZ
 | int i =>
  obtain⟨t,rfl⟩:=rx;cases y with
  | non=>cases ry; exact PySem.EqNone.ne_int_none (zP I q #[M])
  | int j=>obtain⟨t',rfl⟩:=ry; exact ne_int (zP I q (congrArg not zhC))
  | str j=>obtain⟨t',rfl⟩:=ry; exact PySem.EqMixed.ne_int_str (zP I q #[M])
  | _=>exact absurd (show false=true from hs) aZ
 | str i =>
  obtain⟨t,rfl⟩:=rx;cases y with
  | non=>cases ry; exact PySem.EqNone.ne_str_none (zP I q #[M])
  | bl j=>cases ry; exact PySem.EqMixed.ne_str_bool (zP I q #[M])
  | int j=>obtain⟨t',rfl⟩:=ry; exact PySem.EqMixed.ne_str_int (zP I q #[M])
  | str j=>obtain⟨t',rfl⟩:=ry; exact ne_str (zP I q (congrArg not zhD))
  | _=>exact absurd (show false=true from hs) aZ
 | byt i =>
  obtain⟨t,rfl⟩:=rx;cases y with
  | byt j=>obtain⟨t',rfl⟩:=ry; exact PySem.W.ne_bytes (zP I q (congrArg not zhE))
  | _=>exact absurd (show false=true from hs) aZ
 | _=>cases y <;> exact absurd (show false=true from hs) aZ
theorem znw:OpR X (compareOp .Lt) (rI0 fun i j=>.bl (decide (i < j))):=zmz fun _ _ _ _ _ _ _ q=>lt_int q
theorem zl9:OpR X (compareOp .Gt) (rI0 fun i j=>.bl (decide (j < i))):=zmz fun _ _ _ _ _ _ _ q=>gt_int q
theorem znx:OpR X (compareOp .GtE) (rI0 fun i j=>.bl (decide (j≤i))):=zmz fun _ _ _ _ _ _ _ q=>ge_int q
theorem zaD (b:Expr) {op:CmpOp} (h:op≠.In:=by decide) (h2:op≠.NotIn:=by decide):behindInMarks op b=false:=by
 have e1:(op == CmpOp.In)=false:=by cases op <;> first | rfl | exact absurd rfl h
 have e2:(op == CmpOp.NotIn)=false:=by cases op <;> first | rfl | exact absurd rfl h2
 cases b <;> simp [behindInMarks,e1,e2]
theorem zhF {op:CmpOp} {r:R2} (ho:OpR X (compareOp op) r) (ha:PE X a ta) (hb:PE X b tb) (hm:behindInMarks op b=false):PE X (.Compare a [op] [b] pos) (tOp r ta tb):=by
 intro kS s σ H Q I h;exact wpAny_Compare1 (zmy ha hb I h fun v u s2 x y H2 I2 rx ry q=>ho kS s2 σ H2 x y v u Q I2 rx ry q) hm
def zny (t:TE):TT:=fun σ H Q=>t σ H fun x H'=>∃ k,x = .bl k∧Q k H'
theorem zau {op:CmpOp} {r:R2} (ho:OpR X (compareOp op) r) (ha:PE X a ta) (hb:PE X b tb) (hm:behindInMarks op b=false):PT X (.Compare a [op] [b] pos) (zny (tOp r ta tb)):=by
 intro kS s σ H Q I h;refine wpAny_isTrue_Compare1 (thn (ha kS s σ H _ I h) fun v s1 ⟨x,H1,I1,r1,q1⟩=>thn (hb kS s1 σ H1 _ I1 q1) fun u s2 ⟨y,H2,I2,r2,q2⟩ =>
  thn (ho kS s2 σ H2 x y v u _ I2 r1 r2 q2) fun c s3 ⟨z,H3,I3,r3,k,e,q3⟩=>?_) hm
 subst e;cases r3;exact eB ⟨H3,I3,q3⟩
def znz (K:ag) (x:V) (H:Hp) (k:Bool):Prop :=
 match x with
 | .non=>k=false
 | .bl b=>k=b
 | .int i=>k=(i != 0)
 | .str y=>y.length≤sizeLine∧k=((y.length:Int) != 0)
 | .byt y=>y.size≤sizeLine∧k=((y.size:Int) != 0)
 | .ref p=>(∃ xs,kT K H p xs∧k = !xs.isEmpty)∨(∃ xs,kZ K H p xs∧k = !xs.isEmpty)∨∃ mP,H p=some (.dK mP)∧k = !mP.isEmpty
 | _=>False
theorem zgZ {κ:Type} {mP:List (κ×V)} {vs:List (κ×Value)} (r:KV mP vs):(!vs.isEmpty) = !mP.isEmpty:=by
 cases r <;> rfl
theorem zdV {xs:List V} {kU:List Value} (r:zE xs kU):(!kU.toArray.isEmpty) = !xs.isEmpty:=by
 cases r <;> simp
theorem zdW:(sizeLine:Nat) < 2 ^ 63:=by rw [bm]; decide
theorem zmC:zoa X (fun x H Q=>∃ k,znz X.K x H k∧Q k H):=by
 intro kS s σ H x v Q I rx h;obtain⟨k,e,q⟩:=h;have hl:=zdW;have hs:sizeLine=16777216:=bm;cases x with
 | non =>
  cases rx;have e':k=false:=e;subst e';exact truthy_none ⟨H,I,q⟩
 | bl b =>
  cases rx;have e':k=b:=e;subst e';exact eB ⟨H,I,q⟩
 | int i =>
  obtain⟨t,rfl⟩:=rx;have e':k=(i != 0):=e;subst e';exact PySem.P.truthy_int ⟨H,I,q⟩
 | str y =>
  obtain⟨t,rfl⟩:=rx;obtain⟨hy,e'⟩:y.length≤sizeLine∧k=((y.length:Int) != 0):=e;subst e';exact PySem.P.truthy_str #[O] ⟨H,I.tok _,q⟩
 | byt y =>
  obtain⟨t,rfl⟩:=rx;obtain⟨hy,e'⟩:y.size≤sizeLine∧k=((y.size:Int) != 0):=e;subst e';exact PySem.W.truthy_bytes #[O] ⟨H,I.tok _,q⟩
 | ref p =>
  cases rx;have e':(∃ xs,kT X.K H p xs∧k = !xs.isEmpty)∨(∃ xs,kZ X.K H p xs∧k = !xs.isEmpty)∨∃ mP,H p=some (.dK mP)∧k = !mP.isEmpty:=e;rcases e' with ⟨xs,hx,e'⟩ | ⟨xs,hx,e'⟩ | ⟨mP,hx,e'⟩
  ·subst e';obtain⟨kU,r,pl,hz⟩:=I.list hx;have kY:=r.length;exact wpAny_truthy_list pl.isList (by simp only [au]; lia) ⟨H,I.tok _,by rw [zdV r]; exact q⟩
  ·subst e';obtain⟨kU,r,pl,hz⟩:=I.tuple hx;have kY:=r.length;exact truthy_tuple pl (by simp only [au]; lia) ⟨H,I.tok _,by rw [zdV r]; exact q⟩
  ·subst e';obtain⟨hz,hS,vs,r,m⟩:mP.length≤sizeLine∧(p == sysModules)=false∧∃ vs,KV mP vs∧s.heap.DictOf (zfe X.prog X.w) p vs:=I.hok p _ hx;have kY:mP.length=vs.length:=aV r;exact wpAny_truthy_dict hS m #[O] ⟨H,I.tok _,by rw [zgZ r]; exact q⟩
 | _=>exact (show False from e).elim
theorem zjD (ha:PE X a ta) (he:∀ whole,isTrue a X.env whole=(do let v ← whole; standAt a.pos; holding [v] (truthy v))) :
  PT X a (fun σ H Q=>ta σ H fun x H'=>∃ k,znz X.K x H' k∧Q k H'):=by
 intro kS s σ H Q I h;exact isTrue_plain (thn (ha kS s σ H _ I h) fun v s1 ⟨x,H1,I1,r1,q1⟩=>zmC kS s1 σ H1 x v Q I1 r1 q1) (he _)
theorem vals1 {x:V} {us:List Value} (r:zE [x] us):∃ u,us = [u]∧RelV x u:=by
 cases r with
 | cons r1 r2=>cases r2; exact⟨_,rfl,r1⟩
theorem vals2 {x y:V} {us:List Value} (r:zE [x,y] us):∃ u w',us = [u,w']∧RelV x u∧RelV y w':=by
 cases r with
 | cons r1 r2 =>
  cases r2 with
  | cons r3 r4=>cases r4; exact⟨_,_,rfl,r1,r3⟩
theorem zeJ (hc:X.calm=true):za8 X (.builtin "min") (fun xs H Q=>∃ i j,xs = [.int i,.int j]∧Q (.int (if j < i then j else i)) H):=by
 intro kS s σ H xs us Q I r h;obtain⟨i,j,rfl,q⟩:=h;obtain⟨u,w',rfl,⟨t,rfl⟩,⟨t',rfl⟩⟩:=vals2 r;refine min_two_ints (I.ok.hd hc) fun h' tk k=>⟨_,H,I.kept k,?_,q⟩
 by_cases hj:j < i
 ·rw [if_pos hj,if_pos hj]; exact⟨_,rfl⟩
 ·rw [if_neg hj,if_neg hj]; exact⟨_,rfl⟩
end
structure Room (k:Nat) (A:Around):Prop where
 hd:A.handled=none
 dp:A.depth+3*k+5 < recursionLimit
 un:A.units+16*k+200 < cLine
theorem Room.mono {j k:Nat} {A:Around} (r:Room k A) (h:j≤k):Room j A:=⟨r.hd,by have:=r.dp; lia,by have:=r.un; lia⟩
theorem Room.deeper {k:Nat} {A:Around} (r:Room (k+1) A) (env:Env):Room k (A.deeper env) :=
 ⟨r.hd,by have:=r.dp; show A.depth+1+3*k+5 < _; lia,by have:=r.un; show A.units+3+16*k+200 < _; lia⟩
theorem Room.depth {k:Nat} {A:Around} (r:Room k A):A.depth < recursionLimit:=by have:=r.dp; lia
theorem Room.units {k:Nat} {A:Around} (r:Room k A):A.units+64 < cLine:=by have:=r.un; lia
def zod:TA:=fun _ H Q=>Q [] H
def zma (ta:TE) (tr:TA):TA:=fun σ H Q=>ta σ H fun x H1=>tr σ H1 fun xs H2=>Q (x :: xs) H2
section
variable {X:Cx} {e:Expr} {es:List Expr} {te:TE} {t:TA} {pos:Pos}
theorem zd:PA X [] zod:=fun _ _ _ _ H Q I h=>gT ⟨[],H,I,.nil,h⟩
theorem za (ha:PE X e te) (hr:PA X es t) (hs:starEach (e :: es) X.env=(false,eval e X.env) :: starEach es X.env:=by rfl):PA X (e :: es) (zma te t):=by
 intro pos kS s σ H Q I h;rw [hs];show wpAny _ _ (spliced ((false,eval e X.env) :: backTo pos (starEach es X.env))) _ _ s;refine gF (thn (ha kS s σ H _ I h) fun u s1 ⟨x,H1,I1,r1,q1⟩=>?_);exact thn (hr pos kS s1 σ H1 _ I1 q1) fun us s2 ⟨xs,H2,I2,r2,q2⟩=>⟨x :: xs,H2,I2,.cons r1 r2,q2⟩
theorem ya {X:Cx} {e:Expr} {te:TE} (a:PE X e te) (b:starEach [e] X.env=(false,eval e X.env) :: starEach [] X.env):PA X [e] (zma te zod):=za a zd b
def zoe (t:TA):TE:=fun σ H Q=>t σ H fun xs H1=>xs.length≤sizeLine∧∀ p,H1 p=none→Q (.ref p) (kX H1 p (.tup xs))
def zlb (t:TA):TE:=fun σ H Q=>t σ H fun xs H1=>xs.length≤sizeLine∧∀ p,H1 p=none→Q (.ref p) (kX H1 p (.lst xs))
theorem zbh {x1} (h:PA X es t):PE X (.Tuple es x1 pos) (zoe t):=by
 intro kS s σ H Q I hq;refine wpAny_Tuple_spliced (thn (h pos kS s σ H _ I hq) fun us s1 ⟨xs,H1,I1,r,z,q⟩=>⟨by rw [← r.length]; exact z,?_⟩);have hf:H1 s1.heap.objs.size=none:=I1.hok.fresh (ah _);refine⟨.ref s1.heap.objs.size,kX H1 s1.heap.objs.size (.tup xs),I1.laid (t':=s1.toks) (fun b u e=>ak _ e) (ah _) ?_,rfl,q _ hf⟩;exact⟨z,us,r,⟨_,aJ _ rfl,rfl,_,rfl⟩⟩
theorem zaE (h:PA X es t):PE X (.List es pos) (zlb t):=by
 intro kS s σ H Q I hq;refine wpAny_List_spliced (thn (h pos kS s σ H _ I hq) fun us s1 ⟨xs,H1,I1,r,z,q⟩=>⟨by rw [← r.length]; exact z,?_⟩);have hf:H1 s1.heap.objs.size=none:=I1.hok.fresh (ah _);refine⟨.ref s1.heap.objs.size,kX H1 s1.heap.objs.size (.lst xs),I1.laid (t':=s1.toks) (fun b u e=>ak _ e) (ah _) ?_,rfl,q _ hf⟩;exact⟨z,us,0,r,aJ _ rfl⟩
end
abbrev Sp:=List V→Hp→VK→XK→Prop
abbrev CXT:=List Env→Hp→Shared→XK→Value→Shared→Prop
structure Env0 (P:Program) (w:World) (K:ag) (mg:Str→Option Value) (base:Heap) (A:Around) (outer:List Env) (s:Shared) (H:Hp):Prop where
 frames:A.frames=some outer
 mod:Mod K mg base
 bs:∀ b o,base.get? b=some o→s.heap.get? b=some o∧H b=none
 bsz:base.objs.size≤s.heap.objs.size
 funs:s.heap.FunFrames base outer
 frf:∀ b∈frs outer,H b=none
 hok:HOk P w H s.heap
 bare:AllBare s.gens
def CE (outer:List Env) (P:Program) (w:World) (H:Hp) (s:Shared) (Q:VK) (u:Value) (s':Shared):Prop :=
 ∃ v H',s'.os=s.os∧AllBare s'.gens∧Un (frs outer) [] H H' s.heap s'.heap∧HOk P w H' s'.heap∧RelV v u∧Q v H'
def CR (CX:CXT) (outer:List Env) (P:Program) (w:World) (H:Hp) (s:Shared) (Q:VK) (E:XK) (r:Result) (s':Shared):Prop :=
 match r with
 | .ok (.ret u)=>CE outer P w H s Q u s'
 | .ok _=>False
 | .error e=>CX outer H s E e s'
structure FnOk (P:Program) (w:World) (K:ag) (mg:Str→Option Value) (base:Heap) (CX:CXT) (k:Nat) (f:Addr) (fd:FuncData) (ps:List Str) (sp:Sp):Prop where
 len:∀ vs H Q E,sp vs H Q E→vs.length=ps.length
 run:∀ (A:Around) (outer:List Env) (s:Shared) (H:Hp) (args:Args) (us:List Value) (vs:List V) (Q:VK) (E:XK),Room k A→Env0 P w K mg base A outer s H→BindsTo s fd args (ps.zip us)→zE vs us→sp vs H Q E →
  codeAny (model P w) A (.call (.ref f) args) (CR CX outer P w H s Q E) s
section
variable {X:Cx} {kS:List (Addr×Obj)} {σ:St} {H:Hp} {s s':Shared}
theorem Inv.env0 (I:Inv X kS σ H s):Env0 X.prog X.w X.K X.mg X.base X.A X.stack s H :=
 ⟨I.ok.frames,I.ok.mod,I.bs,bi I.ok.bsz I.sz,I.stack,I.stkFree,I.hok,I.bare⟩
theorem Inv.after {Q:VK} {u:Value} (I:Inv X kS σ H s) (h:CE X.stack X.prog X.w H s Q u s'):EP X kS σ Q u s':=by
 obtain⟨v,H',os,bare,un,hok,r,q⟩:=h;obtain⟨hh,g,d,t,w6⟩:=s';obtain rfl:w6=s.os:=os;exact⟨v,H',I.call (h':=hh) (g':=g) (d':=d) (t':=t) (ch:=[]) un hok bare (fun b z=>absurd z #[M]),r,q⟩
end
def znA (sp:Sp) (um:List V) (E:XK) (t:TA):TE:=fun σ H Q=>t σ H fun vs H1=>sp (vs++um) H1 Q E
def Binds (K:ag) (fd:FuncData) (ps:List Str) (ds:List Value):Prop :=
 ∀ (s:Shared) (us:List Value),K.In s.heap→(us++ds).length=ps.length→BindsTo s fd ⟨us,[]⟩ (ps.zip (us++ds))
theorem Binds.all {K:ag} {fd:FuncData} {ps:List Str} (h:∀ us:List Value,us.length=ps.length→bindArgs fd ⟨us,[]⟩=pure (ps.zip us)):Binds K fd ps []:=fun s us _ hl=>by
 rw [cP] at hl ⊢;exact .of_eq (h us hl)
def zg0 (CX:CXT) (X:Cx) (E:XK):Prop:=∀ (kS:List (Addr×Obj)) (σ:St) (H:Hp) (s:Shared) (e:Value) (s':Shared),Inv X kS σ H s→CX X.stack H s E e s'→X.xe e s'
section
variable {X:Cx} {CX:CXT} {k:Nat} {f C:Addr} {fd:FuncData} {ps:List Str} {sp:Sp} {um:List V} {ds:List Value} {E:XK} {x m:Str} {p pos apos:Pos} {e o:Expr} {es:List Expr} {ta:TE} {t:TA}
theorem zmD {kS:List (Addr×Obj)} {σ:St} {H:Hp} {s:Shared} {Q:VK} {us:List Value} {vs:List V} (F:FnOk X.prog X.w X.K X.mg X.base CX k f fd ps sp) (hr:Room k X.A) (hb:Binds X.K fd ps ds) (hd:zE um ds) (hx:zg0 CX X E)
  (I:Inv X kS σ H s) (r:zE vs us) (h:sp (vs++um) H Q E):wpAny (model X.prog X.w) X.A (call (.ref f) us) (EP X kS σ Q) X.xe s:=by
 have r2:zE (vs++um) (us++ds):=r.append hd;have hl:(us++ds).length=ps.length:=by rw [← r2.length]; exact F.len _ _ _ _ h
 refine kh (gb (F.run X.A X.stack s H ⟨us,[]⟩ (us++ds) (vs++um) Q E hr I.env0 (hb s us I.kIn hl) r2 h) fun r s' hq=>?_);cases r with
 | error e=>exact hx kS σ H s e s' I hq
 | ok fl =>
  cases fl with
  | ret u=>exact I.after hq
  | next=>exact dC hq
  | brk=>exact dC hq
  | cont=>exact dC hq
theorem zk (F:FnOk X.prog X.w X.K X.mg X.base CX k f fd ps sp) (hr:Room k X.A) (hg:Gl X x) (hm:X.mg x=some (.ref f)) (hk:fz X.K (.ref f)=true) (hb:Binds X.K fd ps ds) (hd:zE um ds) (hx:zg0 CX X E)
  (ha:PA X (e :: es) t) (va:(x == ("__debug__" : Str))=false:=by decide) (he:starEach (e :: es) X.env=(false,eval e X.env) :: starEach es X.env:=by rfl) (nO:(backTo pos (starEach es X.env)).any (·.1)=false:=by rfl) :
  PE X (.Call (.Name x p) (e :: es) [] pos) (znA sp um E t):=by
 intro kS s σ H Q I h;refine dr (zk7 I hg hm ?_ va);refine PySem.W.callWith_K (h₀:=X.base) I.ok.mod.kin hk (thn (ha pos kS s σ H _ I h) fun us s1 ⟨vs,H1,I1,r,q⟩=>⟨I1.kIn,?_⟩) he nO;exact zmD F hr hb hd hx I1 r q
end
structure FnScope (N P:List Str) (sc:Scope):Prop where
 kind:sc.kind = .function
 co:sc.isCoroutine=false
 gen:sc.isGenerator=false
 nd:N.Nodup
 pre:N.take P.length=P
 par:∀ x∈P,sc.names.lookup x=some .local∨sc.names.lookup x=some .cell
 nofree:∀ y∈sc.names,y.2≠.free
theorem zeK {kindOf:Str→Option NameKind} {x:Str}:∀ {binds:List (Str×Value)} {m:Str→Option Value},(∀ v,(x,v)∉binds)→bindL kindOf binds m x=m x
 | [],_,_=>rfl
 | (n,v) :: r,m,h=>by
  unfold bindL;rw [zeK fun w hw=>h w (aw _ hw)];split
  ·have:x≠n:=by rintro rfl; exact h v aL
   simp [this]
  ·rfl
theorem zeL {kindOf:Str→Option NameKind} {x:Str}:∀ {binds:List (Str×Value)} {m:Str→Option Value},(∀ v,(x,v)∉binds)→bindC kindOf binds m x=m x
 | [],_,_=>rfl
 | (n,v) :: r,m,h=>by
  unfold bindC;rw [zeL fun w hw=>h w (aw _ hw)];split
  ·rfl
  ·have:x≠n:=by rintro rfl; exact h v aL
   simp [this]
theorem zeM {kindOf:Str→Option NameKind} {x:Str} {v:Value}:∀ {P:List Str} {vs:List Value} {i:Nat} {m:Str→Option Value},P.Nodup→P[i]? = some x→vs[i]? = some v→kindOf x=some .local →
  bindL kindOf (P.zip vs) m x=some v
 | [],_,_,_,_,h,_,_=>by simp at h
 | _ :: _,[],_,_,_,_,h,_=>by simp at h
 | p :: P,w :: vs,0,m,nd,h1,h2,hk=>by
  simp at h1 h2; subst h1; subst h2;show bindL kindOf ((p,w) :: P.zip vs) m p=_;unfold bindL;rw [zeK fun v hv=>(cQ.mp nd).1 (iD hv).1,if_pos hk];simp
 | p :: P,w :: vs,i+1,m,nd,h1,h2,hk=>by
  show bindL kindOf ((p,w) :: P.zip vs) m x=_;unfold bindL;exact zeM (i:=i) (cQ.mp nd).2 (by simpa using h1) (by simpa using h2) hk
theorem zeN {kindOf:Str→Option NameKind} {x:Str} {v:Value}:∀ {P:List Str} {vs:List Value} {i:Nat} {m:Str→Option Value},P.Nodup→P[i]? = some x→vs[i]? = some v→kindOf x≠some .local →
  bindC kindOf (P.zip vs) m x=some v
 | [],_,_,_,_,h,_,_=>by simp at h
 | _ :: _,[],_,_,_,_,h,_=>by simp at h
 | p :: P,w :: vs,0,m,nd,h1,h2,hk=>by
  simp at h1 h2; subst h1; subst h2;show bindC kindOf ((p,w) :: P.zip vs) m p=_;unfold bindC;rw [zeL fun v hv=>(cQ.mp nd).1 (iD hv).1,if_neg hk];simp
 | p :: P,w :: vs,i+1,m,nd,h1,h2,hk=>by
  show bindC kindOf ((p,w) :: P.zip vs) m x=_;unfold bindC;exact zeN (i:=i) (cQ.mp nd).2 (by simpa using h1) (by simpa using h2) hk
def start (N:List Str) (vs:List V):St:=vs.map some++ar (N.length - vs.length) none
def ziG (CX:CXT) (P:Program) (w:World) (K:ag) (mg:Str→Option Value) (base:Heap) (N:List Str) (qual:Str) (scope:Scope) (f:Addr) (cd:Value) (A:Around) (outer:List Env) (s:Shared) (H:Hp) (E:XK):Cx where
 prog:=P
 w:=w
 K:=K
 mg:=mg
 base:=base
 A:=A.deeper (envOfC qual scope s.heap.objs.size f cd)
 N:=N
 s₀:=s
 H₀:=H
 env:=envOfC qual scope s.heap.objs.size f cd
 outer:=outer
 stack:=envOfC qual scope s.heap.objs.size f cd :: outer
 ex:=[]
 calm:=true
 fn:=fun _=>true
 pn:=[]
 xe:=fun e s'=>wpAny (model P w) (A.deeper (envOfC qual scope s.heap.objs.size f cd)) (leaving (envOfC qual scope s.heap.objs.size f cd) e) (fun _ vc=>CX outer H s E e vc) (fun e' vc=>CX outer H s E e' vc) s'
theorem zf7 {sc:Scope} {n:Nat} {x:Str} (h:sc.names.lookup x=some .cell):∃ c,(cellsFrom n sc.names []).lookup x=some c:=by
 have q:=iL sc.names n [] (.inl h);exact Option.isSome_iff_exists.mp q
theorem ziH {CX:CXT} {P:Program} {w:World} {K:ag} {mg:Str→Option Value} {base:Heap} {N ps:List Str} {qual:Str} {scope:Scope} {f:Addr} {cd:Value} {A:Around} {outer:List Env} {s s1:Shared} {H:Hp} {E:XK} {us:List Value} {vs:List V}
  (S:FnScope N ps scope) (hd:A.handled=none) (e0:Env0 P w K mg base A outer s H) (hl:vs.length=ps.length) (r:zE vs us)
  (x:InCallC s s.heap.objs.size (bindL (envOfC qual scope s.heap.objs.size f cd).kindOf (ps.zip us) fun _=>none) (cellsFrom (s.heap.objs.size+1) scope.names []) (bindC (envOfC qual scope s.heap.objs.size f cd).kindOf (ps.zip us) fun _=>none) s1) :
  Inv (ziG CX P w K mg base N qual scope f cd A outer s H E) [] (start N vs) H s1:=by
 have nO:ps.length≤N.length:=by have:=congrArg gC S.pre; rw [aU] at this; lia
 obtain⟨h1,tk,rfl,hk⟩:=x.done;have vd:∀ b:Addr,b∉(ziG CX P w K mg base N qual scope f cd A outer s H E).ex:=fun b z=>absurd (show b∈([]:List Addr) from z) #[M]
 refine⟨⟨e0.mod,S.kind,rfl,rfl,ah _,fun y z c h1 h2=>?_,fun y hy=>?_,fun y c _ h=>?_,fun _=>hd,Around.frames_deeper e0.frames,.inr ⟨rfl,rfl⟩,fun b z=>absurd z (vd b),e0.bs,e0.bsz,fun b _ _=>vd b,fun b z=>absurd z (vd b),e0.funs,e0.frf⟩,
  rfl,e0.bare,Un.kept hk,⟨_,x.toInCall.ns,fun i y v h1 h2 h3=>?_⟩,fun y c h=>⟨_,x.cell y c h⟩,e0.hok.fresh (ah _),fun y c h=>?_,fun p hp=>absurd (show p∈([]:List (Addr×Obj)) from hp) #[M],e0.hok.kept hk,?_⟩
 ·exact name_of_addr x.apart (dQ h1) (dQ h2)
 ·have hy:scope.names.lookup y=some .cell∨scope.names.lookup y=some .free:=hy;rcases hy with hy | hy
  ·exact zf7 hy
  ·exact absurd rfl (S.nofree _ (dQ hy))
 ·exact hU (x.above y c (dQ h))
 ·have hi:i < vs.length:=by
   unfold start at h2;by_cases hi:i < vs.length
   ·exact hi
   ·rw [bP (by simpa using hi)] at h2;rw [bQ] at h2;split at h2 <;> cases h2
  have ha:vs[i]? = some v:=by
   unfold start at h2;rw [bG (by simpa using hi),af] at h2;cases e:vs[i]? with
   | none=>rw [e] at h2; cases h2
   | some a=>rw [e] at h2; cases h2; rfl
  obtain⟨u,hu,rv⟩:=r.get ha;have hp:ps[i]? = some y:=by
   rw [← S.pre,fj #[O]]; exact h1
  have ndP:ps.Nodup:=by rw [← S.pre]; exact S.nd.sublist (gU _ _)
  refine⟨u,rv,?_⟩;rcases S.par y (aA hp) with k | k
  ·exact .inl ⟨k,zeM ndP hp hu k⟩
  ·obtain⟨c,e⟩:=zf7 (n:=s.heap.objs.size+1) k;refine .inr ⟨.inl k,c,e,?_⟩;have q:=x.cell y c e;rw [zeN ndP hp hu (by show scope.names.lookup y≠_; rw [k]; decide)] at q;exact q
 ·exact e0.hok.fresh (hU (x.above y c (dQ h)))
 ·unfold start;show _=N.length;rw [aF,ab,aR];lia
theorem znB {CX:CXT} {P:Program} {w:World} {K:ag} {mg:Str→Option Value} {base:Heap} {k:Nat} {f:Addr} {name qual:Str} {params:Arguments} {body:List Stmt} {scope:Scope} {dV kV doc pm lM ct oc:Value} {an od:Option Addr}
  {uo:Array (Option Value)} {N ps:List Str} {sp:Sp} (lk:K.lookup f=some ⟨oc,od,.func (cY name qual params body scope dV kV doc pm an lM ct),uo⟩) (rN:fA K lM qual=true) (S:FnScope N ps scope)
  (len:∀ vs H Q E,sp vs H Q E→vs.length=ps.length)
  (rO:∀ (A:Around) (outer:List Env) (s:Shared) (H:Hp) (vs:List V) (Q:VK) (E:XK),Room k (A.deeper (envOfC qual scope s.heap.objs.size f lM))→sp vs H Q E →
   ∃ t,PSs (ziG CX P w K mg base N qual scope f lM A outer s H E) body t∧t { nx:=fun _ H'=>Q .non H',rt:=Q } (start N vs) H) :
  FnOk P w K mg base CX (k+1) f (cY name qual params body scope dV kV doc pm an lM ct) ps sp:=by
 refine⟨len,fun A outer s H args us vs Q E hr e0 hb r uq=>?_⟩;have hl:=len _ _ _ _ uq;have KX:K.In s.heap:=e0.mod.kin.keeps fun b o e=>(e0.bs b o e).1
 have lim:s.heap.NoLimit:=e0.mod.nolimit.keeps fun b o e=>(e0.bs b o e).1
 have o7:∀ y∈ps.zip us,scope.names.lookup y.1=some .local∨(scope.names.lookup y.1=some .cell∧((cellsFrom (s.heap.objs.size+1) scope.names []).lookup y.1).isSome=true):=fun ⟨n,v⟩ hy=>by
  rcases S.par n (iD hy).1 with q | q
  ·exact .inl q
  ·exact .inr ⟨q,iL _ _ _ (.inl q)⟩
 refine codeAny_call_function hr.depth (KX _ _ lk) rfl S.co S.gen rfl (PySem.W.codeRec_of KX rN) (hb _ _ _ _ ?_);refine wpAny_newFunctionEnv_cells S.kind o7 fun env he s1 x=>?_
 subst he;refine⟨lim.keeps x.toInCall.keep,codeAny_func ?_⟩;obtain⟨t,ht,hq⟩:=rO A outer s H vs Q E (hr.deeper _) uq;have I:Inv (ziG CX P w K mg base N qual scope f lM A outer s H E) [] (start N vs) H s1:=ziH S hr.hd e0 hl r x;refine cJ (ht [] s1 (start N vs) H _ I hq) (fun fl s' hs=>?_) fun e s' hs=>hs
 have fin:∀ {σ':St} {H':Hp} {v:V} {u:Value},Inv (ziG CX P w K mg base N qual scope f lM A outer s H E) [] σ' H' s'→RelV v u→Q v H'→CE outer P w H s Q u s' :=
  fun {σ' H' v u} J rv q=>⟨v,H',J.os,J.bare,J.base,J.hok,rv,q⟩
 cases fl with
 | ret u =>
  obtain⟨v,σ',H',J,rv,q⟩:=hs;exact fin J rv q
 | next =>
  obtain⟨σ',H',J,q⟩:=hs;exact fin (v:=V.non) (u:=cR) J rfl q
 | brk =>
  obtain⟨_,_,_,q⟩:=hs;exact dC q
 | cont =>
  obtain⟨_,_,_,q⟩:=hs;exact dC q
section
variable {X:Cx} {x:Str} {p pos:Pos} {e:Expr} {es:List Expr} {t:TA} {id T:String} {r:List V→Hp→VK→Prop}
def tCB (r:List V→Hp→VK→Prop) (t:TA):TE:=fun σ H Q=>t σ H fun vs H1=>r vs H1 Q
theorem zt (hc:za8 X (.builtin id) r) (hg:Gl X x) (hm:X.mg x=none) (hv:bootBuiltins x=some (.builtin id)) (ha:PA X (e :: es) t) (hn:x≠"__name__":=by decide) (va:(x == ("__debug__" : Str))=false:=by decide)
  (he:starEach (e :: es) X.env=(false,eval e X.env) :: starEach es X.env:=by rfl) (nO:(backTo pos (starEach es X.env)).any (·.1)=false:=by rfl):PE X (.Call (.Name x p) (e :: es) [] pos) (tCB r t):=by
 intro kS s σ H Q I h;refine dr (za5 I hg hm hv ?_ hn va);exact gd (thn (ha pos kS s σ H _ I h) fun us s1 ⟨vs,H1,I1,r1,q1⟩=>hc kS s1 σ H1 vs us Q I1 r1 q1) he nO
theorem zG (hc:za8 X (.type T) r) (hg:Gl X x) (hm:X.mg x=none) (hv:bootBuiltins x=some (.type T)) (ha:PA X (e :: es) t) (hn:x≠"__name__":=by decide) (va:(x == ("__debug__" : Str))=false:=by decide)
  (he:starEach (e :: es) X.env=(false,eval e X.env) :: starEach es X.env:=by rfl) (nO:(backTo pos (starEach es X.env)).any (·.1)=false:=by rfl):PE X (.Call (.Name x p) (e :: es) [] pos) (tCB r t):=by
 intro kS s σ H Q I h;refine dr (za5 I hg hm hv ?_ hn va);exact bA (thn (ha pos kS s σ H _ I h) fun us s1 ⟨vs,H1,I1,r1,q1⟩=>hc kS s1 σ H1 vs us Q I1 r1 q1) he nO
end
end L2
namespace HT
open PySem PyProof.Rows
section
variable {prog:Program} {w:World} {A:Around} {E:Value→Shared→Prop} {s:Shared}
theorem cat_tup {t b:Addr} {vs ws:List Value} {Q:Value→Shared→Prop} (ht:IsTup s.heap t vs.toArray) (hb:IsTup s.heap b ws.toArray) (hv:vs≠[])
  (h1:ws = []→Q (.ref t) s) (h2:ws≠[]→Q (.ref s.heap.objs.size) { s with heap:=s.heap.push { cls:=.type "tuple",data:=.seq (vs++ws).toArray } })
  (hsz:vs.length+ws.length≤sizeLine):wpAny (model prog w) A (binaryOp .Add (.ref t) (.ref b)) Q E s:=by
 obtain⟨⟨cls,dd,data,sl⟩,ho,hc,n,hd⟩:=id ht;obtain⟨⟨AN,yZ,data2,y4⟩,oI,tz,n2,hd2⟩:=id hb;simp only at hc hd tz hd2;subst hc hd tz hd2;have e:vs.toArray++ws.toArray=(vs++ws).toArray:=by simp
 by_cases hw:ws = []
 ·exact jx ⟨_,ho,rfl⟩ ⟨_,oI,rfl⟩ h7 jl fP fG (fk _ _)
   (tuple_addW1 t b vs.toArray ws.toArray n n2 dd yZ sl y4 (by simpa using hv) (by simp [hw])) ⟨ho,oI,h1 hw⟩
 ·refine jx ⟨_,ho,rfl⟩ ⟨_,oI,rfl⟩ h7 jl fP fG (fk _ _)
   (tuple_addW2 t b vs.toArray ws.toArray n n2 dd yZ sl y4 (by simpa using hv) (by simpa using hw) (by rw [au,au]; exact hsz)) ⟨ho,oI,?_⟩
  rw [e];exact h2 hw
def sIx (n d:Nat):Option Int→Nat
 | none=>d
 | some v=>if v < 0 then (v+(n:Int)).toNat else min v.toNat n
theorem sIx_none (n d:Nat):sIx n d none=d:=rfl
theorem sIx_nat (n d k:Nat):sIx n d (some (k:Int))=min k n:=by
 show (if (k:Int) < 0 then ((k:Int)+(n:Int)).toNat else min (k:Int).toNat n)=min k n;rw [if_neg #[O],da]
end
end HT
namespace L2
open PySem PySem.Spec PyProof.Rows
abbrev TO:=St→Hp→(Option Int→Hp→Prop)→Prop
def PO (X:Cx) (e:Option Expr) (t:TO):Prop :=
 ∀ (kS:List (Addr×Obj)) (s:Shared) (σ:St) (H:Hp) (Q:Option Int→Hp→Prop),Inv X kS σ H s→t σ H Q →
  wpAny (model X.prog X.w) X.A (evalPart e X.env) (fun u s'=>∃ o H',Inv X kS σ H' s'∧IsPart u o∧Q o H') X.xe s
def zlc:TO:=fun _ H Q=>Q none H
def znC (t:TE):TO:=fun σ H Q=>t σ H fun x H1=>∃ i,x = .int i∧Q (some i) H1
theorem intsAre_of {ns:List Int}:∀ {us:List Value},zE (ns.map V.int) us→IntsAre us ns:=by
 induction ns with
 | nil=>intro us r; rw [jy] at r; cases r; exact .nil
 | cons n ns ih =>
  intro us r;rw [dA] at r;cases r with
  | cons r1 r2 =>
   obtain⟨t,e⟩:=r1;subst e;exact .cons n t (ih r2)
section
variable {X:Cx} {e:Expr} {te:TE} {lo hi:Option Expr} {tl th:TO} {pos p2:Pos}
theorem zhG:PO X none zlc:=by
 intro kS s σ H Q I h;rw [evalPart_none];exact aj ⟨none,H,I,.none,h⟩
theorem zhH (h:PE X e te):PO X (some e) (znC te):=by
 intro kS s σ H Q I hw;rw [evalPart_some];refine thn (h kS s σ H _ I hw) fun u s1 ⟨x,H1,I1,r1,q1⟩=>?_
 obtain⟨i,rfl,q⟩:=q1;obtain⟨t,rfl⟩:=r1;exact⟨some i,H1,I1,.int i t,q⟩
def SlR (X:Cx) (r:V→Option Int→Option Int→Hp→VK→Prop):Prop :=
 ∀ (kS:List (Addr×Obj)) (s:Shared) (σ:St) (H:Hp) (x:V) (v vl vu:Value) (lo hi:Option Int) (sl:Addr) (Q:VK),Inv X kS σ H s→RelV x v→s.heap.IsSliceOf sl vl vu .none→IsPart vl lo→IsPart vu hi→r x lo hi H Q →
  ∃ T id,typeLookup (.type T) "__getitem__" = pure (some (.builtin id))∧s.TypeIs v T∧wpAny (model X.prog X.w) X.A (getItem v (.ref sl)) (EP X kS σ Q) X.xe s
def tSl (r:V→Option Int→Option Int→Hp→VK→Prop) (te:TE) (tl th:TO):TE:=fun σ H Q=>te σ H fun x H1=>tl σ H1 fun l H2=>th σ H2 fun u H3=>r x l u H3 Q
theorem zf8 {r:V→Option Int→Option Int→Hp→VK→Prop} (hr:SlR X r) (he:PE X e te) (hl:PO X lo tl) (hu:PO X hi th):PE X (.Subscript e (.Slice lo hi none p2) pos) (tSl r te tl th):=by
 intro kS s σ H Q I h;refine Subscript_ (thn (he kS s σ H _ I h) fun v s1 ⟨x,H1,I1,r1,q1⟩=>?_);refine wpAny_Slice (thn (hl kS s1 σ H1 _ I1 q1) fun vl s2 ⟨l,H2,I2,pl,q2⟩=>thn (hu kS s2 σ H2 _ I2 q2) fun vu s3 ⟨u,H3,I3,pu,q3⟩=>?_);rw [evalPart_none];refine aj ?_;have I4:Inv X kS σ H3 { s3 with heap:=s3.heap.push { cls:=.type "slice",data:=.fields #[vl,vu,.none] } }:=I3.kept (t':=s3.toks) fun b ob q=>ak _ q
 obtain⟨T,id,hT,ht,hg⟩:=hr kS { s3 with heap:=s3.heap.push { cls:=.type "slice",data:=.fields #[vl,vu,.none] } } σ H3 x v vl vu l u s3.heap.objs.size Q I4 r1 (Heap.IsSliceOf.new ..) pl pu q3;show wpAny (model X.prog X.w) X.A (subscriptTail e (.Slice lo hi none p2) v (.ref s3.heap.objs.size)) (EP X kS σ Q) X.xe { s3 with heap:=s3.heap.push { cls:=.type "slice",data:=.fields #[vl,vu,.none] } };exact tail_any (ops:=[.ref s3.heap.objs.size,v]) ht hT hg (by with_unfolding_all rfl)
def zf9 (xs:List V) (lo hi:Option Int):List V:=(xs.drop (HT.sIx xs.length 0 lo)).take (HT.sIx xs.length xs.length hi - HT.sIx xs.length 0 lo)
theorem zga (xs:List V) (lo hi:Option Int):(zf9 xs lo hi).length≤xs.length:=by
 unfold zf9;rw [aU,dL];lia
def znD (K:ag):R2:=fun x y H Q=>∃ a b xs ys,x = .ref a∧y = .ref b∧kZ K H a xs∧kZ K H b ys∧xs≠[]∧xs.length+ys.length≤sizeLine ∧
 (ys = []→Q (.ref a) H)∧(ys≠[]→∀ p,H p=none→Q (.ref p) (kX H p (.tup (xs++ys))))
theorem zE.nil_iff {xs:List V} {us:List Value} (r:zE xs us):us = []↔xs = []:=by
 cases r with
 | nil=>simp
 | cons _ _=>simp
theorem zld:OpR X (binaryOp .Add) (znD X.K):=by
 intro kS s σ H x y v u Q I rx ry h;obtain⟨a,b,xs,ys,rfl,rfl,ha,hb,hx,hz,q1,q2⟩:=h;cases rx;cases ry;obtain⟨kU,r1,p1,_⟩:=I.tuple ha;obtain⟨o8,r2,p2,_⟩:=I.tuple hb;refine HT.cat_tup p1 p2 (fun z=>hx (r1.nil_iff.mp z)) (fun z=>⟨.ref a,H,I,rfl,q1 (r2.nil_iff.mp z)⟩) (fun z=>?_) (by rw [← r1.length,← r2.length]; exact hz);refine⟨.ref s.heap.objs.size,_,I.laid (t':=s.toks) (o:=.tup (xs++ys)) (fun b ob q=>ak _ q) (ah _) ?_,rfl,q2 (fun w=>z (r2.nil_iff.mpr w)) _ (I.hok.fresh (ah _))⟩;exact⟨by rw [aF]; exact hz,_,r1.append r2,IsTup.new _ _⟩
end
def ixN (n:Nat) (i:Int):Option Nat:=if 0≤i then (if i < n then some i.toNat else none) else if -(n:Int)≤i then some (i+n).toNat else none
def atI {α:Type} (xs:List α) (i:Int):Option α:=(ixN xs.length i).bind fun j=>xs[j]?
theorem zhI {n:Nat} {i:Int} {j:Nat} (h:ixN n i=some j):seqIndex? i n=some j∧j < n∧-(n:Int)≤i∧i < n:=by
 unfold ixN at h;by_cases h0:0≤i
 ·rw [if_pos h0] at h;by_cases h1:i < n
  ·rw [if_pos h1] at h;have e:i.toNat=j:=bf h;exact⟨by rw [gD h0 h1,e],#[O],#[O],h1⟩
  ·rw [if_neg h1] at h; cases h
 ·rw [if_neg h0] at h;by_cases h1:-(n:Int)≤i
  ·rw [if_pos h1] at h;have e:(i+n).toNat=j:=bf h;exact⟨by rw [jz #[O] h1,e],#[O],h1,#[O]⟩
  ·rw [if_neg h1] at h; cases h
theorem zhJ {α:Type} {xs:List α} {i:Int} {v:α} (h:atI xs i=some v):∃ j,seqIndex? i xs.length=some j∧xs[j]? = some v∧j < xs.length∧-(xs.length:Int)≤i∧i < xs.length:=by
 unfold atI at h;cases e:ixN xs.length i with
 | none=>rw [e] at h; cases h
 | some j =>
  rw [e] at h;obtain⟨h1,h2,h3,h4⟩:=zhI e;exact⟨j,h1,h,h2,h3,h4⟩
theorem zaO {α:Type} {xs:List α} {j:Nat} {v:α} (h:xs[j]? = some v):atI xs (j:Int)=some v:=by
 have hj:j < xs.length:=(bw.mp h).1;have e:ixN xs.length (j:Int)=some j:=by
  unfold ixN;rw [if_pos #[O],if_pos #[O]]; simp
 unfold atI; rw [e]; exact h
def zle (b:Expr):Prop:=∀ o i,subscripted b false o i=operate [o,i] (getItem o i)
def IxR (X:Cx) (r:R2):Prop :=
 ∀ (value slice:Expr) (kS:List (Addr×Obj)) (s:Shared) (σ:St) (H:Hp) (x y:V) (v u:Value) (Q:VK),Inv X kS σ H s→RelV x v→RelV y u→r x y H Q →
  subscripted slice false v u=operate [v,u] (getItem v u)→wpAny (model X.prog X.w) X.A (subscriptTail value slice v u) (EP X kS σ Q) X.xe s
def MtR (X:Cx) (id:String) (r:V→List V→Hp→VK→Prop):Prop :=
 ∀ (kS:List (Addr×Obj)) (s:Shared) (σ:St) (H:Hp) (x:V) (xs:List V) (v:Value) (us:List Value) (Q:VK),Inv X kS σ H s→RelV x v→zE xs us→r x xs H Q →
  wpAny (model X.prog X.w) X.A (call (.builtin id) (v :: us)) (EP X kS σ Q) X.xe s
section
variable {X:Cx} {a b:Expr} {ta tb:TE} {pos:Pos}
theorem zJ {r:R2} (hr:IxR X r) (ha:PE X a ta) (hb:PE X b tb) (hs:zle b):PE X (.Subscript a b pos) (tOp r ta tb):=by
 intro kS s σ H Q I h;exact Subscript_ (zmy ha hb I h fun v u s2 x y H2 I2 rx ry q=>hr a b kS s2 σ H2 x y v u Q I2 rx ry q (hs _ _))
def znE (K:ag):R2:=fun x y H Q=>∃ p xs i v,x = .ref p∧y = .int i∧kT K H p xs∧atI xs i=some v∧Q v H
def zof (K:ag):R2:=fun x y H Q=>∃ p xs i v,x = .ref p∧y = .int i∧kZ K H p xs∧atI xs i=some v∧Q v H
theorem zn:IxR X (znE X.K):=by
 intro value slice kS s σ H x y v u Q I rx ry h hs;obtain⟨p,xs,i,z,rfl,rfl,hq,he,q⟩:=h;cases rx;obtain⟨t,rfl⟩:=ry;obtain⟨kU,r,pl,hz⟩:=I.list hq;obtain⟨j,h1,h2,h3,h4,h5⟩:=zhJ he;obtain⟨w,ew,w8⟩:=r.get h2;have hl:=r.length;have hn:=zdW;have fin:EP X kS σ Q w s:=⟨z,H,I,w8,q⟩;by_cases h0:0≤i
 ·have hj:i.toNat=j:=by
   rw [gD h0 h5] at h1;exact bf h1
  exact item_listR pl.isList h0 #[O] (by rw [hj]; simpa using ew) fin hs
 ·have hj:(i+(kU.toArray.size:Int)).toNat=j:=by
   rw [jz #[O] h4] at h1;rw [au,← hl];exact bf h1
  exact iM (x:=w) pl.isList.typeIs slot_list_getitem.lookup
   (wpAny_getItem_list_neg (Q:=fun r s'=>r=w∧EP X kS σ Q r s') pl.isList #[O] (by rw [au] <;> lia) #[O] (by rw [hj]; simpa using ew) ⟨rfl,fin⟩) hs
theorem zg1:IxR X (zof X.K):=by
 intro value slice kS s σ H x y v u Q I rx ry h hs;obtain⟨p,xs,i,z,rfl,rfl,hq,he,q⟩:=h;cases rx;obtain⟨t,rfl⟩:=ry;obtain⟨kU,r,pl,hz⟩:=I.tuple hq;obtain⟨j,h1,h2,h3,h4,h5⟩:=zhJ he;obtain⟨w,ew,w8⟩:=r.get h2;have hl:=r.length;have hn:=zdW;have fin:EP X kS σ Q w s:=⟨z,H,I,w8,q⟩;exact iM (x:=w) pl.typeIs slot_tuple_getitem.lookup
  (getItem_tuple (j:=j) (Q:=fun r s'=>r=w∧EP X kS σ Q r s') pl #[O] #[O] (by rw [au,← hl]; exact h1) (by simpa using ew) ⟨rfl,fin⟩) hs
theorem zg2 (kU:List Value) (n j:Nat) (u:Value):cr (·.setIfInBounds j u) { cls:=.type "list",data:=.seq kU.toArray n } = { cls:=.type "list",data:=.seq (kU.set j u).toArray n }:=by
 simp [cr]
theorem Inv.lst {kS:List (Addr×Obj)} {σ:St} {H:Hp} {s:Shared} {p:Addr} {xs:List V} (I:Inv X kS σ H s) (h:H p=some (.lst xs)) :
  ∃ (kU:List Value) (n:Nat),zE xs kU∧s.heap.get? p=some { cls:=.type "list",data:=.seq kU.toArray n }∧xs.length≤sizeLine:=by
 obtain⟨z,kU,n,r,e⟩:=I.hok p _ h;exact⟨kU,n,r,e,z⟩
theorem Inv.lstUpd {kS:List (Addr×Obj)} {σ:St} {H:Hp} {s:Shared} {p:Addr} {xs ys:List V} {kU its':List Value} {n n':Nat} {f:Obj→Obj} (I:Inv X kS σ H s) (h:H p=some (.lst xs))
  (ho:s.heap.get? p=some { cls:=.type "list",data:=.seq kU.toArray n }) (hf:f { cls:=.type "list",data:=.seq kU.toArray n } = { cls:=.type "list",data:=.seq its'.toArray n' }) (r:zE ys its') (hz:ys.length≤sizeLine) (t:Nat) :
  Inv X kS σ (kX H p (.lst ys)) { s with heap:=s.heap.update p f,toks:=t }:=by
 have e:(s.heap.update p f).get? p=some { cls:=.type "list",data:=.seq its'.toArray n' }:=by
  rw [bD f ho (by rw [hf] <;> rfl),hf]
 refine I.write (x:=p) (e:=p) (by rw [h]; trivial) (.inl rfl) (fun b u hb q=>(bH _ _ (cD hb)).trans q) ⟨_,e⟩ ?_;exact⟨hz,its',n',r,e⟩
def znF:V→V→V→Hp→(Hp→Prop)→Prop:=fun o i v H Q=>∃ p xs k j,o = .ref p∧i = .int k∧H p=some (.lst xs)∧ixN xs.length k=some j∧Q (kX H p (.lst (xs.set j v)))
theorem set_list:znq X znF:=by
 intro kS s σ H o i v ov iv u Q I ro ri rv h;obtain⟨p,xs,k,j,rfl,rfl,hp,hj,q⟩:=h;cases ro;obtain⟨t,rfl⟩:=ri;obtain⟨kU,n,r,ho,hz⟩:=I.lst hp;obtain⟨h1,h2,h3,h4⟩:=zhI hj;have hl:=r.length;have hn:=zdW;have I':Inv X kS σ (kX H p (.lst (xs.set j v))) { s with heap:=s.heap.update p (cr (·.setIfInBounds j u)) } :=
  I.lstUpd hp ho (zg2 kU n j u) (r.set rv j) (by rw [cZ]; exact hz) s.toks
 by_cases h0:0≤k
 ·have hk:k.toNat=j:=by
   rw [gD h0 h4] at h1;exact bf h1
  exact PySem.W.ki_setAt ho h0 #[O] (by rw [au,← hl]; exact h4) (by rw [hk]; exact⟨_,I',q⟩)
 ·have hk:(k+(kU.toArray.size:Int)).toNat=j:=by
   rw [jz #[O] h3] at h1;rw [au,← hl];exact bf h1
  exact PySem.W.ki_setBack ho #[O] (by rw [au,← hl]; exact h3) #[O] (by rw [hk]; exact⟨_,I',q⟩)
theorem zfg (lo hi:Option Int) (n:Nat):(sliceBounds lo hi none n).1=((HT.sIx n 0 lo:Nat):Int)∧(sliceBounds lo hi none n).2.1=((HT.sIx n n hi:Nat):Int)∧(sliceBounds lo hi none n).2.2=1:=by
 refine⟨?_,?_,rfl⟩
 ·cases lo with
  | none=>simp [sliceBounds,HT.sIx]
  | some i =>
   simp only [sliceBounds,HT.sIx,j6,show (1:Int) > 0 by decide,if_true];by_cases h:i < 0
   ·simp only [h,if_true] <;> lia
   ·simp only [h,if_false] <;> lia
 ·cases hi with
  | none=>simp [sliceBounds,HT.sIx]
  | some i =>
   simp only [sliceBounds,HT.sIx,j6,show (1:Int) > 0 by decide,if_true];by_cases h:i < 0
   ·simp only [h,if_true] <;> lia
   ·simp only [h,if_false] <;> lia
theorem zet (kU:List Value) (lo hi:Option Int):slicePick kU.toArray lo hi none=((kU.drop (HT.sIx kU.length 0 lo)).take (HT.sIx kU.length kU.length hi - HT.sIx kU.length 0 lo)).toArray:=by
 obtain⟨h1,h2,h3⟩:=zfg lo hi kU.toArray.size;unfold slicePick;rw [h1,h2,h3];simp only [sliceRange_one,pick_run,au] <;> rfl
def znG (K:ag):V→Option Int→Option Int→Hp→VK→Prop:=fun x lo hi H Q=>∃ a xs,x = .ref a∧kT K H a xs∧∀ p,H p=none→Q (.ref p) (kX H p (.lst (zf9 xs lo hi)))
theorem zhK:SlR X (znG X.K):=by
 intro kS s σ H x v vl vu lo hi sl Q I rx hs pl pu h;obtain⟨a,xs,rfl,hx,q⟩:=h;cases rx;obtain⟨kU,r,ht,hz⟩:=I.list hx;have kY:=r.length;refine⟨"list",_,slot_list_getitem.lookup,ht.isList.typeIs,?_⟩;refine wpAny_getItem_list_slice ht.isList hs pl pu .none #[M] ?_ (by rw [au] <;> lia);rw [zet,← kY];refine⟨.ref s.heap.objs.size,_,I.laid (t':=s.toks) (o:=.lst (zf9 xs lo hi)) (fun b ob q=>ak _ q) (ah _) ?_,rfl,q _ (I.hok.fresh (ah _))⟩;exact⟨bi (zga xs lo hi) hz,_,0,(r.drop (HT.sIx xs.length 0 lo)).take (HT.sIx xs.length xs.length hi - HT.sIx xs.length 0 lo),aJ _ rfl⟩
def zeO:V→Bool
 | .non=>true
 | .bl _=>true
 | .int _=>true
 | .str _=>true
 | _=>false
def eqV:V→V→Bool
 | .non,.non=>true
 | .bl a,.bl b=>a == b
 | .bl a,.int b=>(if a then 1 else 0) == b
 | .int a,.bl b=>a == (if b then 1 else 0)
 | .int a,.int b=>a == b
 | .str a,.str b=>a == b
 | _,_=>false
theorem zmE {A:Around} {s:Shared} {y x:V} {u v:Value} (ry:RelV y u) (rx:RelV x v) (fy:zeO y=true) (fx:zeO x=true):SeqAt.EqAt A s u v (eqV y x):=by
 cases y with
 | non =>
  cases ry;cases x with
  | non=>cases rx; exact ki _
  | bl b=>cases rx; exact SeqAt.EqAt.none_bool b
  | int b=>obtain⟨t,rfl⟩:=rx; exact SeqAt.EqAt.none_int b t
  | str b=>obtain⟨t,rfl⟩:=rx; exact SeqAt.EqAt.none_str b t
  | _=>exact absurd (show false=true from fx) aZ
 | bl a =>
  cases ry;cases x with
  | non=>cases rx; exact SeqAt.EqAt.bool_none a
  | bl b=>cases rx; exact SeqAt.EqAt.bool_bool a b
  | int b=>obtain⟨t,rfl⟩:=rx; exact SeqAt.EqAt.bool_int a b t
  | str b=>obtain⟨t,rfl⟩:=rx; exact SeqAt.EqAt.bool_str a b t
  | _=>exact absurd (show false=true from fx) aZ
 | int a =>
  obtain⟨t',rfl⟩:=ry;cases x with
  | non=>cases rx; exact SeqAt.EqAt.int_none a t'
  | bl b=>cases rx; exact SeqAt.EqAt.int_bool a t' b
  | int b=>obtain⟨t,rfl⟩:=rx; exact SeqAt.EqAt.int_int a t' b t
  | str b=>obtain⟨t,rfl⟩:=rx; exact jv a t' b t
  | _=>exact absurd (show false=true from fx) aZ
 | str a =>
  obtain⟨t',rfl⟩:=ry;cases x with
  | non=>cases rx; exact SeqAt.EqAt.str_none a t'
  | bl b=>cases rx; exact SeqAt.EqAt.str_bool a t' b
  | int b=>obtain⟨t,rfl⟩:=rx; exact jw a t' b t
  | str b=>obtain⟨t,rfl⟩:=rx; exact SeqAt.EqAt.str_str a t' b t
  | _=>exact absurd (show false=true from fx) aZ
 | _=>exact absurd (show false=true from fy) aZ
theorem zA:za8 X (.builtin "len") (fun xs H Q=>∃ p ys,xs = [.ref p]∧(kT X.K H p ys∨kZ X.K H p ys)∧Q (.int ys.length) H):=by
 intro kS s σ H xs us Q I r h;obtain⟨p,ys,rfl,hq,q⟩:=h;obtain⟨u,rfl,rx⟩:=vals1 r;cases rx;have hn:=zdW;rcases hq with hq | hq
 ·obtain⟨kU,r',pl,hz⟩:=I.list hq;have kY:=r'.length;exact Calls.call_len_list pl.isList (by simp only [au] <;> lia) ⟨.int ys.length,H,I.tok _,⟨s.toks+1,by rw [au,kY]⟩,q⟩
 ·obtain⟨kU,r',pl,hz⟩:=I.tuple hq;have kY:=r'.length;exact len_tuple pl (by simp only [au] <;> lia) ⟨.int ys.length,H,I.tok _,⟨s.toks+1,by rw [au,kY]⟩,q⟩
theorem zaP:za8 X (.type "list") (fun xs H Q=>∃ p ys,xs = [.ref p]∧(kT X.K H p ys∨kZ X.K H p ys)∧∀ l,H l=none→Q (.ref l) (kX H l (.lst ys))):=by
 intro kS s σ H xs us Q I r h;obtain⟨p,ys,rfl,hq,q⟩:=h;obtain⟨u,rfl,rx⟩:=vals1 r;cases rx;have fin:∀ (kU:List Value),zE ys kU→ys.length≤sizeLine→∀ (h':Heap) (c':Nat),(∀ b o',s.heap.get? b=some o'→h'.get? b=some o') →
   h'.get? s.heap.objs.size=some { cls:=.type "list",dict:=none,data:=.seq kU.toArray c',slots:=#[] }→EP X kS σ Q (.ref s.heap.objs.size) { s with heap:=h' }:=fun kU r' hz h' c' kp e =>
  ⟨.ref s.heap.objs.size,_,I.laid (t':=s.toks) kp (ah _) (show zaJ X.prog X.w _ h' _ (.lst ys) from ⟨hz,kU,c',r',e⟩),rfl,q _ (I.hok.fresh (ah _))⟩
 rcases hq with hq | hq
 ·obtain⟨kU,r',pl,hz⟩:=I.list hq;have kY:=r'.length;obtain⟨o,ho,hc,n,hd⟩:=pl.isList;exact call_list_seq p (.inl rfl) ho hc hd (fun h' c' kp e=>fin kU r' hz h' c' kp e) (by simp only [au] <;> lia)
 ·obtain⟨kU,r',pl,hz⟩:=I.tuple hq;have kY:=r'.length;obtain⟨o,ho,hc,n,hd⟩:=pl;exact call_list_seq p (.inr rfl) ho hc hd (fun h' c' kp e=>fin kU r' hz h' c' kp e) (by simp only [au] <;> lia)
theorem z8:za8 X (.type "tuple") (fun xs H Q=>∃ p ys,xs = [.ref p]∧((kT X.K H p ys∧∀ l,H l=none→Q (.ref l) (kX H l (.tup ys)))∨(kZ X.K H p ys∧Q (.ref p) H))):=by
 intro kS s σ H xs us Q I r h;obtain⟨p,ys,rfl,h⟩:=h;obtain⟨u,rfl,rx⟩:=vals1 r;cases rx;rcases h with ⟨hq,q⟩ | ⟨hq,q⟩
 ·obtain⟨kU,r',pl,hz⟩:=I.list hq;have kY:=r'.length;refine call_tuple_list pl.isList (fun h' kp=>?_) (by simp only [au] <;> lia);have I1:Inv X kS σ H { s with heap:=h' }:=I.kept (t':=s.toks) kp;have I2:Inv X kS σ (kX H h'.objs.size (.tup ys)) { s with heap:=h'.push { cls:=.type "tuple",data:=.seq kU.toArray } } :=
   I1.laid (t':=s.toks) (fun b o e=>ak _ e) (ah _) (show zaJ X.prog X.w _ _ _ (.tup ys) from ⟨hz,kU,r',IsTup.new _ _⟩)
  exact⟨.ref h'.objs.size,_,I2,rfl,q _ (I1.hok.fresh (ah _))⟩
 ·obtain⟨kU,r',pl,hz⟩:=I.tuple hq;exact call_tuple_same pl ⟨.ref p,H,I,rfl,q⟩
def tyV (K:ag) (T:String) (x:V) (H:Hp):Prop:=match x with
 | .str _=>T = "str"
 | .int _=>T = "int"
 | .ref p=>(T = "list"∧∃ xs,kT K H p xs)∨(T = "tuple"∧∃ o,K.lookup p=some o∧o.cls = .type "tuple"∧o.dict=none) ∨
   (T = "dict"∧((∃ mP,H p=some (.dK mP))∨∃ mP,H p=some (.dT mP)))∨(T = "set"∧∃ S n,H p=some (.set S n))
 | _=>False
theorem zmF {kS:List (Addr×Obj)} {σ:St} {H:Hp} {s:Shared} {T:String} {x:V} {v:Value} (I:Inv X kS σ H s) (r:RelV x v) (ty:tyV X.K T x H) :
  s.TypeIs v T∧∀ a,v = .ref a→∃ ob,s.heap.get? a=some ob∧ob.dict=none:=by
 cases x with
 | str z =>
  obtain⟨t,rfl⟩:=r;cases (show T = "str" from ty);exact⟨typeIs_str s z t,fun _ e=>nomatch e⟩
 | int i =>
  obtain⟨t,rfl⟩:=r;cases (show T = "int" from ty);exact⟨kj s i t,fun _ e=>nomatch e⟩
 | ref p =>
  cases r;rcases ty with ⟨rfl,xs,hq⟩ | ⟨rfl,o,hk,hc,hd⟩ | ⟨rfl,hk⟩ | ⟨rfl,S,n,hk⟩
  ·obtain⟨kU,_,pl,_⟩:=I.list hq;refine⟨pl.isList.typeIs,fun a e=>?_⟩;cases e;obtain⟨o,n,e,c,hd,_⟩:=pl;exact⟨o,e,hd⟩
  ·refine⟨⟨o,I.kIn p o hk,hc⟩,fun a e=>?_⟩;cases e;exact⟨o,I.kIn _ o hk,hd⟩
  ·have z:∃ o,s.heap.get? p=some o∧o.ExactDict:=by
    rcases hk with ⟨mP,hk⟩ | ⟨mP,hk⟩
    ·obtain⟨_,_,_,_,o,_,_,e,ex,_⟩:=I.hok p _ hk;exact⟨o,e,ex⟩
    ·obtain⟨_,_,_,_,o,_,_,e,ex,_⟩:=I.hok p _ hk;exact⟨o,e,ex⟩
   obtain⟨o,e,ex⟩:=z;refine⟨⟨o,e,ex.1⟩,fun a e2=>?_⟩;cases e2;exact⟨o,e,ex.2.1⟩
  ·obtain⟨o,_,_,_,e,ex,_⟩:=I.hok p _ hk;refine⟨⟨o,e,ex.1⟩,fun a e2=>?_⟩;cases e2;exact⟨o,e,ex.2.1⟩
 | _=>exact dC ty
def tBM (K:ag) (T:String) (r:V→List V→Hp→VK→Prop) (to:TE) (t:TA):TE:=fun σ H Q=>to σ H fun x H1=>tyV K T x H1∧t σ H1 fun xs H2=>r x xs H2 Q
variable {o e:Expr} {es:List Expr} {to:TE} {t:TA} {name:Str} {apos nh:Pos} {T id:String} {r:V→List V→Hp→VK→Prop}
theorem zjE (pa:PlainAttrs T) (slot:Slot T name id) (AO:typeOf (.builtin id)=pure (.type "method_descriptor")) (hm:MtR X id r) (ho:PE X o to) (ha:PA X (e :: es) t)
  (rP:attributeBase o name X.env (eval o X.env)=eval o X.env:=by rfl)
  (ve:((backTo nh (starEach (e :: es) X.env)).all (fun x=>!x.1) && (backToKw nh (keywordEach [] X.env)).all (fun x=>x.1.isSome)
   && decide ((e :: es).length+([]:List Keyword).length+(if ([]:List Keyword).isEmpty then 0 else 1) < 30))=true:=by rfl)
  (rQ:(apos.endLine == nh.line)=true:=by rfl) (hs:starEach (e :: es) X.env=(false,eval e X.env) :: starEach es X.env:=by rfl) (pR:(backTo nh (starEach es X.env)).any (·.1)=false:=by rfl) :
  PE X (.Call (.Attribute o name apos) (e :: es) [] nh) (tBM X.K T r to t):=by
 intro kS s σ H Q I h;refine wpAny_Call_method_late rP ve rQ rfl (thn (ho kS s σ H _ I h) fun v s1 ⟨x,H1,I1,r1,ty,q1⟩=>?_);obtain⟨h1,h2⟩:=zmF I1 r1 ty;refine⟨T,id,pa,slot,AO,h1,h2,?_⟩;have hA:=ha nh kS s1 σ H1 _ I1 q1;rw [hs] at hA ⊢;refine Calls.callWith_builtin (by show (false || (backTo nh (starEach es X.env)).any (·.1))=false; rw [pR] <;> rfl) (Calls.evalArgs_plain ?_);exact thn hA fun us s2 ⟨vs,H2,I2,r2,q2⟩=>hm kS s2 σ H2 x vs v us Q I2 r1 r2 q2
end
def MtM (X:Cx) (id:String) (r:V→List V→Hp→VK→Prop):Prop :=
 ∀ (kS:List (Addr×Obj)) (s:Shared) (σ:St) (H:Hp) (x:V) (xs:List V) (v:Value) (us:List Value) (Q:VK),Inv X kS σ H s→RelV x v→zE xs us→r x xs H Q →
  wpAny (model X.prog X.w) X.A (call (.builtin id) (v :: us)) (EP X kS σ Q) X.xe s
theorem zE.one:∀ {x:V} {us:List Value},zE [x] us→∃ u,us = [u]∧RelV x u
 | _,_,.cons r .nil=>⟨_,rfl,r⟩
theorem zE.eraseIdx:∀ {xs:List V} {us:List Value} (i:Nat),zE xs us→zE (xs.eraseIdx i) (us.eraseIdx i)
 | _,_,_,.nil=>.nil
 | _,_,0,.cons _ t=>t
 | _,_,i+1,.cons r t=>.cons r (zE.eraseIdx i t)
theorem zE.rep {xs:List V} {us:List Value} (h:zE xs us):∀ k:Nat,zE (ar k xs).flatten (ar k us).flatten
 | 0=>.nil
 | k+1=>by
  rw [dh,dh,fJ,fJ];exact zE.append h (zE.rep h k)
theorem zeP {α:Type}:∀ (l:List α) (i:Nat),(l.eraseIdx i).length≤l.length
 | [],_=>ah _
 | _ :: _,0=>fQ _
 | _ :: r,i+1=>Nat.succ_le_succ (zeP r i)
theorem foldl_rep (kU:List Value):∀ (k:Nat) (acc:List Value),
  km (fun x1 x2=>x1++x2) acc.toArray (ar k kU.toArray)=(acc++(ar k kU).flatten).toArray
 | 0,acc=>by simp
 | k+1,acc=>by
  have e:acc.toArray++kU.toArray=(acc++kU).toArray:=by simp
  have e2:(acc++kU)++(ar k kU).flatten=acc++(ar (k+1) kU).flatten:=by
   rw [dh,fJ,bg]
  rw [← e2,← foldl_rep kU k (acc++kU),← e,dh,ko]
section
variable {X:Cx} {kS:List (Addr×Obj)} {σ:St} {H:Hp} {s:Shared} {l b:Addr} {xs ys zs:List V}
theorem Inv.lset {kU its':List Value} {n:Nat} {f:Array Value→Array Value} {t':Nat} (I:Inv X kS σ H s) (hH:H l=some (.lst xs))
  (e:s.heap.get? l=some { cls:=.type "list",data:=.seq kU.toArray n }) (hf:f kU.toArray=its'.toArray) (hv:zE ys its') (hz:ys.length≤sizeLine) :
  Inv X kS σ (kX H l (.lst ys)) { s with heap:=s.heap.update l (cr f),toks:=t' }:=by
 have q:=j7 e f;rw [hf] at q;refine I.write (x:=l) (e:=l) (by rw [hH]; exact trivial) (.inl rfl) (fun b' u hb hu=>(bH s.heap (cr f) (cD hb)).trans hu) ⟨_,q⟩ ?_;exact⟨hz,its',_,hv,q⟩
theorem Inv.lnew {kU:List Value} {t':Nat} (I:Inv X kS σ H s) (hv:zE ys kU) (hz:ys.length≤sizeLine) :
  Inv X kS σ (kX H s.heap.objs.size (.lst ys)) { s with heap:=s.heap.push { cls:=.type "list",data:=.seq kU.toArray },toks:=t' } :=
 I.laid (fun _ _ q=>ak _ q) (ah _) ⟨hz,kU,0,hv,aJ _ rfl⟩
theorem Inv.fresh (I:Inv X kS σ H s):H s.heap.objs.size=none:=I.hok.fresh (ah _)
theorem Inv.lstM (I:Inv X kS σ H s) (hH:H l=some (.lst xs)):xs.length≤sizeLine∧∃ (kU:List Value) (n:Nat),zE xs kU∧xs.length=kU.length∧s.heap.get? l=some { cls:=.type "list",data:=.seq kU.toArray n }:=by
 obtain⟨z,kU,n,r,e⟩:=I.hok l _ hH;exact⟨z,kU,n,r,r.length,e⟩
theorem zjF {n:Nat} (h:n≤sizeLine):fm n=false:=by
 unfold fm;exact decide_eq_false #[O]
end
section
variable {X:Cx}
def zlf:V→List V→Hp→VK→Prop:=fun x vs H Q=>∃ l xs y,x = .ref l∧vs = [y]∧H l=some (.lst xs)∧xs.length < sizeLine∧Q .non (kX H l (.lst (xs++[y])))
theorem zeQ:MtM X "list.append" zlf:=by
 intro kS s σ H x vs v us Q I rx rv h;obtain⟨l,xs,y,rfl,rfl,hH,hz,q⟩:=h;cases rx;obtain⟨u,rfl,ru⟩:=rv.one;obtain⟨z,kU,n,r,hl,e⟩:=I.lstM hH;refine ge jA ⟨_,e,rfl⟩ jp (i9 _ _) (jP l kU.toArray n u (by rw [au]; lia)) ⟨e,?_⟩;refine⟨.non,_,I.lset (its':=kU++[u]) hH e #[M] (r.append (.cons ru .nil)) ?_,rfl,q⟩;rw [aF,iR];lia
def zmG:V→List V→Hp→VK→Prop:=fun x vs H Q=>∃ l xs i k y,x = .ref l∧vs = [.int i]∧H l=some (.lst xs)∧-(2 ^ 63)≤i∧i < 2 ^ 63∧seqIndex? i xs.length=some k∧xs[k]? = some y∧Q y (kX H l (.lst (xs.eraseIdx k)))
theorem zjG:MtM X "list.pop" zmG:=by
 intro kS s σ H x vs v us Q I rx rv h;obtain⟨l,xs,i,k,y,rfl,rfl,hH,h1,h2,hk,hy,q⟩:=h;cases rx;obtain⟨u,rfl,ru⟩:=rv.one;obtain⟨t,rfl⟩:=ru;obtain⟨z,kU,n,r,hl,e⟩:=I.lstM hH;obtain⟨w,hw,w8⟩:=r.get hy;refine ge F.slot_list_pop ⟨_,e,rfl⟩ F.entry_list_pop (F.args_list_pop_2 _ _)
  (MeetsSeq.list_pop_at l kU.toArray n i t k w (fitsIndex_both h1 h2) (by rw [au,← hl]; exact hk) (by rw [← aS]; exact hw) (by rw [au]; lia)) ⟨e,?_⟩
 refine⟨y,_,I.lset (its':=kU.eraseIdx k) hH e ?_ (r.eraseIdx k) ?_,w8,q⟩
 ·show kU.toArray.eraseIdxIfInBounds k=(kU.eraseIdx k).toArray;rw [List.eraseIdxIfInBounds_toArray]
 ·have:=zeP xs k;lia
def zog:R2:=fun x y H Q=>∃ l b xs zs,x = .ref l∧y = .ref b∧H l=some (.lst xs)∧H b=some (.lst zs)∧xs.length+zs.length≤sizeLine∧∀ p,H p=none→Q (.ref p) (kX H p (.lst (xs++zs)))
theorem zfh:OpR X (binaryOp .Add) zog:=by
 intro kS s σ H x y v u Q I rx ry h;obtain⟨l,b,xs,zs,rfl,rfl,hH,hB,hz,q⟩:=h;cases rx;cases ry;obtain⟨z,kU,n,r,hl,e⟩:=I.lstM hH;obtain⟨z2,o8,n2,r2,rR,e2⟩:=I.lstM hB;refine PySem.P.add_list e e2 ?_ (by rw [au,au]; lia);have ea:kU.toArray++o8.toArray=(kU++o8).toArray:=by simp
 rw [ea];exact⟨.ref _,_,I.lnew (t':=s.toks) (r.append r2) (by rw [aF]; lia),rfl,q _ I.fresh⟩
def zmH:R2:=fun x y H Q=>∃ l k xs,x = .ref l∧y = .int k∧H l=some (.lst xs)∧-(2 ^ 63)≤k∧k < 2 ^ 63∧xs.length*k.toNat≤sizeLine ∧
 ∀ p,H p=none→Q (.ref p) (kX H p (.lst (ar k.toNat xs).flatten))
theorem len_rep {α:Type} (xs:List α) (k:Nat):(ar k xs).flatten.length=k*xs.length:=by
 induction k with
 | zero=>simp
 | succ k ih=>rw [dh,fJ,aF,ih,h8,Nat.add_comm]
theorem zcG:OpR X (binaryOp .Mult) zmH:=by
 intro kS s σ H x y v u Q I rx ry h;obtain⟨l,k,xs,rfl,rfl,hH,h1,h2,hz,q⟩:=h;cases rx;obtain⟨t,rfl⟩:=ry;obtain⟨z,kU,n,r,hl,e⟩:=I.lstM hH;have kY:kU.toArray.size*k.toNat≤sizeLine:=by rw [au,← hl]; exact hz
 have AQ:¬ kU.toArray.size*k.toNat > (2 ^ 63 - 1) / 8:=by
  have:(sizeLine:Nat)≤(2 ^ 63 - 1) / 8:=by decide
  lia
 have AR:¬ (!Builtin.List.listFitsIndex k)=true:=by
  rw [fitsIndex_both h1 h2];exact aZ
 have xa:¬ fm (kU.toArray.size*k.toNat)=true:=by
  rw [zjF kY];exact aZ
 have rS:km (fun x1 x2=>x1++x2) #[] (ar (if kU.toArray.isEmpty=true then 0 else k.toNat) kU.toArray)=(ar k.toNat kU).flatten.toArray:=by
  have f0:∀ m:Nat,km (fun x1 x2=>x1++x2) #[] (ar m kU.toArray)=(ar m kU).flatten.toArray:=fun m=>by
   have:=foldl_rep kU m [];rw [iE] at this;exact this
  rw [f0];cases kU with
  | nil=>simp
  | cons a r'=>rw [if_neg #[M]]
 refine wpAny_binaryOp_repeat_ref (T:="list") (U:="int") #[D] ⟨_,e,rfl⟩ (fun s'=>kj s' k t) noFill_list_mul F.fills_int_mul F.slot_int_rmul repeat_list F.slot_int_index.lookup
  (ge F.slot_int_rmul (kj s k t) F.entry_int_rmul (F.args_int_rmul_2 _ _) (int___rmul___int_list k t l kU.toArray n)
   ⟨e,rfl,⟨_,e,rfl⟩,ge F.slot_list_mul ⟨_,e,rfl⟩ F.entry_list_mul (F.args_list_mul_2 _ _) (AutoListH.list___mul___list_int_3 l kU.toArray n k t AR AQ xa) ⟨e,?_⟩⟩)
 rw [rS];exact⟨.ref _,_,I.lnew (t':=s.toks) (r.rep k.toNat) (by rw [len_rep,Nat.mul_comm]; exact hz),rfl,q _ I.fresh⟩
end
end L2
namespace Att
open PySem PySem.W PySem.Calls PyProof.Rows
theorem zdy {P:Params} {h:Heap}:∀ (ns:List Int) (vs:List Value),WellAll P h vs (ns.map WData.int)→IntsAre vs ns:=by
 intro ns;induction ns with
 | nil =>
  intro vs w;rw [jy] at w;cases w;exact .nil
 | cons n ns ih =>
  intro vs w;rw [dA] at w;cases w with
  | cons a b =>
   cases a;exact .cons _ _ (ih _ b)
theorem ziI {l:OpenLaw} {n:Nat} (hn:l.most=some n) {P:Params} {h:Heap} {args:List WData} {vals:List Value}
  (pS:l.row.toRowW.claim.pre args=true) (AS:WellAll P h vals args) :
  ∃ a vs ns,vals = [a8 a]∧args = [WData.list (ns.map WData.int)]∧h.get? a=some { cls:=.type "list",data:=.seq vs.toArray }∧IntsAre vs ns∧ns.length≤n:=by
 have hsh:WShape.hasAll [] args [.list .int]=true:=(pre_splitW pS).1;have hc:l.pre.holds [] { args:=args }=true:=(pre_splitW pS).2;obtain⟨d,r,rfl,h1,h2⟩:=hasAllW_cons hsh;obtain rfl:=hasAllW_nil h2;obtain⟨xs,rfl,h3⟩:=hasW_list h1;obtain⟨ns,rfl⟩:=items_int h3;have kY:ns.length≤n:=by
  unfold OpenLaw.pre at hc;have h4:(WTm.not (.lt (.lit (.int (n:Int))) (.len (.arg 0)))).holds [] { args:=[.list (ns.map .int)] }=true:=by
   have h4:=(holds_andW hc).1;rw [hn] at h4;exact h4
  have h5:=condW_of h4 (w_not (w_lt w_lit (w_len_list (w_arg rfl))));rw [ab] at h5;refine j8 fun q=>?_
  have q':(n:Int) < ((ns.length:Nat):Int):=by lia
  first
   | (rw [decide_eq_true q'] at h5; exact absurd h5 #[D])
   | (simp at h5; lia)
 cases AS with
 | cons w1 w2 =>
  cases w2;cases w1 with
  | list ho lR=>exact⟨_,_,ns,rfl,rfl,ho,zdy ns _ lR,kY⟩
theorem ziJ (l:OpenLaw) (args:List WData):l.row.toRowW.claim.post args (.bool true) args=true :=
 postW_of (r:=l.row.toRowW) (X:=(true == true))
  (show WShape.has [] (.bool true) .bool=true by first | rfl | decide | simp [WShape.has,WShape.arms,WShape.armsAll])
  (show (WTm.eq .res (.lit (.bool true))).value [] { args:=args,res:=some (.bool true),after:=args }=some (.bool (true == true)) from w_eq_bool (w_res rfl) w_lit) rfl
theorem attach_call {l:OpenLaw} {n:Nat} {q:Program} {loose:List Str} {XP:(Str→Option Value)→Heap→Prop} {YP:World→Heap→Prop} {d:DefRec}
  (hn:l.most=some n) (xb:d.params.defaults = [])
  (call:∀ (w:World) (s₀ s₁:Shared) (mg mb:Str→Option Value) (fa:Addr) (o:Obj) (pm cd doc:Value) (a:Addr) (vs:List Value) (ns:List Int),
   Ground q loose [] XP w s₀ mg mb s₁.heap→YP w s₁.heap →
   s₁.heap.get? fa=some o→o.data = .func (docDef d.name d.params d.body d.scope pm cd doc)→s₁.heap.CodeRec cd d.name→mg d.name=some (.ref fa) →
   s₁.heap.get? a=some { cls:=.type "list",data:=.seq vs.toArray }→IntsAre vs ns→ns.length≤n→s₁.gens = #[] →
   codeAny (model l.prog w) callerA (.call (.ref fa) ⟨[.ref a],[]⟩) (fun r s'=>r = .ok (.ret (.bool true))∧OldK s₁.heap s'.heap∧s'.os=s₁.os∧AllBare s'.gens) s₁) :
  WalkO q loose XP YP l.row.toRowW d [] (fun f vs=>kq f vs):=by
 intro w s₀ s₁ mg mb G Y fa o pm cd doc dV kV ho hd rN hD qG hg args vals as pS hlay hrd AS nP;obtain rfl:dV = .none:=Dflts.none hD xb;obtain rfl:kV = .none:=Dflts.noKw hD;obtain⟨a,vs,ns,rfl,rfl,vf,hints,kY⟩:=ziI hn pS AS;refine enter_call (gb (call w s₀ s₁ mg mb fa o pm cd doc a vs ns G Y ho (fd_plain hd) rN qG vf hints kY hg) fun r s' hq=>?_);obtain⟨rfl,h2,h3,h4⟩:=hq;exact⟨.inl ⟨.bool true,.bool true,[],rfl,fun _=>rfl,.bool true,ziJ l _,fun _=>⟨fK,fun _ hm=>(nomatch hm)⟩⟩,h2,h3,h4⟩
end Att
namespace L2
open PySem PySem.Spec PyProof.Rows
theorem zeR:∀ {vs:List Value} {ns:List Int},IntsAre vs ns→zE (ns.map V.int) vs
 | _,_,.nil=>.nil
 | _,_,.cons n t h=>.cons ⟨t,rfl⟩ (zeR h)
def zmI (H:Hp):Prop:=∀ b,H b=none∨∃ o xs,H b=some (.frz o (.lst xs))
theorem zjH {P:Program} {w:World} {K:ag} {mg mb:Str→Option Value} {CX:CXT} {k:Nat} {fa a:Addr} {fd:FuncData} {x:Str} {sp:Sp} {s₁:Shared} {vs:List Value} {ns:List Int}
  (KX:K.In s₁.heap) (qt:s₁.heap.Ns mainGlobals mg) (hb:s₁.heap.Ns builtinsNs mb) (hbb:∀ x:Str,x≠"__name__"→mb x=bootBuiltins x) (AU:s₁.heap.NoLimit) (hg:s₁.gens = #[])
  (ha:s₁.heap.get? a=some { cls:=.type "list",data:=.seq vs.toArray }) (hi:IntsAre vs ns) (hl:ns.length≤sizeLine) (hr:Room k callerA)
  (F:∀ base:Heap,K.In base→base.Ns mainGlobals mg→FnOk P w K mg base CX k fa fd [x] sp) (xc:∀ (s:Shared) (u:Value),BindsTo s fd ⟨[u],[]⟩ [(x,u)])
  (uq:∀ H:Hp,zmI H→kT K H a (ns.map V.int)→sp [.ref a] H (fun v _=>v = .bl true) fun _ _ _=>False)
  (AV:∀ H e s',CX [] H s₁ (fun _ _ _=>False) e s'→False) :
  codeAny (model P w) callerA (.call (.ref fa) ⟨[.ref a],[]⟩) (fun r s'=>r = .ok (.ret (.bool true))∧OldK s₁.heap s'.heap∧s'.os=s₁.os∧AllBare s'.gens) s₁:=by
 have rv:=zeR hi;have AW:=hi.length;have core:∀ H:Hp,zmI H→kT K H a (ns.map V.int)→HOk P w H s₁.heap→(∀ b,H b≠none→b=a)→(H a≠none→K.lookup a=none) →
   codeAny (model P w) callerA (.call (.ref fa) ⟨[.ref a],[]⟩) (fun r s'=>r = .ok (.ret (.bool true))∧OldK s₁.heap s'.heap∧s'.os=s₁.os∧AllBare s'.gens) s₁:=by
  intro H hO hS hok hA hK;have qu:∀ {b:Addr} {o:Obj},s₁.heap.get? b=some o→H b=none→(zff s₁.heap H).get? b=some o:=fun e n=>zjw e n
  have vd:∀ {b:Addr} {o:Obj} {es:Array DictEntry} {ep:Nat},s₁.heap.get? b=some o→o.data = .dict es ep→H b=none:=fun {b o es ep} e d=>by
   cases q:H b with
   | none=>rfl
   | some u =>
    have e':b=a:=hA b (by rw [q]; simp);subst e';rw [ha] at e; cases e;have d':Data.seq vs.toArray _=Data.dict es ep:=d;cases d'
  have y6:∀ {b:Addr} {m:Str→Option Value},s₁.heap.Ns b m→(zff s₁.heap H).Ns b m:=fun {b m} ⟨o,es,ep,e,d,r⟩=>⟨o,es,ep,qu e (vd e d),d,r⟩
  have hKb:K.In (zff s₁.heap H):=fun b o e=>qu (KX b o e) (by
   cases q:H b with
   | none=>rfl
   | some u =>
    have e':b=a:=hA b (by rw [q]; simp);subst e';rw [hK (by rw [q]; simp)] at e; cases e)
  have hM:Mod K mg (zff s₁.heap H):=⟨hKb,y6 qt,⟨mb,y6 hb,hbb⟩,let ⟨mc,h1,h2⟩:=AU; ⟨mc,y6 h1,h2⟩⟩;have e0:Env0 P w K mg (zff s₁.heap H) callerA [] s₁ H:=⟨rfl,hM,fun b o e=>zk6 e,Nat.le_of_eq (ziD _ _),trivial,fun b hb=>absurd (show b∈([]:List Addr) from hb) #[M],hok,.of_eq hg⟩;refine gb ((F _ hKb (y6 qt)).run callerA [] s₁ H ⟨[.ref a],[]⟩ [.ref a] [.ref a] _ _ hr e0 (xc s₁ (.ref a)) (.cons rfl .nil) (uq H hO hS)) fun r s' h=>?_
  cases r with
  | error e=>exact (AV H e s' h).elim
  | ok fl =>
   cases fl with
   | next=>exact dC h
   | brk=>exact dC h
   | cont=>exact dC h
   | ret u =>
    obtain⟨v,H',os,bare,un,AY,r',q⟩:=h;have q':v = .bl true:=q;subst q';obtain rfl:u=Value.bool true:=r';refine⟨rfl,OldK.of_keep fun b o e=>?_,os,bare⟩;cases q:H b with
    | none=>exact un.keep b o e q (by intro z; exact absurd (show b∈([]:List Addr) from z) #[M]) #[M]
    | some u =>
     rcases hO b with z | ⟨ob,xs,z⟩
     ·rw [q] at z; cases z
     ·have z2:=un.frzs b ob _ z;obtain⟨e1,_⟩:=hok b _ z;obtain⟨e2,_⟩:=AY b _ z2;rw [e] at e1; cases e1;exact e2
 cases hk:K.lookup a with
 | some o =>
  have e:=KX a o hk;rw [ha] at e;cases e;refine core (fun _=>none) (fun _=>.inl rfl) (.inr ⟨_,vs.toArray,_,hk,rfl,rfl,rfl,by rw [au,AW]; exact hl,by simpa using rv⟩) (fun b u z=>by have z':(none:Option HO)=some u:=z; cases z') (fun b z=>absurd rfl z) fun z=>absurd rfl z
 | none =>
  refine core (fun b=>if b=a then some (.frz { cls:=.type "list",data:=.seq vs.toArray } (.lst (ns.map V.int))) else none) (fun b=>?_) (.inl (.inr ⟨{ cls:=.type "list",data:=.seq vs.toArray },if_pos rfl⟩)) (fun b u z=>?_) (fun b z=>?_) fun _=>hk
  ·by_cases hb:b=a
   ·exact .inr ⟨_,_,if_pos hb⟩
   ·exact .inl (if_neg hb)
  ·by_cases hb:b=a
   ·have z':=(if_pos hb).symm.trans z;cases z';subst hb;exact⟨ha,by rw [ab]; exact hl,vs,_,rv,ha⟩
   ·have z':=(if_neg hb).symm.trans z;cases z'
  ·by_cases hb:b=a
   ·exact hb
   ·exact absurd (if_neg hb) z
theorem zlg {l:iF} {n k:Nat} {q:Program} {loose:List Str} {XP:(Str→Option Value)→Heap→Prop} {YP:World→Heap→Prop} {d:DefRec} {K:Params→ag} {CX:World→CXT} {sp:World→Sp} {x:Str}
  (hn:l.most=some n) (rA:n≤sizeLine) (xb:d.params.defaults = []) (hr:Room k callerA)
  (hY:∀ (w:World) (h:Heap),YP w h→(K w.params).In h)
  (F:∀ (w:World) (mg:Str→Option Value) (fa:Addr) (h:Heap),(K w.params).In h→h.Ns mainGlobals mg→mg d.name=some (.ref fa) →
   ∃ fd:FuncData,(∀ (s:Shared) (u:Value),BindsTo s fd ⟨[u],[]⟩ [(x,u)]) ∧
    ∀ base:Heap,(K w.params).In base→base.Ns mainGlobals mg→FnOk l.prog w (K w.params) mg base (CX w) k fa fd [x] (sp w))
  (uq:∀ (w:World) (H:Hp) (a:Addr) (ns:List Int),ns.length≤n→zmI H→kT (K w.params) H a (ns.map V.int)→sp w [.ref a] H (fun v _=>v = .bl true) fun _ _ _=>False)
  (AV:∀ (w:World) (H:Hp) (s:Shared) (e:Value) (s':Shared),CX w [] H s (fun _ _ _=>False) e s'→False) :
  kE q loose XP YP l.row.toRowW d [] (fun f vs=>kq f vs):=by
 refine Att.attach_call hn xb fun w s₀ s₁ mg mb fa o pm cd doc a vs ns G Y ho hd rN qG vf hints kY hg=>?_
 have KX:=hY w _ Y;obtain⟨fd,hb,hF⟩:=F w mg fa _ KX G.T.g qG;exact zjH KX G.T.g G.T.b G.T.builtins G.T.nolimit hg vf hints (bi kY rA) hr hF hb (fun H hO hS=>uq w H a ns kY hO hS) fun H e s'=>AV w H s₁ e s'
def zbp (s:Stmt):Arguments:=match s with
 | .FunctionDef _ a _ _ _ _ _ _ _ _=>a
 | _=>{ posonlyargs:=[],args:=[],vararg:=none,kwonlyargs:=[],kw_defaults:=[],kwarg:=none,defaults:=[] }
def zbb (s:Stmt):List Stmt:=match s with
 | .FunctionDef _ _ b _ _ _ _ _ _ _=>b
 | _=>[]
def zh (s:Stmt):Scope:=match s with
 | .FunctionDef _ _ _ _ _ _ sc _ _ _=>sc
 | _=>{ kind:=.function,names:=[],isGenerator:=false,isCoroutine:=false }
abbrev CX0:CXT:=fun _ _ _ _ _ _=>False
abbrev E0:XK:=fun _ _ _=>False
theorem zK {X:Cx}:zg0 CX0 X E0:=fun _ _ _ _ _ _ _ h=>h.elim
structure Fun (K:ag) (x qual:Str) (st:Stmt) (f:Addr) (fd:FuncData):Prop where
 ex:∃ (oc:Value) (od:Option Addr) (kV doc pm:Value) (an:Option Addr) (lM ct:Value) (uo:Array (Option Value)),
  fd=cY x qual (zbp st) (zbb st) (zh st) .none kV doc pm an lM ct∧K.lookup f=some ⟨oc,od,.func fd,uo⟩∧fA K lM qual=true
 kp:fz K (.ref f)=true
section
variable {P:Program} {w:World} {K:ag} {mg:Str→Option Value} {base:Heap}
theorem Fun.ok {x qual:Str} {st:Stmt} {f:Addr} {fd:FuncData} {N ps:List Str} {k:Nat} {sp:Sp} (F:Fun K x qual st f fd) (S:FnScope N ps (zh st)) (len:∀ vs H Q E,sp vs H Q E→vs.length=ps.length)
  (rO:∀ (lM:Value) (A:Around) (outer:List Env) (s:Shared) (H:Hp) (vs:List V) (Q:VK) (E:XK),Room k (A.deeper (envOfC qual (zh st) s.heap.objs.size f lM))→sp vs H Q E →
   ∃ t,PSs (ziG CX0 P w K mg base N qual (zh st) f lM A outer s H E).nox (zbb st) t∧t { nx:=fun _ H'=>Q .non H',rt:=Q } (start N vs) H):FnOk P w K mg base CX0 (k+1) f fd ps sp:=by
 obtain⟨oc,od,kV,doc,pm,an,lM,ct,uo,rfl,lk,rN⟩:=F.ex;refine znB lk rN S len fun A outer s H vs Q E hr uq=>?_
 obtain⟨t,h,q⟩:=rO lM A outer s H vs Q E hr uq;exact⟨t,h.nox,q⟩
theorem Fun.binds {x qual:Str} {st:Stmt} {f:Addr} {fd:FuncData} {ps:List Str} (F:Fun K x qual st f fd)
  (h:∀ (kV doc pm:Value) (an:Option Addr) (lM ct:Value) (us:List Value),us.length=ps.length→bindArgs (cY x qual (zbp st) (zbb st) (zh st) .none kV doc pm an lM ct) ⟨us,[]⟩=pure (ps.zip us)):Binds K fd ps []:=by
 obtain⟨oc,od,kV,doc,pm,an,lM,ct,uo,rfl,lk,rN⟩:=F.ex;exact .all (h kV doc pm an lM ct)
theorem zjI {x qual:Str} {st:Stmt} {f:Addr} {oc:Value} {od an:Option Addr} {uo:Array (Option Value)} {kV doc pm lM ct:Value} (l:K.lookup f=some ⟨oc,od,.func (cY x qual (zbp st) (zbb st) (zh st) .none kV doc pm an lM ct),uo⟩)
  (c:fA K lM qual=true) (k:fz K (.ref f)=true):Fun K x qual st f (cY x qual (zbp st) (zbb st) (zh st) .none kV doc pm an lM ct):=⟨⟨oc,od,kV,doc,pm,an,lM,ct,uo,rfl,l,c⟩,k⟩
end
theorem zmJ {A B:Prop} (h:B):if false=true then A else B:=by
 rw [if_neg aZ];exact h
theorem zcH {c A B:Prop} [Decidable c] (h1:c→A) (h2:¬ c→B):if c then A else B:=by
 by_cases h:c
 ·rw [if_pos h];exact h1 h
 ·rw [if_neg h];exact h2 h
def zC (H H':Hp):Prop:=∀ b o,H b=some o→H' b=some o
theorem zC.trans {H H1 H2:Hp} (a:zC H H1) (b:zC H1 H2):zC H H2:=fun c o h=>b c o (a c o h)
theorem zC.free {H H':Hp} (e:zC H H') {l:Addr} (h:H' l=kQ):H l=kQ:=by
 cases q:H l with
 | none=>rfl
 | some o =>
  rw [e l o q] at h;cases h
theorem zC.seq {K:ag} {H H':Hp} {a:Addr} {xs:List V} (e:zC H H') (h:kT K H a xs):kT K H' a xs:=by
 rcases h with (h | ⟨o,h⟩) | h
 ·exact .inl (.inl (e _ _ h))
 ·exact .inl (.inr ⟨o,e _ _ h⟩)
 ·exact .inr h
end L2
section
namespace L2
open PySem
abbrev Ends.n (D:Ends) (N:St→Hp→Prop):Ends:={ D with nx:=N }
section
variable {r1 r2 r3 r4 r5 r6 r7 r8 r9 r10 r11 r12 r13 r14 r15:TS} {D:Ends} {σ:St} {H:Hp}
theorem zjJ (h:let N2:=r2 D; r1 (D.n N2) σ H):(zas r1 r2) D σ H:=h
theorem zjK (h:let N3:=r3 D; let N2:=r2 (D.n N3); r1 (D.n N2) σ H):(zas r1 (zas r2 r3)) D σ H:=h
theorem zlh (h:let N4:=r4 D; let N3:=r3 (D.n N4); let N2:=r2 (D.n N3); r1 (D.n N2) σ H):(zas r1 (zas r2 (zas r3 r4))) D σ H:=h
theorem zoh (h:let N5:=r5 D; let N4:=r4 (D.n N5); let N3:=r3 (D.n N4); let N2:=r2 (D.n N3); r1 (D.n N2) σ H):(zas r1 (zas r2 (zas r3 (zas r4 r5)))) D σ H:=h
theorem zoi (h:let N6:=r6 D; let N5:=r5 (D.n N6); let N4:=r4 (D.n N5); let N3:=r3 (D.n N4); let N2:=r2 (D.n N3); r1 (D.n N2) σ H):(zas r1 (zas r2 (zas r3 (zas r4 (zas r5 r6))))) D σ H:=h
theorem znH (h:let N7:=r7 D; let N6:=r6 (D.n N7); let N5:=r5 (D.n N6); let N4:=r4 (D.n N5); let N3:=r3 (D.n N4); let N2:=r2 (D.n N3); r1 (D.n N2) σ H):(zas r1 (zas r2 (zas r3 (zas r4 (zas r5 (zas r6 r7)))))) D σ H:=h
theorem znI (h:let N15:=r15 D; let N14:=r14 (D.n N15); let N13:=r13 (D.n N14); let N12:=r12 (D.n N13); let N11:=r11 (D.n N12); let N10:=r10 (D.n N11); let N9:=r9 (D.n N10); let N8:=r8 (D.n N9); let N7:=r7 (D.n N8); let N6:=r6 (D.n N7); let N5:=r5 (D.n N6); let N4:=r4 (D.n N5); let N3:=r3 (D.n N4); let N2:=r2 (D.n N3); r1 (D.n N2) σ H):(zas r1 (zas r2 (zas r3 (zas r4 (zas r5 (zas r6 (zas r7 (zas r8 (zas r9 (zas r10 (zas r11 (zas r12 (zas r13 (zas r14 r15)))))))))))))) D σ H:=h
theorem zbo {X0:Cx} {B:List PySem.Stmt} (h:let X:=X0; ∃ t,PSs X B t∧t D σ H):∃ t,PSs X0 B t∧t D σ H:=h
end
end L2
end
section
namespace L2
open PySem PySem.Spec PyProof.Rows
def zZ (cs:List (Str×Addr)):List (Str×NameKind)→List (Str×Addr)→List (Str×Addr)
 | [],acc=>acc
 | (n,k) :: r,acc=>if k == .free then zZ cs r ((n,(cs.lookup n).getD 0) :: acc) else zZ cs r acc
theorem zcx {scope:Scope} {env:Env} (h:∀ y∈scope.names,y.2 = .free→∃ c,env.cells.lookup y.1=some c) :
  closureFor scope env=pure (zZ env.cells scope.names []):=by
 have go:∀ (names:List (Str×NameKind)) (acc:List (Str×Addr)),(∀ y∈names,y.2 = .free→∃ c,env.cells.lookup y.1=some c) →
   (forIn names acc (fun (x:Str×NameKind) (cs:List (Str×Addr))=>(if (x.2 == bX)=true then do
    let a ← cellOf env x.1
    pure (cB ((x.1,a) :: cs)) else pure (cB cs):Sem (ForInStep (List (Str×Addr))))))=(pure (zZ env.cells names acc):Sem _):=by
  intro names;induction names with
  | nil=>intro acc _; rfl
  | cons y r ih =>
   intro acc hy;obtain⟨n,k⟩:=y;rw [kr];cases hk:(k == bX) with
   | true =>
    obtain⟨c,hc⟩:=hy (n,k) aL (by simpa using hk);have oB:cellOf env n=pure c:=by
     unfold cellOf;have lJ:env.cells.lookup n=some c:=hc;rw [lJ]
    simp only [hk,if_true,oB];have e:=ih ((n,c) :: acc) fun y qH=>hy y (aw _ qH)
    have lJ:env.cells.lookup n=some c:=hc;simp only [zZ,hk,if_true,lJ,dM];exact e
   | false =>
    simp only [hk,aG,if_false];have e:=ih acc fun y qH=>hy y (aw _ qH)
    simp only [zZ,hk,aG,if_false];exact e
 have e:=go scope.names [] h;unfold closureFor;show (forIn scope.names [] _ >>= fun cs=>pure cs)=_
 first
  | (rw [e]; rfl)
  | (simp only []; rw [e]; rfl)
  | (have e':=e; simp at e' ⊢; exact e')
theorem zbw {cs:List (Str×Addr)}:∀ (names:List (Str×NameKind)) (acc:List (Str×Addr)),
  (∀ y∈names,y.2 = .free→∃ c,cs.lookup y.1=some c)→(∀ x c,acc.lookup x=some c→cs.lookup x=some c) →
  ∀ x c,(zZ cs names acc).lookup x=some c→cs.lookup x=some c
 | [],acc,_,h,x,c,e=>h x c e
 | (n,k) :: r,acc,hy,h,x,c,e=>by
  have hr:∀ y∈r,y.2 = .free→∃ c,cs.lookup y.1=some c:=fun y qH=>hy y (aw _ qH)
  unfold zZ at e;cases hk:(k == bX) with
  | false =>
   rw [hk] at e;exact zbw r acc hr h x c e
  | true =>
   rw [hk] at e;obtain⟨d,hd⟩:=hy (n,k) aL (by simpa using hk);have sP:cs.lookup n=some d:=hd;refine zbw r _ hr (fun x c e'=>?_) x c e;rw [sP,dM,bx] at e';cases hx:(x == n) with
   | true =>
    rw [hx] at e';have:x=n:=by simpa using hx
    subst this;rw [sP];exact e'
   | false =>
    rw [hx] at e';exact h x c e'
theorem zbM {cs:List (Str×Addr)}:∀ (names:List (Str×NameKind)) (acc:List (Str×Addr)) (x:Str),
  ((∃ c,acc.lookup x=some c)∨(x,bX)∈names)→∃ c,(zZ cs names acc).lookup x=some c
 | [],acc,x,h=>by
  rcases h with h | h
  ·exact h
  ·cases h
 | (n,k) :: r,acc,x,h=>by
  unfold zZ;cases hk:(k == bX) with
  | false =>
   refine zbM r acc x ?_;rcases h with h | h
   ·exact .inl h
   ·rcases aH.mp h with h | h
    ·cases h;exact absurd hk #[D]
    ·exact .inr h
  | true =>
   refine zbM r _ x ?_;cases hx:(x == n) with
   | true=>exact .inl ⟨_,by rw [bx,hx]⟩
   | false =>
    rcases h with ⟨c,h⟩ | h
    ·exact .inl ⟨c,by rw [bx,hx]; exact h⟩
    ·rcases aH.mp h with h | h
     ·cases h;simp at hx
     ·exact .inr h
theorem lookup_mem {α:Type}:∀ {l:List (Str×α)} {x:Str} {k:α},l.lookup x=some k→(x,k)∈l
 | [],x,k,h=>by simp at h
 | (n,j) :: r,x,k,h=>by
  rw [bx] at h;cases hx:(x == n) with
  | true =>
   rw [hx] at h;have:x=n:=by simpa using hx
   subst this;cases h;exact aL
  | false =>
   rw [hx] at h;exact aw _ (lookup_mem h)
theorem za9 {env:Env}:∀ {names:List (Str×NameKind)} {x:Str},names.lookup x=some .free →
  (names.map fun (n,k)=>if (k == bX && env.scope.kind == .function && env.kindOf n == some .cell) then (n,cS) else (n,k)).lookup x=some .cell ∨
  (names.map fun (n,k)=>if (k == bX && env.scope.kind == .function && env.kindOf n == some .cell) then (n,cS) else (n,k)).lookup x=some .free
 | [],_,h=>by simp at h
 | (n,k) :: r,x,h=>by
  have ih:=@za9 env r x;simp only [dA];cases hx:x == n with
  | true =>
   simp only [bx,hx] at h; cases h;by_cases hc:(bX == bX && env.scope.kind == .function && env.kindOf n == some .cell)=true
   ·rw [if_pos hc]; left; simp only [bx,hx]
   ·rw [if_neg hc]; right; simp only [bx,hx]
  | false =>
   simp only [bx,hx] at h; rcases jB ((k == bX && env.scope.kind == .function && env.kindOf n == some .cell)=true) with hc | hc
   ·exact (by rw [if_pos hc]; simp only [bx,hx]; exact ih h)
   ·exact (by rw [if_neg hc]; simp only [bx,hx]; exact ih h)
theorem zcO {env:Env}:∀ {names:List (Str×NameKind)} {x:Str},
  ((names.map fun (n,k)=>if (k == bX && env.scope.kind == .function && env.kindOf n == some .cell) then (n,cS) else (n,k)).lookup x=some .cell ∨
  (names.map fun (n,k)=>if (k == bX && env.scope.kind == .function && env.kindOf n == some .cell) then (n,cS) else (n,k)).lookup x=some .free) →
  names.lookup x=some .free∨names.lookup x=some .cell
 | [],_,h=>by simp at h
 | (n,k) :: r,x,h=>by
  have ih:=@zcO env r x;simp only [dA] at h;cases hx:x == n with
  | true =>
   rcases jB ((k == bX && env.scope.kind == .function && env.kindOf n == some .cell)=true) with hc | hc
   ·have hk:k = .free:=by
     simp only [di] at hc; simpa using hc.1.1
    subst hk;exact .inl (by simp only [bx,hx])
   ·rw [if_neg hc] at h;simp only [bx,hx] at h ⊢;rcases h with h | h
    ·exact .inr h
    ·exact .inl h
  | false =>
   rcases jB ((k == bX && env.scope.kind == .function && env.kindOf n == some .cell)=true) with hc | hc
   ·rw [if_pos hc] at h;simp only [bx,hx] at h ⊢;exact ih h
   ·rw [if_neg hc] at h;simp only [bx,hx] at h ⊢;exact ih h
theorem zfi:∀ (names:List (Str×NameKind)) (n:Nat) (acc:List (Str×Addr)) (x:Str),(x,cS)∉names→(cellsFrom n names acc).lookup x=acc.lookup x
 | [],_,_,_,_=>rfl
 | (y,k) :: r,n,acc,x,h=>by
  have hr:(x,cS)∉r:=fun z=>h (aw _ z)
  unfold cellsFrom;split
  ·rename_i hk
   have oC:k = .cell:=by simpa using hk
   rw [zfi r _ _ x hr,bx];cases hx:(x == y) with
   | true =>
    have:x=y:=by simpa using hx
    subst this;subst oC;exact absurd aL h
   | false=>rfl
  ·exact zfi r _ _ x hr
theorem zfj:∀ (names:List (Str×NameKind)) (n:Nat) (acc:List (Str×Addr)) (x:Str),(x,cS)∈names→∃ c,(cellsFrom n names acc).lookup x=some c∧n≤c
 | (y,k) :: r,n,acc,x,h=>by
  by_cases hr:(x,cS)∈r
  ·unfold cellsFrom;split
   ·obtain⟨c,e,l⟩:=zfj r (n+1) ((y,n) :: acc) x hr;exact⟨c,e,#[O]⟩
   ·exact zfj r n acc x hr
  ·rcases aH.mp h with e | e
   ·cases e;unfold cellsFrom;rw [if_pos #[D],zfi r _ _ _ hr,bx,beq_self_eq_true];exact⟨n,rfl,ah _⟩
   ·exact absurd e hr
structure CO (h:Heap) (lo:Nat) (old cs:List (Str×Addr)):Prop where
 each:∀ x c,cs.lookup x=some c→(h.IsCell c none∧lo≤c)∨(old.lookup x=some c∧c < lo)
 inj:∀ x y c,cs.lookup x=some c→cs.lookup y=some c→x=y
theorem zjL {lo:Nat} {old:List (Str×Addr)}:∀ (names:List (Str×NameKind)) (h:Heap) (acc:List (Str×Addr)),CO h lo old acc→lo≤h.objs.size→CO (pushCells h names) lo old (cellsFrom h.objs.size names acc)
 | [],_,_,a,_=>a
 | (y,k) :: r,h,acc,a,hl=>by
  unfold pushCells cellsFrom;split
  ·have lt:∀ x c,acc.lookup x=some c→c < h.objs.size:=fun x c e=>(a.each x c e).elim (fun z=>z.1.lt) fun z=>bj z.2 hl
   have key:∀ x c,List.lookup x ((y,h.objs.size) :: acc)=some c→(x=y∧c=h.objs.size)∨acc.lookup x=some c:=fun x c e=>by
    rw [bx] at e;cases hx:(x == y) with
    | true =>
     rw [hx] at e;exact .inl ⟨by simpa using hx,(bf e).symm⟩
    | false =>
     rw [hx] at e;exact .inr e
   have:=zjL (lo:=lo) (old:=old) r (h.push { cls:=.type "cell",data:=.cell none }) ((y,h.objs.size) :: acc) ⟨fun x c e=>?_,fun x z c e1 e2=>?_⟩ (by rw [bK]; lia)
   ·rw [bK] at this;exact this
   ·rcases key x c e with ⟨_,rfl⟩ | e
    ·exact .inl ⟨⟨_,aJ _ rfl,rfl⟩,hl⟩
    ·rcases a.each x c e with z | z
     ·exact .inl ⟨z.1.keeps fun b o e=>ak _ e,z.2⟩
     ·exact .inr z
   ·rcases key x c e1 with ⟨p1,q1⟩ | f1 <;> rcases key z c e2 with ⟨p2,q2⟩ | f2
    ·exact p1.trans p2.symm
    ·exact absurd (lt _ _ f2) (by rw [q1]; exact bW _)
    ·exact absurd (lt _ _ f1) (by rw [q2]; exact bW _)
    ·exact a.inj x z c f1 f2
  ·exact zjL r h acc a hl
theorem ziK {M:Model} {A:Around} {E:Value→Shared→Prop} {s:Shared} {scope:Scope} {globals:Addr} {closure:List (Str×Addr)} {qual:Str} {env:Env} {Q:Env→Shared→Prop}
  (h:Q (newEnv scope s.heap.objs.size globals (cellsFrom (s.heap.objs.size+1) scope.names closure) qual none .none (some env) builtinsNs) { s with heap:=pushCells (s.heap.push { cls:=.type "dict",data:=.dict #[] }) scope.names }) :
  wpAny M A (newFunctionEnv scope globals closure [] qual none .none (some env)) Q E s:=by
 (simp only [newFunctionEnv,Option.isSome_some,if_true])
 (refine ae (wpAny_alloc ?_))
 (refine ae (wpAny_layCells _ (fun name kind cells=>by cases hkc:kind == cS <;> simp [hkc]) _ _ _ _ ?_))
 rw [show ({ s with heap:=s.heap.push { cls:=.type "dict",data:=.dict #[] } }:Shared).heap.objs.size=s.heap.objs.size+1 from bK ..]
 (exact ae (aj (aj h)))
abbrev zB (X:Cx) (N':List Str) (scope:Scope) (s₃:Shared) (H₃:Hp) (ex:List Addr) (kS:List (Addr×Obj)):Cx :=
 { X with N:=N',s₀:=s₃,H₀:=H₃,env:=compEnvC scope (cellsFrom (s₃.heap.objs.size+1) scope.names (zZ X.env.cells scope.names [])) s₃.heap.objs.size X.env,outer:=X.stack,stack:=X.stack,ex:=ex,fn:=fun x=>scope.names.lookup x == some .cell,pn:=X.pn++kS,xe:=fun _ _=>False }
def zg3 (ifs:List Expr) (env:Env):Sem Bool :=
 forIn ifs true fun c r=>if r=true then do let ok ← isTrue c env (eval c env); pure (cB ok) else pure (cB r)
def zcP (X:Cx) (ifs:List Expr) (t:TT):Prop :=
 ∀ (kS:List (Addr×Obj)) (s:Shared) (σ:St) (H:Hp) (Q:Bool→Hp→Prop),Inv X kS σ H s→t σ H Q→wpAny (model X.prog X.w) X.A (zg3 ifs X.env) (TP X kS σ Q) X.xe s
def zmK:TT:=fun _ H Q=>Q true H
theorem zw {X:Cx}:zcP X [] zmK:=fun _ _ _ H _ I h=>aj ⟨H,I,h⟩
theorem zdX {X:Cx} {c:Expr} {t:TT} (h:PT X c t):zcP X [c] t:=by
 intro kS s σ H Q I hw;unfold zg3;rw [kr];simp only [if_true];exact ae (ae (thn (h kS s σ H _ I hw) fun b s1 q=>aj (aj q)))
structure CompSc (X:Cx) (N':List Str) (ix:List (Option Nat)) (scope:Scope):Prop where
 kind:scope.kind = .function
 cells:∀ y∈scope.names,y.2 = .cell→scope.names.lookup y.1=some .cell
 names:∀ y∈scope.names,y.2 = .local→scope.names.lookup y.1=some .local
 free:∀ y∈scope.names,y.2 = .free→X.env.kindOf y.1=some .cell∨X.env.kindOf y.1=some .free
 len:N'.length=ix.length
 cap:∀ j i:Nat,ix[j]? = some (some i)→∃ x,N'[j]? = some x∧X.N[i]? = some x∧scope.names.lookup x=some .free
def zhL (wm:Scope) (oN N':List Str) (ix:List (Option Nat)) (scope:Scope):Bool :=
 (scope.kind == .function) && (scope.names.all fun y=>y.2 != .cell || scope.names.lookup y.1 == some .cell) && (scope.names.all fun y=>y.2 != .local || scope.names.lookup y.1 == some .local) &&
 (scope.names.all fun y=>y.2 != .free || (wm.names.lookup y.1 == some .cell || wm.names.lookup y.1 == some .free)) && (N'.length == ix.length) &&
 ((aI ix.length).all fun j=>match ix[j]? with
  | some (some i)=>(match N'[j]? with
   | some x=>oN[i]? == some x && scope.names.lookup x == some .free
   | none=>false)
  | _=>true)
theorem CompSc.of {X:Cx} {N':List Str} {ix:List (Option Nat)} {scope:Scope} (wm:Scope) (oN:List Str) (h1:X.env.scope=wm) (h2:X.N=oN) (hb:zhL wm oN N' ix scope=true):CompSc X N' ix scope:=by
 unfold zhL at hb;simp only [di,fU] at hb;obtain⟨⟨⟨⟨⟨a,b⟩,c⟩,d⟩,e⟩,f⟩:=hb;refine⟨?_,fun y hy hl=>?_,fun y hy hl=>?_,fun y hy hf=>?_,by simpa using e,fun j i hj=>?_⟩
 ·revert a
  cases scope.kind <;> first | (intro _; rfl) | (intro h; exact absurd h #[D])
 ·have:=b y hy;rw [hl] at this;simpa using this
 ·have:=c y hy;rw [hl] at this;simpa using this
 ·have:=d y hy;rw [hf] at this;have e1:X.env.kindOf y.1=wm.names.lookup y.1:=by rw [← h1]; rfl
  rw [e1];simpa using this
 ·have k9:j < ix.length:=(bw.mp hj).1;have:=f j (bd.mpr k9);rw [hj] at this;cases hN:N'[j]? with
  | none =>
   rw [hN] at this;simp at this
  | some x =>
   rw [hN] at this;refine⟨x,rfl,?_⟩;rw [h2];simpa using this
def zcQ (ix:List (Option Nat)) (σ:St):St:=ix.map fun o=>match o with
 | none=>none
 | some i=>(σ[i]?).join
theorem Inv.track {X:Cx} {kS:List (Addr×Obj)} {σ:St} {H:Hp} {s:Shared} {D:Addr} {o:HO} (I:Inv X kS σ H s) (hn:H D=none) (hs:X.s₀.heap.objs.size≤D) (hL:X.env.locals≠D)
  (hC:∀ x c,X.env.cells.lookup x=some c→c≠D) (hp:∀ p∈X.pn++kS,p.1≠D) (ok:zaJ X.prog X.w (kX H D o) s.heap D o):Inv X kS σ (kX H D o) s:=by
 have ne:∀ b u,H b=some u→b≠D:=fun b u e=>zI e hn
 refine⟨I.ok,I.os,I.bare,⟨I.base.keep,I.base.slot,fun b u e n hx=>?_,I.base.there,fun b xs e=>?_,fun b u xs e=>?_,fun b ps e=>?_⟩,I.loc,I.cell,?_,fun x c e=>?_,fun p qv=>?_,fun b u e=>?_,I.len⟩
 ·have:b≠D:=ba (bj (aK e) hs);rw [zl this];exact I.base.free b u e n hx
 ·have:=I.base.tups b xs e;rw [zl (ne b _ this)];exact this
 ·have:=I.base.frzs b u xs e;rw [zl (ne b _ this)];exact this
 ·obtain⟨more,q⟩:=I.base.tbls b ps e;exact⟨more,by rw [zl (ne b _ q)]; exact q⟩
 ·rw [zl hL];exact I.free
 ·rw [zl (hC x c e)];exact I.freeC x c e
 ·obtain⟨a1,a2,a3⟩:=I.pin p qv;exact⟨a1,by rw [zl (hp p qv)]; exact a2,a3⟩
 ·by_cases hb:b=D
  ·subst hb;rw [zc] at e;cases e;exact ok
  ·rw [zl hb] at e;exact (I.hok b u e).stay (fun c v _ q=>q) (fun c q=>by rw [zl (ne c _ q)]; exact q) fun c xs q=>by rw [zl (ne c _ q)]; exact q
def cGo (g:TG) (ts:TT) (te:TE) (σ0:St) (J:It) (Q:VK) (H1:Hp):Prop :=
 ∃ W:Nat→Nat→List V→Hp→Prop,(∃ m,W 0 m [] H1)∧∀ i m ys H,W i m ys H →
  (J.stop i H∧∀ D,H D=none→Q (.ref D) (kX H D (.lst ys))) ∨
  (J.go i H∧∃ N:List V→Hp→Prop,(∀ o9 H',N o9 H'→∃ m',m' < m∧W (i+1) m' o9 H')∧∀ x H',J.yld i H x H'→g x σ0 H' fun σ2 H2=>ts σ2 H2 fun b H3 =>
   if b=true then te σ2 H3 fun y H4=>ys.length < sizeLine∧N (ys++[y]) H4 else N ys H3)
def zmb (ix:List (Option Nat)) (wi:TI) (g:TG) (ts:TT) (te:TE):TE:=fun σ H Q=>wi σ H fun J H1=>cGo g ts te (zcQ ix σ) J Q H1
theorem zV {J:It} {n:Nat} {g:TG} {ts:TT} {te:TE} {σ0:St} {Q:VK} {H:Hp} (Pv:Nat→List V→Hp→Prop) (h0:Pv 0 [] H) (vg:∀ i ys H,i < n→Pv i ys H→J.go i H) (lW:∀ ys H,Pv n ys H→J.stop n H)
  (hs:∀ i x ys H H',i < n→Pv i ys H→J.yld i H x H'→g x σ0 H' fun σ2 H2=>ts σ2 H2 fun b H3=>if b=true then te σ2 H3 fun y H4=>ys.length < sizeLine∧Pv (i+1) (ys++[y]) H4 else Pv (i+1) ys H3)
  (hd:∀ ys H D,Pv n ys H→H D=none→Q (.ref D) (kX H D (.lst ys))):cGo g ts te σ0 J Q H:=by
 refine⟨fun i m ys H=>m=n - i∧i≤n∧Pv i ys H,⟨n,#[M],bp _,h0⟩,?_⟩;rintro i m ys H ⟨rfl,hi,p⟩;by_cases k9:i < n
 ·exact .inr ⟨vg i ys H k9 p,Pv (i+1),fun o9 H' p'=>⟨n - (i+1),#[O],rfl,k9,p'⟩,fun x H' y=>hs i x ys H H' k9 p y⟩
 ·have e:i=n:=by lia
  subst e;exact .inl ⟨lW ys H p,fun D hD=>hd ys H D p hD⟩
theorem zmL {J:It} {n:Nat} {g:TG} {tb:TS} {D:Ends} {σ:St} {H:Hp} (Pv:Nat→St→Hp→Prop) (h0:Pv 0 σ H) (vg:∀ i σ H,i < n→Pv i σ H→J.go i H) (lW:∀ σ H,Pv n σ H→J.stop n H)
  (hs:∀ i x σ H H',i < n→Pv i σ H→J.yld i H x H'→g x σ H' fun σ2 H2=>tb { D with nx:=Pv (i+1),ct:=Pv (i+1),bk:=D.nx } σ2 H2) (hd:∀ σ H,Pv n σ H→D.nx σ H) :
  ∃ W:Nat→Nat→St→Hp→Prop,(∃ m,W 0 m σ H)∧∀ i m σ H,W i m σ H →
   (J.stop i H∧D.nx σ H)∨(J.go i H∧∃ N:St→Hp→Prop,(∀ σ' H',N σ' H'→∃ m',m' < m∧W (i+1) m' σ' H')∧∀ x H',J.yld i H x H'→g x σ H' fun σ2 H2=>tb { D with nx:=N,ct:=N,bk:=D.nx } σ2 H2):=by
 refine⟨fun i m σ H=>m=n - i∧i≤n∧Pv i σ H,⟨n,#[M],bp _,h0⟩,?_⟩;rintro i m σ H ⟨rfl,hi,p⟩;by_cases k9:i < n
 ·exact .inr ⟨vg i σ H k9 p,Pv (i+1),fun σ' H' p'=>⟨n - (i+1),#[O],rfl,k9,p'⟩,fun x H' y=>hs i x σ H H' k9 p y⟩
 ·have e:i=n:=by lia
  subst e;exact .inl ⟨lW σ H p,hd σ H p⟩
end L2
end
section
namespace L2
open PySem
abbrev Lp (J:It) (g:TG) (tb:TS) (D:Ends) (σ:St) (H:Hp):Prop:=∃ W:Nat→Nat→St→Hp→Prop,(∃ m,W 0 m σ H)∧∀ i m σ H,W i m σ H→(J.stop i H∧D.nx σ H)∨(J.go i H∧∃ N:St→Hp→Prop,(∀ σ' H',N σ' H'→∃ m',m' < m∧W (i+1) m' σ' H')∧∀ x H',J.yld i H x H'→g x σ H' fun σ2 H2=>tb { D with nx:=N,ct:=N,bk:=D.nx } σ2 H2)
abbrev Ends.l (D:Ends) (Pv:Nat→St→Hp→Prop) (i:Nat):Ends:={ D with nx:=Pv (i+1),ct:=Pv (i+1),bk:=D.nx }
section
variable {g:TG} {tb:TS} {D:Ends} {σ:St} {H:Hp} (Pv:Nat→St→Hp→Prop) {n:Nat} {K:ag} {a:Addr} {xs:List V}
theorem zbq {J:It} (h0:Pv 0 σ H) (vg:∀ i σ H,i < n→Pv i σ H→J.go i H) (lW:∀ σ H,Pv n σ H→J.stop n H) (hs:let N:=D.l Pv; let T:=tb; ∀ i x σ H H',i < n→Pv i σ H→J.yld i H x H'→g x σ H' (T (N i))) (hd:∀ σ H,Pv n σ H→D.nx σ H):Lp J g tb D σ H:=zmL Pv h0 vg lW hs hd
theorem zcj (h0:Pv 0 σ H) (hl:∀ i σ H,i≤xs.length→Pv i σ H→kT K H a xs) (hs:let N:=D.l Pv; let T:=tb; ∀ i x σ H,xs[i]? = some x→Pv i σ H→g x σ H (T (N i))) (hd:∀ σ H,Pv xs.length σ H→D.nx σ H):Lp (Itl K a) g tb D σ H:=zjz Pv h0 hl hs hd
theorem zjM (h0:Pv 0 σ H) (hl:∀ i σ H,i≤xs.length→Pv i σ H→kZ K H a xs) (hs:let N:=D.l Pv; let T:=tb; ∀ i x σ H,xs[i]? = some x→Pv i σ H→g x σ H (T (N i))) (hd:∀ σ H,Pv xs.length σ H→D.nx σ H):Lp (Itt K a) g tb D σ H:=zk9 Pv h0 hl hs hd
theorem zav {lo:Int} (h0:Pv 0 σ H) (hs:let N:=D.l Pv; let T:=tb; ∀ i σ H,i < n→Pv i σ H→g (.int (lo+i)) σ H (T (N i))) (hd:∀ σ H,Pv n σ H→D.nx σ H):Lp (Itr lo n) g tb D σ H:=ziF Pv h0 hs hd
end
end L2
end
section
namespace L2
end L2
end
section
namespace L2
open PySem
end L2
end
section
namespace L2
open PySem PySem.Spec PyProof.Rows
abbrev TM:=List V→St→Hp→(List V→Hp→Prop)→Prop
abbrev zdz (kU:List Value) (nn:Nat):Obj:={ cls:=.type "list",data:=.seq kU.toArray nn }
structure AccAt (Y:Cx) (kS:List (Addr×Obj)) (H:Hp) (s:Shared) (D:Addr) (ys:List V) (kU:List Value) (nn:Nat):Prop where
 fp:zb2 Y kS H D
 here:s.heap.get? D=some (zdz kU nn)
 vals:zE ys kU
 len:ys.length≤sizeLine
def zfk (js:List Nat) (σ:St):Prop:=∀ j∈js,∀ v,σ[j]?≠some (some v)
def Kp (js:List Nat) (σ σ2:St):Prop:=σ2.length=σ.length∧∀ j,j∉js→σ2[j]? = σ[j]?
theorem Kp.refl {js:List Nat} {σ:St}:Kp js σ σ:=⟨rfl,fun _ _=>rfl⟩
theorem Kp.set {js:List Nat} {σ σ2:St} {i:Nat} {v:Option V} (hi:i∈js) (h:Kp js σ σ2):Kp js σ (σ2.set i v):=by
 refine⟨by rw [cZ]; exact h.1,fun j hj=>?_⟩;rw [eR (fun z=>hj (by rw [← z]; exact hi))];exact h.2 j hj
def GS (js:List Nat) (g:TG):Prop:=∀ (σ σ1:St) (x:V) (H:Hp) (Q:St→Hp→Prop),Kp js σ σ1→g x σ1 H Q→g x σ1 H fun σ2 H2=>Kp js σ σ2∧Q σ2 H2
def GSs (js:List Nat) (g:TGs):Prop:=∀ (σ σ1:St) (xs:List V) (H:Hp) (Q:St→Hp→Prop),Kp js σ σ1→g xs σ1 H Q→g xs σ1 H fun σ2 H2=>Kp js σ σ2∧Q σ2 H2
theorem zhM {js:List Nat} {i:Nat} (hi:i∈js):GS js (zaK i):=fun σ σ1 x H Q hw h=>⟨hw.set hi,h⟩
theorem zdC {js:List Nat}:GSs js zk8:=fun σ σ1 xs H Q hw h=>⟨h.1,hw,h.2⟩
theorem zbi {js:List Nat} {i:Nat} {u:TGs} (hi:i∈js) (h2:GSs js u):GSs js (zf5 (zaK i) u):=fun σ σ1 xs H Q hw h=>by
 obtain⟨v,r,e,h⟩:=h;exact⟨v,r,e,h2 σ _ r H Q (hw.set hi) h⟩
theorem zfl {js:List Nat} {K:ag} {n:Nat} {t:TGs} (h:GSs js t):GS js (zjy K n t):=fun σ σ1 x H Q hw hg=>by
 obtain⟨a,xs,e,hq,hl,hg⟩:=hg;exact⟨a,xs,e,hq,hl,h σ σ1 xs H Q hw hg⟩
theorem Inv.fewer {X:Cx} {kS nH:List (Addr×Obj)} {σ:St} {H:Hp} {s:Shared} (I:Inv X kS σ H s) (h:∀ p∈nH,p∈kS):Inv X nH σ H s :=
 I.pins_of fun p hp=>I.pin p (aE _ (h p hp))
section
variable {Y:Cx} {kS:List (Addr×Obj)} {σ:St} {H:Hp} {s:Shared} {D:Addr} {ys:List V} {kU:List Value} {nn:Nat}
theorem AccAt.pin (a:AccAt Y kS H s D ys kU nn) (I:Inv Y kS σ H s):Inv Y (kS++[(D,zdz kU nn)]) σ H s :=
 I.pins_of fun p hp=>by
  rcases (aP.mp hp) with hp | hp
  ·exact I.pin p (aE _ hp)
  ·obtain rfl:p=(D,zdz kU nn):=by simpa using hp
   obtain⟨a0,a1,a2,_⟩:=a.fp;exact⟨a.here,a0,a1,a2,fun v z=>by cases z⟩
theorem AccAt.back {nH:List (Addr×Obj)} {σ':St} {H':Hp} {s':Shared} (a:AccAt Y kS H s D ys kU nn) (I:Inv Y nH σ' H' s') (hm:(D,zdz kU nn)∈nH):AccAt Y kS H' s' D ys kU nn:=by
 have p:=I.pin (D,zdz kU nn) (aE _ hm);exact⟨⟨p.2.1,a.fp.2⟩,p.1,a.vals,a.len⟩
end
def PM (Y:Cx) (D:Addr) (js:List Nat) (mk:Sem Fin→Sem Fin) (tm:TM):Prop :=
 ∀ (last:Sem Fin) (kS:List (Addr×Obj)) (s:Shared) (σ:St) (H:Hp) (ys:List V) (kU:List Value) (nn:Nat) (Q:List V→Hp→Prop) (Φ:Fin→Shared→Prop),Inv Y kS σ H s→AccAt Y kS H s D ys kU nn→zfk js σ→tm ys σ H Q →
  (∀ (s':Shared) (o9:List V) (its':List Value) (vh:Nat) (H':Hp),Inv Y kS σ H' s'→AccAt Y kS H' s' D o9 its' vh→Q o9 H'→wpAny (model Y.prog Y.w) Y.A last Φ (fun _ _=>False) s') →
  wpAny (model Y.prog Y.w) Y.A (mk last) Φ (fun _ _=>False) s
def zeS (elt:Expr) (acc:Value) (env:Env) (last:Sem Fin):Sem Fin:=(eval elt env >>= fun x=>call (.builtin "list.append") [acc,x] >>= fun _=>pure ()) >>= fun _=>last
def zhN (e iter:Expr) (d:Nat) (acc:Value) (env:Env) (last:Sem Fin):Sem Fin :=
 eval iter env >>= fun x=>standAt iter.pos >>= fun _=>foldedSetIterable iter env x >>= fun x=>holding [x] (pyIter x) >>= fun uY=>runOwn (.compStart e d uY acc env) env >>= fun _=>last
def zhO (te:TE):TM:=fun ys σ H Q=>te σ H fun y H4=>ys.length < sizeLine∧Q (ys++[y]) H4
def cIn (g:TG) (ts:TT) (tm:TM) (σ:St) (J:It) (Q:List V→Hp→Prop) (ys:List V) (H1:Hp):Prop :=
 ∃ W:Nat→Nat→List V→Hp→Prop,(∃ m,W 0 m ys H1)∧∀ i m ys H,W i m ys H →
  (J.stop i H∧Q ys H) ∨
  (J.go i H∧∃ N:List V→Hp→Prop,(∀ o9 H',N o9 H'→∃ m',m' < m∧W (i+1) m' o9 H')∧∀ x H',J.yld i H x H'→g x σ H' fun σ2 H2=>ts σ2 H2 fun b H3 =>
   if b=true then tm ys σ2 H3 N else N ys H3)
def zhP (wi:TI) (g:TG) (ts:TT) (tm:TM):TM:=fun ys σ H Q=>wi σ H fun J H1=>cIn g ts tm σ J Q ys H1
def zfm (ix:List (Option Nat)) (wi:TI) (g:TG) (ts:TT) (tm:TM):TE:=fun σ H Q=>wi σ H fun J H1=>cIn g ts tm (zcQ ix σ) J (fun ys H'=>∀ D,H' D=none→Q (.ref D) (kX H' D (.lst ys))) [] H1
theorem thx {α:Type} {X:Cx} {m:Sem α} {P Q:α→Shared→Prop} {E:Value→Shared→Prop} {s:Shared} (hx:X.xe=fun _ _=>False) (h:wpAny (model X.prog X.w) X.A m P X.xe s) (k:∀ a s',P a s'→Q a s'):wpAny (model X.prog X.w) X.A m Q E s :=
 cJ h k fun _ _ z=>by rw [hx] at z; exact z.elim
theorem zg4 {Y:Cx} {D:Addr} {elt:Expr} {te:TE} (hx:Y.xe=fun _ _=>False) (he:PE Y elt te):PM Y D [] (zeS elt (.ref D) Y.env) (zhO te):=by
 intro last kS s σ H ys kU nn Q Φ I a no h k;unfold zeS;refine ae (ae (thx hx (he (kS++[(D,zdz kU nn)]) s σ H _ (a.pin I) h) fun yv s1 ⟨y,H1,I1,r1,hz,q1⟩=>ae ?_));have a1:=a.back I1 (aE _ aL);have J1:Inv Y kS σ H1 s1:=I1.fewer fun p hp=>aY _ hp
 have y8:=a1.vals.length;refine ge jA ⟨_,a1.here,rfl⟩ jp (i9 _ _) (jP D kU.toArray nn yv (by rw [au]; lia)) ⟨a1.here,?_⟩;refine aj ?_;have q:=j7 a1.here (·.push yv);have k10:∀ b o,b≠D→s1.heap.get? b=some o→(s1.heap.update D (cr (·.push yv))).get? b=some o:=fun b o hb e=>(bH s1.heap (cr (·.push yv)) (cD hb)).trans e
 obtain⟨b0,b1,b2,b3,b4,b5⟩:=a1.fp;have I11:Inv Y kS σ H1 { s1 with heap:=s1.heap.update D (cr (·.push yv)) }:=J1.turned (t':=s1.toks) k10 b0 b1 b3 b4 b5;have e1:kU.toArray.push yv=(kU++[yv]).toArray:=by simp
 rw [e1] at q;refine k _ (ys++[y]) (kU++[yv]) _ H1 I11 ⟨a1.fp,q,a1.vals.append (.cons r1 .nil),?_⟩ q1;rw [aF,iR];lia
section
variable {Y:Cx} {D:Addr} {js js':List Nat} {elt:Expr} {gens:List Comprehension} {scope:Scope} {pos:Pos} {d:Nat} {tg:Expr} {ifs:List Expr} {p:Pos} {mk:Sem Fin→Sem Fin} {g:TG} {ts:TT} {tm:TM}
def zbN (tg:Expr) (ifs:List Expr) (p:Pos) (mk:Sem Fin→Sem Fin) (c:Code) (it:Value) (env:Env):Sem Fin :=
 standAt p >>= fun _=>pyNext it >>= fun r=>match r with
  | none=>pure (.done .next)
  | some v=>letOwnedTupleGo tg it v >>= fun _=>assign tg env v >>= fun _=>zg3 ifs env >>= fun ok=>if ok=true then mk (again c) else again c
theorem zhQ (hc:Y.calm=true) (hx:Y.xe=fun _ _=>False) (tD:GS js g) (ni:∀ j∈js,j∉js') (hg:PG Y tg g) (ht:zcP Y ifs ts) (hm:PM Y D js' mk tm)
  (m6:∀ it,compTurn (.ListComp elt gens scope pos) d it (.ref D) Y.env=zbN tg ifs p mk (.compLoop (.ListComp elt gens scope pos) d it (.ref D) Y.env) it Y.env)
  {kS:List (Addr×Obj)} {σ:St} {H2:Hp} {s2:Shared} {it:Addr} {fp:List Addr} {tn:Nat→Heap→Prop} {J:It} {Q:List V→Hp→Prop} {R:Result→Shared→Prop} {ys:List V} {kU:List Value} {nn:Nat}
  (I2:Inv Y kS σ H2 s2) (a2:AccAt Y kS H2 s2 D ys kU nn) (no:zfk (js++js') σ) (T:Turn Y.prog Y.w Y.K tg J fp it tn) (mE:tn 0 s2.heap) (f2:∀ b∈fp,zb2 Y kS H2 b) (fD:∀ b∈fp,b≠D) (q:cIn g ts tm σ J Q ys H2)
  (hR:∀ (s':Shared) (o9:List V) (its':List Value) (vh:Nat) (H':Hp),Inv Y kS σ H' s'→AccAt Y kS H' s' D o9 its' vh→Q o9 H'→R (.ok .next) s') :
  codeAny (model Y.prog Y.w) Y.A (.compLoop (.ListComp elt gens scope pos) d (.ref it) (.ref D) Y.env) R s2:=by
 obtain⟨W,⟨m0,w0⟩,turn⟩:=q;have wo:∀ {H':Hp} {kU:List Value} {nn:Nat},(∀ b∈fp,H' b=none)→∀ b∈fp,zb2 Y (kS++[(D,zdz kU nn)]) H' b:=fun {H' kU nn} hn b hb=>by
  obtain⟨_,a1,a2,a3,a4,a5⟩:=f2 b hb;refine⟨hn b hb,a1,a2,a3,a4,fun p hp=>?_⟩;rcases (aP.mp hp) with hp | hp
  ·exact a5 p (aY _ hp)
  ·rcases (aP.mp hp) with hp | hp
   ·exact a5 p (aE _ hp)
   ·obtain rfl:p=(D,zdz kU nn):=by simpa using hp
    exact (fD b hb).symm
 refine codeAny_loop rfl (fun n s'=>∃ i ys H' kU nn,Inv Y kS σ H' s'∧tn i s'.heap∧(∀ b∈fp,H' b=none)∧AccAt Y kS H' s' D ys kU nn∧W i n ys H') ?_ m0
  ⟨0,ys,H2,kU,nn,I2,mE,fun b hb=>(f2 b hb).1,a2,w0⟩
 rintro n s5 ⟨i,ys,H5,kU,nn,I5,wj,fr5,a5,w5⟩;show wpAny _ Y.A ((compTurn (.ListComp elt gens scope pos) d (.ref it) (.ref D) Y.env).onRaise (fun x=>do noteFrame x Y.env; theTreesLotGoes x)) _ _ s5;refine wpAny_noted ?_;rw [m6];unfold zbN;have I5p:=a5.pin I5
 (refine ae (eY (ae ?_)))
 rcases turn i n ys H5 w5 with ⟨stop,qn⟩ | ⟨go,N,hN,step⟩
 ·refine cJ (T.done Y rfl rfl rfl hc i _ s5 _ H5 (fun _ _=>False) I5p (wo fr5) wj stop) (fun r s6 ⟨hr,I6⟩=>?_) fun _ _ z=>z.elim
  subst hr;exact aj (hR s6 ys kU nn H5 (I6.fewer fun p hp=>aY _ hp) (a5.back I6 (aE _ aL)) qn)
 ·refine cJ (T.item Y rfl rfl rfl hc i _ s5 _ H5 (fun _ _=>False) I5p (wo fr5) wj go) (fun r s6 ⟨u,hr,h6⟩=>?_) fun _ _ z=>z.elim
  subst hr;refine ae (cJ h6 (fun _ s7 ⟨x,H7,I7,r7,y7,AZ,fr7⟩=>?_) fun _ _ z=>z.elim);have I7':=I7.pinned (wo fr7) (T.obj _ _ AZ);refine ae (thx hx (hg _ s7 _ H7 x u _ I7' r7 (tD σ σ x H7 _ Kp.refl (step x H7 y7))) fun _ s8 ⟨σ8,H8,I8,kp,q8⟩=>?_);refine ae (thx hx (ht _ s8 σ8 H8 _ I8 q8) fun ok s9 ⟨H9,I9,q9⟩=>?_);have mD:(D,zdz kU nn)∈(kS++[(D,zdz kU nn)])++zb3 fp s7.heap:=aY _ (aE _ aL);have a9:=a5.back I9 mD;have K9:Inv Y (kS++zb3 fp s7.heap) σ8 H9 s9:=I9.fewer fun p hp=>(aP.mp hp).elim (fun z=>aY _ (aY _ z)) fun z=>aE _ z
  have wk:∀ (j:Nat) v,σ[j]? = some (some v)→σ8[j]? = some (some v):=fun j v e=>by
   have hj:j∉js:=fun z=>no j (aY _ z) v e
   rw [kp.2 j hj];exact e
  have back:∀ {H':Hp} {s':Shared},Inv Y (kS++zb3 fp s7.heap) σ8 H' s'→Inv Y kS σ H' s'∧tn (i+1) s'.heap∧∀ b∈fp,H' b=none:=fun {H' s'} I'=>by
   refine⟨(I'.fewer fun p hp=>aY _ hp).weak kp.1.symm wk,T.keep _ _ _ AZ fun b hb o e=>(I'.pin (b,o) (aE _ (aE _ (zbL hb e)))).1,fun b hb=>?_⟩;obtain⟨o,e,d⟩:=T.obj _ _ AZ b hb;exact (I'.pin (b,o) (aE _ (aE _ (zbL hb e)))).2.1
  cases ok with
  | false =>
   rw [if_neg aZ] at q9 ⊢;obtain⟨m',tE,w9⟩:=hN _ _ q9;obtain⟨b1,b2,b3⟩:=back K9;exact aj ⟨rfl,m',tE,i+1,ys,H9,kU,nn,b1,b2,b3,a9,w9⟩
  | true =>
   rw [if_pos rfl] at q9 ⊢;have a9':AccAt Y (kS++zb3 fp s7.heap) H9 s9 D ys kU nn:=by
    obtain⟨b0,b1,b2,b3,b4,b5⟩:=a9.fp;refine⟨⟨b0,b1,b2,b3,b4,fun p hp=>?_⟩,a9.here,a9.vals,a9.len⟩;rcases (aP.mp hp) with hp | hp
    ·exact b5 p (aY _ hp)
    ·rcases (aP.mp hp) with hp | hp
     ·exact b5 p (aE _ hp)
     ·exact fD _ (zeI hp).1
   have no':zfk js' σ8:=fun j hj v e=>by
    have nc:j∉js:=fun z=>ni j z hj
    rw [kp.2 j nc] at e;exact no j (aE _ hj) v e
   refine cJ (hm (again _) _ s9 σ8 H9 ys kU nn N (fun fin s'=>match fin with | .done f=>R (.ok f) s' | .again c'=>c'=_∧∃ m,m < n∧_) K9 a9' no' q9 fun s' o9 its' vh H' I' a' n'=>?_) (fun _ _ z=>z) fun _ _ z=>z.elim
   obtain⟨m',tE,w'⟩:=hN _ _ n';obtain⟨b1,b2,b3⟩:=back I';obtain⟨c0,c1,c2,c3,c4,c5⟩:=a'.fp;refine aj ⟨rfl,m',tE,i+1,o9,H',its',vh,b1,b2,b3,⟨⟨c0,c1,c2,c3,c4,fun p hp=>?_⟩,a'.here,a'.vals,a'.len⟩,w'⟩;rcases (aP.mp hp) with hp | hp
   ·exact c5 p (aY _ hp)
   ·exact c5 p (aE _ (aY _ hp))
theorem zgb {prog:Program} {w:World} {A:Around} {R:Result→Shared→Prop} {s:Shared} {iter:Expr} {it acc:Value} {env:Env} (hd:gens[d]? = some ⟨tg,iter,ifs,0⟩)
  (h0:codeAny (model prog w) A (.compLoop (.ListComp elt gens scope pos) d it acc env) R s)
  (h:wpAny (model prog w) A (pyIter it) (fun A0 s'=>codeAny (model prog w) A (.compLoop (.ListComp elt gens scope pos) d A0 acc env) R s') (fun _ _=>False) s) :
  codeAny (model prog w) A (.compStart (.ListComp elt gens scope pos) d it acc env) R s:=by
 refine gf ?_;show wpAny _ _ ((compStart (.ListComp elt gens scope pos) d it acc env).onRaise (fun x=>do noteFrame x env; standAt theWindowsPlace)) _ _ s;refine wpAny_notedAt ?_;unfold compStart;have e1:(clausesOf (.ListComp elt gens scope pos))[d]? = some ⟨tg,iter,ifs,0⟩:=hd;rw [e1]
 (show wpAny _ _ (ask >>= _) _ _ s)
 (refine ae (fV (wpAny_ite ?_)))
 split
 ·first
   | (exact ae (aj (aj ⟨rfl,h0⟩)))
   | (exact aj ⟨rfl,h0⟩)
 ·first
   | exact ae (cT (ae (eY (ae (cJ h (fun A0 s' h'=>aj (And.intro rfl h')) fun _ _ x=>x.elim)))))
   | (refine ae (cT ?_); show wpAny _ _ (standAt iter.pos >>= _) _ _ s; exact ae (eY (ae (cJ h (fun A0 s' h'=>aj (And.intro rfl h')) fun _ _ x=>x.elim))))
theorem zmM {iter:Expr} {wi:TI} (hc:Y.calm=true) (hx:Y.xe=fun _ _=>False) (tD:GS js g) (ni:∀ j∈js,j∉js') (hi:PI Y tg iter wi) (hg:PG Y tg g) (ht:zcP Y ifs ts) (hm:PM Y D js' mk tm) (hd:gens[d]? = some ⟨tg,iter,ifs,0⟩)
  (m6:∀ it,compTurn (.ListComp elt gens scope pos) d it (.ref D) Y.env=zbN tg ifs p mk (.compLoop (.ListComp elt gens scope pos) d it (.ref D) Y.env) it Y.env)
  (hs:∀ x,foldedSetIterable iter Y.env x=pure x:=by intro _; rfl) :
  PM Y D (js++js') (zhN (.ListComp elt gens scope pos) iter d (.ref D) Y.env) (zhP wi g ts tm):=by
 intro last kS s σ H ys kU nn Q Φ I a no h k;unfold zhN;refine ae (thx hx (hi (kS++[(D,zdz kU nn)]) s σ H _ (a.pin I) h) fun v s1 h1=>ae (eY (ae ?_)));rw [hs v];refine aj (ae (bS (thx hx h1 fun uY s2 h2=>?_)));obtain⟨it,fp,tn,J,H2,e,I2,T,mE,f2,q⟩:=h2;subst e;have a2:=a.back I2 (aE _ aL);have J2:Inv Y kS σ H2 s2:=I2.fewer fun p hp=>aY _ hp
 have A8:∀ b∈fp,zb2 Y kS H2 b:=fun b hb=>by
  obtain⟨c0,c1,c2,c3,c4,c5⟩:=f2 b hb;refine⟨c0,c1,c2,c3,c4,fun p hp=>?_⟩;rcases (aP.mp hp) with hp | hp
  ·exact c5 p (aY _ hp)
  ·exact c5 p (aE _ (aY _ hp))
 have fD:∀ b∈fp,b≠D:=fun b hb=>((f2 b hb).2.2.2.2.2 (D,zdz kU nn) (aE _ (aE _ aL))).symm
 have loop:codeAny (model Y.prog Y.w) Y.A (.compLoop (.ListComp elt gens scope pos) d (.ref it) (.ref D) Y.env) (fun r s'=>match r with | .ok f=>wpAny (model Y.prog Y.w) Y.A last Φ (fun _ _=>False) s' | .error e=>cameBackBy (model Y.prog Y.w) Y.A Y.env (fun _ _=>False) e s') s2 :=
  zhQ hc hx tD ni hg ht hm m6 J2 a2 no T mE A8 fD q fun s' o9 its' vh H' I' a' q'=>k s' o9 its' vh H' I' a' q'
 exact ae (wpAny_runOwn (zgb hd loop (T.self _ 0 _ _ _ mE loop)))
end
section
variable {X:Cx} {elt tg iter:Expr} {ifs:List Expr} {gs:List Comprehension} {scope:Scope} {pos:Pos} {N':List Str} {ix:List (Option Nat)} {js js':List Nat} {g:TG} {ts:TT} {tm:TM} {mk:Addr→Env→Sem Fin→Sem Fin}
theorem zds {kS:List (Addr×Obj)} {σ:St} {H2:Hp} {s2:Shared} {it:Addr} {fp:List Addr} {tn:Nat→Heap→Prop} {J:It} {Q:VK} {E:Value→Shared→Prop} {RR:Value→Addr→Result→Shared→Prop}
  (SC:CompSc X N' ix scope) (hc:X.calm=true) (tD:GS js g) (ni:∀ j∈js,j∉js') (rT:∀ j∈js++js',ix[j]? = some none)
  (hg:∀ s₃ H₃ ex kS,PG (zB X N' scope s₃ H₃ ex kS) tg g) (ht:∀ s₃ H₃ ex kS,zcP (zB X N' scope s₃ H₃ ex kS) ifs ts) (hm:∀ s₃ H₃ ex kS D,PM (zB X N' scope s₃ H₃ ex kS) D js' (mk D (zB X N' scope s₃ H₃ ex kS).env) tm)
  (m6:∀ it D env,compTurn (.ListComp elt (⟨tg,iter,ifs,0⟩ :: gs) scope pos) 0 it (.ref D) env=zbN tg ifs iter.pos (mk D env) (.compLoop (.ListComp elt (⟨tg,iter,ifs,0⟩ :: gs) scope pos) 0 it (.ref D) env) it env)
  (I2:Inv X kS σ H2 s2) (T:Turn X.prog X.w X.K tg J fp it tn) (mE:tn 0 s2.heap) (f2:∀ b∈fp,zb2 X kS H2 b) (q:cIn g ts tm (zcQ ix σ) J (fun ys H'=>∀ D,H' D=none→Q (.ref D) (kX H' D (.lst ys))) [] H2)
  (hRR:∀ (D C:Addr) (s':Shared) (ys:List V) (H':Hp) (m:Str→Option Value),Inv X kS σ (kX H' D (.lst ys)) s'→zb2 X kS (kX H' D (.lst ys)) C→s'.heap.Ns C m→Q (.ref D) (kX H' D (.lst ys))→RR (.ref D) C (.ok .next) s') :
  wpAny (model X.prog X.w) X.A (newList []) (fun acc s₃=>wpAny (model X.prog X.w) X.A (newFunctionEnv scope X.env.globals (zZ X.env.cells scope.names []) [] X.env.qual none .none (some X.env)) (fun xf s₄ =>
   codeAny (model X.prog X.w) X.A (.compStart (.ListComp elt (⟨tg,iter,ifs,0⟩ :: gs) scope pos) 0 (.ref it) acc { xf with scope:=relabel scope X.env }) (RR acc xf.locals) s₄) E s₃) E s2:=by
 have xg:∀ y∈scope.names,y.2 = .free→∃ c,X.env.cells.lookup y.1=some c:=fun y hy hf=>I2.ok.has y.1 (SC.free y hy hf)
 have sR:∀ x c,(zZ X.env.cells scope.names []).lookup x=some c→X.env.cells.lookup x=some c:=zbw scope.names [] xg (fun x c e=>by simp at e);refine bU (ziK ?_);have I3:Inv X kS σ H2 { s2 with heap:=s2.heap.push { cls:=.type "list",dict:=none,data:=.seq ([]:List Value).toArray } }:=I2.kept (t':=s2.toks) fun b o e=>ak _ e
 have hD3:(s2.heap.push { cls:=.type "list",dict:=none,data:=.seq ([]:List Value).toArray }).get? s2.heap.objs.size=some { cls:=.type "list",dict:=none,data:=.seq ([]:List Value).toArray }:=aJ _ rfl;have xh:tn 0 (s2.heap.push { cls:=.type "list",dict:=none,data:=.seq ([]:List Value).toArray }):=T.keep _ _ _ mE fun b hb o e=>ak _ e
 have xi:(s2.heap.push { cls:=.type "list",dict:=none,data:=.seq ([]:List Value).toArray }).objs.size=s2.heap.objs.size+1:=bK _ _;generalize hh3:s2.heap.push { cls:=.type "list",dict:=none,data:=.seq ([]:List Value).toArray }=h3 at *;have A9:=T.obj _ _ mE;have ur:∀ b∈fp,b < s2.heap.objs.size:=fun b hb=>by obtain⟨o,e,_⟩:=A9 b hb; exact aK e
 have stk:∀ b∈frs X.stack,b=X.env.locals∨b∈X.fs:=fun b hb=>aH.mp (I2.stkSub b hb)
 have xj:zb2 X kS H2 s2.heap.objs.size:=I2.fpOk (ah _) I2.fresh;have qI:∀ b∈s2.heap.objs.size :: fp,zb2 X kS H2 b:=fun b hb=>by
  rcases (aH.mp hb) with e | hb
  ·rw [e]; exact xj
  ·exact f2 b hb
 have vi:∀ b∈s2.heap.objs.size :: fp,b < h3.objs.size:=fun b hb=>by
  rw [xi];rcases (aH.mp hb) with e | hb; · rw [e]; exact eS _
  ·exact cN (ur b hb)
 have uu:∀ b∈s2.heap.objs.size :: fp,b∉frs X.stack:=fun b hb z=>by
  obtain⟨_,a1,a2,_⟩:=qI b hb;rcases stk b z with e | e
  ·exact a1 e
  ·exact a2 e
 have hns₁:(pushCells (h3.push { cls:=.type "dict",data:=.dict #[] }) scope.names).Ns h3.objs.size (fun _=>none):=(Heap.Ns.new h3 (.type "dict")).keeps (pushCells_keeps _ _);have old:∀ b o,h3.get? b=some o→(pushCells (h3.push { cls:=.type "dict",data:=.dict #[] }) scope.names).get? b=some o:=fun b o e=>pushCells_keeps _ _ b o (ak _ e)
 have Ba:∀ x c,X.env.cells.lookup x=some c→c < h3.objs.size:=fun x c e=>by
  obtain⟨v,q⟩:=I3.cell x c e;exact q.lt
 have co:CO (pushCells (h3.push { cls:=.type "dict",data:=.dict #[] }) scope.names) (h3.objs.size+1) (zZ X.env.cells scope.names []) (cellsFrom (h3.objs.size+1) scope.names (zZ X.env.cells scope.names [])):=by
  have:=zjL (lo:=h3.objs.size+1) (old:=zZ X.env.cells scope.names []) scope.names (h3.push { cls:=.type "dict",data:=.dict #[] }) (zZ X.env.cells scope.names [])
   ⟨fun x c e=>.inr ⟨e,cN (Ba x c (sR x c e))⟩,fun x y c e1 e2=>I2.ok.inj x y c (sR x c e1) (sR y c e2)⟩ (by rw [bK]; exact ah _)
  rw [bK] at this;exact this
 generalize pushCells (h3.push { cls:=.type "dict",data:=.dict #[] }) scope.names=h₁ at hns₁ old co ⊢;have Bb:∀ {x c},(cellsFrom (h3.objs.size+1) scope.names (zZ X.env.cells scope.names [])).lookup x=some c→(h₁.IsCell c none∧h3.objs.size+1≤c)∨X.env.cells.lookup x=some c:=fun {x c} e=>(co.each x c e).elim .inl fun z=>.inr (sR x c z.1)
 have cfr:∀ x,scope.names.lookup x=some .free→(cellsFrom (h3.objs.size+1) scope.names (zZ X.env.cells scope.names [])).lookup x=(zZ X.env.cells scope.names []).lookup x:=fun x hx=>zfi _ _ _ _ fun z=>by
  have:=SC.cells _ z rfl;rw [hx] at this;cases this
 let s3:Shared:={ s2 with heap:=h3 }
 let Y:Cx:=zB X N' scope s3 H2 (s2.heap.objs.size :: fp) kS
 have rB:Inv X kS σ H2 s3:=I3;have okY:Y.Ok:=by
  refine⟨I2.ok.mod,SC.kind,I2.ok.glob,I2.ok.blt,ah _,co.inj,fun x hx=>?_,fun x c z e=>?_,I2.ok.hd,I2.ok.frames,.inl rfl,fun b hb=>?_,fun b o e=>rB.bs b o e,?_,fun b o e hb=>?_,uu,rB.stack,rB.stkFree⟩
  ·have sS:=zcO (env:=X.env) (names:=scope.names) (x:=x) hx;rcases sS with sS | sS
   ·obtain⟨c,e⟩:=zbM (cs:=X.env.cells) scope.names [] x (.inr (lookup_mem sS));exact⟨c,(cfr x sS).trans e⟩
   ·obtain⟨c,e,_⟩:=zfj scope.names (h3.objs.size+1) (zZ X.env.cells scope.names []) x (lookup_mem sS);exact⟨c,e⟩
  ·obtain⟨c',e',l'⟩:=zfj scope.names (h3.objs.size+1) (zZ X.env.cells scope.names []) x (lookup_mem (by have z':(scope.names.lookup x == some cS)=true:=z; simpa using z'));have e2:(cellsFrom (h3.objs.size+1) scope.names (zZ X.env.cells scope.names [])).lookup x=some c:=e;rw [e'] at e2;cases e2;exact gV l'
  ·refine⟨ba (vi b hb),fun x c e=>(Bb e).elim (fun z y=>?_) fun z=>(qI b hb).2.2.2.2.1 x c z⟩;subst y;exact bW _ (bj (vi _ hb) (gV z.2))
  ·exact bi I2.ok.bsz rB.sz
  ·obtain⟨_,_,_,a3,_⟩:=qI b hb;rcases a3 with z | z
   ·exact I2.ok.noex b o e z
   ·have:=(I2.ok.bs b o e).1;exact absurd (bj (aK this) z) (bW _)
 have Bc:Inv Y [] (zcQ ix σ) H2 { s3 with heap:=h₁ }:=by
  refine⟨okY,rfl,I2.bare,Un.kept old,⟨_,hns₁,fun j x v e1 e2 e3=>?_⟩,fun x c e=>?_,rB.fresh,fun x c e=>(Bb e).elim (fun z=>rB.hok.fresh (gV z.2)) fun z=>I2.freeC x c z,fun p hp=>?_,rB.hok.kept old,?_⟩
  ·unfold zcQ at e2;rw [af] at e2;cases hj:ix[j]? with
   | none=>rw [hj] at e2; simp at e2
   | some oi =>
    rw [hj] at e2;cases oi with
    | none=>simp at e2
    | some i =>
     obtain⟨y,h1,h2,y9⟩:=SC.cap j i hj;have hxy:y=x:=by
      have Aa:N'[j]? = some x:=e1;rw [h1] at Aa;exact bf Aa
     subst hxy;have xk:(σ[i]?).join=some v:=by simpa using e2
     have Bd:σ[i]? = some (some v):=by
      cases hs:σ[i]? with
      | none=>rw [hs] at xk; simp at xk
      | some w=>rw [hs] at xk; simp at xk; rw [xk]
     obtain⟨m,hn,hl⟩:=rB.loc;have hk:=SC.free (y,.free) (lookup_mem y9) rfl;have Be:Vis X.env.scope y:=hk.elim (fun z=>.inr (.inl z)) fun z=>.inr (.inr z)
     obtain⟨u,r,l⟩:=hl i y v h2 Bd Be;refine⟨u,r,.inr ⟨za9 y9,?_⟩⟩;obtain⟨c,oA⟩:=zbM (cs:=X.env.cells) scope.names [] y (.inr (lookup_mem y9));refine⟨c,(cfr y y9).trans oA,?_⟩;rcases l with ⟨oC,_⟩ | ⟨_,c',lJ,oB⟩
     ·rcases hk with hk | hk
      ·have oh:X.env.kindOf y=some .cell:=hk;rw [oh] at oC; cases oC
      ·have oh:X.env.kindOf y=some .free:=hk;rw [oh] at oC; cases oC
     ·have:=sR y c oA;rw [lJ] at this;cases this;obtain⟨o,ho,hd⟩:=oB;exact⟨o,old _ _ ho,hd⟩
  ·rcases Bb e with z | z
   ·exact⟨_,z.1⟩
   ·obtain⟨v,o,ho,hd⟩:=rB.cell x c z;exact⟨v,o,old _ _ ho,hd⟩
  ·have qv:p∈X.pn++kS:=by
    have:p∈(X.pn++kS)++([]:List (Addr×Obj)):=hp;simpa using this
   obtain⟨a1,a2,a3,a4,a5⟩:=rB.pin p qv;exact⟨old _ _ a1,a2,ba (aK a1),fun z=>(stk _ z).elim a3 a4,a5⟩
  ·unfold zcQ;rw [ab];exact SC.len.symm
 have wo:∀ {H':Hp},(∀ b∈s2.heap.objs.size :: fp,H' b=none)→∀ b∈s2.heap.objs.size :: fp,zb2 Y [] H' b:=fun {H'} hn b hb=>by
  obtain⟨_,a1,a2,a3,a4,a5⟩:=qI b hb;refine⟨hn b hb,ba (vi b hb),uu b hb,.inl hb,(okY.exf b hb).2,fun p hp=>?_⟩;have:p∈(X.pn++kS)++([]:List (Addr×Obj)):=hp;exact a5 p (by simpa using this)
 have nn2:∀ b∈s2.heap.objs.size :: fp,H2 b=none:=fun b hb=>(qI b hb).1
 have vd:zfk (js++js') (zcQ ix σ):=fun j hj v e=>by
  unfold zcQ at e;rw [af,rT j hj] at e;simp at e
 have loop:∀ s₅:Shared,s₅ = { s2 with heap:=h₁ } →
   codeAny (model X.prog X.w) X.A (.compLoop (.ListComp elt (⟨tg,iter,ifs,0⟩ :: gs) scope pos) 0 (.ref it) (.ref s2.heap.objs.size) (compEnvC scope (cellsFrom (h3.objs.size+1) scope.names (zZ X.env.cells scope.names [])) h3.objs.size X.env)) (RR (.ref s2.heap.objs.size) h3.objs.size) s₅:=by
  rintro s₅ rfl;refine zhQ (Y:=Y) (kS:=[]) (σ:=zcQ ix σ) (kU:=[]) (nn:=0) hc rfl tD ni (hg s3 H2 _ kS) (ht s3 H2 _ kS) (hm s3 H2 _ kS s2.heap.objs.size) (fun it=>m6 it _ _) Bc ⟨wo nn2 _ aL,old _ _ hD3,.nil,bp _⟩ vd T (T.keep _ _ _ xh fun b hb o e=>old b o e)
   (fun b hb=>wo nn2 b (aw _ hb)) (fun b hb=>ba (ur b hb)) q fun s6 ys kU nn H5 I6 a6 qn=>?_
  have dn5:H5 s2.heap.objs.size=none:=a6.fp.1;have I7:Inv X kS σ H5 s6:=by
   refine rB.call' (s':=s6) (ch:=s2.heap.objs.size :: fp) I6.os I6.base I6.hok I6.bare fun b hb=>?_
   obtain⟨_,a1,a2,a3,a4,a5⟩:=qI b hb;exact⟨a3,a1,a4,a5⟩
  have I8:Inv X kS σ (kX H5 s2.heap.objs.size (.lst ys)) s6:=by
   obtain⟨_,a1,a2,a3,a4,a5⟩:=xj;exact I7.track dn5 I2.sz (cD a1) a4 a5 ⟨a6.len,kU,nn,a6.vals,a6.here⟩
  obtain⟨mm,Ab,_⟩:=I6.loc;have dne:h3.objs.size≠s2.heap.objs.size:=by rw [xi]; exact fW _
  refine hRR _ _ s6 ys H5 mm I8 (rB.fpOk (H':=kX H5 s2.heap.objs.size (.lst ys)) (ah _) ?_) Ab (qn _ dn5);show kX H5 s2.heap.objs.size (.lst ys) h3.objs.size=none;rw [zl dne];exact I6.free
 exact zgb rfl (loop _ rfl) (T.self _ 0 _ _ _ (T.keep _ _ _ xh fun b hb o e=>old b o e) (loop _ rfl))
theorem zgc {wi:TI} (SC:CompSc X N' ix scope) (hc:X.calm=true) (tD:GS js g) (ni:∀ j∈js,j∉js') (rT:∀ j∈js++js',ix[j]? = some none) (hi:PI X tg iter wi)
  (hg:∀ s₃ H₃ ex kS,PG (zB X N' scope s₃ H₃ ex kS) tg g) (ht:∀ s₃ H₃ ex kS,zcP (zB X N' scope s₃ H₃ ex kS) ifs ts) (hm:∀ s₃ H₃ ex kS D,PM (zB X N' scope s₃ H₃ ex kS) D js' (mk D (zB X N' scope s₃ H₃ ex kS).env) tm)
  (m6:∀ it D env,compTurn (.ListComp elt (⟨tg,iter,ifs,0⟩ :: gs) scope pos) 0 it (.ref D) env=zbN tg ifs iter.pos (mk D env) (.compLoop (.ListComp elt (⟨tg,iter,ifs,0⟩ :: gs) scope pos) 0 it (.ref D) env) it env)
  (hs:∀ x,foldedSetIterable iter X.env x=pure x:=by intro _; rfl):PE X (.ListComp elt (⟨tg,iter,ifs,0⟩ :: gs) scope pos) (zfm ix wi g ts tm):=by
 intro kS s σ H Q I h;rw [eval_ListComp];have xg:∀ y∈scope.names,y.2 = .free→∃ c,X.env.cells.lookup y.1=some c:=fun y hy hf=>I.ok.has y.1 (SC.free y hy hf)
 refine ic (use:=none) rfl hs (zcx xg) SC.kind SC.names (thn (hi kS s σ H _ I h) fun v s1 h1=>thn h1 fun uY s2 h2=>?_);obtain⟨it,fp,tn,J,H2,e,I2,T,mE,f2,q⟩:=h2;subst e;refine zds (RR:=fun acc C=>compPost (model X.prog X.w) X.A X.xe none (EP X kS σ Q) acc C) SC hc tD ni rT hg ht hm m6 I2 T mE f2 q ?_;intro D C s' ys H' m I' Bf hm q';refine⟨m,hm,fun wq nj=>⟨.ref D,_,?_,rfl,q'⟩⟩;obtain⟨f0,f1,A8,f3,f4,f5⟩:=Bf;exact I'.turned (t':=s'.toks) (fun b o hb e=>nj.extBut b o hb e) f0 f1 f3 f4 f5
theorem zdt {wi:TI} {i:Nat} {x:Str} {pos' nQ:Pos} (hN:X.N.Nodup) (xl:X.N[i]? = some x) (hx:Loc X.env.scope x) (SC:CompSc X N' ix scope) (hc:X.calm=true) (tD:GS js g) (ni:∀ j∈js,j∉js') (rT:∀ j∈js++js',ix[j]? = some none) (hi:PI X tg iter wi)
  (hg:∀ s₃ H₃ ex kS,PG (zB X N' scope s₃ H₃ ex kS) tg g) (ht:∀ s₃ H₃ ex kS,zcP (zB X N' scope s₃ H₃ ex kS) ifs ts) (hm:∀ s₃ H₃ ex kS D,PM (zB X N' scope s₃ H₃ ex kS) D js' (mk D (zB X N' scope s₃ H₃ ex kS).env) tm)
  (m6:∀ it D env,compTurn (.ListComp elt (⟨tg,iter,ifs,0⟩ :: gs) scope pos) 0 it (.ref D) env=zbN tg ifs iter.pos (mk D env) (.compLoop (.ListComp elt (⟨tg,iter,ifs,0⟩ :: gs) scope pos) 0 it (.ref D) env) it env)
  (xm:swapsWith (.ListComp elt (⟨tg,iter,ifs,0⟩ :: gs) scope pos) (some (.Name x pos')) nQ.line X.env=pure true:=by rfl)
  (hs:∀ x,foldedSetIterable iter X.env x=pure x:=by intro _; rfl) (hf:X.fn x=true∨X.env.scope.names.lookup x=some .local:=by first | exact .inl rfl | exact .inr rfl | assumption) :
  PS X (.Assign [.Name x pos'] (.ListComp elt (⟨tg,iter,ifs,0⟩ :: gs) scope pos) nQ) (zgW (zfm ix wi g ts tm) (zaK i)):=by
 intro kS s σ H D I h;have xg:∀ y∈scope.names,y.2 = .free→∃ c,X.env.cells.lookup y.1=some c:=fun y hy hf=>I.ok.has y.1 (SC.free y hy hf)
 rw [exec_Assign_Name_used _ _ _ _ xm]; refine ae (eY (ae ?_));show wpAny _ X.A (do let _ ← comprehension (.ListComp elt (⟨tg,iter,ifs,0⟩ :: gs) scope pos) scope X.env _ (newList []) false (eval iter X.env) (some (assign (.Name x pos') X.env))) _ _ s;refine ae (cJ (ic (use:=some (assign (.Name x pos') X.env)) (Q:=fun _ s'=>SP X kS D .next s') rfl hs (zcx xg) SC.kind SC.names
  (thn (hi kS s σ H _ I h) fun v s1 h1=>thn h1 fun uY s2 h2=>?_)) (fun _ s' hq=>aj (aj hq)) fun _ _ e=>e)
 obtain⟨it,fp,tn,J,H2,e,I2,T,mE,f2,q⟩:=h2;subst e;refine zds (Q:=fun x H1=>zaK i x σ H1 D.nx) (RR:=fun acc C=>compPost (model X.prog X.w) X.A X.xe (some (assign (.Name x pos') X.env)) (fun _ s'=>SP X kS D .next s') acc C) SC hc tD ni rT hg ht hm m6 I2 T mE f2 q ?_;intro Da C s' ys H' m I' Bf hm q';show wpAny _ X.A (assign (.Name x pos') X.env (.ref Da)) _ _ _;refine wpAny_assign_Name (zeF I' hN xl hx (show RelV (.ref Da) (.ref Da) from rfl) (fun vc I'' ⟨a,pT,ha⟩=>?_) hf);obtain⟨f0,f1,A8,f3,f4,f5⟩:=Bf;have hCa:C≠a:=by
  rcases ha with e | e
  ·rw [e]; exact f1
  ·exact cD (f4 x a e)
 refine⟨m,hm.sameBut pT hCa,fun h₃ hs₃=>⟨_,_,?_,q'⟩⟩;exact I''.turned (t':=vc.toks) (fun b o hb e=>hs₃.extBut b o hb e) f0 f1 f3 f4 f5
end
theorem zjN {elt t1 i1 t2 i2:Expr} {f1 f2:List Expr} {scope:Scope} {pos:Pos} (it:Value) (D:Addr) (env:Env):compTurn (.ListComp elt [⟨t1,i1,f1,0⟩,⟨t2,i2,f2,0⟩] scope pos) 0 it (.ref D) env =
  zbN t1 f1 i1.pos (zhN (.ListComp elt [⟨t1,i1,f1,0⟩,⟨t2,i2,f2,0⟩] scope pos) i2 1 (.ref D) env) (.compLoop (.ListComp elt [⟨t1,i1,f1,0⟩,⟨t2,i2,f2,0⟩] scope pos) 0 it (.ref D) env) it env:=by rfl
theorem zmN {elt t1 i1 t2 i2:Expr} {f1 f2:List Expr} {scope:Scope} {pos:Pos} (it:Value) (D:Addr) (env:Env):compTurn (.ListComp elt [⟨t1,i1,f1,0⟩,⟨t2,i2,f2,0⟩] scope pos) 1 it (.ref D) env =
  zbN t2 f2 i2.pos (zeS elt (.ref D) env) (.compLoop (.ListComp elt [⟨t1,i1,f1,0⟩,⟨t2,i2,f2,0⟩] scope pos) 1 it (.ref D) env) it env:=by rfl
def zdg (ix:List (Option Nat)):List Nat:=(aI ix.length).filter fun j=>ix[j]? == some none
theorem zbO {ix:List (Option Nat)} {i:Nat}:i∈zdg ix↔ix[i]? = some none:=by
 unfold zdg;rw [cA,bd,beq_iff_eq];exact⟨fun h=>h.2,fun h=>⟨(bw.mp h).1,h⟩⟩
def GK (ix:List (Option Nat)) (g:TG):Prop:=GS (zdg ix) g
def GKs (ix:List (Option Nat)) (g:TGs):Prop:=GSs (zdg ix) g
theorem zS {ix:List (Option Nat)} {i:Nat} (hi:ix[i]? = some none):GK ix (zaK i):=zhM (zbO.2 hi)
theorem zck {ix:List (Option Nat)}:GKs ix zk8:=zdC
theorem zaq {ix:List (Option Nat)} {i:Nat} {u:TGs} (hi:ix[i]? = some none) (h2:GKs ix u):GKs ix (zf5 (zaK i) u):=zbi (zbO.2 hi) h2
theorem zdh {ix:List (Option Nat)} {K:ag} {n:Nat} {t:TGs} (h:GKs ix t):GK ix (zjy K n t):=zfl h
theorem zmc {elt t1 i1:Expr} {f1:List Expr} {scope:Scope} {pos:Pos} (it:Value) (D:Addr) (env:Env):compTurn (.ListComp elt [⟨t1,i1,f1,0⟩] scope pos) 0 it (.ref D) env =
  zbN t1 f1 i1.pos (zeS elt (.ref D) env) (.compLoop (.ListComp elt [⟨t1,i1,f1,0⟩] scope pos) 0 it (.ref D) env) it env:=by rfl
section
variable {X:Cx} {elt tg iter:Expr} {ifs:List Expr} {scope:Scope} {pos:Pos} {N':List Str} {ix:List (Option Nat)} {g:TG} {ts:TT} {te:TE}
theorem zN {wi:TI} (SC:CompSc X N' ix scope) (hc:X.calm=true) (hk:GK ix g) (hi:PI X tg iter wi)
  (hg:∀ s₃ H₃ ex kS,PG (zB X N' scope s₃ H₃ ex kS) tg g) (ht:∀ s₃ H₃ ex kS,zcP (zB X N' scope s₃ H₃ ex kS) ifs ts) (he:∀ s₃ H₃ ex kS,PE (zB X N' scope s₃ H₃ ex kS) elt te)
  (hs:∀ x,foldedSetIterable iter X.env x=pure x:=by intro _; rfl):PE X (.ListComp elt [⟨tg,iter,ifs,0⟩] scope pos) (zmb ix wi g ts te) :=
 zgc (mk:=fun D env=>zeS elt (.ref D) env) (js:=zdg ix) (js':=[]) SC hc hk (fun _ _ h=>nomatch h) (fun j h=>zbO.1 (by simpa using h)) hi hg ht (fun s₃ H₃ ex kS D=>zg4 rfl (he s₃ H₃ ex kS)) (fun _ _ _=>zmc _ _ _) hs
theorem zdY {wi:TI} {i:Nat} {x:Str} {pos' nQ:Pos} (hN:X.N.Nodup) (xl:X.N[i]? = some x) (hx:Loc X.env.scope x) (SC:CompSc X N' ix scope) (hc:X.calm=true) (hk:GK ix g) (hi:PI X tg iter wi)
  (hg:∀ s₃ H₃ ex kS,PG (zB X N' scope s₃ H₃ ex kS) tg g) (ht:∀ s₃ H₃ ex kS,zcP (zB X N' scope s₃ H₃ ex kS) ifs ts) (he:∀ s₃ H₃ ex kS,PE (zB X N' scope s₃ H₃ ex kS) elt te)
  (xm:swapsWith (.ListComp elt [⟨tg,iter,ifs,0⟩] scope pos) (some (.Name x pos')) nQ.line X.env=pure true:=by rfl)
  (hs:∀ x,foldedSetIterable iter X.env x=pure x:=by intro _; rfl) (hf:X.fn x=true∨X.env.scope.names.lookup x=some .local:=by first | exact .inl rfl | exact .inr rfl | assumption) :
  PS X (.Assign [.Name x pos'] (.ListComp elt [⟨tg,iter,ifs,0⟩] scope pos) nQ) (zgW (zmb ix wi g ts te) (zaK i)) :=
 zdt (mk:=fun D env=>zeS elt (.ref D) env) (js:=zdg ix) (js':=[]) hN xl hx SC hc hk (fun _ _ h=>nomatch h) (fun j h=>zbO.1 (by simpa using h)) hi hg ht (fun s₃ H₃ ex kS D=>zg4 rfl (he s₃ H₃ ex kS)) (fun _ _ _=>zmc _ _ _) xm hs hf
end
section
variable {X:Cx} {kS:List (Addr×Obj)} {σ:St} {H:Hp} {s:Shared} {h':Heap}
theorem Inv.turnedL {t':Nat} {ch:List Addr} (I:Inv X kS σ H s) (k:∀ b o,b∉ch→s.heap.get? b=some o→h'.get? b=some o) (hf:∀ b∈ch,zb2 X kS H b)
  (th:∀ b∈ch,∃ o,h'.get? b=some o):Inv X kS σ H { s with heap:=h',toks:=t' }:=by
 have uj:∀ b u,H b=some u→b∉ch:=fun b u e z=>by rw [(hf b z).1] at e; cases e
 refine I.step (g':=s.gens) (d':=s.drawn) (ch:=ch) (fun b hb=>?_) (fun b o _ _ hc e _=>k b o hc e) (fun b o _ _ hc e _=>⟨o.slots,k b o hc e⟩) (fun _ _ _ _ n=>n)
  (fun b o hc e=>⟨o,k b o hc e⟩) (fun _ _ e=>e) (fun _ _ _ e=>e) (fun b ps e=>⟨#[],by rw [e]; simp⟩) (fun m hm=>?_) (fun b u e=>?_) I.bare
 ·obtain⟨_,a1,_,a3,a4,a5⟩:=hf b hb;exact⟨a3,a1,a4,a5⟩
 ·obtain⟨o,es,ep,ho,r⟩:=hm;exact⟨o,es,ep,k _ o (fun z=>(hf _ z).2.1 rfl) ho,r⟩
 ·refine (I.hok b u e).stay (fun c v hc q=>k c v ?_ q) (fun _ q=>q) fun _ _ q=>q
  rcases hc with z | z
  ·rw [z]; exact uj b u e
  ·exact uj c _ z
theorem Inv.turnedNew {t':Nat} {ch:List Addr} {T:Addr} {o:HO} (I:Inv X kS σ H s) (k:∀ b o,b∉ch→s.heap.get? b=some o→h'.get? b=some o) (hf:∀ b∈ch,zb2 X kS H b)
  (th:∀ b∈ch,∃ o,h'.get? b=some o) (hT:s.heap.objs.size≤T) (ok:zaJ X.prog X.w (kX H T o) h' T o):Inv X kS σ (kX H T o) { s with heap:=h',toks:=t' }:=by
 have I1:Inv X kS σ H { s with heap:=h',toks:=t' }:=I.turnedL k hf th;have hn:H T=none:=I.hok.fresh hT;obtain⟨_,a1,a2,a3,a4,a5⟩:=I.fpOk (H':=H) hT hn;exact I1.track hn (bi I.sz hT) (cD a1) a4 a5 ok
end
def zjO (Sq:Hp→Addr→List V→Prop) (a:Addr):It :=
 ⟨fun i H=>∃ xs x,Sq H a xs∧xs[i]? = some x,fun i H x H'=>∃ T v,H T=none∧x = .ref T∧H'=kX H T (.tup [.int i,v])∧∀ xs,Sq H a xs→xs[i]? = some v,fun i H=>∃ xs,Sq H a xs∧xs.length≤i⟩
theorem zcI {h:Heap} {T:Addr} {a b:Value} (e:h.get? T=some { cls:=.type "tuple",data:=.seq #[a,b] }):IsTup h T ([a,b]:List Value).toArray:=⟨_,e,rfl,_,rfl⟩
theorem zbr:2≤sizeLine:=by rw [bm]; decide
theorem zg5 {P:Program} {w:World} {K:ag} {es:List Expr} {k:Nat} {pos:Pos} (a it e:Addr) (wu:e≠it):Turn P w K (.Tuple es k pos) (zjO (kT K) a) [e,it] e (fun i h=>(∃ old,IsEnum h e it i old)∧h.IsListIter it a i) where
 mem:=by simp
 obj:=fun i h st b hb=>by
  obtain⟨⟨old,he⟩,o,ho,hc,hd⟩:=st;rcases aH.mp hb with z | z
  ·subst z;exact⟨_,he,fun v z=>by cases z⟩
  ·have z:b=it:=by simpa using z
   subst z;exact⟨o,ho,fun v z=>by rw [hd] at z; cases z⟩
 keep:=fun i h h' st kk=>⟨st.1.imp fun old he=>kk e #[M] _ he,st.2.at fun o eo=>kk it #[M] o eo⟩
 item:=by
  intro X hP hw hK hc i kS s σ H E I hf st hg;subst hP hw hK;obtain⟨xs,x,hq,hx⟩:=hg;obtain⟨⟨old,he⟩,hit⟩:=st;obtain⟨kU,rv,p,hz⟩:=I.list hq;obtain⟨u,hu,ru⟩:=rv.get hx;have pL:e < s.heap.objs.size:=aK he;have hits:it < s.heap.objs.size:=by obtain⟨o,ho,_⟩:=hit; exact aK ho
  refine wpAny_pyNext_enum_item he hit p.isList (x:=u) (by simpa using hu) wu fun h' oZ pU hT hsz kk=>?_
  have k1:∀ b o,b∉[e,it]→s.heap.get? b=some o→h'.get? b=some o:=fun b o hb eo=>kk b o (fun z=>hb (by simp [z])) (fun z=>hb (by simp [z])) eo
  have xn:∀ b∈[e,it],∃ o,h'.get? b=some o:=fun b hb=>by
   rcases aH.mp hb with z | z
   ·subst z; exact⟨_,oZ⟩
   ·have z:b=it:=by simpa using z
    subst z;obtain⟨o,eo,_⟩:=pU;exact⟨o,eo⟩
  have I1:Inv X kS σ (kX H s.heap.objs.size (.tup [.int i,x])) { s with heap:=h',toks:=s.toks+1 } :=
   I.turnedNew k1 hf xn (ah _) ⟨zbr,_,.cons ⟨s.toks,rfl⟩ (.cons ru .nil),zcI hT⟩
  refine⟨_,rfl,gN oZ fun wq pV nj=>?_⟩;have fr:∀ b∈[e,it],kX H s.heap.objs.size (.tup [.int i,x]) b=none:=fun b hb=>by
   have k9:b < s.heap.objs.size:=by
    rcases aH.mp hb with z | z
    ·subst z; exact pL
    ·have z:b=it:=by simpa using z
     subst z; exact hits
   rw [zl (ba k9)];exact (hf b hb).1
  have I2:Inv X kS σ (kX H s.heap.objs.size (.tup [.int i,x])) { s with heap:=wq,toks:=s.toks+1 } :=
   Inv.turnedL (s:={ s with heap:=h',toks:=s.toks+1 }) (ch:=[e]) (t':=s.toks+1) I1 (fun b o hb eo=>nj.extBut b o (by simpa using hb) eo) (fun b hb=>by
    have z:b=e:=by simpa using hb
    subst z;exact⟨fr b #[M],(hf b #[M]).2⟩) (fun b hb=>by
    have z:b=e:=by simpa using hb
    subst z;exact⟨_,pV⟩)
  refine⟨.ref s.heap.objs.size,_,I2,rfl,⟨_,x,I.fresh,rfl,rfl,fun ys hy=>by rw [I.list_inj hy hq]; exact hx⟩,⟨⟨_,by simpa using pV⟩,pU.extBut nj.extBut (cD wu)⟩,fr⟩
 done:=by
  intro X hP hw hK hc i kS s σ H E I hf st hg;subst hP hw hK;obtain⟨xs,hq,hx⟩:=hg;obtain⟨⟨old,he⟩,hit⟩:=st;obtain⟨kU,rv,p,hz⟩:=I.list hq;have hl:=rv.length;obtain⟨f0,f1,f2,f3,f4,f5⟩:=hf it #[M];exact wpAny_pyNext_enum_end (I.ok.hd hc) he hit p.isList (by simp; lia) fun h' eb=>⟨rfl,I.turned (t':=s.toks) (fun b o hb e=>eb b o hb e) f0 f1 f3 f4 f5⟩
 self:=fun _ _ _ _ _ st h=>by
  obtain⟨⟨old,he⟩,_⟩:=st;exact fL he h
def iEn (Sq:Hp→Addr→List V→Prop) (ta:TA):TI:=fun σ H R=>ta σ H fun vs H1=>∃ a xs,vs = [.ref a]∧Sq H1 a xs∧R (zjO Sq a) H1
theorem zcR {X:Cx} {es:List Expr} {k:Nat} {oJ p pos:Pos} {a:Expr} {ta:TA} (hg:Gl X "enumerate") (hm:X.mg "enumerate" = none) (ha:PA X [a] ta) (hs:starEach [a] X.env = [(false,eval a X.env)]:=by rfl) :
  PI X (.Tuple es k oJ) (.Call (.Name "enumerate" p) [a] [] pos) (iEn (kT X.K) ta):=by
 intro kS s σ H R I h;refine Call_ (za5 I hg hm boot_enumerate (bA (thn (ha pos kS s σ H _ I h) fun us s1 ⟨vs,H1,I1,r1,q1⟩=>?_) hs rfl));obtain⟨l,xs,e,hq,q⟩:=q1;subst e;cases r1 with
 | cons r rr =>
  cases rr;cases r;obtain⟨kU,rv,pl,hz⟩:=I1.list hq;refine call_enumerate_list pl.isList fun h' he hi hsz kk=>?_
  have I2:Inv X kS σ H1 { s1 with heap:=h' }:=I1.kept (t':=s1.toks) kk;refine fL he ?_; refine⟨_,[s1.heap.objs.size+1,s1.heap.objs.size],_,zjO (kT X.K) l,H1,rfl,I2,zg5 l s1.heap.objs.size (s1.heap.objs.size+1) (fW _),⟨⟨_,he⟩,hi⟩,fun b hb=>?_,q⟩;have hle:s1.heap.objs.size≤b:=by
   rcases aH.mp hb with z | z
   ·rw [z]; exact fQ _
   ·have z:b=s1.heap.objs.size:=by simpa using z
    rw [z]; exact ah _
  exact I1.fpOk hle (I1.hok.fresh hle)
def zli (wx wy:Hp→Addr→List V→Prop) (a b:Addr):It :=
 ⟨fun i H=>∃ xs ys x y,wx H a xs∧wy H b ys∧xs[i]? = some x∧ys[i]? = some y,
  fun i H x H'=>∃ T u v,H T=none∧x = .ref T∧H'=kX H T (.tup [u,v])∧(∀ xs,wx H a xs→xs[i]? = some u)∧∀ ys,wy H b ys→ys[i]? = some v,
  fun i H=>∃ xs ys,wx H a xs∧wy H b ys∧(xs.length≤i∨ys.length≤i)⟩
theorem ziL {P:Program} {w:World} {K:ag} {es:List Expr} {k:Nat} {pos:Pos} (a b:Addr) (n:Nat) (ha:a < n) (hb:b < n):Turn P w K (.Tuple es k pos) (zli (kT K) (kT K) a b) [n+4,n+2,n+3,n,n+1] (n+4)
  (fun i h=>IsZip h (n+4) (n+2) (n+3) .none∧IsPair h (n+2) (.ref n) (.ref (n+1))∧(∃ u v,IsPair h (n+3) u v)∧h.IsListIter n a i∧h.IsListIter (n+1) b i) where
 mem:=by simp
 obj:=fun i h st c hc=>by
  obtain⟨h1,h2,⟨u,v,h3⟩,⟨o4,e4,_,d4⟩,⟨o5,e5,_,d5⟩⟩:=st;simp only [aH,dN,or_false] at hc;rcases hc with z | z | z | z | z <;> subst z
  ·exact⟨_,h1,fun v z=>by cases z⟩
  ·exact⟨_,h2,fun v z=>by cases z⟩
  ·exact⟨_,h3,fun v z=>by cases z⟩
  ·exact⟨_,e4,fun v z=>by rw [d4] at z; cases z⟩
  ·exact⟨_,e5,fun v z=>by rw [d5] at z; cases z⟩
 keep:=fun i h h' st kk=>by
  obtain⟨h1,h2,⟨u,v,h3⟩,h4,h5⟩:=st;exact⟨kk _ #[M] _ h1,kk _ #[M] _ h2,⟨u,v,kk _ #[M] _ h3⟩,h4.at fun o eo=>kk _ #[M] o eo,h5.at fun o eo=>kk _ #[M] o eo⟩
 item:=by
  intro X hP hw hK hc i kS s σ H E I hf st hg;subst hP hw hK;obtain⟨xs,ys,x,y,vj,qJ,hx,hy⟩:=hg;obtain⟨h1,h2,⟨u0,v0,h3⟩,h4,h5⟩:=st;obtain⟨xo,Ac,p1,sU⟩:=I.list vj;obtain⟨o8,Ad,p2,tF⟩:=I.list qJ;obtain⟨u,hu,ru⟩:=Ac.get hx;obtain⟨v,hv,rv⟩:=Ad.get hy;have hzs:n+4 < s.heap.objs.size:=aK h1;refine wpAny_pyNext_zip_item (c6 ha hb) h1 h2 h3 h4 h5 p1.isList p2.isList (x:=u) (y:=v) (by simpa using hu) (by simpa using hv) fun h' a1 a2 a3 a4 a5 a6 kk=>?_
  have k1:∀ c o,c∉[n+4,n+3,n,n+1]→s.heap.get? c=some o→h'.get? c=some o:=fun c o lJ eo =>
   kk c o (fun z=>lJ (by simp [z])) (fun z=>lJ (by simp [z])) (fun z=>lJ (by simp [z])) (fun z=>lJ (by simp [z])) eo
  have sub:∀ c∈[n+4,n+3,n,n+1],c∈[n+4,n+2,n+3,n,n+1]:=fun c lJ=>by
   simp only [aH,dN,or_false] at lJ ⊢;rcases lJ with z | z | z | z <;> subst z <;> simp
  have xn:∀ c∈[n+4,n+3,n,n+1],∃ o,h'.get? c=some o:=fun c lJ=>by
   simp only [aH,dN,or_false] at lJ;rcases lJ with z | z | z | z <;> subst z
   ·exact⟨_,a1⟩
   ·exact⟨_,a2⟩
   ·obtain⟨o,e,_⟩:=a3; exact⟨o,e⟩
   ·obtain⟨o,e,_⟩:=a4; exact⟨o,e⟩
  have I1:Inv X kS σ (kX H s.heap.objs.size (.tup [x,y])) { s with heap:=h' } :=
   I.turnedNew (t':=s.toks) k1 (fun c lJ=>hf c (sub c lJ)) xn (ah _) ⟨zbr,_,.cons ru (.cons rv .nil),zcI a5⟩
  refine⟨_,rfl,wpAny_letOwnedTupleGo_zip a1 fun wq xp nj=>?_⟩;have fr:∀ c∈[n+4,n+2,n+3,n,n+1],kX H s.heap.objs.size (.tup [x,y]) c=none:=fun c lJ=>by
   have k9:c < s.heap.objs.size:=by
    simp only [aH,dN,or_false] at lJ;rcases lJ with z | z | z | z | z <;> subst z <;> lia
   rw [zl (ba k9)];exact (hf c lJ).1
  have I2:Inv X kS σ (kX H s.heap.objs.size (.tup [x,y])) { s with heap:=wq } :=
   Inv.turnedL (s:={ s with heap:=h' }) (ch:=[n+4]) (t':=s.toks) I1 (fun c o lJ eo=>nj.extBut c o (by simpa using lJ) eo) (fun c lJ=>by
    have z:c=n+4:=by simpa using lJ
    subst z;exact⟨fr _ #[M],(hf _ #[M]).2⟩) (fun c lJ=>by
    have z:c=n+4:=by simpa using lJ
    subst z;exact⟨_,xp⟩)
  refine⟨.ref s.heap.objs.size,_,I2,rfl,⟨_,x,y,I.fresh,rfl,rfl,fun zs hz=>by rw [I.list_inj hz vj]; exact hx,fun zs hz=>by rw [I.list_inj hz qJ]; exact hy⟩,
   ⟨xp,nj.extBut _ _ (c6 ha hb).TIz (kk _ _ (c6 ha hb).TIz (c6 ha hb).TITO (c6 ha hb).TIi1 (c6 ha hb).TIi2 h2),⟨_,_,nj.extBut _ _ (c6 ha hb).TOz a2⟩,a3.extBut nj.extBut (c6 ha hb).i1z,a4.extBut nj.extBut (c6 ha hb).i2z⟩,fr⟩
 done:=by
  intro X hP hw hK hc i kS s σ H E I hf st hg;subst hP hw hK;obtain⟨xs,ys,vj,qJ,hx⟩:=hg;obtain⟨h1,h2,⟨u0,v0,h3⟩,h4,h5⟩:=st;obtain⟨xo,Ac,p1,sU⟩:=I.list vj;obtain⟨o8,Ad,p2,tF⟩:=I.list qJ;have vk:=Ac.length;have rR:=Ad.length;refine wpAny_pyNext_zip_end (I.ok.hd hc) (c6 ha hb) h1 h2 h3 h4 h5 p1.isList p2.isList ?_ fun h' kk=>⟨rfl,?_⟩
  ·rcases hx with z | z
   ·exact .inl (by simp; lia)
   ·exact .inr (by simp; lia)
  ·have hth:∀ c∈[n+4,n+3,n,n+1],c∈[n+4,n+2,n+3,n,n+1]:=fun c lJ=>by
    simp only [aH,dN,or_false] at lJ ⊢;rcases lJ with z | z | z | z <;> subst z <;> simp
   refine I.step (g':=s.gens) (d':=s.drawn) (t':=s.toks) (ch:=[n+4,n+3,n,n+1]) (fun c lJ=>?_) (fun c o _ _ oA e _=>kk c o (fun z=>oA (by simp [z])) (fun z=>oA (by simp [z])) (fun z=>oA (by simp [z])) (fun z=>oA (by simp [z])) e)
    (fun c o _ _ oA e _=>⟨o.slots,kk c o (fun z=>oA (by simp [z])) (fun z=>oA (by simp [z])) (fun z=>oA (by simp [z])) (fun z=>oA (by simp [z])) e⟩) (fun _ _ _ _ n=>n)
    (fun c o oA e=>⟨o,kk c o (fun z=>oA (by simp [z])) (fun z=>oA (by simp [z])) (fun z=>oA (by simp [z])) (fun z=>oA (by simp [z])) e⟩) (fun _ _ e=>e) (fun _ _ _ e=>e) (fun c ps e=>⟨#[],by rw [e]; simp⟩) (fun m hm=>?_) (fun c u e=>?_) I.bare
   ·obtain⟨_,a1,_,a3,a4,a5⟩:=hf c (hth c lJ);exact⟨a3,a1,a4,a5⟩
   ·obtain⟨o,es',ep,ho,r⟩:=hm;have ne:∀ c∈[n+4,n+2,n+3,n,n+1],X.env.locals≠c:=fun c lJ=>cD (hf c lJ).2.1
    exact⟨o,es',ep,kk _ o (ne _ #[M]) (ne _ #[M]) (ne _ #[M]) (ne _ #[M]) ho,r⟩
   ·have uj:∀ d u',H d=some u'→∀ c∈[n+4,n+2,n+3,n,n+1],d≠c:=fun d u' e' c lJ z=>by rw [z,(hf c lJ).1] at e'; cases e'
    refine (I.hok c u e).stay (fun d v' hd q=>kk d v' ?_ ?_ ?_ ?_ q) (fun _ q=>q) fun _ _ q=>q
    all_goals
     rcases hd with z | z
     ·rw [z]; exact uj c u e _ #[M]
     ·exact uj d _ z _ #[M]
 self:=fun _ _ _ _ _ st h=>wpAny_pyIter_zip st.1 h
def iZp (wx wy:Hp→Addr→List V→Prop) (ta:TA):TI:=fun σ H R=>ta σ H fun vs H1=>∃ a b xs ys,vs = [.ref a,.ref b]∧wx H1 a xs∧wy H1 b ys∧R (zli wx wy a b) H1
theorem zlj {X:Cx} {es:List Expr} {k:Nat} {oJ p pos:Pos} {a b:Expr} {ta:TA} (hg:Gl X "zip") (hm:X.mg "zip" = none) (ha:PA X [a,b] ta) (hs:starEach [a,b] X.env = [(false,eval a X.env),(false,eval b X.env)]:=by rfl) (o6:starEach [b] X.env = [(false,eval b X.env)]:=by rfl) :
  PI X (.Tuple es k oJ) (.Call (.Name "zip" p) [a,b] [] pos) (iZp (kT X.K) (kT X.K) ta):=by
 intro kS s σ H R I h;refine Call_ (za5 I hg hm boot_zip (bA (thn (ha pos kS s σ H _ I h) fun us s1 ⟨vs,H1,I1,r1,q1⟩=>?_) (by rw [hs,o6]) (by rw [o6]; rfl)));obtain⟨l1,l2,xs,ys,e,vj,qJ,q⟩:=q1;subst e;cases r1 with
 | cons r rr =>
  cases rr with
  | cons r' rr =>
   cases rr;cases r;cases r';obtain⟨xo,Ac,pl1,sU⟩:=I1.list vj;obtain⟨o8,Ad,pl2,tF⟩:=I1.list qJ;have Bg:l1 < s1.heap.objs.size:=by obtain⟨_,_,e,_⟩:=pl1; exact aK e
   have Bh:l2 < s1.heap.objs.size:=by obtain⟨_,_,e,_⟩:=pl2; exact aK e
   refine call_zip_2 pl1.isList pl2.isList fun h' b1 b2 b3 b4 b5 b6 kk=>?_
   have I2:Inv X kS σ H1 { s1 with heap:=h' }:=I1.kept (t':=s1.toks) kk;refine wpAny_pyIter_zip b1 ?_;refine⟨_,_,_,zli (kT X.K) (kT X.K) l1 l2,H1,rfl,I2,ziL l1 l2 s1.heap.objs.size Bg Bh,⟨b1,b2,⟨_,_,b3⟩,b4,b5⟩,fun c hc=>?_,q⟩;have hle:s1.heap.objs.size≤c:=by
    simp only [aH,dN,or_false] at hc;rcases hc with z | z | z | z | z <;> subst z <;> lia
   exact I1.fpOk hle (I1.hok.fresh hle)
def zgd (Sq:Hp→Addr→List V→Prop) (a:Addr) (n:Nat):It :=
 ⟨fun i H=>i < n∧∃ xs,Sq H a xs∧xs.length=n,fun i H x H'=>H'=H∧∀ xs,Sq H a xs→xs[n - 1 - i]? = some x,fun i H=>n≤i⟩
theorem ziM {P:Program} {w:World} {K:ag} {tg:Expr} (a it:Addr) (n:Nat):Turn P w K tg (zgd (kT K) a n) [it] it (fun i h=>i≤n∧h.IsRevIter it a ((n:Int) - 1 - (i:Int))) where
 mem:=by simp
 obj:=fun i h st b hb=>by
  have z:b=it:=by simpa using hb
  subst z;obtain⟨_,o,e,c,d⟩:=st;exact⟨o,e,fun v z=>by rw [d] at z; cases z⟩
 keep:=fun i h h' st k=>⟨st.1,st.2.at fun o e=>k it #[M] o e⟩
 item:=by
  intro X hP hw hK hc i kS s σ H E I hf st hg;subst hP hw hK;obtain⟨oj,xs,hq,hl⟩:=hg;obtain⟨kU,rv,p,hz⟩:=I.list hq;have kY:=rv.length;obtain⟨x,hx⟩:∃ x,xs[n - 1 - i]? = some x:=⟨xs[n - 1 - i]'#[O],#[M]⟩;obtain⟨u,hu,ru⟩:=rv.get hx;obtain⟨f0,f1,f2,f3,f4,f5⟩:=hf it #[M];have e:(n:Int) - 1 - (i:Int)=((n - 1 - i:Nat):Int):=by lia
  have hit:=st.2;rw [e] at hit;refine wpAny_pyNext_rev_item hit p.isList (x:=u) (by simpa using hu) fun h' kW sb=>?_
  have I1:Inv X kS σ H { s with heap:=h' }:=I.turned (t':=s.toks) (fun b o hb e=>(sb.2 b hb).trans e) f0 f1 f3 f4 f5;have e2:((n - 1 - i:Nat):Int) - 1=(n:Int) - 1 - ((i+1:Nat):Int):=by lia
  rw [e2] at kW;obtain⟨o,eo,c,d⟩:=id kW;exact⟨u,rfl,zeG (s:={ s with heap:=h' }) eo c d #[D] ⟨x,H,I1,ru,⟨rfl,fun ys hy=>by rw [I.list_inj hy hq]; exact hx⟩,⟨oj,kW⟩,fun b hb=>(hf b hb).1⟩⟩
 done:=by
  intro X hP hw hK hc i kS s σ H E I hf st hg;subst hP hw hK;obtain⟨f0,f1,f2,f3,f4,f5⟩:=hf it #[M];have oj:n≤i:=hg;have e:(n:Int) - 1 - (i:Int) = -1:=by have:=st.1; lia
  have hit:=st.2;rw [e] at hit;exact wpAny_pyNext_rev_end (I.ok.hd hc) hit fun h' eb=>⟨rfl,I.turned (t':=s.toks) (fun b o hb e=>eb b o hb e) f0 f1 f3 f4 f5⟩
 self:=fun _ _ _ _ _ st h=>ja st.2 h
end L2
end
section
namespace PySem
namespace F
theorem zeT:Manifest.owners.lookup (String.ofList ['d','e','s','r','e','v','e','r'].reverse)=some Manifest.sig_reversed:=by kernel_rfl
theorem slot_rvd_next:Slot "reversed" "__next__" "reversed.__next__" :=
 .of (owner:="reversed") (n:="__next__") (by rw [dY,cU]; kernel_rfl) #[N] #[N] #[N] (by first | exact .inl #[N] | exact .inr #[N]) (by rw [cK]; kernel_rfl)
theorem entry_rvd_next:entryFor table "reversed.__next__" = some Builtin.«reversed.__next__»:=entryFor_of_tree (by kernel_rfl)
theorem args_rvd_next_1 (a:Value):argsOk "reversed.__next__" ⟨[a],[]⟩:=by
 unfold argsOk; rw [signature?_of (id:="reversed.__next__") (n:=['_','_','t','x','e','n','_','_']) (o:=['d','e','s','r','e','v','e','r']) (by kernel_rfl) zeT]; kernel_rfl
theorem slot_rvd_iter:Slot "reversed" "__iter__" "reversed.__iter__" :=
 .of (owner:="reversed") (n:="__iter__") (by rw [dY,cU]; kernel_rfl) #[N] #[N] #[N] (by first | exact .inl #[N] | exact .inr #[N]) (by rw [cK]; kernel_rfl)
theorem args_rvd_iter_1 (a:Value):argsOk "reversed.__iter__" ⟨[a],[]⟩:=by
 unfold argsOk; rw [signature?_of (id:="reversed.__iter__") (n:=['_','_','r','e','t','i','_','_']) (o:=['d','e','s','r','e','v','e','r']) (by kernel_rfl) zeT]; kernel_rfl
theorem entry_rvd_iter:entryFor table "reversed.__iter__" = some Builtin.«dict_keyiterator.__iter__»:=iS (id':="dict_keyiterator.__iter__") (by kernel_rfl) (by first | rfl | decide +kernel | (unfold String.splitOn; simp +decide [String.splitOnAux])) #[N] (by kernel_rfl)
theorem zeu:Slot "reversed" "__init__" "object.__init__":=.of (owner:="object") (n:="__init__") (by rw [dY,cU]; kernel_rfl) #[N] #[N] #[N] (by first | exact .inl #[N] | exact .inr #[N]) (by rw [cK]; kernel_rfl)
theorem called_rvd:TypeCalled "reversed" "reversed.__new__" "object.__init__" :=
 ⟨#[N],#[N],⟨_,_,mro_reversed⟩,made_reversed,#[N],by rw [cK]; kernel_rfl,zeu⟩
theorem noRev_tuple:typeLookup (.type "tuple") "__reversed__" = pure none:=by rw [dY,cU]; kernel_rfl
end F
def zfn (l:Addr) (i:Int):Obj:={ cls:=.type "reversed",data:=.fields #[.ref l,rawInt i] }
def Heap.IsRvd (h:Heap) (a l:Addr) (i:Int):Prop:=∃ o,h.get? a=some o∧o.cls = .type "reversed"∧o.data = .fields #[.ref l,rawInt i]
theorem Heap.IsRvd.typeIs {s:Shared} {a l:Addr} {i:Int} (x:s.heap.IsRvd a l i):s.TypeIs (.ref a) "reversed":=let ⟨o,ho,hc,_⟩:=x; ⟨o,ho,hc⟩
theorem Heap.IsRvd.at {h h':Heap} {a l:Addr} {i:Int} (x:h.IsRvd a l i) (e:∀ o,h.get? a=some o→h'.get? a=some o):h'.IsRvd a l i:=let ⟨o,ho,r⟩:=x; ⟨o,e _ ho,r⟩
open PyProof.Rows in
theorem zew (l:Addr) (items:Array Value) :
  Meets (Builtin.«reversed.__new__» ⟨[.type "reversed",.ref l],[]⟩) (fun _ R s=>IsTup s.heap l items∧(items.size:Int) < 2 ^ 63 ∧
   R (.ok (.ret (.ref s.heap.objs.size))) { s with heap:=s.heap.push (zfn l ((items.size:Int) - 1)),toks:=s.toks+1+1 }) :=
 .of_wp fun prog w A R s h=>by
  obtain⟨hl,hsz,h⟩:=h;unfold Builtin.«reversed.__new__»; refine ae (cc (newClass_reversed _) ?_)
  try dsimp only
  iterate 2 refine ae (cc (a:=()) (by first | rfl | kernel_rfl) ?_)
  try dsimp only
  refine ae (dZ hl.typeIs F.noRev_tuple ?_)
  try dsimp only
  refine ae (ae (m:=isInstance (.ref l) (.type "dict")) (eU hl.typeIs F.sub_tuple_dict ?_));simp only [aG,if_false]; refine ae (m:=specialOf (.ref l) "__getitem__") (dZ hl.typeIs slot_tuple_getitem.lookup ?_);refine aj ?_
  try dsimp only
  try simp only [cI,aG,if_false]
  refine ae (len_tuple hl hsz ?_);refine ae (m:=asInt? _) (cc (a:=some (items.size:Int)) rfl ?_)
  try dsimp only
  refine ae (m:=kz _ _) ?_;show wpAny _ _ (newObj (.type "reversed") (.fields #[.ref l,rawInt ((items.size:Int) - 1)]) none) _ _ _;refine bU ?_;exact aj ⟨_,rfl,h⟩
section
variable {prog:Program} {w:World} {A:Around} {E:Value→Shared→Prop} {s:Shared}
open PyProof.Rows
theorem zdZ {l:Addr} {items:Array Value} {Q:Value→Shared→Prop} (hl:IsTup s.heap l items) (hsz:(items.size:Int) < 2 ^ 63)
  (h:Q (.ref s.heap.objs.size) { s with heap:=s.heap.push (zfn l ((items.size:Int) - 1)),toks:=s.toks+1+1 }):wpAny (model prog w) A (call (.type "reversed") [.ref l]) Q E s:=by
 refine callType_new F.called_rvd #[D] (iT _) (jb _) (fun obj=>jc obj _) jd (zew l items) ⟨hl,hsz,?_⟩; exact⟨⟨_,aJ _ rfl,rfl⟩,h⟩
theorem zb1 {it l:Addr} {i:Nat} {items:Array Value} {x:Value} {Q:Option Value→Shared→Prop} (hit:s.heap.IsRvd it l (i:Int)) (hl:IsTup s.heap l items) (hx:items[i]? = some x) (hi:(i:Int) < 2 ^ 62)
  (hQ:∀ h',h'.IsRvd it l ((i:Int) - 1)→dJ it s.heap h'→Q (some x) { s with heap:=h',toks:=s.toks+1 }):wpAny (model prog w) A (pyNext (.ref it)) Q E s:=by
 obtain⟨o,ho,hc,hd⟩:=id hit; unfold pyNext;refine ae (dW (cq (name:=bY "__next__") hit.typeIs F.slot_rvd_next
  (cf F.slot_rvd_next hit.typeIs F.entry_rvd_next ?_ (F.args_rvd_next_1 _))))
 unfold Builtin.«reversed.__next__»;refine ae (cc (a:=(a8 it,[])) rfl ?_); try dsimp only
 refine ae (dn ho hd (x:=.ref l) rfl ?_); refine ae (dn ho hd (x:=rawInt (i:Int)) rfl ?_);show wpAny _ _ (if (i:Int) < 0 then _ else _) _ _ s; rw [if_neg #[O]];refine ae (dZ hl.typeIs slot_tuple_getitem.lookup ?_)
 try simp only [Option.isNone_some,aG,if_false]
 refine ae (wpAny_mkInt ?_); have k9:i < items.size:=by
  obtain⟨h1,_⟩:=br.mp hx;exact h1
 refine ae (dW (getItem_tuple (j:=i) hl #[O] #[O] (by rw [gD #[O] #[O]]; simp) hx ?_))
 try dsimp only
 refine ae (dn (s:={ s with toks:=s.toks+1 }) ho hd (x:=rawInt (i:Int)) rfl ?_);show wpAny _ _ (setField (.ref it) 1 (rawInt ((i:Int) - 1)) >>= _) _ _ _;refine ae (dj (s:={ s with toks:=s.toks+1 }) ho hd #[M] (aj ⟨x,rfl,aj (hQ _ ?_ (bO ..))⟩));exact⟨_,bD _ ho (dz (cm hd _)),(fM ..).trans hc,by rw [cm hd]; simp⟩
theorem zb4 {it l:Addr} {Q:Option Value→Shared→Prop} (hh:A.handled=none) (hit:s.heap.IsRvd it l (-1)) (hQ:∀ h',jZ it s.heap h'→Q none { s with heap:=h' }):wpAny (model prog w) A (pyNext (.ref it)) Q E s:=by
 obtain⟨o,ho,hc,hd⟩:=id hit; unfold pyNext;refine ae (dW (cq (name:=bY "__next__") hit.typeIs F.slot_rvd_next
  (cf F.slot_rvd_next hit.typeIs F.entry_rvd_next ?_ (F.args_rvd_next_1 _))))
 unfold Builtin.«reversed.__next__»;refine ae (cc (a:=(a8 it,[])) rfl ?_); try dsimp only
 refine ae (dn ho hd (x:=.ref l) rfl ?_); refine ae (dn ho hd (x:=rawInt (-1)) rfl ?_);show wpAny _ _ (if (-1:Int) < 0 then _ else _) _ _ s; rw [if_pos #[D]];refine ae (cT ?_);refine ae (ae (m:=setField (.ref it) 1 (rawInt (-1))) (dj ho hd #[M] ?_));have hd2:=cm hd (·.setIfInBounds 1 (rawInt (-1)));have oI:=bD (gO (·.setIfInBounds 1 (rawInt (-1)))) ho (dz hd2);refine dj oI hd2 #[M] ?_
 try dsimp only
 refine ae ?_; show wpAny _ _ (newExc (.type "StopIteration") [] >>= _) _ _ _;refine ae ?_;simp only [newExc,newTuple];refine ae (bU ?_ (by size_fits)); refine ae (m:=firstArgMember _ _) (cc (a:=cR) (by first | rfl | (simp only [firstArgMember]; rfl)) ?_);refine bU ?_ (by size_fits); simp only [raiseNew];refine ae (jm ?_); first | rw [show A.in1.handled=none from hh] | rw [hh]
 refine ae (aj (j3 ?_)); refine ae (eU (T:="StopIteration") (b:=true) ⟨_,aJ _ rfl,rfl⟩ iU ?_);exact aj (hQ _ ((((bO ..).extBut.trans (bO ..).extBut).push _).push _))
theorem zbB {it l:Addr} {i:Int} {Q:Value→Shared→Prop} (hit:s.heap.IsRvd it l i) (h:Q (.ref it) s):wpAny (model prog w) A (pyIter (.ref it)) Q E s:=by
 refine gW hit.typeIs F.slot_rvd_iter (cf F.slot_rvd_iter hit.typeIs F.entry_rvd_iter ?_ (F.args_rvd_iter_1 _));show wpAny _ _ (ret (.ref it)) _ _ s; exact aj ⟨_,rfl,"reversed",_,hit.typeIs,F.slot_rvd_next.lookup,h⟩
end
section
variable {prog:Program} {w:World} {A:Around} {E:Value→Shared→Prop} {s:Shared}
theorem zge {it t:Addr} {i:Nat} {items:Array Value} {x:Value} {Q:Value→Shared→Prop} (hit:s.heap.IsTupleIter it t i) (ht:s.heap.IsTuple t items) (hx:items[i]? = some x)
  (hQ:∀ h',h'.IsTupleIter it t (i+1)→dJ it s.heap h'→Q x { s with heap:=h' }):wpAny (model prog w) A (dD (.ref it)) Q E s:=by
 obtain⟨o,ho,hc,hd⟩:=id hit; obtain⟨ot,Bi,_,nt,Bj⟩:=ht;unfold dD; refine ae (cq (name:=bY "__next__") hit.typeIs dB (cf dB hit.typeIs gG ?_ (gu _)));show wpAny _ _ (field (.ref it) 0 >>= _) _ _ s; refine ae (dn ho hd (x:=.ref t) rfl ?_); show wpAny _ _ (if (a8 t == cR)=true then _ else _) _ _ _; rw [if_neg (by exact aZ)];refine ae (dn ho hd (x:=.int _ 0) rfl ?_); refine ae (m:=seqItems? _) (dI Bi Bj ?_); simp only [da,hx];have hn:=bD (gO (·.setIfInBounds 1 (rawInt ((i+1:Nat):Int)))) ho (dz (cm hd _));refine ae (dj ho hd #[M] (aj ⟨x,rfl,aj (hQ _ ⟨_,hn,(fM ..).trans hc,?_⟩ (bO ..))⟩)); rw [cm hd]; simp [rawInt]
theorem zdu {it t:Addr} {i:Nat} {items:Array Value} {Q:Value→Shared→Prop} (hh:A.handled=none) (hit:s.heap.IsTupleIter it t i) (ht:s.heap.IsTuple t items) (hx:items[i]? = none)
  (hE:∀ h' e,jZ it s.heap h'→(∃ o,h'.get? e=some o∧o.cls = .type "StopIteration")→E (.ref e) { s with heap:=h' }):wpAny (model prog w) A (dD (.ref it)) Q E s:=by
 obtain⟨o,ho,hc,hd⟩:=id hit; obtain⟨ot,Bi,_,nt,Bj⟩:=ht;unfold dD; refine ae (cq (name:=bY "__next__") hit.typeIs dB (cf dB hit.typeIs gG ?_ (gu _)));show wpAny _ _ (field (.ref it) 0 >>= _) _ _ s; refine ae (dn ho hd (x:=.ref t) rfl ?_); show wpAny _ _ (if (a8 t == cR)=true then _ else _) _ _ _; rw [if_neg (by exact aZ)];refine ae (dn ho hd (x:=.int _ 0) rfl ?_); refine ae (m:=seqItems? _) (dI Bi Bj ?_); simp only [da,hx];refine ae (cT (ae (dj ho hd #[M] ?_))); show wpAny _ _ (newExc (.type "StopIteration") [] >>= _) _ _ _; refine ae ?_;simp only [newExc,newTuple]; refine ae (bU ?_ (by size_fits)); refine ae (m:=firstArgMember _ _) (cc (a:=cR) (by first | rfl | (simp only [firstArgMember]; rfl)) ?_);refine bU ?_ (by size_fits); simp only [raiseNew]; refine ae (jm ?_); first | rw [show A.in1.handled=none from hh] | rw [hh]
 refine ae (aj (j3 ?_)); exact hE _ _ (((bO ..).extBut.push _).push _) ⟨_,aJ _ rfl,rfl⟩
end
theorem Draws.tuple {prog:Program} {w:World} {A:Around} (hh:A.handled=none) (it t:Addr) (lC:t≠it) (items:Array Value):Draws prog w A it [it,t] items.size (fun i v=>items[i]? = some v) (fun i h=>h.IsTupleIter it t i∧h.IsTuple t items) where
 live:=fun i h st=>st.1.imp fun o r=>r.1
 frame:=fun i h h' st kk=>⟨st.1.at fun o=>kk it #[M] o,st.2.at fun o=>kk t #[M] o⟩
 item:=fun i s Q E hi st hQ=>zge st.1 st.2 (x:=items[i]) (by simp [hi]) fun h' a b=>hQ _ h' s.toks (by simp [hi]) ⟨a,st.2.extBut b.extBut lC⟩ b
 done:=fun s Q E st hE=>zdu hh st.1 st.2 #[M] hE
def zhR (t:Addr):Obj:={ cls:=.type "tuple_iterator",data:=.fields #[.ref t,.int 0 0] }
def zjP (it:Addr):Obj:={ cls:=.type "enumerate",data:=.fields #[.none,.bool false,.ref it,rawInt 0,.none,.none] }
open AutoSeq1 (wpAny_loadPart') in
theorem zgf (l:Addr) (items:Array Value) (n:Nat) (Bk:Option Addr) (sl:Array (Option Value)) :
  Meets (Builtin.«enumerate.__new__» ⟨[.type "enumerate",.ref l],[]⟩) (fun _ R s=>s.heap.get? l=some { cls:=.type "tuple",dict:=Bk,data:=.seq items n,slots:=sl } ∧
   R (.ok (.ret (.ref (s.heap.push (zhR l)).objs.size))) { s with heap:=(s.heap.push (zhR l)).push (zjP s.heap.objs.size) }) :=
 .of_wp fun prog w A R s h=>by
  obtain⟨hp,g,d,tk,os⟩:=s; obtain⟨hl,h⟩:=h; have hT:Heap.IsTuple (Shared.heap ⟨hp,g,d,tk,os⟩) l items:=⟨_,hl,rfl,n,rfl⟩;have oK:=sub_enumerate; wp_walk using iG hl;refine wpAny_stack_any fun st=>aj ?_; split
  ·rename_i c _ _ _ _ _; cases (c == eQ "enumerate") <;> (wp_walk using iG hl,fh hT; exact⟨_,rfl,h⟩)
  ·wp_walk using iG hl,fh hT; exact⟨_,rfl,h⟩
theorem zb5 {prog:Program} {w:World} {A:Around} {E:Value→Shared→Prop} {s:Shared} {l:Addr} {items:Array Value} {Q:Value→Shared→Prop} (hL:s.heap.IsTuple l items)
  (h:∀ h',IsEnum h' (s.heap.objs.size+1) s.heap.objs.size 0 .none→h'.IsTupleIter s.heap.objs.size l 0→h'.objs.size=s.heap.objs.size+2 →
   (∀ b o,s.heap.get? b=some o→h'.get? b=some o)→Q (.ref (s.heap.objs.size+1)) { s with heap:=h' }):wpAny (model prog w) A (call (.type "enumerate") [.ref l]) Q E s:=by
 obtain⟨⟨c,Bk,dt,sl⟩,hl,hc,n,hd⟩:=hL; replace hc:c = .type "tuple":=hc; replace hd:dt = .seq items n:=hd; subst hc hd;refine callType_new F.called_enumerate #[D] (F.typeCall_enumerate_1 _) (F.newCall_enumerate_1 _) (fun obj=>jc obj _) F.entry_enumerate_new (zgf l items n Bk sl) ⟨hl,?_⟩;have hz:(s.heap.push (zhR l)).objs.size=s.heap.objs.size+1:=bK ..;have he:=aJ (s.heap.push (zhR l)) (o:=zjP s.heap.objs.size) rfl;show _∧_;rw [hz] at he ⊢;exact⟨⟨_,he,rfl⟩,h _ he ⟨_,ak _ (aJ _ rfl),rfl,rfl⟩ (by rw [bK,hz]) fun b o x=>ak _ (ak _ x)⟩
end PySem
namespace L2
open PySem PySem.Spec PyProof.Rows
theorem ziN {P:Program} {w:World} {K:ag} {tg:Expr} (a it:Addr) (n:Nat):Turn P w K tg (zgd (kZ K) a n) [it] it (fun i h=>i≤n∧h.IsRvd it a ((n:Int) - 1 - (i:Int))) where
 mem:=by simp
 obj:=fun i h st b hb=>by
  have z:b=it:=by simpa using hb
  subst z;obtain⟨_,o,e,c,d⟩:=st;exact⟨o,e,fun v z=>by rw [d] at z; cases z⟩
 keep:=fun i h h' st k=>⟨st.1,st.2.at fun o e=>k it #[M] o e⟩
 item:=by
  intro X hP hw hK hc i kS s σ H E I hf st hg;subst hP hw hK;obtain⟨oj,xs,hq,hl⟩:=hg;obtain⟨kU,rv,p,hz⟩:=I.tuple hq;have kY:=rv.length;have og:=bm;obtain⟨x,hx⟩:∃ x,xs[n - 1 - i]? = some x:=⟨xs[n - 1 - i]'#[O],#[M]⟩;obtain⟨u,hu,ru⟩:=rv.get hx;obtain⟨f0,f1,f2,f3,f4,f5⟩:=hf it #[M];have e:(n:Int) - 1 - (i:Int)=((n - 1 - i:Nat):Int):=by lia
  have hit:=st.2;rw [e] at hit;refine zb1 hit p (x:=u) (by simpa using hu) #[O] fun h' kW sb=>?_
  have I1:Inv X kS σ H { s with heap:=h',toks:=s.toks+1 }:=I.turned (t':=s.toks+1) (fun b o hb e=>(sb.2 b hb).trans e) f0 f1 f3 f4 f5;have e2:((n - 1 - i:Nat):Int) - 1=(n:Int) - 1 - ((i+1:Nat):Int):=by lia
  rw [e2] at kW;obtain⟨o,eo,c,d⟩:=id kW;exact⟨u,rfl,zeG (s:={ s with heap:=h',toks:=s.toks+1 }) eo c d #[D] ⟨x,H,I1,ru,⟨rfl,fun ys hy=>by rw [I.tuple_inj hy hq]; exact hx⟩,⟨oj,kW⟩,fun b hb=>(hf b hb).1⟩⟩
 done:=by
  intro X hP hw hK hc i kS s σ H E I hf st hg;subst hP hw hK;obtain⟨f0,f1,f2,f3,f4,f5⟩:=hf it #[M];have oj:n≤i:=hg;have e:(n:Int) - 1 - (i:Int) = -1:=by have:=st.1; lia
  have hit:=st.2;rw [e] at hit;exact zb4 (I.ok.hd hc) hit fun h' eb=>⟨rfl,I.turned (t':=s.toks) (fun b o hb e=>eb b o hb e) f0 f1 f3 f4 f5⟩
 self:=fun _ _ _ _ _ st h=>zbB st.2 h
theorem zfo {X:Cx} {tg:Expr} {kS:List (Addr×Obj)} {σ:St} {H1:Hp} {s1:Shared} {R:It→Hp→Prop} {l:Addr} {xs:List V} (I1:Inv X kS σ H1 s1) (hq:kZ X.K H1 l xs) (q:R (zgd (kZ X.K) l xs.length) H1) :
  wpAny (model X.prog X.w) X.A (call (.type "reversed") [.ref l]) (fun v s2=>wpAny (model X.prog X.w) X.A (pyIter v) (PIE X kS σ tg R) X.xe s2) X.xe s1:=by
 obtain⟨kU,rv,pl,hz⟩:=I1.tuple hq;have kY:=rv.length;have og:=bm;refine zdZ pl (by rw [au]; lia) ?_;have I2:Inv X kS σ H1 { s1 with heap:=s1.heap.push (zfn l ((kU.toArray.size:Int) - 1)),toks:=s1.toks+1+1 }:=I1.kept fun b o e=>ak _ e
 have hr:(s1.heap.push (zfn l ((kU.toArray.size:Int) - 1))).IsRvd s1.heap.objs.size l ((xs.length:Int) - 1 - ((0:Nat):Int)):=by
  refine⟨_,aJ _ rfl,rfl,?_⟩;have e1:(kU.toArray.size:Int) - 1=(xs.length:Int) - 1 - ((0:Nat):Int):=by rw [au,kY]; lia
  show iJ #[.ref l,rawInt ((kU.toArray.size:Int) - 1)]=_;rw [e1]
 refine zbB hr ?_;refine⟨_,[s1.heap.objs.size],_,zgd (kZ X.K) l xs.length,H1,rfl,I2,ziN l s1.heap.objs.size xs.length,⟨bp _,hr⟩,fun b hb=>?_,q⟩;have z:b=s1.heap.objs.size:=by simpa using hb
 subst z;exact I1.fpOk (ah _) (I1.hok.fresh (ah _))
theorem zgg {X:Cx} {tg:Expr} {kS:List (Addr×Obj)} {σ:St} {H1:Hp} {s1:Shared} {R:It→Hp→Prop} {l:Addr} {xs:List V} (I1:Inv X kS σ H1 s1) (hq:kT X.K H1 l xs) (q:R (zgd (kT X.K) l xs.length) H1) :
  wpAny (model X.prog X.w) X.A (call (.type "reversed") [.ref l]) (fun v s2=>wpAny (model X.prog X.w) X.A (pyIter v) (PIE X kS σ tg R) X.xe s2) X.xe s1:=by
 obtain⟨kU,rv,pl,hz⟩:=I1.list hq;have kY:=rv.length;refine call_reversed_list pl.isList ?_;have I2:Inv X kS σ H1 { s1 with heap:=s1.heap.push (revObj l ((kU.toArray.size:Int) - 1)) }:=I1.kept (t':=s1.toks) fun b o e=>ak _ e
 have hr:(s1.heap.push (revObj l ((kU.toArray.size:Int) - 1))).IsRevIter s1.heap.objs.size l ((xs.length:Int) - 1 - ((0:Nat):Int)):=by
  refine⟨_,aJ _ rfl,rfl,?_⟩;have e1:(kU.toArray.size:Int) - 1=(xs.length:Int) - 1 - ((0:Nat):Int):=by rw [au,kY]; lia
  show iJ #[.ref l,rawInt ((kU.toArray.size:Int) - 1)]=_;rw [e1]
 refine ja hr ?_;refine⟨_,[s1.heap.objs.size],_,zgd (kT X.K) l xs.length,H1,rfl,I2,ziM l s1.heap.objs.size xs.length,⟨bp _,hr⟩,fun b hb=>?_,q⟩;have z:b=s1.heap.objs.size:=by simpa using hb
 subst z;exact I1.fpOk (ah _) (I1.hok.fresh (ah _))
def zoj (K:ag) (ta:TA):TI:=fun σ H R=>ta σ H fun vs H1=>∃ a xs,vs = [.ref a]∧((kT K H1 a xs∧R (zgd (kT K) a xs.length) H1)∨(kZ K H1 a xs∧R (zgd (kZ K) a xs.length) H1))
theorem zmO {X:Cx} {tg:Expr} {p pos:Pos} {a:Expr} {ta:TA} (hg:Gl X "reversed") (hm:X.mg "reversed" = none) (ha:PA X [a] ta) (hs:starEach [a] X.env = [(false,eval a X.env)]:=by rfl) :
  PI X tg (.Call (.Name "reversed" p) [a] [] pos) (zoj X.K ta):=by
 intro kS s σ H R I h;refine Call_ (za5 I hg hm boot_reversed (bA (thn (ha pos kS s σ H _ I h) fun us s1 ⟨vs,H1,I1,r1,q1⟩=>?_) hs rfl));obtain⟨l,xs,e,hq⟩:=q1;subst e;cases r1 with
 | cons r rr =>
  cases rr;cases r;rcases hq with ⟨hq,q⟩ | ⟨hq,q⟩
  ·exact zgg I1 hq q
  ·exact zfo I1 hq q
theorem zg6 {P:Program} {w:World} {K:ag} {es:List Expr} {k:Nat} {pos:Pos} (a it e:Addr) (wu:e≠it) (hai:a≠it) (hae:a≠e):Turn P w K (.Tuple es k pos) (zjO (kZ K) a) [e,it] e (fun i h=>(∃ old,IsEnum h e it i old)∧h.IsTupleIter it a i) where
 mem:=by simp
 obj:=fun i h st b hb=>by
  obtain⟨⟨old,he⟩,o,ho,hc,hd⟩:=st;rcases aH.mp hb with z | z
  ·subst z;exact⟨_,he,fun v z=>by cases z⟩
  ·have z:b=it:=by simpa using z
   subst z;exact⟨o,ho,fun v z=>by rw [hd] at z; cases z⟩
 keep:=fun i h h' st kk=>⟨st.1.imp fun old he=>kk e #[M] _ he,st.2.at fun o eo=>kk it #[M] o eo⟩
 item:=by
  intro X hP hw hK hc i kS s σ H E I hf st hg;subst hP hw hK;obtain⟨xs,x,hq,hx⟩:=hg;obtain⟨⟨old,he⟩,hit⟩:=st;obtain⟨kU,rv,p,hz⟩:=I.tuple hq;obtain⟨u,hu,ru⟩:=rv.get hx;have pL:e < s.heap.objs.size:=aK he;have hits:it < s.heap.objs.size:=by obtain⟨o,ho,_⟩:=hit; exact aK ho
  have k9:i < kU.toArray.size:=by
   have:=(bw.mp hu).1;simpa using this
  have hh:X.A.in1.handled=none:=by simp [I.ok.hd hc]
  refine wpAny_pyNext_enum_itemD (Draws.tuple hh it a hai kU.toArray) he ⟨hit,(show s.heap.IsTuple a kU.toArray from p)⟩ k9 wu (by simp [wu,cD hae]) fun u' h' tk hPu oZ pd hT hsz kk=>?_
  obtain⟨pU,htup'⟩:=pd;have eu:u'=u:=by
   have e1:kU[i]? = some u':=by simpa using hPu
   rw [hu] at e1;exact (bf e1).symm
  subst eu;have k1:∀ b o,b∉[e,it]→s.heap.get? b=some o→h'.get? b=some o:=fun b o hb eo=>kk b o (fun z=>hb (by simp [z])) (fun z=>hb (by simp [z])) eo
  have xn:∀ b∈[e,it],∃ o,h'.get? b=some o:=fun b hb=>by
   rcases aH.mp hb with z | z
   ·subst z; exact⟨_,oZ⟩
   ·have z:b=it:=by simpa using z
    subst z;obtain⟨o,eo,_⟩:=pU;exact⟨o,eo⟩
  have I1:Inv X kS σ (kX H s.heap.objs.size (.tup [.int i,x])) { s with heap:=h',toks:=tk+1 } :=
   I.turnedNew k1 hf xn (ah _) ⟨zbr,_,.cons ⟨tk,rfl⟩ (.cons ru .nil),zcI hT⟩
  refine⟨_,rfl,gN oZ fun wq pV nj=>?_⟩;have fr:∀ b∈[e,it],kX H s.heap.objs.size (.tup [.int i,x]) b=none:=fun b hb=>by
   have k9:b < s.heap.objs.size:=by
    rcases aH.mp hb with z | z
    ·subst z; exact pL
    ·have z:b=it:=by simpa using z
     subst z; exact hits
   rw [zl (ba k9)];exact (hf b hb).1
  have I2:Inv X kS σ (kX H s.heap.objs.size (.tup [.int i,x])) { s with heap:=wq,toks:=tk+1 } :=
   Inv.turnedL (s:={ s with heap:=h',toks:=tk+1 }) (ch:=[e]) (t':=tk+1) I1 (fun b o hb eo=>nj.extBut b o (by simpa using hb) eo) (fun b hb=>by
    have z:b=e:=by simpa using hb
    subst z;exact⟨fr b #[M],(hf b #[M]).2⟩) (fun b hb=>by
    have z:b=e:=by simpa using hb
    subst z;exact⟨_,pV⟩)
  refine⟨.ref s.heap.objs.size,_,I2,rfl,⟨_,x,I.fresh,rfl,rfl,fun ys hy=>by rw [I.tuple_inj hy hq]; exact hx⟩,⟨⟨_,by simpa using pV⟩,pU.extBut nj.extBut (cD wu)⟩,fr⟩
 done:=by
  intro X hP hw hK hc i kS s σ H E I hf st hg;subst hP hw hK;obtain⟨xs,hq,hx⟩:=hg;obtain⟨⟨old,he⟩,hit⟩:=st;obtain⟨kU,rv,p,hz⟩:=I.tuple hq;have hl:=rv.length;obtain⟨f0,f1,f2,f3,f4,f5⟩:=hf it #[M];have hT:s.TypeIs (.ref e) "enumerate":=⟨_,he,rfl⟩; have hh:X.A.in1.handled=none:=by simp [I.ok.hd hc]
  unfold pyNext; refine ae (dW (cq (name:=bY "__next__") hT iV (cf iV hT F.entry_enumerate_next ?_ (F.args_enumerate_next_1 _))));show wpAny _ _ (field (.ref e) 2 >>= _) _ _ _; refine ae (dn he rfl (x:=.ref it) rfl ?_);refine ae (zdu hh hit (show s.heap.IsTuple a kU.toArray from p) (by simp; lia) fun h' x rV sS=>?_);obtain⟨o,ho,hc⟩:=sS;refine ae (eU (T:="StopIteration") (b:=true) ⟨o,ho,hc⟩ iU ?_); exact aj ⟨rfl,I.turned (t':=s.toks) (fun b o hb e=>rV b o hb e) f0 f1 f3 f4 f5⟩
 self:=fun _ _ _ _ _ st h=>by
  obtain⟨⟨old,he⟩,_⟩:=st;exact fL he h
theorem zb6 {X:Cx} {es:List Expr} {k:Nat} {oJ p pos:Pos} {a:Expr} {ta:TA} (hg:Gl X "enumerate") (hm:X.mg "enumerate" = none) (ha:PA X [a] ta) (hs:starEach [a] X.env = [(false,eval a X.env)]:=by rfl) :
  PI X (.Tuple es k oJ) (.Call (.Name "enumerate" p) [a] [] pos) (iEn (kZ X.K) ta):=by
 intro kS s σ H R I h;refine Call_ (za5 I hg hm boot_enumerate (bA (thn (ha pos kS s σ H _ I h) fun us s1 ⟨vs,H1,I1,r1,q1⟩=>?_) hs rfl));obtain⟨l,xs,e,hq,q⟩:=q1;subst e;cases r1 with
 | cons r rr =>
  cases rr;cases r;obtain⟨kU,rv,pl,hz⟩:=I1.tuple hq;have k9:l < s1.heap.objs.size:=by obtain⟨_,e,_⟩:=pl; exact aK e
  refine zb5 (show s1.heap.IsTuple l kU.toArray from pl) fun h' he hi hsz kk=>?_
  have I2:Inv X kS σ H1 { s1 with heap:=h' }:=I1.kept (t':=s1.toks) kk;refine fL he ?_; refine⟨_,[s1.heap.objs.size+1,s1.heap.objs.size],_,zjO (kZ X.K) l,H1,rfl,I2,zg6 l s1.heap.objs.size (s1.heap.objs.size+1) (fW _) (ba k9) (ba (cN k9)),⟨⟨_,he⟩,hi⟩,fun b hb=>?_,q⟩;have hle:s1.heap.objs.size≤b:=by
   rcases aH.mp hb with z | z
   ·rw [z]; exact fQ _
   ·have z:b=s1.heap.objs.size:=by simpa using z
    rw [z]; exact ah _
  exact I1.fpOk hle (I1.hok.fresh hle)
inductive EqD (K:ag) (H:Hp):Nat→V→V→Bool→Prop where
 | flat {d:Nat} {x y:V} (hx:zeO x=true) (hy:zeO y=true):EqD K H d x y (eqV x y)
 | same {d:Nat} {a:Addr}:EqD K H d (.ref a) (.ref a) true
 | lists {d:Nat} {a b:Addr} {xs ys:List V} {e:Nat→Bool} (lC:a≠b) (ha:kT K H a xs) (hb:kT K H b ys) (hl:xs.length=ys.length)
   (he:∀ (j:Nat) x y,xs[j]? = some x→ys[j]? = some y→EqD K H d x y (e j)):EqD K H (d+1) (.ref a) (.ref b) ((aI xs.length).all e)
 | lens {d:Nat} {a b:Addr} {xs ys:List V} (lC:a≠b) (ha:kT K H a xs) (hb:kT K H b ys) (hl:xs.length≠ys.length):EqD K H (d+1) (.ref a) (.ref b) false
 | tups {d:Nat} {a b:Addr} {xs ys:List V} {e:Nat→Bool} (lC:a≠b) (ha:kZ K H a xs) (hb:kZ K H b ys)
   (he:∀ (j:Nat) x y,xs[j]? = some x→ys[j]? = some y→EqD K H d x y (e j)):EqD K H (d+1) (.ref a) (.ref b) ((aI (min xs.length ys.length)).all e && xs.length == ys.length)
theorem zE.getE {xs:List V} {us:List Value} (r:zE xs us) {j:Nat} (h:j < us.toArray.size):∃ x,xs[j]? = some x∧RelV x us.toArray[j]:=by
 have hl:=r.length;have hj:j < xs.length:=by rw [hl]; simpa using h
 obtain⟨u,hu,ru⟩:=r.get (i:=j) (x:=xs[j]) #[M];refine⟨xs[j],#[M],?_⟩;have:us.toArray[j]=u:=by
  have h2:j < us.length:=by simpa using h
  rw [ai h2] at hu;simpa using bf hu
 rw [this];exact ru
theorem EqD.at {X:Cx} {kS:List (Addr×Obj)} {σ:St} {H:Hp} {s:Shared} (I:Inv X kS σ H s) {d:Nat} {x y:V} {b:Bool} (h:EqD X.K H d x y b) :
  ∀ (A:Around) (u v:Value),RelV x u→RelV y v→A.units+d < cLine→SeqAt.EqAt A s u v b:=by
 induction h with
 | flat hx hy=>exact fun A u v rx ry _=>zmE rx ry hx hy
 | same=>intro A u v rx ry _; cases rx; cases ry; exact ki _
 | lists lC ha hb hl he ih =>
  intro A u v rx ry hu;cases rx; cases ry;obtain⟨vm,r1,p1,_⟩:=I.list ha;obtain⟨vn,r2,p2,_⟩:=I.list hb;have l1:=r1.length;have l2:=r2.length;refine gH lC ?_;have q:=SeqAt.RcAt.lists (A:=A) p1.isList p2.isList (by simp only [au]; lia) #[O] fun j h1 h2=>by
   obtain⟨x,hx,rx⟩:=r1.getE h1;obtain⟨y,hy,ry⟩:=r2.getE h2;exact ih j x y hx hy A.in1 _ _ rx ry (by simp only [eV]; lia)
  rw [au,← l1] at q;exact q
 | lens lC ha hb hl =>
  intro A u v rx ry hu;cases rx; cases ry;obtain⟨vm,r1,p1,_⟩:=I.list ha;obtain⟨vn,r2,p2,_⟩:=I.list hb;have l1:=r1.length;have l2:=r2.length;exact gH lC (SeqAt.RcAt.lists_lengths p1.isList p2.isList (by simp only [au,bne_iff_ne]; lia) #[O])
 | tups lC ha hb he ih =>
  intro A u v rx ry hu;cases rx; cases ry;obtain⟨vm,r1,p1,_⟩:=I.tuple ha;obtain⟨vn,r2,p2,_⟩:=I.tuple hb;have l1:=r1.length;have l2:=r2.length;refine gH lC ?_;have q:=SeqAt.RcAt.tuples (A:=A) (s:=s) p1 p2 #[O] fun j h1 h2=>by
   obtain⟨x,hx,rx⟩:=r1.getE h1;obtain⟨y,hy,ry⟩:=r2.getE h2;exact ih j x y hx hy A.in1 _ _ rx ry (by simp only [eV]; lia)
  rw [au,au,← l1,← l2] at q;exact q
def znJ (K:ag) (neg:Bool):R2:=fun x y H Q=>∃ a b xs ys,x = .ref a∧y = .ref b∧((kT K H a xs∧kT K H b ys)∨(kZ K H a xs∧kZ K H b ys)) ∧
 ((xs.length≠ys.length∧(∀ (j:Nat) x y,xs[j]? = some x→ys[j]? = some y→∃ c,EqD K H 8 x y c)∧Q (.bl neg) H) ∨
  (xs.length=ys.length∧∃ e:Nat→Bool,(∀ (j:Nat) x y,xs[j]? = some x→ys[j]? = some y→EqD K H 8 x y (e j))∧Q (.bl (if neg then !(aI xs.length).all e else (aI xs.length).all e)) H))
theorem zjQ {X:Cx} (hu:X.A.units+20 < cLine):OpR X (compareOp .NotEq) (znJ X.K true):=by
 intro kS s σ H x y v u Q I rx ry h;obtain⟨a,b,xs,ys,rfl,rfl,hk,h⟩:=h;cases rx; cases ry;rcases hk with ⟨ha,hb⟩ | ⟨ha,hb⟩
 ·obtain⟨vm,r1,p1,_⟩:=I.list ha;obtain⟨vn,r2,p2,_⟩:=I.list hb;have l1:=r1.length;have l2:=r2.length;rcases h with ⟨hl,_,q⟩ | ⟨hl,e,he,q⟩
  ·exact SeqAt.RcNeAt.lists_lengths p1.isList p2.isList (by simp only [au,bne_iff_ne]; lia) #[O] _ _ _ _ ⟨.bl true,H,I,rfl,q⟩
  ·refine SeqAt.RcNeAt.lists p1.isList p2.isList (e:=e) (by simp only [au]; lia) #[O] (fun j h1 h2=>?_) _ _ _ _ ⟨.bl _,H,I,rfl,?_⟩
   ·obtain⟨x,hx,rx⟩:=r1.getE h1;obtain⟨y,hy,ry⟩:=r2.getE h2;exact (he j x y hx hy).at I _ _ _ rx ry (by simp only [eV]; lia)
   ·rw [au,← l1];exact q
 ·obtain⟨vm,r1,p1,_⟩:=I.tuple ha;obtain⟨vn,r2,p2,_⟩:=I.tuple hb;have l1:=r1.length;have l2:=r2.length;rcases h with ⟨hl,he,q⟩ | ⟨hl,e,he,q⟩
  ·have rV:∀ j:Nat,∃ c:Bool,∀ x y,xs[j]? = some x→ys[j]? = some y→EqD X.K H 8 x y c:=fun j=>by
    cases hx:xs[j]? with
    | none=>exact⟨true,fun x y z=>by cases z⟩
    | some x =>
     cases hy:ys[j]? with
     | none=>exact⟨true,fun x y _ z=>by cases z⟩
     | some y =>
      obtain⟨c,hc⟩:=he j x y hx hy;exact⟨c,fun x' y' z1 z2=>by cases z1; cases z2; exact hc⟩
   obtain⟨e,pV⟩:=Classical.axiomOfChoice rV;refine jq (s:=s) p1 p2 (e:=e) #[O] (fun j h1 h2=>?_) _ _ _ _ ⟨.bl _,H,I,rfl,?_⟩
   ·obtain⟨x,hx,rx⟩:=r1.getE h1;obtain⟨y,hy,ry⟩:=r2.getE h2;exact (pV j x y hx hy).at I _ _ _ rx ry (by simp only [eV]; lia)
   ·have nR:(vm.toArray.size == vn.toArray.size)=false:=by
     rw [au,au]; exact beq_eq_false_iff_ne.mpr #[O]
    rw [nR,iW];exact q
  ·refine jq (s:=s) p1 p2 (e:=e) #[O] (fun j h1 h2=>?_) _ _ _ _ ⟨.bl _,H,I,rfl,?_⟩
   ·obtain⟨x,hx,rx⟩:=r1.getE h1;obtain⟨y,hy,ry⟩:=r2.getE h2;exact (he j x y hx hy).at I _ _ _ rx ry (by simp only [eV]; lia)
   ·have nR:(vm.toArray.size == vn.toArray.size)=true:=by
     rw [au,au]; exact beq_iff_eq.mpr #[O]
    have vo:min vm.toArray.size vn.toArray.size=xs.length:=by rw [au,au]; lia
    rw [nR,Bool.and_true,vo];exact q
theorem zgh {X:Cx}:za8 X (.type "range") (fun xs H Q=>∃ j:Int,xs = [.int j]∧∀ l,H l=none→Q (.ref l) (kX H l (.rng 0 j))):=by
 intro kS s σ H xs us Q I r h;obtain⟨j,rfl,q⟩:=h;obtain⟨u,rfl,t,rfl⟩:=vals1 r;refine call_range_1 ?_;exact⟨.ref s.heap.objs.size,_,I.laid (o:=.rng 0 j) (fun b o e=>ak _ e) (ah _) ⟨_,_,_,aJ _ rfl⟩,rfl,q _ I.fresh⟩
def zbx (lo:Int) (n:Nat):List Int:=(aI n).map fun (i:Nat)=>lo+(i:Int)
theorem zcy (lo:Int) (n:Nat):(zbx lo n).length=n:=by simp [zbx]
theorem zex {acc:Array Value} {lo:Int} {n:Nat} (h:ItemsOf (fun i v=>∃ t,v = .int (lo+(i:Nat)*1) t) acc n):zE ((zbx lo n).map V.int) acc.toList:=by
 obtain⟨hsz,hv⟩:=h;have go:∀ (us:List Value) (k:Nat),(∀ (j:Nat) v,us[j]? = some v→∃ t,v = .int (lo+((k+j:Nat):Int)) t)→zE (((aI us.length).map fun (i:Nat)=>V.int (lo+((k+i:Nat):Int)))) us:=by
  intro us;induction us with
  | nil=>intro k _; exact .nil
  | cons u us ih =>
   intro k hu;rw [cF,fR,dA,cj];refine .cons ?_ ?_
   ·obtain⟨t,e⟩:=hu 0 u rfl;exact⟨t,e⟩
   ·have:=ih (k+1) fun j v e=>by
     obtain⟨t,z⟩:=hu (j+1) v (by simpa using e);exact⟨t,by rw [z]; congr 1; lia⟩
    have e2:(fun (i:Nat)=>V.int (lo+((k+1+i:Nat):Int)))=((fun (i:Nat)=>V.int (lo+((k+i:Nat):Int))) ∘ Nat.succ):=by
     funext i;show V.int _=V.int _;congr 2;show ((k+1+i:Nat):Int)=((k+(i+1):Nat):Int);lia
    rw [← e2];exact this
 have h1:=go acc.toList 0 fun j v e=>by
  obtain⟨t,z⟩:=hv j v (by simpa using e);exact⟨t,by rw [z]; simp⟩
 have e1:acc.toList.length=n:=by simpa using hsz
 rw [e1] at h1;unfold zbx;rw [cj];have e2:(V.int ∘ fun (i:Nat)=>lo+(i:Int))=fun (i:Nat)=>V.int (lo+((0+i:Nat):Int)):=by
  funext i;show V.int (lo+(i:Int))=V.int (lo+((0+i:Nat):Int));rw [bE]
 rw [e2];exact h1
theorem zey {X:Cx} (hc:X.calm=true):za8 X (.type "list") (fun xs H Q=>∃ p hi,xs = [.ref p]∧H p=some (.rng 0 hi)∧0≤hi∧hi≤1000∧∀ l,H l=none→Q (.ref l) (kX H l (.lst ((zbx 0 hi.toNat).map V.int)))):=by
 intro kS s σ H xs us Q I r h;obtain⟨p,hi,rfl,hp,h0,h1,q⟩:=h;obtain⟨u,rfl,rx⟩:=vals1 r;cases rx;obtain⟨t,u',v,e⟩:=(show zaJ X.prog X.w H s.heap p (.rng 0 hi) from I.hok p _ hp);have og:=bm;refine call_list_range (n:=hi.toNat) (I.ok.hd hc) (show IsRange s.heap p 0 hi 1 t u' v from e) (small_one #[O] #[O] #[O] #[O]) (by rw [rangeSize_one]; split <;> lia) #[O] fun h' tk vp c' kk ho vq=>?_
 have hv:=zex (lo:=0) (n:=hi.toNat) vq;refine⟨.ref s.heap.objs.size,_,I.laid kk (ah _) ?_,rfl,q _ I.fresh⟩;exact⟨by rw [ab,zcy]; lia,vp.toList,c',hv,by simpa using ho⟩
def zok (K:ag) (tl:TE):TI:=fun σ H R=>tl σ H fun x H1=>∃ a,x = .ref a∧(((∃ xs,kT K H1 a xs)∧R (Itl K a) H1)∨((∃ xs,kZ K H1 a xs)∧R (Itt K a) H1))
theorem zjR {X:Cx} {tg l:Expr} {tl:TE} (hl:PE X l tl):PI X tg l (zok X.K tl):=by
 intro kS s σ H R I h;refine thn (hl kS s σ H _ I h) fun v s1 ⟨x,H1,I1,r1,q1⟩=>?_
 obtain⟨a,e,q⟩:=q1;subst e;cases r1;rcases q with ⟨⟨xs,hq⟩,q⟩ | ⟨⟨xs,hq⟩,q⟩
 ·obtain⟨kU,rv,p,hz⟩:=I1.list hq;refine fI p.isList ?_;refine⟨s1.heap.objs.size,[s1.heap.objs.size],_,_,H1,rfl,I1.kept (t':=s1.toks) fun b o e=>ak _ e,zeH a _,⟨_,aJ _ rfl,rfl,rfl⟩,fun b hb=>?_,q⟩;have e:b=s1.heap.objs.size:=by simpa using hb
  subst e;exact I1.fpOk (ah _) (I1.hok.fresh (ah _))
 ·obtain⟨kU,rv,p,hz⟩:=I1.tuple hq;refine fh (show s1.heap.IsTuple a kU.toArray from p) ?_;refine⟨s1.heap.objs.size,[s1.heap.objs.size],_,_,H1,rfl,I1.kept (t':=s1.toks) fun b o e=>ak _ e,zdT a _,⟨_,aJ _ rfl,rfl,rfl⟩,fun b hb=>?_,q⟩;have e:b=s1.heap.objs.size:=by simpa using hb
  subst e;exact I1.fpOk (ah _) (I1.hok.fresh (ah _))
def intsOf:List Expr→Option (List Int)
 | []=>some []
 | .Constant (.int i) _ _ :: r=>(intsOf r).map (i :: ·)
 | _=>none
def zeU (ns:List Int):TA:=fun _ H Q=>Q (ns.map V.int) H
theorem zjS {X:Cx}:∀ (es:List Expr) (ns:List Int),intsOf es=some ns→PA X es (zeU ns):=by
 intro es;induction es with
 | nil =>
  intro ns h;have e:ns = []:=(bf h).symm;subst e;exact zd
 | cons e r ih =>
  intro ns h;unfold intsOf at h;split at h
  ·rename_i heq
   cases heq
  ·rename_i i j p r' heq
   injection heq with e1 e2
   subst e1 e2;cases hr:intsOf r with
   | none=>rw [hr] at h; cases h
   | some ms =>
    rw [hr] at h;have e:i :: ms=ns:=bf h;subst e;exact za ze (ih ms hr)
  ·cases h
theorem zlk {X:Cx} {es:List Expr} {ns:List Int} (h:intsOf es=some ns):PA X es (zeU ns):=zjS es ns h
theorem zd0 {X:Cx} {i:Int} {j:Nat} {p:Pos} {es:List Expr} {t:TA} (hr:PA X es t):PA X (.Constant (.int i) j p :: es) (zma (tC (.int i)) t):=za ze hr
theorem zjT {X:Cx} {i:Nat} {x:Str} {pos' tG nQ:Pos} {rest:List Stmt} {u:TS} {es:List Expr} {ns:List Int} (h:intsOf es=some ns) (hN:X.N.Nodup) (hi:X.N[i]? = some x) (hx:Loc X.env.scope x)
  (hf:X.fn x=true∨X.env.scope.names.lookup x=some .local) (hr:PSs X rest u):PSs X (.Assign [.Name x pos'] (.List es tG) nQ :: rest) (zas (zgW (zlb (zeU ns)) (zaK i)) u):=by
 have h1:PE X (.List es tG) (zlb (zeU ns)):=@zaE X es (zeU ns) tG (@zlk X es ns h);have h2:PS X (.Assign [.Name x pos'] (.List es tG) nQ) (zgW (zlb (zeU ns)) (zaK i)):=zo hN hi hx h1 (by rfl) hf;exact zf h2 hr
section
variable {X:Cx} {K:ag}
theorem zcS (hK:X.K=K):IxR X (znE K):=by subst hK; exact zn
theorem zjU (hK:X.K=K):SlR X (znG K):=by subst hK; exact zhK
def znK (K:ag):List V→Hp→VK→Prop:=fun xs H Q=>∃ p ys,xs = [.ref p]∧(kT K H p ys∨kZ K H p ys)∧Q (.int ys.length) H
theorem zar (hK:X.K=K):za8 X (.builtin "len") (znK K):=by subst hK; exact zA
theorem zbc {es:List Expr} {k:Nat} {t:TGs} {n:Nat} {pos:Pos} (hK:X.K=K) (hc:X.calm=true) (h:PGs X es t)
  (hn:(assignEach es X.env).length=n:=by rfl) (lW:(assignEach es X.env).findIdx? (·.1)=none:=by rfl):PG X (.Tuple es k pos) (zjy K n t):=by subst hK; exact zbJ hc h hn lW
theorem zmP {o e:Expr} {es:List Expr} {to:TE} {t:TA} {name:Str} {apos nh:Pos} {T id:String} {r:V→List V→Hp→VK→Prop} (hK:X.K=K) (pa:PlainAttrs T) (slot:Slot T name id) (AO:typeOf (.builtin id)=pure (.type "method_descriptor")) (hm:MtR X id r) (ho:PE X o to) (ha:PA X (e :: es) t)
  (rP:attributeBase o name X.env (eval o X.env)=eval o X.env:=by rfl)
  (ve:((backTo nh (starEach (e :: es) X.env)).all (fun x=>!x.1) && (backToKw nh (keywordEach [] X.env)).all (fun x=>x.1.isSome)
   && decide ((e :: es).length+([]:List Keyword).length+(if ([]:List Keyword).isEmpty then 0 else 1) < 30))=true:=by rfl)
  (rQ:(apos.endLine == nh.line)=true:=by rfl) (hs:starEach (e :: es) X.env=(false,eval e X.env) :: starEach es X.env:=by rfl) (pR:(backTo nh (starEach es X.env)).any (·.1)=false:=by rfl) :
  PE X (.Call (.Attribute o name apos) (e :: es) [] nh) (tBM K T r to t):=by subst hK; exact zjE pa slot AO hm ho ha rP ve rQ hs pR
end
end L2
end
section
namespace My
def Cg (p a b:Int):Prop:=∃ k,a=b+p*k
theorem Cg.refl (p a:Int):Cg p a a:=⟨0,by grind⟩
theorem Cg.symm {p a b:Int} (h:Cg p a b):Cg p b a:=by obtain⟨k,e⟩:=h; exact⟨-k,by grind⟩
theorem Cg.trans {p a b c:Int} (h:Cg p a b) (h':Cg p b c):Cg p a c:=by
 obtain⟨k,e⟩:=h; obtain⟨l,e'⟩:=h'; exact⟨k+l,by grind⟩
theorem Cg.add {p a b c d:Int} (h:Cg p a b) (h':Cg p c d):Cg p (a+c) (b+d):=by
 obtain⟨k,e⟩:=h; obtain⟨l,e'⟩:=h'; exact⟨k+l,by grind⟩
theorem Cg.sub {p a b c d:Int} (h:Cg p a b) (h':Cg p c d):Cg p (a - c) (b - d):=by
 obtain⟨k,e⟩:=h; obtain⟨l,e'⟩:=h'; exact⟨k - l,by grind⟩
theorem Cg.mul {p a b c d:Int} (h:Cg p a b) (h':Cg p c d):Cg p (a*c) (b*d):=by
 obtain⟨k,e⟩:=h; obtain⟨l,e'⟩:=h';exact⟨k*d+b*l+p*k*l,by subst e e'; grind⟩
theorem Cg.of_eq {p a b:Int} (h:a=b):Cg p a b:=h ▸ Cg.refl p a
theorem Cg.emod (p a:Int):Cg p (a % p) a:=⟨-(a / p),by have:=Int.emod_add_mul_ediv a p; grind⟩
theorem Cg.mod_eq {p a b:Int} (h:Cg p a b):a % p=b % p:=by
 obtain⟨k,e⟩:=h; rw [e,Int.add_mul_emod_self_left]
theorem Cg.of_mod {p a b:Int} (h:a % p=b % p):Cg p a b:=(Cg.emod p a).symm.trans (h ▸ Cg.emod p b)
theorem Cg.eq {p a b:Int} (h:Cg p a b) (ha:0≤a) (ha':a < p) (hb:0≤b) (nR:b < p):a=b:=by
 have:=h.mod_eq
 rwa [fN ha ha',fN hb nR] at this
def z9 (p x:Int):List Int→Int
 | []=>0
 | c :: r=>(c+x*z9 p x r) % p
theorem zcT {p x:Int} (hp:0 < p):∀ l,0≤z9 p x l
 | []=>bC 0
 | _ :: _=>aQ _ #[O]
theorem zcU {p x:Int} (hp:0 < p):∀ l,z9 p x l < p
 | []=>hp
 | _ :: _=>aB _ hp
theorem zaA (p x c:Int) (r:List Int):Cg p (z9 p x (c :: r)) (c+x*z9 p x r):=Cg.emod _ _
def lv (p x:Int):Int→Int→List Int→Int
 | k4,_,[]=>k4
 | k4,power,c :: r=>lv p x ((k4+c*power) % p) (power*x % p) r
theorem zmd {p x:Int}:∀ (l:List Int) (k4 power:Int),Cg p (lv p x k4 power l) (k4+power*z9 p x l)
 | [],k4,power=>Cg.of_eq (by show k4=k4+power*0; grind)
 | c :: r,k4,power=>by
  have h1:=zmd (p:=p) (x:=x) r ((k4+c*power) % p) (power*x % p);refine h1.trans ?_;have h2:Cg p ((k4+c*power) % p+power*x % p*z9 p x r) (k4+c*power+power*x*z9 p x r):=(Cg.emod p _).add ((Cg.emod p (power*x)).mul (Cg.refl p _));refine h2.trans ?_;have h3:Cg p (k4+power*(c+x*z9 p x r)) (k4+power*z9 p x (c :: r)):=(Cg.refl p _).add ((Cg.refl p _).mul (zaA p x c r).symm);refine (Cg.of_eq ?_).trans h3;grind
theorem zjV {p x:Int} (hp:0 < p):∀ (l:List Int) (k4 power:Int),0≤k4→k4 < p→0≤lv p x k4 power l∧lv p x k4 power l < p
 | [],k4,power,h1,h2=>⟨h1,h2⟩
 | c :: r,k4,power,h1,h2=>zjV hp r _ _ (aQ _ #[O]) (aB _ hp)
theorem zhS {p x:Int} (hp:0 < p) (l:List Int):lv p x 0 1 l=z9 p x l:=by
 obtain⟨a,b⟩:=zjV (x:=x) hp l 0 1 (bC _) hp;exact ((zmd l 0 1).trans (Cg.of_eq (by grind))).eq a b (zcT hp l) (zcU hp l)
def zp:List Int:=[5,7,11,13,17,19,23,29,31,37,41,43,47,53,59,61,67,71,73,79,83,89,97]
def zhT (p:Int):Nat→Int→Int→Int→Int
 | 0,prod,_,_=>prod
 | n+1,prod,sq,left=>if 0 < left then zhT p n (if left % 2=1 then prod*sq % p else prod) (sq*sq % p) (left / 2) else prod
def inv (p h:Int):Int:=zhT p 7 1 (h % p) (p - 2)
def zol:Bool:=zp.all fun p=>(aI p.toNat).all fun h=>h == 0 || (inv p h*h) % p == 1
theorem ziO:zol=true:=by decide +kernel
theorem zan {p:Int} (hp:p∈zp):5≤p∧p≤97:=by
 have:zp.all (fun p=>decide (5≤p∧p≤97))=true:=by decide +kernel
 have:=fU.mp this p hp;simpa using this
theorem zjW {p h:Int} (hp:p∈zp) (h0:0 < h) (h1:h < p):Cg p (inv p h*h) 1:=by
 have e:=fU.mp (fU.mp ziO p hp) h.toNat (bd.mpr #[O]);have hh:((h.toNat:Nat):Int)=h:=by lia
 have:h.toNat≠0:=by lia
 simp only [bM,beq_iff_eq,hh,this,false_or] at e;have hr:=zan hp;exact Cg.of_mod (by rw [e,fN #[O] #[O]])
theorem zb7 {p a b:Int} (hp:p∈zp) (h:Cg p (a*b) 0):Cg p a 0∨Cg p b 0:=by
 have hr:=zan hp;by_cases ha:a % p=0
 ·exact .inl (Cg.of_mod (by rw [ha]; simp))
 ·right;have h0:0 < a % p:=by have:=aQ a (show p≠0 by lia); lia
  have hi:=zjW hp h0 (aB a #[O]);have h1:Cg p (inv p (a % p)*(a*b)) 0:=((Cg.refl p _).mul h).trans (Cg.of_eq (by grind));have h2:Cg p (inv p (a % p)*(a % p)*b) (1*b):=hi.mul (Cg.refl p b);have h3:Cg p (inv p (a % p)*(a*b)) (inv p (a % p)*(a % p)*b):=by
   have:=((Cg.refl p (inv p (a % p))).mul (Cg.emod p a).symm).mul (Cg.refl p b);exact (Cg.of_eq (by grind)).trans this
  exact ((Cg.of_eq (by grind)).trans (h2.symm.trans (h3.symm.trans h1)))
end My
end
section
namespace My
open PySem L2 PyProof.Rows
section
variable {K:ag}
theorem zjX {ns:List Int} {k:Int} (h0:0≤k) (h1:k < ns.length):∃ c:Int,ns[k.toNat]? = some c∧atI (ns.map V.int) k=some (.int c):=by
 have k9:k.toNat < ns.length:=by lia
 have e:atI (ns.map V.int) ((k.toNat:Nat):Int)=some (.int ns[k.toNat]):=zaO (by simp [af,ai k9]);have hk:((k.toNat:Nat):Int)=k:=by lia
 rw [hk] at e;exact⟨ns[k.toNat],#[M],e⟩
theorem zfp {ns:List Int} {k:Int} (h0:0≤k) (h1:k < ns.length):∃ c:Int,atI (ns.map V.int) k=some (.int c):=let ⟨c,_,e⟩:=zjX h0 h1; ⟨c,e⟩
theorem zb {H:Hp} {a:Addr} {o:HO} (h:H a=none):zC H (kX H a o):=fun b u e=>by rw [zl (zI e h)]; exact e
theorem zaL {H H':Hp} {a:Addr} {o:HO} (s:zC H H') (h:H a=none):zC H (kX H' a o):=fun b u e=>by rw [zl (zI e h)]; exact s b u e
theorem zbj {n:Nat} (h:n≤10000):n < sizeLine:=by rw [bm]; lia
def ziP (K:ag):Sp:=fun vs H Q _=>∃ (a:Addr) (ns:List Int) (k:Int),vs = [.ref a,.int k]∧kT K H a (ns.map V.int)∧ns.length≤63∧0≤k∧k≤1000∧∀ c:Int,Q (.int c) H
def zfq (many:Nat) (base:Int) (ds:List Int):Prop:=ds.length=many∧∀ d∈ds,0≤d∧d < base
def zg7 (K:ag):Sp:=fun vs H Q _=>∃ (a:Addr) (ns:List Int) (k many base:Int),vs = [.ref a,.int k,.int many,.int base]∧kT K H a (ns.map V.int)∧ns.length≤63∧0≤k∧k≤1000∧0≤many∧many≤1000∧0 < base∧base < 1073741824 ∧
 ∀ (l:Addr) (ds:List Int) (H':Hp),H l=none→zC H H'→zfq many.toNat base ds→H' l=some (.lst (ds.map V.int))→Q (.ref l) H'
abbrev zll:List V:=[.int 2147483647,.int 2147483629,.int 2147483587,.int 2147483579,.int 2147483563,.int 2147483549,.int 2147483543,.int 2147483497]
theorem zlm {m:Int} (h0:0≤m) (h1:m < 8):∃ q:Int,atI zll m=some (.int q)∧0 < q∧q < 2147483648:=by
 have:m=0∨m=1∨m=2∨m=3∨m=4∨m=5∨m=6∨m=7:=by lia
 rcases this with e | e | e | e | e | e | e | e <;> subst e <;> exact⟨_,rfl,#[D],#[D]⟩
theorem zd1 (j:Int):∃ q:Int,atI zll (j % 8)=some (.int q)∧0 < q∧q < 2147483648:=zlm (aQ _ #[D]) (aB _ #[D])
theorem gY {i:Nat} {x:V} {σ:L2.St} {H:Hp} {A B:L2.St→Hp→Prop} (h:A (σ.set i (some x)) H):zaK i x σ H (fun σ2 H2=>zmK σ2 H2 fun b H3=>if b=true then A σ2 H3 else B σ2 H3):=by
 show (if true=true then A (σ.set i (some x)) H else B (σ.set i (some x)) H);rw [if_pos rfl];exact h
structure CodeOk (mk mn p k:Int) (pl:List Int):Prop where
 pr:p∈zp
 k1:1≤k
 kk:k≤mk
 kl:k≤pl.length
 ln:(pl.length:Int)≤mn
 nd:pl.Nodup
 rg:∀ x∈pl,0≤x∧x < p
def ziQ (K:ag):Sp:=fun vs H Q _=>∃ (a:Addr) (ns:List Int) (at' mk mn:Int),vs = [.ref a,.int at',.int mk,.int mn]∧kT K H a (ns.map V.int)∧ns.length≤63∧0≤at'∧at'≤1000∧1≤mk∧mk≤5∧mk≤mn∧mn≤16 ∧
 ∀ (c tt:Addr) (p k:Int) (pl:List Int) (H':Hp),H c=none→zC H H'→CodeOk mk mn p k pl→H' c=some (.tup [.int p,.int k,.ref tt])→H' tt=some (.tup (pl.map V.int))→Q (.ref c) H'
theorem zmQ {x y m:Int} (h0:0≤m) (h1:m < 2):∃ z:Int,atI [V.int x,V.int y] m=some (.int z)∧(z=x∨z=y):=by
 have:m=0∨m=1:=by lia
 rcases this with e | e <;> subst e
 ·exact⟨x,rfl,.inl rfl⟩
 ·exact⟨y,rfl,.inr rfl⟩
theorem zjY {ns:List Int} {k:Int} (h0:0≤k) (h1:k < ns.length):∃ c:Int,c∈ns∧atI (ns.map V.int) k=some (.int c):=by
 obtain⟨c,e,h⟩:=zjX h0 h1;exact⟨c,aA e,h⟩
theorem zeV {α β:Type} (f:α→β):∀ (l:List α) (k:Nat),(l.map f).eraseIdx k=(l.eraseIdx k).map f
 | [],_=>rfl
 | _ :: _,0=>rfl
 | a :: l,k+1=>by show f a :: (l.map f).eraseIdx k=f a :: (l.eraseIdx k).map f; rw [zeV f l k]
theorem erase_perm {α:Type}:∀ {l:List α} {k:Nat} {x:α},l[k]? = some x→(x :: l.eraseIdx k).Perm l
 | [],_,_,h=>by simp at h
 | a :: l,0,x,h=>by
  have e:a=x:=by simpa using h
  subst e;exact List.Perm.refl _
 | a :: l,k+1,x,h=>by
  have ih:=erase_perm (l:=l) (k:=k) (x:=x) (by simpa using h);exact (kA a x _).trans (ih.cons a)
theorem zln {p:Int} {xs ls:List Int} {k:Nat} {x:Int} (h:ls[k]? = some x) (nd:(xs++ls).Nodup) (rg:∀ y∈xs++ls,0≤y∧y < p):((xs++[x])++ls.eraseIdx k).Nodup∧∀ y∈(xs++[x])++ls.eraseIdx k,0≤y∧y < p:=by
 have hp:((xs++[x])++ls.eraseIdx k).Perm (xs++ls):=by
  rw [bg];exact (erase_perm h).append_left xs
 exact⟨hp.nodup_iff.mpr nd,fun y hy=>rg y (hp.mem_iff.mp hy)⟩
theorem ziR (p:Int):(zbx 0 p.toNat).Nodup∧∀ y∈zbx 0 p.toNat,0≤y∧y < p:=by
 unfold zbx;constructor
 ·rw [gP,db];exact (gP.mp (j9 (n:=p.toNat))).imp fun {a b} Ae=>by lia
 ·intro y hy;obtain⟨i,hi,e⟩:=az.mp hy;have:=bd.mp hi;lia
def zdv (K:ag):Sp:=fun vs H Q _=>∃ (p x:Int) (a:Addr) (cs:List Int),vs = [.int p,.ref a,.int x]∧(kT K H a (cs.map V.int)∨kZ K H a (cs.map V.int))∧0 < p∧p≤97∧0≤x∧x < p∧Q (.int (z9 p x cs)) H
def zg8 (K:ag):Sp:=zdv K
theorem zeW {cs:List Int} {i:Nat} {c:Int} (hi:i < cs.length) (h:cs[cs.length - 1 - i]? = some c):cs.drop (cs.length - (i+1))=c :: cs.drop (cs.length - i):=by
 have e:cs.length - (i+1)=cs.length - 1 - i:=by lia
 have k9:cs.length - 1 - i < cs.length:=by lia
 rw [e,cW k9];have:cs[cs.length - 1 - i]=c:=by
  rw [ai k9] at h;exact bf h
 rw [this];congr 2;lia
theorem zag {cs:List Int} {j:Nat} {x:V} (h:(cs.map V.int)[j]? = some x):∃ c,x = .int c∧cs[j]? = some c:=by
 rw [af] at h;cases e:cs[j]? with
 | none=>rw [e] at h; cases h
 | some c=>rw [e] at h; exact⟨c,(bf h).symm,rfl⟩
theorem zhU {p x k4 power c:Int} {cs:List Int} {i:Nat} (h:cs[i]? = some c):lv p x k4 power (cs.drop i)=lv p x ((k4+c*power) % p) (power*x % p) (cs.drop (i+1)):=by
 obtain⟨k9,e⟩:=bw.mp h;rw [cW k9,e];rfl
theorem gY2 {K:ag} {i j:Nat} {T:Addr} {x y:V} {σ:L2.St} {H:Hp} {A B:L2.St→Hp→Prop} (hT:kZ K H T [x,y]) (h:A ((σ.set i (some x)).set j (some y)) H) :
  zjy K 2 (zf5 (zaK i) (zf5 (zaK j) zk8)) (.ref T) σ H (fun σ2 H2=>zmK σ2 H2 fun b H3=>if b=true then A σ2 H3 else B σ2 H3):=by
 refine⟨T,_,rfl,hT,rfl,x,_,rfl,y,_,rfl,rfl,?_⟩;show (if true=true then A ((σ.set i (some x)).set j (some y)) H else B ((σ.set i (some x)).set j (some y)) H);rw [if_pos rfl];exact h
theorem zjZ {f:Int→Int→Int} {as bs:List Int} {i:Nat} {x y:Int} (hx:as[i]? = some x) (hy:bs[i]? = some y):(eD f as bs).take (i+1)=(eD f as bs).take i++[f x y]:=by
 have e:(eD f as bs)[i]? = some (f x y):=by rw [List.getElem?_zipWith,hx,hy]
 rw [gX,e,kF]
theorem zdD {n j:Nat} (h:j < n):ixN n (j:Int)=some j:=by
 unfold ixN;rw [if_pos #[O],if_pos #[O]];rfl
theorem zH {bs:List Addr} {i:Nat} {x:V} (h:(bs.map V.ref)[i]? = some x):∃ b,x = .ref b∧bs[i]? = some b:=by
 rw [af] at h;cases e:bs[i]? with
 | none=>rw [e] at h; cases h
 | some b=>rw [e] at h; exact⟨b,(bf h).symm,rfl⟩
theorem take_snoc {α:Type} {l:List α} {i:Nat} {x:α} (h:l[i]? = some x):l.take (i+1)=l.take i++[x]:=by
 rw [gX,h,kF]
theorem zj0 {f:Int→Int→Int} {as bs:List Int} {n:Nat} (h1:n≤as.length) (h2:n≤bs.length) (h3:as.length≤n∨bs.length≤n):(eD f as bs).length=n:=by
 rw [List.length_zipWith];lia
theorem ziS {a b:Addr} {as bs:List Int} {n:Nat} {f:Int→Int→Int} {g:TG} {ts:TT} {te:TE} {σ0:L2.St} {Q:VK} {H:Hp} (ha:H a=some (.lst (as.map V.int))) (hb:H b=some (.lst (bs.map V.int))) (h1:n≤as.length) (h2:n≤bs.length) (h3:as.length≤n∨bs.length≤n) (hn:n≤10000)
  (hs:∀ (i:Nat) (x y:Int) (H1:Hp) (T:Addr) (R:VK) (B:L2.St→Hp→Prop),as[i]? = some x→bs[i]? = some y→zC H H1→H1 T=none→R (.int (f x y)) (kX H1 T (.tup [.int x,.int y]))→g (.ref T) σ0 (kX H1 T (.tup [.int x,.int y])) fun σ2 H2=>ts σ2 H2 fun b H3=>if b=true then te σ2 H3 R else B σ2 H3)
  (hd:∀ D H1,zC H H1→H1 D=none→Q (.ref D) (kX H1 D (.lst ((eD f as bs).map V.int)))):cGo g ts te σ0 (zli (kT K) (kT K) a b) Q H:=by
 have hl:=zj0 (f:=f) h1 h2 h3;refine zV (n:=n) (fun i ys H'=>ys=((eD f as bs).take i).map V.int∧zC H H') ⟨#[M],fun _ _ e=>e⟩ ?_ ?_ ?_ ?_
 ·rintro i ys H3 hi ⟨_,s3⟩;obtain⟨x,hx⟩:∃ x,as[i]? = some x:=⟨as[i]'#[O],#[M]⟩;obtain⟨y,hy⟩:∃ y,bs[i]? = some y:=⟨bs[i]'#[O],#[M]⟩;exact⟨_,_,.int x,.int y,kT.of (s3 _ _ ha),kT.of (s3 _ _ hb),by rw [af,hx]; rfl,by rw [af,hy]; rfl⟩
 ·rintro ys H3 ⟨_,s3⟩;exact⟨_,_,kT.of (s3 _ _ ha),kT.of (s3 _ _ hb),by rw [ab,ab]; exact h3⟩
 ·rintro i x ys H3 H4 hi ⟨rfl,s3⟩ ⟨T,u,v,hT,rfl,rfl,hu,hv⟩;obtain⟨x,rfl,hx⟩:=zag (hu _ (kT.of (s3 _ _ ha)));obtain⟨y,rfl,hy⟩:=zag (hv _ (kT.of (s3 _ _ hb)));refine hs i x y H3 T _ _ hx hy s3 hT ⟨zbj ?_,?_,s3.trans (zb hT)⟩
  ·rw [ab];exact bi (gp _ _) #[O]
  ·rw [zjZ hx hy,aO];rfl
 ·rintro ys H3 D ⟨rfl,s3⟩ hD;rw [aT #[O]];exact hd D H3 s3 hD
theorem zbC {a:Addr} {xs fs:List V} {g:TG} {ts:TT} {te:TE} {σ0:L2.St} {Q:VK} {H:Hp} (ha:kT K H a xs) (hl:fs.length=xs.length) (hn:xs.length≤10000)
  (hs:∀ (i:Nat) (x y:V) (R:VK) (B:L2.St→Hp→Prop),xs[i]? = some x→fs[i]? = some y→R y H→g x σ0 H fun σ2 H2=>ts σ2 H2 fun b H3=>if b=true then te σ2 H3 R else B σ2 H3)
  (hd:∀ D,H D=none→Q (.ref D) (kX H D (.lst fs))):cGo g ts te σ0 (Itl K a) Q H:=by
 refine zV (n:=xs.length) (fun i ys H'=>ys=fs.take i∧H'=H) ⟨#[M],rfl⟩ ?_ ?_ ?_ ?_
 ·rintro i ys H3 hi ⟨_,rfl⟩;exact⟨_,xs[i],ha,#[M]⟩
 ·rintro ys H3 ⟨_,rfl⟩;exact⟨_,ha,ah _⟩
 ·rintro i x ys H3 H4 hi ⟨rfl,rfl⟩ ⟨rfl,hx⟩;have hy:fs[i]? = some fs[i]:=by simp
  refine hs i x fs[i] _ _ (hx _ ha) hy ⟨zbj (bi (gp _ _) #[O]),?_,rfl⟩;rw [take_snoc hy]
 ·rintro ys H3 D ⟨rfl,rfl⟩ hD;rw [aT #[O]];exact hd D hD
theorem zbe {a:Addr} {xs fs:List V} {g:TG} {ts:TT} {te:TE} {σ0:L2.St} {Q:VK} {H:Hp} (ha:kZ K H a xs) (hl:fs.length=xs.length) (hn:xs.length≤10000)
  (hs:∀ (i:Nat) (x y:V) (R:VK) (B:L2.St→Hp→Prop),xs[i]? = some x→fs[i]? = some y→R y H→g x σ0 H fun σ2 H2=>ts σ2 H2 fun b H3=>if b=true then te σ2 H3 R else B σ2 H3)
  (hd:∀ D,H D=none→Q (.ref D) (kX H D (.lst fs))):cGo g ts te σ0 (Itt K a) Q H:=by
 refine zV (n:=xs.length) (fun i ys H'=>ys=fs.take i∧H'=H) ⟨#[M],rfl⟩ ?_ ?_ ?_ ?_
 ·rintro i ys H3 hi ⟨_,rfl⟩;exact⟨_,xs[i],ha,#[M]⟩
 ·rintro ys H3 ⟨_,rfl⟩;exact⟨_,ha,ah _⟩
 ·rintro i x ys H3 H4 hi ⟨rfl,rfl⟩ ⟨rfl,hx⟩;have hy:fs[i]? = some fs[i]:=by simp
  refine hs i x fs[i] _ _ (hx _ ha) hy ⟨zbj (bi (gp _ _) #[O]),?_,rfl⟩;rw [take_snoc hy]
 ·rintro ys H3 D ⟨rfl,rfl⟩ hD;rw [aT #[O]];exact hd D hD
def zfr (K:ag):Sp:=fun vs H Q _=>∃ (a:Addr) (ns:List Int),vs = [.ref a]∧kT K H a (ns.map V.int)∧ns.length≤63∧∀ H',Q (.bl true) H'
end
end My
end
section
namespace PySem
end PySem
end
section
namespace L2
open PySem PySem.Spec PyProof.Rows
end L2
end
section
namespace My
open PySem L2 PyProof.Rows
end My
end
section
namespace PySem
end PySem
namespace L2
open PySem PySem.Spec PyProof.Rows
section
variable {P:Program} {w:World} {outer:List Env} {H H':Hp} {h h' B:Heap} {e C:Addr}
theorem zmR {o:HO} {a:Addr} (x:zaJ P w H h a o):∃ ob,h.get? a=some ob:=by
 cases o with
 | lst xs=>obtain⟨_,_,_,_,e⟩:=x; exact⟨_,e⟩
 | tup xs=>obtain⟨_,_,_,o,e,_⟩:=x; exact⟨_,e⟩
 | dK mP=>obtain⟨_,_,_,_,o,_,_,e,_⟩:=x; exact⟨_,e⟩
 | dT mP=>obtain⟨_,_,_,_,o,_,_,e,_⟩:=x; exact⟨_,e⟩
 | set S n=>obtain⟨o,_,_,_,e,_⟩:=x; exact⟨_,e⟩
 | ins C dx fs=>obtain⟨_,_,_,e,_⟩:=x; exact⟨_,e⟩
 | own y=>obtain⟨_,e⟩:=x; exact⟨_,e⟩
 | xd fs=>obtain⟨_,⟨_,_,_,e,_⟩,_⟩:=x; exact⟨_,e⟩
 | rng lo hi=>obtain⟨_,_,_,e⟩:=x; exact⟨_,e⟩
 | frz ob u=>obtain⟨e,_⟩:=x; exact⟨_,e⟩
 | tbl ps=>exact⟨_,(show h.get? a=some _ from x)⟩
 | met f y=>exact⟨_,(show h.get? a=some _ from x)⟩
 | ext φ=>obtain⟨_,⟨_,e⟩,_⟩:=x; exact⟨_,e⟩
end
def ziT (hi:Int) (n:Nat):It:=⟨fun i _=>i < n,fun i H x H'=>H'=H∧x = .int (hi - i),fun i _=>n≤i⟩
theorem zgi {P:Program} {w:World} {K:ag} {tg:Expr} (it:Addr) (lo:Int) (n:Nat):Turn P w K tg (ziT lo n) [it] it (fun i h=>IsRangeIter h it (lo+(i:Nat)*(-1)) ((n:Int) - (i:Nat)) (-1)) where
 mem:=by simp
 obj:=fun i h st b hb=>by
  have e:b=it:=by simpa using hb
  subst e;exact⟨_,st,fun v z=>by
   have z':iJ _=Data.cell v:=z;cases z'⟩
 keep:=fun i h h' st k=>k it #[M] _ st
 item:=by
  intro X hP hw hK hc i kS s σ H E I hf st hg;subst hP hw hK;obtain⟨f0,f1,f2,f3,f4,f5⟩:=hf it #[M];have W:=Walks.range (prog:=X.prog) (w:=X.w) (I.ok.hd hc) it lo (-1) n;refine W.item i s _ _ hg st fun v h' tk hv kW kk=>?_
  obtain⟨t,rfl⟩:=hv;have I1:Inv X kS σ H { s with heap:=h',toks:=tk }:=I.turned (fun b o hb e=>kk b o (by simpa using hb) e) f0 f1 f3 f4 f5;refine⟨_,rfl,zeG (s:={ s with heap:=h',toks:=tk }) (n:="range_iterator") kW rfl rfl #[D] ⟨.int (lo - i),H,I1,⟨t,?_⟩,⟨rfl,rfl⟩,kW,fun b hb=>(hf b hb).1⟩⟩;rw [show lo+(i:Int)*(-1)=lo - i by lia]
 done:=by
  intro X hP hw hK hc i kS s σ H E I hf st hg;subst hP hw hK;obtain⟨f0,f1,f2,f3,f4,f5⟩:=hf it #[M];exact iK (I.ok.hd hc) st (by have:n≤i:=hg; lia) fun h' eb=>⟨rfl,I.turned (t':=s.toks) (fun b o hb e=>eb b o hb e) f0 f1 f3 f4 f5⟩
 self:=fun _ _ _ _ _ st h=>fO st h
section
variable {X:Cx} {tg:Expr}
theorem zg9 {hi:Int} {n:Nat} {g:TG} {tb:TS} {D:Ends} {σ:St} {H:Hp} (Pv:Nat→St→Hp→Prop) (h0:Pv 0 σ H)
  (hs:∀ i σ H,i < n→Pv i σ H→g (.int (hi - i)) σ H fun σ2 H2=>tb { D with nx:=Pv (i+1),ct:=Pv (i+1),bk:=D.nx } σ2 H2) (hd:∀ σ H,Pv n σ H→D.nx σ H) :
  ∃ W:Nat→Nat→St→Hp→Prop,(∃ m,W 0 m σ H)∧∀ i m σ H,W i m σ H →
   ((ziT hi n).stop i H∧D.nx σ H)∨((ziT hi n).go i H∧∃ N:St→Hp→Prop,(∀ σ' H',N σ' H'→∃ m',m' < m∧W (i+1) m' σ' H')∧∀ x H',(ziT hi n).yld i H x H'→g x σ H' fun σ2 H2=>tb { D with nx:=N,ct:=N,bk:=D.nx } σ2 H2):=by
 refine⟨fun i m σ H=>m=n - i∧i≤n∧Pv i σ H,⟨n,#[M],bp _,h0⟩,?_⟩;rintro i m σ H ⟨rfl,hi,p⟩;by_cases k9:i < n
 ·refine .inr ⟨k9,Pv (i+1),fun σ' H' p'=>⟨n - (i+1),#[O],rfl,k9,p'⟩,fun x H' y=>?_⟩;obtain⟨e,y⟩:=y;subst e y;exact hs i σ _ k9 p
 ·have e:i=n:=by lia
  subst e;exact .inl ⟨ah _,hd σ H p⟩
end
end L2
namespace PySem
open PyProof.Rows
end PySem
namespace L2
open PySem PySem.Spec PyProof.Rows
end L2
namespace My
open PySem L2 PyProof.Rows
end My
end
section
namespace Srt
open PySem PyProof.Rows
def Vk (val:Keyed→Int) (xs:Array Keyed) (i:Nat):Int:=match xs[i]? with
 | some p=>val p
 | none=>0
theorem zY {val:Keyed→Int} {xs ys:Array Keyed} {i j:Nat} (h:xs[i]? = ys[j]?):Vk val xs i=Vk val ys j:=by unfold Vk; rw [h]
theorem zO {val:Keyed→Int} {xs:Array Keyed} {i:Nat} {p:Keyed} (h:xs[i]? = some p):Vk val xs i=val p:=by unfold Vk; rw [h]
def SIn (val:Keyed→Int) (xs:Array Keyed) (lo hi:Nat):Prop:=∀ i j,lo≤i→i≤j→j < hi→Vk val xs i≤Vk val xs j
def DIn (val:Keyed→Int) (xs:Array Keyed) (lo hi:Nat):Prop:=∀ i j,lo≤i→i≤j→j < hi→Vk val xs j≤Vk val xs i
structure SB (κ:SortKind) (a₀:Array Keyed) (st:SortSt):Prop where
 perm:(arrOf st).Perm a₀
 kind:kindOf st=κ
 failed:failedOf st=none
theorem SB.size {κ:SortKind} {a₀:Array Keyed} {st:SortSt} (h:SB κ a₀ st):(arrOf st).size=a₀.size:=h.perm.size_eq
theorem SB.mem {κ:SortKind} {a₀:Array Keyed} {st:SortSt} (h:SB κ a₀ st) {i:Nat} (hi:i < a₀.size):∃ p,(arrOf st)[i]? = some p∧p∈a₀.toList:=by
 (have mj:i < (arrOf st).size:=by rw [h.size]; exact hi)
 exact⟨(arrOf st)[i],getElem?_pos _ i mj,(eZ.mp h.perm).mem_iff.mp #[M]⟩
structure SF (κ:SortKind) (a₀:Array Keyed) (lo:Nat) (st₀ st:SortSt):Prop where
 b:SB κ a₀ st
 low:∀ k,k < lo→(arrOf st)[k]? = (arrOf st₀)[k]?
 pend:pendingOf st=pendingOf st₀
theorem SF.refl {κ:SortKind} {a₀:Array Keyed} {lo:Nat} {st:SortSt} (h:SB κ a₀ st):SF κ a₀ lo st st:=⟨h,fun _ _=>rfl,rfl⟩
theorem SF.setArr {κ:SortKind} {a₀:Array Keyed} {lo:Nat} {st₀ st:SortSt} (h:SF κ a₀ lo st₀ st) {xs:Array Keyed} (hp:xs.Perm (arrOf st)) (hl:∀ k,k < lo→xs[k]? = (arrOf st)[k]?):SF κ a₀ lo st₀ (setArr st xs) :=
 ⟨⟨hp.trans h.b.perm,h.b.kind,h.b.failed⟩,fun k hk=>(hl k hk).trans (h.low k hk),h.pend⟩
section
variable {prog:Program} {w:World} {A:Around} {E:Value→Shared→Prop} {s:Shared} {a₀:Array Keyed} {κ:SortKind} {val:Keyed→Int}
def Cmp (prog:Program) (w:World) (A:Around) (s:Shared) (κ:SortKind) (val:Keyed→Int) (a₀:Array Keyed):Prop :=
 ∀ x y,x∈a₀.toList→y∈a₀.toList→∀ (Q:Bool→Shared→Prop) (E:Value→Shared→Prop),Q (decide (val x < val y)) s→wpAny (model prog w) A (keyLt' κ x.1 y.1) Q E s
theorem zj1 {st:SortSt} {x y:Keyed} {Q:Option Bool→SortSt→Prop} (hC:Cmp prog w A s κ val a₀) (hk:kindOf st=κ) (hx:x∈a₀.toList) (hy:y∈a₀.toList) (h:Q (some (decide (val x < val y))) st) :
  wpS (model prog w) A E s (lt' x y) Q st:=by
 rw [lt'_eq];refine ao (fB ?_);rw [hk];refine ao (gv (dW (hC x y hx hy _ _ ⟨rfl,?_⟩)));exact ap h
theorem zM {st:SortSt} {arr:Array Keyed} {i:Nat} {p:Keyed} {Q:Keyed→SortSt→Prop} (hi:arr[i]? = some p) (h:Q p st):wpS (model prog w) A E s (elem' arr i) Q st:=by
 rw [elem'_eq,hi];exact ap h
theorem zd2 {st:SortSt} {i j:Nat} {Q:Option Bool→SortSt→Prop} (hC:Cmp prog w A s κ val a₀) (hB:SB κ a₀ st) (hi:i < a₀.size) (hj:j < a₀.size) (h:Q (some (decide (Vk val (arrOf st) i < Vk val (arrOf st) j))) st) :
  (wpS (model prog w) A E s (ltAt' i j) Q st):=by
 obtain⟨x,ex,mx⟩:=hB.mem hi;obtain⟨y,ey,my⟩:=hB.mem hj;rw [ltAt'_eq];refine ao (fB ?_)
 (show wpS _ _ _ _ (do let x ← elem' (arrOf st) i; let y ← elem' (arrOf st) j; lt' x y) Q st)
 refine ao (zM ex (ao (zM ey (zj1 hC hB.kind mx my ?_))));rw [zO ex,zO ey] at h;exact h
theorem zhV {st:SortSt} {i j:Nat} {Q:Unit→SortSt→Prop} (h:Q () (setArr st (mirror (arrOf st) i j ((j - i) / 2)))) :
  (wpS (model prog w) A E s (reverseSlice' i j) Q st):=by
 ((rw [reverseSlice'_eq]; exact eW h))
theorem zd3 {xs:Array Keyed} {i j:Nat} (hj:j≤xs.size) (k:Nat):Vk val (mirror xs i j ((j - i) / 2)) k=if i≤k∧k < j then Vk val xs (i+j - 1 - k) else Vk val xs k:=by
 (have e:=jr (i:=i) hj k)
 by_cases h1:i≤k∧k < j
 ·rw [if_pos h1] at e ⊢; exact zY e
 ·rw [if_neg h1] at e ⊢; exact zY e
theorem zaZ {xs:Array Keyed} {i j:Nat} (hj:j≤xs.size) (heq:∀ k,i≤k→k < j→Vk val xs k=Vk val xs (j - 1)) (k:Nat):Vk val (mirror xs i j ((j - i) / 2)) k=Vk val xs k:=by
 rw [zd3 hj];split
 ·(rw [heq _ #[O] #[O],heq k #[O] #[O]])
 ·rfl
theorem zbP {xs:Array Keyed} {lo i j:Nat} (hj:j≤xs.size) (hi:lo≤i):∀ k,k < lo→(mirror xs i j ((j - i) / 2))[k]? = xs[k]?:=fun k hk=>by
 rw [jr hj,if_neg #[O]]
theorem zha {xs:Array Keyed} {lo src d:Nat} (hs:src < xs.size) (hd:d≤src) (hl:lo≤src - d):∀ k,k < lo→(bubble xs src d)[k]? = xs[k]?:=fun k hk=>by
 rw [getElem?_bubble hs d hd,if_neg #[O],if_neg #[O]]
def zj2 (lo a k7:Nat):StateT SortSt Sem AscSt :=
 forIn [a:k7] ((none,a):AscSt) fun _ st=>do
  let x ← ltAt' (lo+st.snd) (lo+st.snd - 1)
  match x with
  | some oM=>if oM=true then pure (fC (none,st.snd)) else pure (cB (none,st.snd+1))
  | _=>pure (fC (some none,st.snd))
def zgj (lo n k7:Nat):StateT SortSt Sem (Option Nat):=do
 reverseSlice' lo (lo+n)
 let st ← zj2 lo n k7
 match st.fst with
 | some r=>pure r
 | none=>pure (some st.snd)
def zhW (lo n k7:Nat):StateT SortSt Sem DescSt :=
 forIn [n:k7] ((none,n,0):DescSt) fun _ st=>do
  let x ← ltAt' (lo+st.snd.fst) (lo+st.snd.fst - 1)
  match x with
  | some oM =>
   if oM=true then
    if st.snd.snd > 0 then do
     reverseSlice' (lo+st.snd.fst - (st.snd.snd+1)) (lo+st.snd.fst)
     pure (cB (none,st.snd.fst+1,0))
    else pure (cB (none,st.snd.fst+1,0))
   else do
    let x ← ltAt' (lo+st.snd.fst - 1) (lo+st.snd.fst)
    match x with
    | some vt =>
     if vt=true then pure (fC (none,st.snd.fst,st.snd.snd))
     else pure (cB (none,st.snd.fst+1,st.snd.snd+1))
    | _=>pure (fC (some none,st.snd.fst,st.snd.snd))
  | _=>pure (fC (some none,st.snd.fst,st.snd.snd))
def zgk (lo n k7:Nat):StateT SortSt Sem (Option Nat):=do
 liftM (rule "list.sort.descending-run"); let st ← zhW lo (n+1) k7
 match st.fst with
 | some r=>pure r
 | none =>
  if st.snd.snd > 0 then do
   reverseSlice' (lo+st.snd.fst - (st.snd.snd+1)) (lo+st.snd.fst)
   zgj lo st.snd.fst k7
  else zgj lo st.snd.fst k7
theorem zfs (lo k7:Nat):countRun' lo k7=(do
  let st ← zj2 lo 1 k7
  match st.fst with
  | some r=>pure r
  | none =>
   if (st.snd == k7)=true then pure (some st.snd)
   else if st.snd > 1 then do
    let x ← ltAt' lo (lo+st.snd - 1)
    match x with
    | some xq=>if xq=true then pure (some st.snd) else do
      reverseSlice' lo (lo+st.snd)
      zgk lo st.snd k7
    | _=>pure none
   else zgk lo st.snd k7):=by
 rw [countRun'_eq];unfold zgk zgj zhW zj2;dsimp only;refine congrArg (bind _) ?_;funext c;obtain⟨r,n⟩:=c;cases r with
 | some r=>rfl
 | none =>
  dsimp only;split
  ·rfl
  ·split
   ·congr 1;funext x;cases x with
    | none=>rfl
    | some xq =>
     dsimp only;split
     ·rfl
     ·congr 1;funext _r;congr 1; funext _u; congr 1; congr 1; funext s2; obtain⟨r2,n2,q2⟩:=s2;cases r2 with
      | some r2=>rfl
      | none =>
       dsimp only;split
       ·congr 1; funext _v; congr 1; funext _w; congr 1; funext s3; obtain⟨r3,n3⟩:=s3; cases r3 <;> rfl
       ·congr 1; funext _w; congr 1; funext s3; obtain⟨r3,n3⟩:=s3; cases r3 <;> rfl
   ·congr 1; funext _u; congr 1; congr 1; funext s2; obtain⟨r2,n2,q2⟩:=s2;cases r2 with
    | some r2=>rfl
    | none =>
     dsimp only;split
     ·congr 1; funext _v; congr 1; funext _w; congr 1; funext s3; obtain⟨r3,n3⟩:=s3; cases r3 <;> rfl
     ·congr 1; funext _w; congr 1; funext s3; obtain⟨r3,n3⟩:=s3; cases r3 <;> rfl
theorem zme {st₀ st:SortSt} {lo a k7:Nat} {Q:AscSt→SortSt→Prop} (hC:Cmp prog w A s κ val a₀) (hn:lo+k7≤a₀.size) (ha:1≤a) (han:a≤k7) (hB:SF κ a₀ lo st₀ st)
  (hs:SIn val (arrOf st) lo (lo+a))
  (h:∀ n,a≤n→n≤k7→SIn val (arrOf st) lo (lo+n)→(n=k7∨Vk val (arrOf st) (lo+n) < Vk val (arrOf st) (lo+n - 1))→Q (none,n) st) :
  wpS (model prog w) A E s (zj2 lo a k7) Q st:=by
 unfold zj2;refine cG (I:=fun x c kW=>kW=st∧c=(none,x)∧SIn val (arrOf st) lo (lo+x)) ?step ?fin ⟨rfl,rfl,hs⟩
 case fin =>
  rintro c kW ⟨rfl,rfl,lX⟩
  (rw [show max a k7=k7 by lia] at lX ⊢)
  (exact h k7 han (ah _) lX (.inl rfl))
 case step =>
  (rintro x c kW wA Af ⟨rfl,rfl,lX⟩)
  dsimp only;refine ao (zd2 hC hB.b #[O] #[O] ?_);by_cases lY:Vk val (arrOf kW) (lo+x) < Vk val (arrOf kW) (lo+x - 1)
  ·(simp only [lY,decide_true,if_true])
   (exact ap (h x wA #[O] lX (.inr lY)))
  ·(simp only [lY,decide_false,aG,if_false])
   refine ap ⟨rfl,rfl,fun i j pe nk hj=>?_⟩;by_cases xr:j < lo+x
   ·exact lX i j pe nk xr
   ·have nc:j=lo+x:=by lia
    subst nc;by_cases mj:i=lo+x
    ·(subst mj; exact bC _)
    ·exact bZ (lX i (lo+x - 1) pe #[O] #[O]) (Int.not_lt.mp lY)
theorem zj3 {st₀ st:SortSt} {lo n k7:Nat} {Q:Option Nat→SortSt→Prop} (hC:Cmp prog w A s κ val a₀) (hn:lo+k7≤a₀.size) (h1:1≤n) (tH:n≤k7) (hB:SF κ a₀ lo st₀ st)
  (hs:DIn val (arrOf st) lo (lo+n)) (h:∀ m kW,SF κ a₀ lo st₀ kW→1≤m→m≤k7→SIn val (arrOf kW) lo (lo+m)→Q (some m) kW) :
  wpS (model prog w) A E s (zgj lo n k7) Q st:=by
 unfold zgj;have hsz:lo+n≤(arrOf st).size:=by rw [hB.b.size]; lia
 refine ao (zhV ?_);have mR:=hB.setArr (iN (arrOf st) lo (lo+n) ((lo+n - lo) / 2)) (zbP hsz (ah _));refine ao (zme hC hn h1 tH mR ?_ fun m pW qw xt _=>ap (h m _ mR #[O] qw xt));intro i j pe nk hj;show Vk val (mirror (arrOf st) lo (lo+n) ((lo+n - lo) / 2)) i≤Vk val (mirror (arrOf st) lo (lo+n) ((lo+n - lo) / 2)) j;rw [zd3 hsz,zd3 hsz,if_pos #[O],if_pos #[O]];exact hs _ _ #[O] #[O] #[O]
theorem zmS {st₀ st:SortSt} {lo n k7:Nat} {Q:DescSt→SortSt→Prop} (hC:Cmp prog w A s κ val a₀) (hn:lo+k7≤a₀.size) (h1:1≤n) (tH:n≤k7) (hB:SF κ a₀ lo st₀ st)
  (hs:DIn val (arrOf st) lo (lo+n))
  (h:∀ m pX kW,SF κ a₀ lo st₀ kW→n≤m→m≤k7→DIn val (arrOf kW) lo (lo+m)→pX+1≤m→(∀ i,lo+m - (pX+1)≤i→i < lo+m→Vk val (arrOf kW) i=Vk val (arrOf kW) (lo+m - 1))→Q (none,m,pX) kW) :
  wpS (model prog w) A E s (zhW lo n k7) Q st:=by
 unfold zhW;refine cG (I:=fun x c kW=>∃ pX,c=(none,x,pX)∧SF κ a₀ lo st₀ kW∧DIn val (arrOf kW) lo (lo+x)∧pX+1≤x ∧
   (∀ i,lo+x - (pX+1)≤i→i < lo+x→Vk val (arrOf kW) i=Vk val (arrOf kW) (lo+x - 1))) ?step ?fin ⟨0,rfl,hB,hs,#[O],fun i h1 h2=>by congr 1; lia⟩
 case fin =>
  (rintro c kW ⟨pX,rfl,mR,lX,hq,he⟩)
  (rw [show max n k7=k7 by lia] at lX hq he ⊢)
  (exact h k7 pX kW mR tH (ah _) lX hq he)
 case step =>
  (rintro x c kW wA Af ⟨pX,rfl,mR,lX,hq,he⟩)
  dsimp only;have hsz:lo+x≤(arrOf kW).size:=by rw [mR.b.size]; lia
  refine ao (zd2 hC mR.b #[O] #[O] ?_);by_cases lY:Vk val (arrOf kW) (lo+x) < Vk val (arrOf kW) (lo+x - 1)
  ·(simp only [lY,decide_true,if_true])
   have step1:∀ xs:Array Keyed,(∀ k,Vk val xs k=Vk val (arrOf kW) k)→DIn val xs lo (lo+(x+1)):=by
    intro xs hk i j pe nk hj;rw [hk,hk];by_cases xr:j < lo+x
    ·exact lX i j pe nk xr
    ·have nc:j=lo+x:=by lia
     subst nc;by_cases mj:i=lo+x
     ·(subst mj; exact bC _)
     ·exact bZ (eE lY) (lX i (lo+x - 1) pe #[O] #[O])
   by_cases rW:pX > 0
   ·rw [if_pos rW];refine ao (zhV (ap ⟨0,rfl,mR.setArr (iN _ _ _ _) (zbP hsz #[O]),step1 _ (zaZ hsz he),#[O],fun i h1 h2=>by congr 1; lia⟩))
   ·rw [if_neg rW]
    (exact ap ⟨0,rfl,mR,step1 _ (fun _=>rfl),#[O],fun i h1 h2=>by congr 1; lia⟩)
  ·(simp only [lY,decide_false,aG,if_false])
   refine ao (zd2 hC mR.b #[O] #[O] ?_);by_cases qz:Vk val (arrOf kW) (lo+x - 1) < Vk val (arrOf kW) (lo+x)
   ·(simp only [qz,decide_true,if_true])
    (exact ap (h x pX kW mR wA #[O] lX hq he))
   ·(simp only [qz,decide_false,aG,if_false])
    have xu:Vk val (arrOf kW) (lo+x)=Vk val (arrOf kW) (lo+x - 1):=by lia
    refine ap ⟨pX+1,rfl,mR,fun i j pe nk hj=>?_,#[O],fun i h1 h2=>?_⟩
    ·by_cases xr:j < lo+x
     ·exact lX i j pe nk xr
     ·have nc:j=lo+x:=by lia
      subst nc;by_cases mj:i=lo+x
      ·(subst mj; exact bC _)
      ·rw [xu]; exact lX i (lo+x - 1) pe #[O] #[O]
    ·rw [show lo+(x+1) - 1=lo+x by lia];by_cases hix:i=lo+x
     ·subst hix; rfl
     ·(rw [xu]; exact he i #[O] #[O])
theorem zhX {st₀ st:SortSt} {lo n k7:Nat} {Q:Option Nat→SortSt→Prop} (hC:Cmp prog w A s κ val a₀) (hn:lo+k7≤a₀.size) (tH:n+1≤k7) (hB:SF κ a₀ lo st₀ st)
  (hs:DIn val (arrOf st) lo (lo+(n+1))) (h:∀ m kW,SF κ a₀ lo st₀ kW→1≤m→m≤k7→SIn val (arrOf kW) lo (lo+m)→Q (some m) kW) :
  wpS (model prog w) A E s (zgk lo n k7) Q st:=by
 unfold zgk
 (refine ao (gv (cT ⟨rfl,?_⟩)))
 refine ao (zmS hC hn #[O] tH hB hs fun m pX kW mR pW qw lX hq he=>?_);dsimp only;have hsz:lo+m≤(arrOf kW).size:=by rw [mR.b.size]; lia
 by_cases rW:pX > 0
 ·rw [if_pos rW];refine ao (zhV (zj3 hC hn #[O] qw (mR.setArr (iN _ _ _ _) (zbP hsz #[O])) ?_ h));intro i j pe nk hj;show Vk val (mirror (arrOf kW) _ _ _) j≤Vk val (mirror (arrOf kW) _ _ _) i;rw [zaZ hsz he,zaZ hsz he];exact lX i j pe nk hj
 ·rw [if_neg rW];exact zj3 hC hn #[O] qw mR lX h
theorem zlo {st₀ st:SortSt} {lo k7:Nat} {Q:Option Nat→SortSt→Prop} (hC:Cmp prog w A s κ val a₀) (hn:lo+k7≤a₀.size) (h1:1≤k7) (hB:SF κ a₀ lo st₀ st)
  (h:∀ m kW,SF κ a₀ lo st₀ kW→1≤m→m≤k7→SIn val (arrOf kW) lo (lo+m)→Q (some m) kW) :
  wpS (model prog w) A E s (countRun' lo k7) Q st:=by
 rw [zfs];refine ao (zme hC hn (ah 1) h1 hB (fun i j pe nk hj=>(by
   have e:i=j:=by lia
   rw [e];exact bC _)) fun n qK rA vw xv=>?_)
 dsimp only;by_cases tH:n=k7
 ·(rw [if_pos (by simpa using tH)])
  (exact ap (h n st hB qK rA vw))
 ·(rw [if_neg (by simpa using tH)])
  have k9:Vk val (arrOf st) (lo+n) < Vk val (arrOf st) (lo+n - 1):=xv.resolve_left tH;by_cases hgt:n > 1
  ·rw [if_pos hgt];refine ao (zd2 hC hB.b #[O] #[O] ?_);by_cases uv:Vk val (arrOf st) lo < Vk val (arrOf st) (lo+n - 1)
   ·(simp only [uv,decide_true,if_true])
    (exact ap (h n st hB qK rA vw))
   ·(simp only [uv,decide_false,aG,if_false])
    have hsz:lo+n≤(arrOf st).size:=by rw [hB.b.size]; lia
    have lR:∀ k,lo≤k→k < lo+n→Vk val (arrOf st) k=Vk val (arrOf st) (lo+n - 1):=by
     intro k rC hk;have a1:=vw lo k (ah _) rC hk;have a2:=vw k (lo+n - 1) rC #[O] #[O];lia
    refine ao (zhV (zhX hC hn #[O] (hB.setArr (iN _ _ _ _) (zbP hsz (ah _))) ?_ h));intro i j pe nk hj;show Vk val (mirror (arrOf st) _ _ _) j≤Vk val (mirror (arrOf st) _ _ _) i;rw [zaZ hsz lR,zaZ hsz lR];by_cases hjn:j < lo+n
    ·(rw [lR i #[O] #[O],lR j #[O] hjn]; exact bC _)
    ·have nc:j=lo+n:=by lia
     subst nc;by_cases mj:i=lo+n
     ·(subst mj; exact bC _)
     ·(rw [lR i #[O] #[O]]; exact eE k9)
  ·rw [if_neg hgt];have Bl:n=1:=by lia
   subst Bl;refine zhX hC hn #[O] hB ?_ h;intro i j pe nk hj;by_cases mj:i=j
   ·(subst mj; exact bC _)
   ·have qL:i=lo:=by lia
    have rX:j=lo+1:=by lia
    subst qL; subst rX;exact eE k9
theorem zgl {xs:Array Keyed} {src d:Nat} (hs:src < xs.size) (hd:d≤src) (k:Nat) :
  Vk val (bubble xs src d) k=if k=src - d then Vk val xs src else if src - d < k∧k≤src then Vk val xs (k - 1) else Vk val xs k:=by
 (have e:=getElem?_bubble hs d hd k)
 by_cases h1:k=src - d
 ·rw [if_pos h1] at e ⊢; exact zY e
 ·rw [if_neg h1] at e ⊢
  (by_cases h2:src - d < k∧k≤src)
  ·rw [if_pos h2] at e ⊢; exact zY e
  ·rw [if_neg h2] at e ⊢; exact zY e
theorem znL {st₀ st:SortSt} {lo n ok:Nat} {Q:Bool→SortSt→Prop} (hC:Cmp prog w A s κ val a₀) (hn:lo+n≤a₀.size) (hok:ok≤n) (hB:SF κ a₀ lo st₀ st) (hs:SIn val (arrOf st) lo (lo+ok))
  (h:∀ kW,SF κ a₀ lo st₀ kW→SIn val (arrOf kW) lo (lo+n)→Q true kW):wpS (model prog w) A E s (binarySort' lo n ok) Q st:=by
 rw [binarySort'_eq];refine ao (dk (cG (I:=fun k c kW=>c=(none,())∧SF κ a₀ lo st₀ kW∧SIn val (arrOf kW) lo (lo+min k n))
  (Q:=fun c kW=>c=(none,())∧SF κ a₀ lo st₀ kW∧SIn val (arrOf kW) lo (lo+n)) ?step ?fin ?init) ?post)
 case post =>
  rintro c kW ⟨rfl,mR,lX⟩
  (exact ap (h kW mR lX))
 case init =>
  refine⟨rfl,hB,fun i j pe nk hj=>?_⟩;by_cases h1:ok=0
  ·have e:i=j:=by lia
   rw [e]; exact bC _
  ·exact hs i j pe nk #[O]
 case fin =>
  rintro c kW ⟨hc,mR,lX⟩;refine⟨hc,mR,?_⟩
  (rwa [show min (max (max ok 1) n) n=n by lia] at lX)
 case step =>
  (rintro k c kW hak Ag ⟨rfl,mR,lX⟩)
  (rw [show min k n=k by lia] at lX)
  have hk:lo+k < a₀.size:=#[O]; refine ao (dk (cG (I:=fun x c mF=>mF=kW∧∃ l r,c=(none,l,r)∧l≤r∧r≤k∧r - l≤k - x ∧
    (∀ i,i < l→Vk val (arrOf kW) (lo+i)≤Vk val (arrOf kW) (lo+k))∧(∀ i,r≤i→i < k→Vk val (arrOf kW) (lo+k) < Vk val (arrOf kW) (lo+i)))
   (Q:=fun c mF=>mF=kW∧∃ l r,c=(none,l,r)∧l≤k∧(∀ i,i < l→Vk val (arrOf kW) (lo+i)≤Vk val (arrOf kW) (lo+k))∧(∀ i,l≤i→i < k→Vk val (arrOf kW) (lo+k) < Vk val (arrOf kW) (lo+i))) ?istep ?ifin ?iinit) ?ipost)
  case iinit=>(exact⟨rfl,0,k,rfl,#[O],#[O],#[O],fun i hi=>by lia,fun i h1 h2=>by lia⟩)
  case ifin =>
   (rintro c mF ⟨rfl,l,r,rfl,wB,Bm,hm,nP,tI⟩)
   have:l=r:=by lia
   subst this
   (exact⟨rfl,l,l,rfl,Bm,nP,tI⟩)
  case istep =>
   (rintro x c mF _ hxk ⟨rfl,l,r,rfl,wB,Bm,hm,nP,tI⟩)
   dsimp only;by_cases nS:l≥r
   ·rw [if_pos nS];have:l=r:=by lia
    subst this
    (exact ap ⟨rfl,l,l,rfl,Bm,nP,tI⟩)
   ·rw [if_neg nS];refine ao (zd2 hC mR.b hk #[O] ?_);by_cases lY:Vk val (arrOf mF) (lo+k) < Vk val (arrOf mF) (lo+(l+r) / 2)
    ·(simp only [lY,decide_true,if_true])
     (refine ap ⟨rfl,l,(l+r) / 2,rfl,#[O],#[O],#[O],nP,fun i h1 h2=>?_⟩)
     exact Int.lt_of_lt_of_le lY (lX _ _ #[O] #[O] #[O])
    ·(simp only [lY,decide_false,aG,if_false])
     (refine ap ⟨rfl,(l+r) / 2+1,r,rfl,#[O],#[O],#[O],fun i h1=>?_,tI⟩)
     exact bZ (lX (lo+i) (lo+(l+r) / 2) #[O] #[O] #[O]) (Int.not_lt.mp lY)
  case ipost =>
   (rintro c mF ⟨rfl,l,r,rfl,hlk,nP,tI⟩)
   show wpS _ _ _ _ (do moveDown' (lo+k) (lo+l); pure (cB (none,()))) _ _;rw [moveDown'_eq];have wC:lo+k < (arrOf mF).size:=by rw [mR.b.size]; exact hk
   refine ao (eW (ap ⟨rfl,mR.setArr (bubble_perm _ _ _) (zha wC #[O] #[O]),?_⟩))
   (rw [show min (k+1) n=k+1 by lia])
   intro i j pe nk hj;show Vk val (bubble (arrOf mF) (lo+k) (lo+k - (lo+l))) i≤Vk val (bubble (arrOf mF) (lo+k) (lo+k - (lo+l))) j;rw [zgl wC #[O],zgl wC #[O],show lo+k - (lo+k - (lo+l))=lo+l by lia];have Bn:∀ i,lo≤i→i < lo+l→Vk val (arrOf mF) i≤Vk val (arrOf mF) (lo+k):=fun i h1 h2=>by
    have:=nP (i - lo) #[O]
    rwa [show lo+(i - lo)=i by lia] at this
   have Bo:∀ i,lo+l≤i→i < lo+k→Vk val (arrOf mF) (lo+k) < Vk val (arrOf mF) i:=fun i h1 h2=>by
    have:=tI (i - lo) #[O] #[O]
    rwa [show lo+(i - lo)=i by lia] at this
   repeat' split
   all_goals first
    | (exfalso; lia)
    | exact bC _
    | exact Bn _ #[O] #[O]
    | exact eE (Bo _ #[O] #[O])
    | exact lX _ _ #[O] #[O] #[O]
end
end Srt
end
section
namespace Srt
open PySem PyProof.Rows
def zlp:Bool→Keyed→Array Keyed→Nat→Nat→Nat→StateT SortSt Sem (Option Nat):=sortPriv% PySem.Builtin.gallop
def zj4:Array Keyed→Array Keyed→StateT SortSt Sem (Array Keyed):=sortPriv% PySem.Builtin.mergeLo
def zj5:Array Keyed→Array Keyed→StateT SortSt Sem (Array Keyed):=sortPriv% PySem.Builtin.mergeHi
def zcz:Nat→StateT SortSt Sem Unit:=sortPriv% PySem.Builtin.setMinGallop
theorem zft {M:Model} {A:Around} {E:Value→Shared→Prop} {s:Shared} {α:Type} {m:StateT SortSt Sem α} {Q:α→SortSt→Prop} {st:SortSt} (h:wpAny M A (m st) (fun r s'=>s'=s∧Q r.1 r.2) E s):wpS M A E s m Q st:=h
theorem zfu {M:Model} {A:Around} {E:Value→Shared→Prop} {s:Shared} {α:Type} {m:StateT SortSt Sem α} {Q:α→SortSt→Prop} {st:SortSt} (h:wpS M A E s m Q st):wpAny M A (m st) (fun r s'=>s'=s∧Q r.1 r.2) E s:=h
section
variable {prog:Program} {w:World} {A:Around} {E:Value→Shared→Prop} {s:Shared} {a₀:Array Keyed} {κ:SortKind} {val:Keyed→Int}
def bB (val:Keyed→Int) (left:Bool) (key:Keyed) (arr:Array Keyed) (base i:Nat):Bool:=if left then decide (Vk val arr (base+i) < val key) else !decide (val key < Vk val arr (base+i))
theorem zcV {left:Bool} {key:Keyed} {arr:Array Keyed} {base n i j:Nat} (hs:SIn val arr base (base+n)) (nk:i≤j) (hj:j < n) (h:bB val left key arr base j=true):bB val left key arr base i=true:=by
 have:=hs (base+i) (base+j) #[O] #[O] #[O];unfold bB at h ⊢;cases left <;> simp at h ⊢ <;> lia
theorem zb8 {st:SortSt} {left:Bool} {key:Keyed} {arr:Array Keyed} {base i:Nat} {Q:Option Bool→SortSt→Prop} {p:Keyed} (hC:Cmp prog w A s κ val a₀) (hk:kindOf st=κ) (pf:key∈a₀.toList) (he:arr[base+i]? = some p) (hp:p∈a₀.toList)
  (h:Q (some (bB val left key arr base i)) st):wpS (model prog w) A E s (do
   let x ← elem' arr (base+i)
   if left then lt' x key else do
    let r ← lt' key x
    return r.map (!·)) Q st:=by
 refine ao (zM he ?_);unfold bB at h;rw [zO he] at h;cases left with
 | true=>exact zj1 hC hk hp pf h
 | false=>exact ao (zj1 hC hk pf hp (ap h))
abbrev zlq:=Option (Option Nat)×Nat×Nat
theorem zj6 {st:SortSt} {left:Bool} {key:Keyed} {arr:Array Keyed} {base n lo hi:Nat} {f:Nat→zlq→StateT SortSt Sem (ForInStep zlq)} (hs:SIn val arr base (base+n)) (hlh:lo≤hi) (hhn:hi≤n)
  (h1:∀ i,i < lo→bB val left key arr base i=true) (h2:∀ i,hi≤i→i < n→bB val left key arr base i=false)
  (hf:∀ (x l r:Nat) (R:ForInStep zlq→SortSt→Prop),r≤n→(l≥r→R (.done (none,l,r)) st)→(l < r→R (if bB val left key arr base (l+(r - l) / 2)=true then .yield (none,l+(r - l) / 2+1,r) else .yield (none,l,l+(r - l) / 2)) st)→wpS (model prog w) A E s (f x (none,l,r)) R st) :
  wpS (model prog w) A E s (forIn [0:n] ((none,lo,hi):zlq) f) (fun c kW=>kW=st∧∃ l,c=(none,l,l)∧l≤n∧(∀ i,i < l→bB val left key arr base i=true)∧(∀ i,l≤i→i < n→bB val left key arr base i=false)) st:=by
 refine cG (I:=fun x c kW=>kW=st∧∃ l r,c=(none,l,r)∧l≤r∧r≤n∧r - l≤n - x∧(∀ i,i < l→bB val left key arr base i=true)∧(∀ i,r≤i→i < n→bB val left key arr base i=false)) ?step ?fin ⟨rfl,lo,hi,rfl,hlh,hhn,#[O],h1,h2⟩
 case fin =>
  rintro c kW ⟨rfl,l,r,rfl,wB,vx,hm,a1,a2⟩;have:l=r:=by lia
  subst this;exact⟨rfl,l,rfl,vx,a1,a2⟩
 case step =>
  rintro x c kW _ Af ⟨rfl,l,r,rfl,wB,vx,hm,a1,a2⟩;refine hf x l r _ vx (fun nS=>?_) (fun k9=>?_)
  ·have:l=r:=by lia
   subst this;exact⟨rfl,l,rfl,vx,a1,a2⟩
  ·cases hb:bB val left key arr base (l+(r - l) / 2) with
   | true =>
    rw [if_pos rfl];exact⟨rfl,l+(r - l) / 2+1,r,rfl,#[O],vx,#[O],fun i hi=>zcV hs #[O] #[O] hb,a2⟩
   | false =>
    rw [if_neg #[D]];refine⟨rfl,l,l+(r - l) / 2,rfl,#[O],#[O],#[O],a1,fun i hi oj=>?_⟩;cases e:bB val left key arr base i with
    | false=>rfl
    | true=>rw [zcV hs hi oj e] at hb; cases hb
theorem za0 {st:SortSt} {left:Bool} {key:Keyed} {arr:Array Keyed} {base n hint:Nat} {Q:Option Nat→SortSt→Prop} (hC:Cmp prog w A s κ val a₀) (hk:kindOf st=κ) (pf:key∈a₀.toList)
  (ha:∀ i,i < n→∃ p,arr[base+i]? = some p∧p∈a₀.toList) (hs:SIn val arr base (base+n)) (hh:hint < n)
  (h:∀ k,k≤n→(∀ i,i < k→bB val left key arr base i=true)→(∀ i,k≤i→i < n→bB val left key arr base i=false)→Q (some k) st) :
  wpS (model prog w) A E s (zlp left key arr base n hint) Q st:=by
 refine zft ?_
 wp_delta
 wp_delta
 refine zfu ?_;dsimp only;obtain⟨p,ep,mp⟩:=ha hint hh;refine ao (zb8 hC hk pf ep mp ?_);dsimp only;have up:∀ {i j:Nat},i≤j→j < n→bB val left key arr base i=false→bB val left key arr base j=false:=fun {i j} nk hj h=>by
  cases e:bB val left key arr base j with
  | false=>rfl
  | true=>rw [zcV hs nk hj e] at h; cases h
 cases hr:bB val left key arr base hint with
 | true =>
  simp only [if_true];refine ao (dk (cG (I:=fun x c kW=>kW=st∧∃ l o,c=(none,l,o)∧l < o∧x+1≤o∧hint+l < n∧bB val left key arr base (hint+l)=true)
   (Q:=fun c kW=>kW=st∧∃ l o,c=(none,l,o)∧l < o∧hint+l < n∧bB val left key arr base (hint+l)=true∧(hint+o < n→bB val left key arr base (hint+o)=false)) ?step ?fin ⟨rfl,0,1,rfl,#[O],#[O],hh,hr⟩) ?post)
  case fin =>
   rintro c kW ⟨rfl,l,o,rfl,nP,hx,hl,hb⟩;exact⟨rfl,l,o,rfl,nP,hl,hb,fun z=>by lia⟩
  case step =>
   rintro x c kW _ Af ⟨rfl,l,o,rfl,nP,hx,hl,hb⟩;dsimp only;by_cases nS:o≥n - hint
   ·rw [if_pos nS];exact ap ⟨rfl,l,o,rfl,nP,hl,hb,fun z=>by lia⟩
   ·rw [if_neg nS];obtain⟨p,ep,mp⟩:=ha (hint+o) #[O];refine ao (zb8 hC hk pf ep mp ?_);dsimp only;cases rD:bB val left key arr base (hint+o) with
    | true =>
     rw [if_neg #[D]];exact ap ⟨rfl,o,2*o+1,rfl,#[O],#[O],#[O],rD⟩
    | false =>
     rw [if_pos #[D]];exact ap ⟨rfl,l,o,rfl,nP,hl,hb,fun _=>rD⟩
  case post =>
   rintro c kW ⟨rfl,l,o,rfl,nP,hl,hb,rD⟩;dsimp only;refine ao (dk (zj6 (val:=val) (left:=left) (key:=key) (arr:=arr) (base:=base) hs #[O] #[O] (fun i hi=>zcV hs #[O] hl hb) (fun i hi oj=>(by
    by_cases ho:hint+o < n
    ·exact up #[O] oj (rD ho)
    ·lia)) (fun x l' r' R vx k1 k2=>?_)) ?_)
   ·dsimp only;by_cases nS:l'≥r'
    ·rw [if_pos nS];exact ap (k1 nS)
    ·rw [if_neg nS];obtain⟨p,ep,mp⟩:=ha (l'+(r' - l') / 2) #[O];refine ao (zb8 hC hk pf ep mp ?_);have k3:=k2 #[O];dsimp only;cases vy:bB val left key arr base (l'+(r' - l') / 2) with
     | true=>rw [vy] at k3; rw [if_pos rfl] at k3 ⊢; exact ap k3
     | false=>rw [vy] at k3; rw [if_neg #[D]] at k3 ⊢; exact ap k3
   ·rintro c mF ⟨rfl,l,rfl,hl,b1,b2⟩;exact ap (h l hl b1 b2)
 | false =>
  (simp only [aG,if_false])
  refine ao (dk (cG (I:=fun x c kW=>kW=st∧∃ l o,c=(none,l,o)∧l < o∧x+1≤o∧l≤hint∧bB val left key arr base (hint - l)=false)
   (Q:=fun c kW=>kW=st∧∃ l o,c=(none,l,o)∧l < o∧l≤hint∧bB val left key arr base (hint - l)=false∧(o≤hint→bB val left key arr base (hint - o)=true)) ?step ?fin ⟨rfl,0,1,rfl,#[O],#[O],#[O],hr⟩) ?post)
  case fin =>
   rintro c kW ⟨rfl,l,o,rfl,nP,hx,hl,hb⟩;exact⟨rfl,l,o,rfl,nP,hl,hb,fun z=>by lia⟩
  case step =>
   rintro x c kW _ Af ⟨rfl,l,o,rfl,nP,hx,hl,hb⟩;dsimp only;by_cases nS:o≥hint+1
   ·rw [if_pos nS];exact ap ⟨rfl,l,o,rfl,nP,hl,hb,fun z=>by lia⟩
   ·rw [if_neg nS];obtain⟨p,ep,mp⟩:=ha (hint - o) #[O];refine ao (zb8 hC hk pf ep mp ?_);dsimp only;cases rD:bB val left key arr base (hint - o) with
    | false =>
     rw [if_neg #[D]];exact ap ⟨rfl,o,2*o+1,rfl,#[O],#[O],#[O],rD⟩
    | true =>
     rw [if_pos rfl];exact ap ⟨rfl,l,o,rfl,nP,hl,hb,fun _=>rD⟩
  case post =>
   rintro c kW ⟨rfl,l,o,rfl,nP,hl,hb,rD⟩;dsimp only;refine ao (dk (zj6 (val:=val) (left:=left) (key:=key) (arr:=arr) (base:=base) hs #[O] #[O] (fun i hi=>(by
    by_cases ho:o≤hint
    ·exact zcV hs #[O] #[O] (rD ho)
    ·lia)) (fun i hi oj=>up hi oj hb) (fun x l' r' R vx k1 k2=>?_)) ?_)
   ·dsimp only;by_cases nS:l'≥r'
    ·rw [if_pos nS];exact ap (k1 nS)
    ·rw [if_neg nS];obtain⟨p,ep,mp⟩:=ha (l'+(r' - l') / 2) #[O];refine ao (zb8 hC hk pf ep mp ?_);have k3:=k2 #[O];dsimp only;cases vy:bB val left key arr base (l'+(r' - l') / 2) with
     | true=>rw [vy] at k3; rw [if_pos rfl] at k3 ⊢; exact ap k3
     | false=>rw [vy] at k3; rw [if_neg #[D]] at k3 ⊢; exact ap k3
   ·rintro c mF ⟨rfl,l,rfl,hl,b1,b2⟩;exact ap (h l hl b1 b2)
end
end Srt
end
section
namespace Srt
open PySem PyProof.Rows
abbrev zab (st:SortSt) (g:Nat):SortSt:=kt (kindOf st) (arrOf st) (pendingOf st) g (failedOf st)
theorem zdi (g:Nat):zcz g=modify fun s=>zab s g:=rfl
def Le (val:Keyed→Int) (xs ys:List Keyed):Prop:=∀ x∈xs,∀ y∈ys,val x≤val y
def Ris (val:Keyed→Int) (xs:List Keyed):Prop:=xs.Pairwise fun x y=>val x≤val y
theorem zaj {val:Keyed→Int} {xs ys:List Keyed}:Ris val (xs++ys)↔Ris val xs∧Ris val ys∧Le val xs ys:=gg
structure MI (val:Keyed→Int) (T o l r:List Keyed):Prop where
 perm:(o++l++r).Perm T
 so:Ris val o
 sl:Ris val l
 sr:Ris val r
 ol:Le val o l
 or':Le val o r
def Good (val:Keyed→Int) (T res:List Keyed):Prop:=res.Perm T∧Ris val res
section
variable {val:Keyed→Int} {T o l l1 l2 r r1 r2:List Keyed}
theorem Le.left {xs ys zs:List Keyed} (h:Le val (xs++ys) zs):Le val xs zs:=fun x hx y hy=>h x (aY _ hx) y hy
theorem Le.right {xs ys zs:List Keyed} (h:Le val (xs++ys) zs):Le val ys zs:=fun x hx y hy=>h x (aE _ hx) y hy
theorem Le.app {xs ys zs:List Keyed} (h1:Le val xs zs) (h2:Le val ys zs):Le val (xs++ys) zs:=fun x hx y hy=>by
 rcases aP.mp hx with h | h
 ·exact h1 x h y hy
 ·exact h2 x h y hy
theorem Le.app' {xs ys zs:List Keyed} (h1:Le val xs ys) (h2:Le val xs zs):Le val xs (ys++zs):=fun x hx y hy=>by
 rcases aP.mp hy with h | h
 ·exact h1 x hx y h
 ·exact h2 x hx y h
theorem Le.sub {xs ys zs:List Keyed} (h1:Le val xs (ys++zs)):Le val xs ys∧Le val xs zs:=⟨fun x hx y hy=>h1 x hx y (aY _ hy),fun x hx y hy=>h1 x hx y (aE _ hy)⟩
theorem MI.takeA (h:MI val T o (l1++l2) r) (hle:Le val l1 r):MI val T (o++l1) l2 r:=by
 obtain⟨a1,a2,a3⟩:=zaj.mp h.sl;obtain⟨b1,b2⟩:=h.ol.sub;exact⟨by have:=h.perm; simpa [bg] using this,zaj.mpr ⟨h.so,a1,b1⟩,a2,h.sr,b2.app a3,h.or'.app hle⟩
theorem MI.takeB (h:MI val T o l (r1++r2)) (hle:Le val r1 l):MI val T (o++r1) l r2:=by
 obtain⟨a1,a2,a3⟩:=zaj.mp h.sr;obtain⟨b1,b2⟩:=h.or'.sub;refine⟨?_,zaj.mpr ⟨h.so,a1,b1⟩,h.sl,a2,h.ol.app hle,b2.app a3⟩;refine fc ?_ h.perm;have:(r1++l++r2).Perm (l++r1++r2):=List.perm_append_comm.append_right _;simpa [bg] using this.append_left o
theorem MI.doneA (h:MI val T o l []):Good val T (o++l):=⟨by have:=h.perm; simpa using this,zaj.mpr ⟨h.so,h.sl,h.ol⟩⟩
theorem MI.doneB (h:MI val T o [] r):Good val T (o++r):=⟨by have:=h.perm; simpa using this,zaj.mpr ⟨h.so,h.sr,h.or'⟩⟩
theorem MI.last (h:MI val T o l r) (hle:Le val r l):Good val T (o++r++l):=by
 refine⟨fc ?_ h.perm,?_⟩
 ·rw [bg,bg];exact List.perm_append_comm.append_left o
 ·exact zaj.mpr ⟨zaj.mpr ⟨h.so,h.sr,h.or'⟩,h.sl,h.ol.app hle⟩
end
section
variable {val:Keyed→Int} {T:List Keyed} {a b out:Array Keyed} {ia ib:Nat}
abbrev MA (val:Keyed→Int) (T:List Keyed) (a b out:Array Keyed) (ia ib:Nat):Prop:=MI val T out.toList (a.toList.drop ia) (b.toList.drop ib)
theorem zdE {xs:Array Keyed} {i:Nat} {p:Keyed} (h:xs[i]? = some p):xs.toList.drop i=p :: xs.toList.drop (i+1):=by
 have hi:i < xs.toList.length:=by
  have:=(br.mp h).1;simpa using this
 rw [cW hi];congr 1;have:=(br.mp h).2;simpa using this
theorem zcW {xs:Array Keyed} (h:SIn val xs 0 xs.size):∀ i,Ris val (xs.toList.drop i):=by
 have all:Ris val xs.toList:=by
  unfold Ris
  (rw [dE])
  intro i j hi hj nk
  (have mj:i < xs.size:=by simpa using hi)
  (have nc:j < xs.size:=by simpa using hj)
  have:=h i j (bp _) #[O] nc;rw [zO (getElem?_pos xs i mj),zO (getElem?_pos xs j nc)] at this;simpa using this
 exact fun i=>iX (jQ _ _) all
theorem zdF {xs:Array Keyed} {i:Nat} {p q:Keyed} (h:SIn val xs 0 xs.size) (hp:xs[i]? = some p) (hq:q∈xs.toList.drop i):val p≤val q:=by
 have:=zcW h i;rw [zdE hp] at this hq;rcases (aH.mp hq) with rfl | hq
 ·exact bC _
 ·exact List.rel_of_pairwise_cons this hq
theorem MA.pushB {y x:Keyed} (h:MA val T a b out ia ib) (sa:SIn val a 0 a.size) (hy:b[ib]? = some y) (hx:a[ia]? = some x) (hle:val y≤val x):MA val T a b (out.push y) ia (ib+1):=by
 unfold MA at h ⊢;rw [zdE hy] at h;have:=MI.takeB (r1:=[y]) h fun p hp q hq=>by
  rw [aN.mp hp];exact bZ hle (zdF sa hx hq)
 simpa using this
theorem MA.pushA {y x:Keyed} (h:MA val T a b out ia ib) (sb:SIn val b 0 b.size) (hy:b[ib]? = some y) (hx:a[ia]? = some x) (hle:val x≤val y):MA val T a b (out.push x) (ia+1) ib:=by
 unfold MA at h ⊢;rw [zdE hx] at h;have:=MI.takeA (l1:=[x]) h fun p hp q hq=>by
  rw [aN.mp hp];exact bZ hle (zdF sb hy hq)
 simpa using this
theorem zj7 (xs:Array Keyed) (i k:Nat):xs.toList.drop i=(xs.extract i (i+k)).toList++xs.toList.drop (i+k):=by
 rw [cL];have:(xs.toList.extract i (i+k))=(xs.toList.drop i).take k:=by
  simp [cX] <;> lia
 rw [this,← iY,cE]
theorem zdG {xs:Array Keyed} {i k:Nat} {p:Keyed} (h:p∈(xs.extract i (i+k)).toList):∃ j,j < k∧xs[i+j]? = some p:=by
 have e0:(xs.extract i (i+k)).toList=(xs.toList.drop i).take k:=by
  rw [cL];simp [cX] <;> lia
 rw [e0] at h
 (obtain⟨j,hj,e⟩:=dR h)
 have pM:j < k∧j < (xs.toList.drop i).length:=by
  rw [aU] at hj;lia
 refine⟨j,pM.1,?_⟩;rw [← aS,← fo,ai pM.2,← e,gZ]
theorem MA.takeA {y:Keyed} {k:Nat} (h:MA val T a b out ia ib) (sb:SIn val b 0 b.size) (hy:b[ib]? = some y) (hle:∀ i,i < k→Vk val a (ia+i)≤val y):MA val T a b (out++a.extract ia (ia+k)) (ia+k) ib:=by
 unfold MA at h ⊢;rw [zj7 a ia k] at h;have:=MI.takeA h fun p hp q hq=>by
  obtain⟨j,hj,e⟩:=zdG hp;have:=hle j hj;rw [zO e] at this;exact bZ this (zdF sb hy hq)
 simpa using this
theorem MA.takeB {x:Keyed} {k:Nat} (h:MA val T a b out ia ib) (sa:SIn val a 0 a.size) (hx:a[ia]? = some x) (hle:∀ i,i < k→Vk val b (ib+i)≤val x):MA val T a b (out++b.extract ib (ib+k)) ia (ib+k):=by
 unfold MA at h ⊢;rw [zj7 b ib k] at h;have:=MI.takeB h fun p hp q hq=>by
  obtain⟨j,hj,e⟩:=zdG hp;have:=hle j hj;rw [zO e] at this;exact bZ this (zdF sa hx hq)
 simpa using this
theorem zcl (xs:Array Keyed) (i:Nat):(xs.extract i xs.size).toList=xs.toList.drop i:=by
 rw [cL];simp only [cX]
 (exact aT #[M])
theorem MA.doneB (h:MA val T a b out ia ib) (e:ib=b.size):Good val T (out++a.extract ia a.size++b.extract ib b.size).toList:=by
 unfold MA at h;rw [show b.toList.drop ib = [] from dq (by simp [e])] at h;have:=h.doneA;rw [bz,bz,zcl,zcl,show b.toList.drop ib = [] from dq (by simp [e]),cP];exact this
theorem MA.doneA (h:MA val T a b out ia ib) (e:ia=a.size):Good val T (out++a.extract ia a.size++b.extract ib b.size).toList:=by
 unfold MA at h;rw [show a.toList.drop ia = [] from dq (by simp [e])] at h;have:=h.doneB;rw [bz,bz,zcl,zcl,show a.toList.drop ia = [] from dq (by simp [e]),cP];exact this
theorem MA.last (h:MA val T a b out ia ib) (e:ia+1=a.size) (hl:∀ i,i < b.size→Vk val b i≤Vk val a (a.size - 1)):Good val T (out++b.extract ib b.size++a.extract ia a.size).toList:=by
 unfold MA at h;have hx:a[ia]? = some (a[ia]'#[O]):=getElem?_pos a ia #[O];have:=h.last fun p hp q hq=>by
  rw [zdE hx,show a.toList.drop (ia+1) = [] from dq (by simp [e])] at hq;rw [aN.mp hq];obtain⟨j,hj,ej⟩:=dR (gh hp);have nc:j < b.size:=by simpa using hj
  have:=hl j nc;rw [zO (getElem?_pos b j nc),show a.size - 1=ia by lia,zO hx] at this;rw [← ej];simpa using this
 rw [bz,bz,zcl,zcl];exact this
end
end Srt
end
section
namespace Srt
open PySem PyProof.Rows
section
variable {prog:Program} {w:World} {A:Around} {E:Value→Shared→Prop} {s:Shared} {a₀:Array Keyed} {κ:SortKind} {val:Keyed→Int}
theorem zcX {st:SortSt} {g:Nat} {Q:Unit→SortSt→Prop} (h:Q () (zab st g)):wpS (model prog w) A E s (zcz g) Q st:=by
 rw [zdi];exact eW h
theorem zai {g:Prop} {xs:Array Keyed} {i:Nat} (h:i < xs.size) (k:∀ p,xs[i]? = some p→p∈xs.toList→g):g:=k _ (getElem?_pos xs i h) #[M]
theorem zbQ {key:Keyed} {arr:Array Keyed} {base i:Nat} (h:bB val true key arr base i=true):Vk val arr (base+i) < val key:=by
 unfold bB at h;simpa using h
theorem zcY {key:Keyed} {arr:Array Keyed} {base i:Nat} (h:bB val false key arr base i=true):Vk val arr (base+i)≤val key:=by
 unfold bB at h;simp at h;lia
theorem zcJ {key:Keyed} {arr:Array Keyed} {base i:Nat} (h:bB val true key arr base i=false):val key≤Vk val arr (base+i):=by
 unfold bB at h;simp at h;lia
theorem zdH {key:Keyed} {arr:Array Keyed} {base i:Nat} (h:bB val false key arr base i=false):val key < Vk val arr (base+i):=by
 unfold bB at h;simp at h;exact h
theorem SIn.sub {xs:Array Keyed} {lo hi lo' mj:Nat} (h:SIn val xs lo hi) (h1:lo≤lo') (h2:mj≤hi):SIn val xs lo' mj:=fun i j a b c=>h i j #[O] b #[O]
theorem zq {σ α:Type} {M:Model} {c:Prop} {inst:Decidable c} {x y:StateT σ Sem α} {Q:α→σ→Prop} {st:σ} (h:c) (k:wpS M A E s x Q st):wpS M A E s (@ite _ c inst x y) Q st:=by rw [if_pos h]; exact k
theorem zr {σ α:Type} {M:Model} {c:Prop} {inst:Decidable c} {x y:StateT σ Sem α} {Q:α→σ→Prop} {st:σ} (h:¬ c) (k:wpS M A E s y Q st):wpS M A E s (@ite _ c inst x y) Q st:=by rw [if_neg h]; exact k
theorem dup {P X:Prop} (h:P→P→X) (k:P):X:=h k k
theorem zom {P X:Prop} (h:(Unit→P)→(Unit→P)→X) (k:P):X:=h (fun _=>k) (fun _=>k)
theorem fr5 {σ β A1 A2 A3 A4 A5:Type} {M:Model} {lo hi:Nat} {f:Nat→β→StateT σ Sem (ForInStep β)} {Q:β→σ→Prop} {c:β} {st:σ} (qA:A1→A2→A3→A4→A5→β) (rY:A1→A2→A3→A4→A5→σ) (J:Nat→A1→A2→A3→A4→A5→Prop) (start:∃ a1 a2 a3 a4 a5,st=rY a1 a2 a3 a4 a5∧c=qA a1 a2 a3 a4 a5∧J lo a1 a2 a3 a4 a5) (fin:∀ a1 a2 a3 a4 a5,J (max lo hi) a1 a2 a3 a4 a5→Q (qA a1 a2 a3 a4 a5) (rY a1 a2 a3 a4 a5))
  (step:∀ x a1 a2 a3 a4 a5,lo≤x→x < hi→J x a1 a2 a3 a4 a5→wpS M A E s (f x (qA a1 a2 a3 a4 a5)) (fun r kW=>match r with | .done c'=>Q c' kW | .yield c'=>∃ a1 a2 a3 a4 a5,kW=rY a1 a2 a3 a4 a5∧c'=qA a1 a2 a3 a4 a5∧J (x+1) a1 a2 a3 a4 a5) (rY a1 a2 a3 a4 a5)):wpS M A E s (forIn [lo:hi] c f) Q st:=by
 refine cG (I:=fun x c kW=>∃ a1 a2 a3 a4 a5,kW=rY a1 a2 a3 a4 a5∧c=qA a1 a2 a3 a4 a5∧J x a1 a2 a3 a4 a5) ?_ ?_ start
 ·rintro x c kW h1 h2 ⟨a1,a2,a3,a4,a5,rfl,rfl,j⟩;exact step x _ _ _ _ _ h1 h2 j
 ·rintro c kW ⟨a1,a2,a3,a4,a5,rfl,rfl,j⟩;exact fin _ _ _ _ _ j
theorem fr7 {σ β A1 A2 A3 A4 A5 A6 A7:Type} {M:Model} {lo hi:Nat} {f:Nat→β→StateT σ Sem (ForInStep β)} {Q:β→σ→Prop} {c:β} {st:σ} (qA:A1→A2→A3→A4→A5→A6→A7→β) (rY:A1→A2→A3→A4→A5→A6→A7→σ) (J:Nat→A1→A2→A3→A4→A5→A6→A7→Prop) (start:∃ a1 a2 a3 a4 a5 a6 a7,st=rY a1 a2 a3 a4 a5 a6 a7∧c=qA a1 a2 a3 a4 a5 a6 a7∧J lo a1 a2 a3 a4 a5 a6 a7) (fin:∀ a1 a2 a3 a4 a5 a6 a7,J (max lo hi) a1 a2 a3 a4 a5 a6 a7→Q (qA a1 a2 a3 a4 a5 a6 a7) (rY a1 a2 a3 a4 a5 a6 a7))
  (step:∀ x a1 a2 a3 a4 a5 a6 a7,lo≤x→x < hi→J x a1 a2 a3 a4 a5 a6 a7→wpS M A E s (f x (qA a1 a2 a3 a4 a5 a6 a7)) (fun r kW=>match r with | .done c'=>Q c' kW | .yield c'=>∃ a1 a2 a3 a4 a5 a6 a7,kW=rY a1 a2 a3 a4 a5 a6 a7∧c'=qA a1 a2 a3 a4 a5 a6 a7∧J (x+1) a1 a2 a3 a4 a5 a6 a7) (rY a1 a2 a3 a4 a5 a6 a7)):wpS M A E s (forIn [lo:hi] c f) Q st:=by
 refine cG (I:=fun x c kW=>∃ a1 a2 a3 a4 a5 a6 a7,kW=rY a1 a2 a3 a4 a5 a6 a7∧c=qA a1 a2 a3 a4 a5 a6 a7∧J x a1 a2 a3 a4 a5 a6 a7) ?_ ?_ start
 ·rintro x c kW h1 h2 ⟨a1,a2,a3,a4,a5,a6,a7,rfl,rfl,j⟩;exact step x _ _ _ _ _ _ _ h1 h2 j
 ·rintro c kW ⟨a1,a2,a3,a4,a5,a6,a7,rfl,rfl,j⟩;exact fin _ _ _ _ _ _ _ j
theorem zmf {σ α γ δ A1 A2 A3 A4 A5:Type} {M:Model} {x:StateT σ Sem (Option γ×δ)} {k:Option γ×δ→StateT σ Sem α} {R:α→σ→Prop} {st:σ} (qA:A1→A2→A3→A4→A5→Option γ×δ) (G:γ→Prop) (J:A1→A2→A3→A4→A5→Prop) (Bp:σ) (hx:wpS M A E s x (fun c kW=>kW=Bp∧((∃ r o,c=(some r,o)∧G r)∨∃ a1 a2 a3 a4 a5,c=qA a1 a2 a3 a4 a5∧J a1 a2 a3 a4 a5)) st) (h1:∀ r o,G r→wpS M A E s (k (some r,o)) R Bp) (h:∀ a1 a2 a3 a4 a5,J a1 a2 a3 a4 a5→wpS M A E s (k (qA a1 a2 a3 a4 a5)) R Bp):wpS M A E s (x >>= k) R st:=by
 refine ao (dk hx ?_);rintro c kW ⟨rfl,⟨r,o,rfl,g⟩ | ⟨a1,a2,a3,a4,a5,rfl,j⟩⟩
 ·exact h1 _ _ g
 ·exact h _ _ _ _ _ j
theorem zaG {σ α:Type} {M:Model} {c:Prop} {inst:Decidable c} {x y:StateT σ Sem α} {Q:α→σ→Prop} {st:σ} (h:c→wpS M A E s x Q st) (k:¬ c→wpS M A E s y Q st):wpS M A E s (@ite _ c inst x y) Q st:=by
 by_cases hc:c
 ·rw [if_pos hc]; exact h hc
 ·rw [if_neg hc]; exact k hc
theorem ziU {st:SortSt} {a b:Array Keyed} {Q:Array Keyed→SortSt→Prop} (hC:Cmp prog w A s κ val a₀) (hk:kindOf st=κ) (ma:∀ p∈a.toList,p∈a₀.toList) (mb:∀ p∈b.toList,p∈a₀.toList)
  (sa:SIn val a 0 a.size) (sb:SIn val b 0 b.size) (h1:1≤a.size) (h2:1≤b.size) (hf:Vk val b 0≤Vk val a 0) (hl:∀ i,i < b.size→Vk val b i≤Vk val a (a.size - 1))
  (h:∀ out g,Good val (a.toList++b.toList) out.toList→Q out (zab st g)):wpS (model prog w) A E s (zj4 a b) Q st:=by
 refine zft ?_
 wp_delta
 wp_delta
 refine zfu ?_
 (refine ao (gv (cT ⟨rfl,?_⟩)))
 refine zai (xs:=b) (i:=0) #[O] fun y0 sV Bq=>?_
 refine zai (xs:=a) (i:=0) #[O] fun x0 sX Br=>?_
 refine ao (zM sV ?_);have I0:MA val (a.toList++b.toList) a b #[] 0 0:=⟨#[M],fK,zcW sa 0,zcW sb 0,fun x hx=>by simp at hx,fun x hx=>by simp at hx⟩;have I1:MA val (a.toList++b.toList) a b #[y0] 0 1:=I0.pushB sa sV sX (by rw [zO sV,zO sX] at hf; exact hf);dsimp only;by_cases nN:1=b.size
 ·refine zq (by simpa using nN) ?_;exact ap (h _ (gallopOf st) (I1.doneB nN))
 refine zr (by simpa using nN) ?_;by_cases rE:0+1=a.size
 ·refine zq (by simpa using rE) ?_;exact ap (h _ (gallopOf st) (I1.last #[O] hl))
 refine zr (by simpa using rE) ?_;refine ao (fB ?_);refine ao (dk (fr5 (fun g out ia ib mg=>(none,out,ia,ib,mg)) (fun g out ia ib mg=>zab st g) (fun x g out ia ib mg=>MA val (a.toList++b.toList) a b out ia ib∧ia+1 < a.size∧ib < b.size∧x+1≤ia+ib)
  (Q:=fun c kW=>∃ g r o,kW=zab st g∧c=(some r,o)∧Good val (a.toList++b.toList) r.toList) ⟨gallopOf st,#[y0],0,1,gallopOf st,rfl,rfl,I1,#[O],#[O],#[O]⟩ ?fin ?step) ?post)
 case post =>
  rintro c kW ⟨g,r,o,rfl,rfl,hG⟩;exact ap (h _ g hG)
 case fin =>
  rintro g out ia ib mg ⟨hI,b1,b2,b3⟩;lia
 case step =>
  intro x g out ia ib mg Bs hx J;have hI:=J.1;have b1:=J.2.1;have b2:=J.2.2.1;have b3:=J.2.2.2;dsimp only;refine zmf (fun la lZ lT ac bc=>(none,la,lZ,lT,ac,bc)) (fun r=>Good val (a.toList++b.toList) r.toList) (fun la lZ lT ac bc=>MA val (a.toList++b.toList) a b la lZ lT∧lZ+1 < a.size∧lT < b.size∧ia+ib+1≤lZ+lT) (zab st g) (fr5 (fun la lZ lT ac bc=>(none,la,lZ,lT,ac,bc)) (fun la lZ lT ac bc=>zab st g) (fun x la lZ lT ac bc=>MA val (a.toList++b.toList) a b la lZ lT∧lZ+1 < a.size∧lT < b.size∧ia+ib+x≤lZ+lT) ⟨out,ia,ib,0,0,rfl,rfl,hI,b1,b2,#[O]⟩ ?fin1 ?step1) (fun r o hG=>ap ⟨g,r,_,rfl,rfl,hG⟩) ?post1
  case fin1 =>
   rintro la lZ lT ac bc ⟨hI,b1,b2,b3⟩;exact⟨rfl,.inr ⟨la,lZ,lT,ac,bc,rfl,hI,b1,b2,#[O]⟩⟩
  case step1 =>
   intro x1 la lZ lT ac bc Bt tf J;have hI:=J.1;have b1:=J.2.1;have b2:=J.2.2.1;have b3:=J.2.2.2;dsimp only;refine zai (xs:=b) (i:=lT) #[O] fun y ey my=>?_
   refine zai (xs:=a) (i:=lZ) #[O] fun z ez mz=>?_
   refine ao (zM ey (ao (zM ez (ao (zj1 hC hk (mb y my) (ma z mz) ?_)))));dsimp only;by_cases xw:val y < val z
   ·refine zq (by simpa using xw) ?_;refine ao (zM ey ?_);have ng:=hI.pushB sa ey ez #[O];by_cases e1:lT+1=b.size
    ·refine zq (by simpa using e1) ?_;exact ap ⟨rfl,.inl ⟨_,_,rfl,ng.doneB e1⟩⟩
    refine zr (by simpa using e1) ?_;refine zaG (fun _=>?_) (fun _=>?_)
    ·exact ap ⟨rfl,.inr ⟨_,_,_,_,_,rfl,ng,b1,#[O],#[O]⟩⟩
    ·exact ap ⟨_,_,_,_,_,rfl,rfl,ng,b1,#[O],#[O]⟩
   ·refine zr (by simpa using xw) ?_;refine ao (zM ez ?_);have ng:=hI.pushA sb ey ez #[O];by_cases e1:lZ+1+1=a.size
    ·refine zq (by simpa using e1) ?_;exact ap ⟨rfl,.inl ⟨_,_,rfl,ng.last e1 hl⟩⟩
    refine zr (by simpa using e1) ?_;refine zaG (fun _=>?_) (fun _=>?_)
    ·exact ap ⟨rfl,.inr ⟨_,_,_,_,_,rfl,ng,#[O],b2,#[O]⟩⟩
    ·exact ap ⟨_,_,_,_,_,rfl,rfl,ng,#[O],b2,#[O]⟩
  case post1 =>
   intro vz Bu Bv Bw Bx J;have By:=J.1;have c1:=J.2.1;have c2:=J.2.2.1;have c3:=J.2.2.2;dsimp only
   (refine ao (gv (cT ⟨rfl,?_⟩)))
   refine ao (dk (fr7 (fun g la lZ lT mg ac bc=>(none,la,lZ,lT,mg,ac,bc)) (fun g la lZ lT mg ac bc=>zab st g) (fun x g la lZ lT mg ac bc=>MA val (a.toList++b.toList) a b la lZ lT∧lZ+1 < a.size∧lT < b.size∧Bu+Bv≤lZ+lT)
    (Q:=fun c kW=>∃ g,kW=zab st g∧((∃ r o,c=(some r,o)∧Good val (a.toList++b.toList) r.toList)∨∃ la lZ lT mg ac bc,c=(none,la,lZ,lT,mg,ac,bc)∧MA val (a.toList++b.toList) a b la lZ lT∧lZ+1 < a.size∧lT < b.size∧Bu+Bv≤lZ+lT)) ⟨g,vz,Bu,Bv,_,Bw,Bx,rfl,rfl,By,c1,c2,ah _⟩ ?fin2 ?step2) ?post2)
   case fin2 =>
    rintro g la lZ lT mg ac bc ⟨hI,b1,b2,b3⟩;exact⟨g,rfl,.inr ⟨la,lZ,lT,mg,ac,bc,rfl,hI,b1,b2,b3⟩⟩
   case post2 =>
    rintro c kW ⟨g,rfl,hc⟩;rcases hc with ⟨r,o,rfl,hG⟩ | ⟨vA,ia2,ib2,mg2,ac2,bc2,rfl,ng,d1,d2,d3⟩
    ·exact ap ⟨g,r,_,rfl,rfl,hG⟩
    dsimp only;refine ao (zcX (ap ⟨_,vA,ia2,ib2,_,rfl,rfl,ng,d1,d2,#[O]⟩))
   case step2 =>
    intro x2 g la lZ lT vB ac bc uw tJ J;have hI:=J.1;have b1:=J.2.1;have b2:=J.2.2.1;have b3:=J.2.2.2;dsimp only;refine zai (xs:=b) (i:=lT) #[O] fun y ey my=>?_
    apply dup
    ·intro k1 k2;by_cases qG:vB > 1
     ·refine zq qG ?_;clear qG;generalize vB - 1=m0
      revert m0
      exact k1
     ·refine zr qG ?_;clear qG;generalize vB=m0
      revert m0
      exact k2
    intro mg0;refine ao (zcX (ao (zM ey (ao (za0 hC hk (mb y my) (fun i hi=>(by
     refine zai (xs:=a) (i:=lZ+i) #[O] fun p ep mp=>?_
     exact⟨p,ep,ma p mp⟩)) (sa.sub #[O] #[O]) #[O] fun k ux oh tj=>?_)))))
    dsimp only;have ng:=hI.takeA (k:=k) sb ey fun i hi=>zcY (oh i hi)
    by_cases rC:k > 0
    ·refine zq rC ?_;by_cases e1:lZ+k+1=a.size
     ·refine zq (by simpa using e1) ?_;exact ap ⟨_,rfl,.inl ⟨_,_,rfl,ng.last e1 hl⟩⟩
     refine zr (by simpa using e1) ?_;by_cases e2:lZ+k=a.size
     ·refine zq (by simpa using e2) ?_;exact ap ⟨_,rfl,.inl ⟨_,_,rfl,ng.doneA e2⟩⟩
     refine zr (by simpa using e2) ?_;refine ao (zM ey ?_);refine zai (xs:=a) (i:=lZ+k) #[O] fun z ez mz=>?_
     have pY:=ng.pushB sa ey ez (by have:=zdH (tj k (ah _) #[O]); rw [zO ez] at this; lia);by_cases e3:lT+1=b.size
     ·refine zq (by simpa using e3) ?_;exact ap ⟨_,rfl,.inl ⟨_,_,rfl,pY.doneB e3⟩⟩
     refine zr (by simpa using e3) ?_;refine ao (zM ez (ao (za0 hC hk (ma z mz) (fun i hi=>(by
      refine zai (xs:=b) (i:=lT+1+i) #[O] fun p ep mp=>?_
      exact⟨p,ep,mb p mp⟩)) (sb.sub #[O] #[O]) #[O] fun j rX pM tK=>?_)))
     dsimp only;have qM:=pY.takeB (k:=j) sa ez fun i hi=>eE (zbQ (pM i hi))
     by_cases nL:j > 0
     ·refine zq nL ?_;by_cases e4:lT+1+j=b.size
      ·refine zq (by simpa using e4) ?_;exact ap ⟨_,rfl,.inl ⟨_,_,rfl,qM.doneB e4⟩⟩
      refine zr (by simpa using e4) ?_;refine zai (xs:=b) (i:=lT+1+j) #[O] fun y2 nT vC=>?_
      refine ao (zM ez ?_);have mS:=qM.pushA sb nT ez (by have:=zcJ (tK j (ah _) #[O]); rw [zO nT] at this; exact this);by_cases e9:lZ+k+1+1=a.size
      ·refine zq (by simpa using e9) ?_;exact ap ⟨_,rfl,.inl ⟨_,_,rfl,mS.last e9 hl⟩⟩
      refine zr (by simpa using e9) ?_;refine zaG (fun _=>?_) (fun _=>?_)
      ·exact ap ⟨_,rfl,.inr ⟨_,_,_,_,_,_,rfl,mS,#[O],#[O],#[O]⟩⟩
      ·exact ap ⟨_,_,_,_,_,_,_,rfl,rfl,mS,#[O],#[O],#[O]⟩
     ·refine zr nL ?_;have vD:j=0:=by lia
      subst vD;refine zai (xs:=b) (i:=lT+1) #[O] fun y2 nT vC=>?_
      refine ao (zM ez ?_);have mS:=pY.pushA sb nT ez (by have:=zcJ (tK 0 (ah _) #[O]); rw [c7,zO nT] at this; exact this);by_cases e9:lZ+k+1+1=a.size
      ·refine zq (by simpa using e9) ?_;exact ap ⟨_,rfl,.inl ⟨_,_,rfl,mS.last e9 hl⟩⟩
      refine zr (by simpa using e9) ?_;refine zaG (fun _=>?_) (fun _=>?_)
      ·exact ap ⟨_,rfl,.inr ⟨_,_,_,_,_,_,rfl,mS,#[O],#[O],#[O]⟩⟩
      ·exact ap ⟨_,_,_,_,_,_,_,rfl,rfl,mS,#[O],#[O],#[O]⟩
    ·refine zr rC ?_;have Bz:k=0:=by lia
     subst Bz;refine ao (zM ey ?_);refine zai (xs:=a) (i:=lZ) #[O] fun z ez mz=>?_
     have pY:=hI.pushB sa ey ez (by have:=zdH (tj 0 (ah _) #[O]); rw [c7,zO ez] at this; lia);by_cases e3:lT+1=b.size
     ·refine zq (by simpa using e3) ?_;exact ap ⟨_,rfl,.inl ⟨_,_,rfl,pY.doneB e3⟩⟩
     refine zr (by simpa using e3) ?_;refine ao (zM ez (ao (za0 hC hk (ma z mz) (fun i hi=>(by
      refine zai (xs:=b) (i:=lT+1+i) #[O] fun p ep mp=>?_
      exact⟨p,ep,mb p mp⟩)) (sb.sub #[O] #[O]) #[O] fun j rX pM tK=>?_)))
     dsimp only;have qM:=pY.takeB (k:=j) sa ez fun i hi=>eE (zbQ (pM i hi))
     by_cases nL:j > 0
     ·refine zq nL ?_;by_cases e4:lT+1+j=b.size
      ·refine zq (by simpa using e4) ?_;exact ap ⟨_,rfl,.inl ⟨_,_,rfl,qM.doneB e4⟩⟩
      refine zr (by simpa using e4) ?_;refine zai (xs:=b) (i:=lT+1+j) #[O] fun y2 nT vC=>?_
      refine ao (zM ez ?_);have mS:=qM.pushA sb nT ez (by have:=zcJ (tK j (ah _) #[O]); rw [zO nT] at this; exact this);by_cases e9:lZ+1+1=a.size
      ·refine zq (by simpa using e9) ?_;exact ap ⟨_,rfl,.inl ⟨_,_,rfl,mS.last e9 hl⟩⟩
      refine zr (by simpa using e9) ?_;refine zaG (fun _=>?_) (fun _=>?_)
      ·exact ap ⟨_,rfl,.inr ⟨_,_,_,_,_,_,rfl,mS,#[O],#[O],#[O]⟩⟩
      ·exact ap ⟨_,_,_,_,_,_,_,rfl,rfl,mS,#[O],#[O],#[O]⟩
     ·refine zr nL ?_;have vD:j=0:=by lia
      subst vD;refine zai (xs:=b) (i:=lT+1) #[O] fun y2 nT vC=>?_
      refine ao (zM ez ?_);have mS:=pY.pushA sb nT ez (by have:=zcJ (tK 0 (ah _) #[O]); rw [c7,zO nT] at this; exact this);by_cases e9:lZ+1+1=a.size
      ·refine zq (by simpa using e9) ?_;exact ap ⟨_,rfl,.inl ⟨_,_,rfl,mS.last e9 hl⟩⟩
      refine zr (by simpa using e9) ?_;refine zaG (fun _=>?_) (fun _=>?_)
      ·exact ap ⟨_,rfl,.inr ⟨_,_,_,_,_,_,rfl,mS,#[O],#[O],#[O]⟩⟩
      ·exact ap ⟨_,_,_,_,_,_,_,rfl,rfl,mS,#[O],#[O],#[O]⟩
end
end Srt
end
section
namespace Srt
open PySem PyProof.Rows
structure MH (val:Keyed→Int) (T l r o:List Keyed):Prop where
 perm:(l++r++o).Perm T
 so:Ris val o
 sl:Ris val l
 sr:Ris val r
 lo:Le val l o
 ro:Le val r o
section
variable {val:Keyed→Int} {T o l l1 l2 r r1 r2:List Keyed}
theorem MH.takeA (h:MH val T (l1++l2) r o) (hle:Le val r l2):MH val T l1 r (l2++o):=by
 obtain⟨a1,a2,a3⟩:=zaj.mp h.sl;refine⟨?_,zaj.mpr ⟨a2,h.so,h.lo.right⟩,a1,h.sr,a3.app' h.lo.left,hle.app' h.ro⟩;refine fc ?_ h.perm;have:(r++l2).Perm (l2++r):=List.perm_append_comm;have:=(this.append_left l1).append_right o;simpa [bg] using this
theorem MH.takeB (h:MH val T l (r1++r2) o) (hle:Le val l r2):MH val T l r1 (r2++o):=by
 obtain⟨a1,a2,a3⟩:=zaj.mp h.sr;exact⟨by have:=h.perm; simpa [bg] using this,zaj.mpr ⟨a2,h.so,h.ro.right⟩,h.sl,a1,hle.app' h.lo,a3.app' h.ro.left⟩
theorem MH.doneA (h:MH val T [] r o):Good val T (r++o):=⟨by have:=h.perm; simpa using this,zaj.mpr ⟨h.sr,h.so,h.ro⟩⟩
theorem MH.doneB (h:MH val T l [] o):Good val T (l++o):=⟨by have:=h.perm; simpa using this,zaj.mpr ⟨h.sl,h.so,h.lo⟩⟩
theorem MH.first (h:MH val T l r o) (hle:Le val r l):Good val T (r++l++o):=by
 refine⟨fc (List.perm_append_comm.append_right _) h.perm,?_⟩;exact zaj.mpr ⟨zaj.mpr ⟨h.sr,h.sl,hle⟩,h.so,h.ro.app h.lo⟩
end
section
variable {val:Keyed→Int} {T:List Keyed} {a b out:Array Keyed} {na nb:Nat}
abbrev MB (val:Keyed→Int) (T:List Keyed) (a b out:Array Keyed) (na nb:Nat):Prop:=MH val T (a.toList.take na) (b.toList.take nb) out.toList.reverse
theorem zhY {xs:Array Keyed} {n:Nat} {p:Keyed} (h:xs[n]? = some p):xs.toList.take (n+1)=xs.toList.take n++[p]:=by
 rw [List.take_succ,aS,h];rfl
theorem zgm {xs:Array Keyed} (h:SIn val xs 0 xs.size) (i:Nat):Ris val (xs.toList.take i):=by
 have:=zcW h 0;rw [gz] at this;exact iX (gU _ _) this
theorem zd4 {xs:Array Keyed} {n:Nat} {p:Keyed} (h:p∈xs.toList.take n):∃ j,j < n∧j < xs.size∧xs[j]? = some p:=by
 (obtain⟨j,hj,e⟩:=dR h)
 have pM:j < n∧j < xs.toList.length:=by
  rw [aU] at hj;lia
 refine⟨j,pM.1,by simpa using pM.2,?_⟩;rw [← aS,ai pM.2,← e,gZ]
theorem zdI {xs:Array Keyed} {n:Nat} {p q:Keyed} (h:SIn val xs 0 xs.size) (hp:xs[n]? = some p) (hq:q∈xs.toList.take (n+1)):val q≤val p:=by
 obtain⟨j,hj,rT,e⟩:=zd4 hq;have hn:=(br.mp hp).1;have:=h j n (bp _) #[O] hn;rw [zO e,zO hp] at this;exact this
theorem MB.pushA {y x:Keyed} (h:MB val T a b out (na+1) nb) (sb:SIn val b 0 b.size) (hn:1≤nb) (hy:b[nb - 1]? = some y) (hx:a[na]? = some x) (hle:val y≤val x):MB val T a b (out.push x) na nb:=by
 unfold MB at h ⊢;rw [zhY hx] at h;have:=MH.takeA h fun p hp q hq=>by
  rw [aN.mp hq];exact bZ (zdI sb hy (by rw [show nb - 1+1=nb by lia]; exact hp)) hle
 simpa using this
theorem MB.pushB {y x:Keyed} (h:MB val T a b out na (nb+1)) (sa:SIn val a 0 a.size) (hn:1≤na) (hy:b[nb]? = some y) (hx:a[na - 1]? = some x) (hle:val x≤val y):MB val T a b (out.push y) na nb:=by
 unfold MB at h ⊢;rw [zhY hy] at h;have:=MH.takeB h fun p hp q hq=>by
  rw [aN.mp hq];exact bZ (zdI sa hx (by rw [show na - 1+1=na by lia]; exact hp)) hle
 simpa using this
theorem zhZ (xs:Array Keyed) {i n:Nat} (h:i≤n):xs.toList.take n=xs.toList.take i++(xs.extract i n).toList:=by
 rw [cL];simp only [cX];rw [← cE i (xs.toList.take n),List.take_take,iH h,List.drop_take]
theorem MB.takeA {y:Keyed} {at':Nat} (h:MB val T a b out na nb) (sb:SIn val b 0 b.size) (mC:at'≤na) (hn:1≤nb) (hy:b[nb - 1]? = some y) (hle:∀ i,at'≤i→i < na→val y≤Vk val a i):MB val T a b (out++(a.extract at' na).reverse) at' nb:=by
 unfold MB at h ⊢;rw [zhZ a mC] at h;have:=MH.takeA h fun p hp q hq=>by
  have qJ:q∈(a.extract at' (at'+(na - at'))).toList:=by rw [show at'+(na - at')=na by lia]; exact hq
  obtain⟨j,hj,e⟩:=zdG qJ;have:=hle (at'+j) #[O] #[O];rw [zO e] at this;exact bZ (zdI sb hy (by rw [show nb - 1+1=nb by lia]; exact hp)) this
 simpa using this
theorem MB.takeB {x:Keyed} {at':Nat} (h:MB val T a b out na nb) (sa:SIn val a 0 a.size) (mC:at'≤nb) (hn:1≤na) (hx:a[na - 1]? = some x) (hle:∀ i,at'≤i→i < nb→val x≤Vk val b i):MB val T a b (out++(b.extract at' nb).reverse) na at':=by
 unfold MB at h ⊢;rw [zhZ b mC] at h;have:=MH.takeB h fun p hp q hq=>by
  have qJ:q∈(b.extract at' (at'+(nb - at'))).toList:=by rw [show at'+(nb - at')=nb by lia]; exact hq
  obtain⟨j,hj,e⟩:=zdG qJ;have:=hle (at'+j) #[O] #[O];rw [zO e] at this;exact bZ (zdI sa hx (by rw [show na - 1+1=na by lia]; exact hp)) this
 simpa using this
theorem zbD (xs:Array Keyed) (n:Nat):(xs.extract 0 n).toList=xs.toList.take n:=by
 rw [cL];simp [cX]
theorem MB.doneA (h:MB val T a b out na nb) (e:na=0):Good val T (a.extract 0 na++b.extract 0 nb++out.reverse).toList:=by
 unfold MB at h;subst e;have:=MH.doneA h;rw [bz,bz,zbD,zbD,iZ,iE,gi];exact this
theorem MB.doneB (h:MB val T a b out na nb) (e:nb=0):Good val T (a.extract 0 na++b.extract 0 nb++out.reverse).toList:=by
 unfold MB at h;subst e;have:=MH.doneB h;rw [bz,bz,zbD,zbD,iZ,cP,gi];exact this
theorem MB.first (h:MB val T a b out na nb) (e:nb=1) (sa:SIn val a 0 a.size) (h2:1≤b.size) (hf:Vk val b 0≤Vk val a 0):Good val T (b.extract 0 nb++a.extract 0 na++out.reverse).toList:=by
 unfold MB at h;subst e;have:=MH.first h fun p hp q hq=>by
  obtain⟨j,hj,rT,ej⟩:=zd4 hp;have nL:j=0:=by lia
  subst nL;obtain⟨i,hi,his,ei⟩:=zd4 hq;have:=sa 0 i (bp _) (bp _) his;rw [zO ei] at this;rw [zO ej] at hf;lia
 rw [bz,bz,zbD,zbD,gi];exact this
end
section
variable {prog:Program} {w:World} {A:Around} {E:Value→Shared→Prop} {s:Shared} {a₀:Array Keyed} {κ:SortKind} {val:Keyed→Int}
theorem ziV {st:SortSt} {a b:Array Keyed} {Q:Array Keyed→SortSt→Prop} (hC:Cmp prog w A s κ val a₀) (hk:kindOf st=κ) (ma:∀ p∈a.toList,p∈a₀.toList) (mb:∀ p∈b.toList,p∈a₀.toList)
  (sa:SIn val a 0 a.size) (sb:SIn val b 0 b.size) (h1:1≤a.size) (h2:1≤b.size) (hf:Vk val b 0≤Vk val a 0) (hl:∀ i,i < b.size→Vk val b i≤Vk val a (a.size - 1))
  (h:∀ out g,Good val (a.toList++b.toList) out.toList→Q out (zab st g)):wpS (model prog w) A E s (zj5 a b) Q st:=by
 refine zft ?_
 wp_delta
 wp_delta
 refine zfu ?_
 (refine ao (gv (cT ⟨rfl,?_⟩)))
 refine zai (xs:=a) (i:=a.size - 1) #[O] fun x0 sX Br=>?_
 refine zai (xs:=b) (i:=b.size - 1) #[O] fun y0 sV Bq=>?_
 refine ao (zM sX ?_);have I0:MB val (a.toList++b.toList) a b #[] (a.size - 1+1) b.size:=by
  refine⟨?_,fK,zgm sa _,zgm sb _,fun x _ y hy=>by simp at hy,fun x _ y hy=>by simp at hy⟩;rw [show a.size - 1+1=a.size by lia,aT #[M],aT #[M]];simp
 have I1:MB val (a.toList++b.toList) a b #[x0] (a.size - 1) b.size:=I0.pushA sb h2 sV sX (by have:=hl (b.size - 1) #[O]; rw [zO sV,zO sX] at this; exact this);dsimp only;by_cases rE:a.size - 1=0
 ·refine zq (by simpa using rE) ?_;exact ap (h _ (gallopOf st) (I1.doneA rE))
 refine zr (by simpa using rE) ?_;by_cases nN:b.size=1
 ·refine zq (by simpa using nN) ?_;exact ap (h _ (gallopOf st) (I1.first nN sa h2 hf))
 refine zr (by simpa using nN) ?_;refine ao (fB ?_);refine ao (dk (fr5 (fun g out na nb mg=>(none,na,nb,out,mg)) (fun g out na nb mg=>zab st g) (fun x g out na nb mg=>MB val (a.toList++b.toList) a b out na nb∧1≤na∧2≤nb∧na≤a.size∧nb≤b.size∧x+na+nb+1≤a.size+b.size)
  (Q:=fun c kW=>∃ g r o,kW=zab st g∧c=(some r,o)∧Good val (a.toList++b.toList) r.toList) ⟨gallopOf st,#[x0],a.size - 1,b.size,gallopOf st,rfl,rfl,I1,#[O],#[O],#[O],#[O],#[O]⟩ ?fin ?step) ?post)
 case post =>
  rintro c kW ⟨g,r,o,rfl,rfl,hG⟩;exact ap (h _ g hG)
 case fin =>
  rintro g out na nb mg ⟨hI,b1,b2,b3⟩;lia
 case step =>
  intro x g out na nb mg Bs hx J;have hI:=J.1;have b1:=J.2.1;have b2:=J.2.2.1;have b4:=J.2.2.2.1;have b5:=J.2.2.2.2.1;have b3:=J.2.2.2.2.2;dsimp only;refine zmf (fun la mw mB ac bc=>(none,mw,mB,la,ac,bc)) (fun r=>Good val (a.toList++b.toList) r.toList) (fun la mw mB ac bc=>MB val (a.toList++b.toList) a b la mw mB∧1≤mw∧2≤mB∧mw≤a.size∧mB≤b.size∧1+mw+mB≤na+nb) (zab st g) (fr5 (fun la mw mB ac bc=>(none,mw,mB,la,ac,bc)) (fun la mw mB ac bc=>zab st g) (fun x la mw mB ac bc=>MB val (a.toList++b.toList) a b la mw mB∧1≤mw∧2≤mB∧mw≤a.size∧mB≤b.size∧x+mw+mB≤na+nb) ⟨out,na,nb,0,0,rfl,rfl,hI,b1,b2,b4,b5,#[O]⟩ ?fin1 ?step1) (fun r o hG=>ap ⟨g,r,_,rfl,rfl,hG⟩) ?post1
  case fin1 =>
   rintro la mw mB ac bc ⟨hI,b1,b2,b4,b5,b3⟩;exact⟨rfl,.inr ⟨la,mw,mB,ac,bc,rfl,hI,b1,b2,b4,b5,#[O]⟩⟩
  case step1 =>
   intro x1 la mw mB ac bc Bt tf J;have hI:=J.1;have b1:=J.2.1;have b2:=J.2.2.1;have b4:=J.2.2.2.1;have b5:=J.2.2.2.2.1;have b3:=J.2.2.2.2.2;dsimp only;obtain⟨n1,rfl⟩:∃ n1,mw=n1+1:=⟨mw - 1,#[O]⟩;obtain⟨m1,rfl⟩:∃ m1,mB=m1+1:=⟨mB - 1,#[O]⟩;simp only [cn];refine zai (xs:=b) (i:=m1) #[O] fun y ey my=>?_
   refine zai (xs:=a) (i:=n1) #[O] fun z ez mz=>?_
   refine ao (zM ey (ao (zM ez (ao (zj1 hC hk (mb y my) (ma z mz) ?_)))));dsimp only;by_cases xw:val y < val z
   ·refine zq (by simpa using xw) ?_;refine ao (zM ez ?_);have ng:=hI.pushA sb #[O] ey ez #[O];by_cases e1:n1=0
    ·refine zq (by simpa using e1) ?_;exact ap ⟨rfl,.inl ⟨_,_,rfl,ng.doneA e1⟩⟩
    refine zr (by simpa using e1) ?_;refine zaG (fun _=>?_) (fun _=>?_)
    ·exact ap ⟨rfl,.inr ⟨_,_,_,_,_,rfl,ng,#[O],#[O],#[O],#[O],#[O]⟩⟩
    ·exact ap ⟨_,_,_,_,_,rfl,rfl,ng,#[O],#[O],#[O],#[O],#[O]⟩
   ·refine zr (by simpa using xw) ?_;refine ao (zM ey ?_);have ng:=hI.pushB sa #[O] ey ez #[O];by_cases e1:m1=1
    ·refine zq (by simpa using e1) ?_;exact ap ⟨rfl,.inl ⟨_,_,rfl,ng.first e1 sa h2 hf⟩⟩
    refine zr (by simpa using e1) ?_;refine zaG (fun _=>?_) (fun _=>?_)
    ·exact ap ⟨rfl,.inr ⟨_,_,_,_,_,rfl,ng,#[O],#[O],#[O],#[O],#[O]⟩⟩
    ·exact ap ⟨_,_,_,_,_,rfl,rfl,ng,#[O],#[O],#[O],#[O],#[O]⟩
  case post1 =>
   intro vz BA BB Bw Bx J;have By:=J.1;have c1:=J.2.1;have c2:=J.2.2.1;have c4:=J.2.2.2.1;have c5:=J.2.2.2.2.1;have c3:=J.2.2.2.2.2;dsimp only
   (refine ao (gv (cT ⟨rfl,?_⟩)))
   refine ao (dk (fr7 (fun g la mw mB mg ac bc=>(none,mw,mB,la,mg,ac,bc)) (fun g la mw mB mg ac bc=>zab st g) (fun x g la mw mB mg ac bc=>MB val (a.toList++b.toList) a b la mw mB∧1≤mw∧2≤mB∧mw≤a.size∧mB≤b.size∧mw+mB≤BA+BB)
    (Q:=fun c kW=>∃ g,kW=zab st g∧((∃ r o,c=(some r,o)∧Good val (a.toList++b.toList) r.toList)∨∃ la mw mB mg ac bc,c=(none,mw,mB,la,mg,ac,bc)∧MB val (a.toList++b.toList) a b la mw mB∧1≤mw∧2≤mB∧mw≤a.size∧mB≤b.size∧mw+mB≤BA+BB)) ⟨g,vz,BA,BB,_,Bw,Bx,rfl,rfl,By,c1,c2,c4,c5,ah _⟩ ?fin2 ?step2) ?post2)
   case fin2 =>
    rintro g la mw mB mg ac bc ⟨hI,b1,b2,b4,b5,b3⟩;exact⟨g,rfl,.inr ⟨la,mw,mB,mg,ac,bc,rfl,hI,b1,b2,b4,b5,b3⟩⟩
   case post2 =>
    rintro c kW ⟨g,rfl,hc⟩;rcases hc with ⟨r,o,rfl,hG⟩ | ⟨vA,na2,nb2,mg2,ac2,bc2,rfl,ng,d1,d2,d4,d5,d3⟩
    ·exact ap ⟨g,r,_,rfl,rfl,hG⟩
    dsimp only;refine ao (zcX (ap ⟨_,vA,na2,nb2,_,rfl,rfl,ng,d1,d2,d4,d5,#[O]⟩))
   case step2 =>
    intro x2 g la mw mB vB ac bc uw tJ J;have hI:=J.1;have b1:=J.2.1;have b2:=J.2.2.1;have b4:=J.2.2.2.1;have b5:=J.2.2.2.2.1;have b3:=J.2.2.2.2.2;dsimp only;obtain⟨m1,rfl⟩:∃ m1,mB=m1+1:=⟨mB - 1,#[O]⟩;simp only [cn];refine zai (xs:=b) (i:=m1) #[O] fun y ey my=>?_
    apply dup
    ·intro k1 k2;by_cases qG:vB > 1
     ·refine zq qG ?_;clear qG;generalize vB - 1=m0
      revert m0
      exact k1
     ·refine zr qG ?_;clear qG;generalize vB=m0
      revert m0
      exact k2
    intro mg0;refine ao (zcX (ao (zM ey (ao (za0 hC hk (mb y my) (fun i hi=>(by
     refine zai (xs:=a) (i:=0+i) #[O] fun p ep mp=>?_
     exact⟨p,ep,ma p mp⟩)) (sa.sub #[O] #[O]) #[O] fun k ux oh tj=>?_)))))
    dsimp only;have ng:=hI.takeA (at':=k) sb ux #[O] ey fun i h1 h2=>eE (by have:=zdH (tj i h1 h2); rwa [bE] at this)
    by_cases rC:mw - k > 0
    ·refine zq rC ?_;by_cases e1:k=0
     ·refine zq (by simpa using e1) ?_;exact ap ⟨_,rfl,.inl ⟨_,_,rfl,ng.doneA e1⟩⟩
     refine zr (by simpa using e1) ?_;obtain⟨n1,rfl⟩:∃ n1,k=n1+1:=⟨k - 1,#[O]⟩;simp only [cn];refine ao (zM ey ?_);refine zai (xs:=a) (i:=n1) #[O] fun z ez mz=>?_
     have pY:=ng.pushB sa #[O] ey (show a[n1+1 - 1]? = some z by rw [cn]; exact ez) (by have:=zcY (oh n1 #[O]); rw [bE,zO ez] at this; exact this);by_cases e3:m1=1
     ·refine zq (by simpa using e3) ?_;exact ap ⟨_,rfl,.inl ⟨_,_,rfl,pY.first e3 sa h2 hf⟩⟩
     refine zr (by simpa using e3) ?_;refine ao (zM ez (ao (za0 hC hk (ma z mz) (fun i hi=>(by
      refine zai (xs:=b) (i:=0+i) #[O] fun p ep mp=>?_
      exact⟨p,ep,mb p mp⟩)) (sb.sub #[O] #[O]) #[O] fun j rX pM tK=>?_)))
     dsimp only;have qM:=pY.takeB (at':=j) sa rX #[O] (show a[n1+1 - 1]? = some z by rw [cn]; exact ez) fun i h1 h2=>(by have:=zcJ (tK i h1 h2); rwa [bE] at this)
     by_cases nL:m1 - j > 0
     ·refine zq nL ?_;by_cases e4:j=1
      ·refine zq (by simpa using e4) ?_;exact ap ⟨_,rfl,.inl ⟨_,_,rfl,qM.first e4 sa h2 hf⟩⟩
      refine zr (by simpa using e4) ?_;by_cases e5:j=0
      ·refine zq (by simpa using e5) ?_;exact ap ⟨_,rfl,.inl ⟨_,_,rfl,qM.doneB e5⟩⟩
      refine zr (by simpa using e5) ?_;refine zai (xs:=b) (i:=j - 1) #[O] fun y2 nT vC=>?_
      refine ao (zM ez ?_);have mS:=qM.pushA sb #[O] nT ez (by have:=zbQ (pM (j - 1) #[O]); rw [bE,zO nT] at this; lia);by_cases e9:n1=0
      ·refine zq (by simpa using e9) ?_;exact ap ⟨_,rfl,.inl ⟨_,_,rfl,mS.doneA e9⟩⟩
      refine zr (by simpa using e9) ?_;refine zaG (fun _=>?_) (fun _=>?_)
      ·exact ap ⟨_,rfl,.inr ⟨_,_,_,_,_,_,rfl,mS,#[O],#[O],#[O],#[O],#[O]⟩⟩
      ·exact ap ⟨_,_,_,_,_,_,_,rfl,rfl,mS,#[O],#[O],#[O],#[O],#[O]⟩
     ·refine zr nL ?_;have xy:j=m1:=by lia
      subst xy;refine zai (xs:=b) (i:=j - 1) #[O] fun y2 nT vC=>?_
      refine ao (zM ez ?_);have mS:=pY.pushA sb #[O] nT ez (by have:=zbQ (pM (j - 1) #[O]); rw [bE,zO nT] at this; lia);by_cases e9:n1=0
      ·refine zq (by simpa using e9) ?_;exact ap ⟨_,rfl,.inl ⟨_,_,rfl,mS.doneA e9⟩⟩
      refine zr (by simpa using e9) ?_;refine zaG (fun _=>?_) (fun _=>?_)
      ·exact ap ⟨_,rfl,.inr ⟨_,_,_,_,_,_,rfl,mS,#[O],#[O],#[O],#[O],#[O]⟩⟩
      ·exact ap ⟨_,_,_,_,_,_,_,rfl,rfl,mS,#[O],#[O],#[O],#[O],#[O]⟩
    ·refine zr rC ?_;have Ag:k=mw:=by lia
     subst Ag;obtain⟨n1,rfl⟩:∃ n1,k=n1+1:=⟨k - 1,#[O]⟩;simp only [cn];refine ao (zM ey ?_);refine zai (xs:=a) (i:=n1) #[O] fun z ez mz=>?_
     have pY:=hI.pushB sa #[O] ey (show a[n1+1 - 1]? = some z by rw [cn]; exact ez) (by have:=zcY (oh n1 #[O]); rw [bE,zO ez] at this; exact this);by_cases e3:m1=1
     ·refine zq (by simpa using e3) ?_;exact ap ⟨_,rfl,.inl ⟨_,_,rfl,pY.first e3 sa h2 hf⟩⟩
     refine zr (by simpa using e3) ?_;refine ao (zM ez (ao (za0 hC hk (ma z mz) (fun i hi=>(by
      refine zai (xs:=b) (i:=0+i) #[O] fun p ep mp=>?_
      exact⟨p,ep,mb p mp⟩)) (sb.sub #[O] #[O]) #[O] fun j rX pM tK=>?_)))
     dsimp only;have qM:=pY.takeB (at':=j) sa rX #[O] (show a[n1+1 - 1]? = some z by rw [cn]; exact ez) fun i h1 h2=>(by have:=zcJ (tK i h1 h2); rwa [bE] at this)
     by_cases nL:m1 - j > 0
     ·refine zq nL ?_;by_cases e4:j=1
      ·refine zq (by simpa using e4) ?_;exact ap ⟨_,rfl,.inl ⟨_,_,rfl,qM.first e4 sa h2 hf⟩⟩
      refine zr (by simpa using e4) ?_;by_cases e5:j=0
      ·refine zq (by simpa using e5) ?_;exact ap ⟨_,rfl,.inl ⟨_,_,rfl,qM.doneB e5⟩⟩
      refine zr (by simpa using e5) ?_;refine zai (xs:=b) (i:=j - 1) #[O] fun y2 nT vC=>?_
      refine ao (zM ez ?_);have mS:=qM.pushA sb #[O] nT ez (by have:=zbQ (pM (j - 1) #[O]); rw [bE,zO nT] at this; lia);by_cases e9:n1=0
      ·refine zq (by simpa using e9) ?_;exact ap ⟨_,rfl,.inl ⟨_,_,rfl,mS.doneA e9⟩⟩
      refine zr (by simpa using e9) ?_;refine zaG (fun _=>?_) (fun _=>?_)
      ·exact ap ⟨_,rfl,.inr ⟨_,_,_,_,_,_,rfl,mS,#[O],#[O],#[O],#[O],#[O]⟩⟩
      ·exact ap ⟨_,_,_,_,_,_,_,rfl,rfl,mS,#[O],#[O],#[O],#[O],#[O]⟩
     ·refine zr nL ?_;have xy:j=m1:=by lia
      subst xy;refine zai (xs:=b) (i:=j - 1) #[O] fun y2 nT vC=>?_
      refine ao (zM ez ?_);have mS:=pY.pushA sb #[O] nT ez (by have:=zbQ (pM (j - 1) #[O]); rw [bE,zO nT] at this; lia);by_cases e9:n1=0
      ·refine zq (by simpa using e9) ?_;exact ap ⟨_,rfl,.inl ⟨_,_,rfl,mS.doneA e9⟩⟩
      refine zr (by simpa using e9) ?_;refine zaG (fun _=>?_) (fun _=>?_)
      ·exact ap ⟨_,rfl,.inr ⟨_,_,_,_,_,_,rfl,mS,#[O],#[O],#[O],#[O],#[O]⟩⟩
      ·exact ap ⟨_,_,_,_,_,_,_,rfl,rfl,mS,#[O],#[O],#[O],#[O],#[O]⟩
end
end Srt
end
section
namespace Srt
open PySem PyProof.Rows
def wb (sa:Nat) (l:List (Keyed×Nat)) (xs:Array Keyed):Array Keyed:=l.foldl (fun a (p,j)=>a.setIfInBounds (sa+j) p) xs
theorem zj8 (sa:Nat):∀ (l:List Keyed) (n:Nat) (xs:Array Keyed) (k:Nat),sa+n+l.length≤xs.size→(wb sa (l.zipIdx n) xs)[k]? = if sa+n≤k∧k < sa+n+l.length then l[k - (sa+n)]? else xs[k]?
 | [],n,xs,k,h=>by
  rw [if_neg (by simp only [ed]; lia)];rfl
 | p :: l,n,xs,k,h=>by
  have hl:(p :: l).length=l.length+1:=rfl;rw [hl] at h ⊢;show (wb sa (l.zipIdx (n+1)) (xs.setIfInBounds (sa+n) p))[k]? = _;rw [zj8 sa l (n+1) _ k (by rw [ie]; lia)];by_cases h1:sa+(n+1)≤k∧k < sa+(n+1)+l.length
  ·rw [if_pos h1,if_pos #[O],show k - (sa+n)=k - (sa+(n+1))+1 by lia,dS]
  ·rw [if_neg h1,eF];by_cases h2:sa+n=k
   ·rw [if_pos h2,if_pos #[O],if_pos #[O],show k - (sa+n)=0 by lia];rfl
   ·rw [if_neg h2,if_neg #[O]]
theorem zlr {sa:Nat} {m xs:Array Keyed} (h:sa+m.size≤xs.size):(wb sa m.toList.zipIdx xs).toList=xs.toList.take sa++m.toList++xs.toList.drop (sa+m.size):=by
 have hm:m.toList.length=m.size:=by simp
 have hx:xs.toList.length=xs.size:=by simp
 refine cO fun k=>?_
 rw [aS,zj8 sa m.toList 0 xs k (by rw [hm]; lia),hm,c7];by_cases h1:k < sa
 ·rw [if_neg #[O],bg,bG (by rw [aU]; lia),fj h1,aS]
 ·by_cases h2:k < sa+m.size
  ·rw [if_pos #[O],bg,bP (by rw [aU]; lia),aU,hx,show min sa xs.size=sa by lia,bG #[O]]
  ·rw [if_neg #[O],bP (by rw [aF,aU]; lia),aF,aU,hx,show min sa xs.size=sa by lia,hm,fo,show sa+m.size+(k - (sa+m.size))=k by lia,aS]
theorem ziW (xs:List Keyed) {i j k:Nat} (h1:i≤j) (h2:j≤k):xs=xs.take i++((xs.drop i).take (j - i)++(xs.drop j).take (k - j))++xs.drop k:=by
 have e1:xs.drop i=(xs.drop i).take (j - i)++xs.drop j:=by
  have:=(cE (j - i) (xs.drop i)).symm
  rwa [iY,show i+(j - i)=j by lia] at this
 have e2:xs.drop j=(xs.drop j).take (k - j)++xs.drop k:=by
  have:=(cE (k - j) (xs.drop j)).symm
  rwa [iY,show j+(k - j)=k by lia] at this
 have e0:=(cE i xs).symm;rw [e1,e2] at e0;rw [bg,bg];exact e0
theorem zcZ (xs:Array Keyed) (i j:Nat):(xs.extract i j).toList=(xs.toList.drop i).take (j - i):=by
 rw [cL]
theorem zls {sa sb e:Nat} {m xs:Array Keyed} (h1:sa≤sb) (h2:sb≤e) (h3:e≤xs.size) (hp:m.toList.Perm ((xs.extract sa sb).toList++(xs.extract sb e).toList)):(wb sa m.toList.zipIdx xs).Perm xs:=by
 have tL:m.size=e - sa:=by
  have:=hp.length_eq;rw [aF,zcZ,zcZ,aU,aU,dL,dL] at this;have hx:xs.toList.length=xs.size:=by simp
  have hm:m.toList.length=m.size:=by simp
  lia
 rw [eZ,zlr #[O],show sa+m.size=e by lia];refine fc ((hp.append_left _).append_right _) ?_;rw [zcZ,zcZ,← ziW xs.toList h1 h2]
section
variable {prog:Program} {w:World} {A:Around} {E:Value→Shared→Prop} {s:Shared} {a₀:Array Keyed} {κ:SortKind} {val:Keyed→Int}
theorem zcK {xs:Array Keyed} {i j k:Nat} (h:k < j - i) (hj:j≤xs.size):(xs.extract i j)[k]? = xs[i+k]?:=by
 rw [← aS,zcZ,fj h,fo,aS]
theorem zc0 {xs:Array Keyed} {i j:Nat} (hj:j≤xs.size):(xs.extract i j).size=j - i:=by rw [jC,iH hj]
theorem zh0 {xs:Array Keyed} {i j:Nat} (hj:j≤xs.size) (h:SIn val xs i j):SIn val (xs.extract i j) 0 (xs.extract i j).size:=by
 rw [zc0 hj];intro p q _ hpq hq;rw [zY (zcK #[O] hj),zY (zcK hq hj)];exact h _ _ #[O] #[O] #[O]
theorem zdJ {xs:Array Keyed} {i j:Nat} (hj:j≤xs.size) {p:Keyed} (h:p∈(xs.extract i j).toList):∃ k,i≤k∧k < j∧xs[k]? = some p:=by
 obtain⟨k,hk,e⟩:=dR h;have oC:k < j - i:=by
  rwa [av,zc0 hj] at hk
 refine⟨i+k,#[O],#[O],?_⟩;rw [← zcK oC hj,← aS,ai hk,e]
theorem ziX {st:SortSt} {i sa na pw sb nb pw2:Nat} {Q:Bool→SortSt→Prop} (hC:Cmp prog w A s κ val a₀) (hB:SB κ a₀ st) (e1:(pendingOf st)[i]? = some (sa,na,pw)) (e2:(pendingOf st)[i+1]? = some (sb,nb,pw2))
  (pT:sb=sa+na) (hna:1≤na) (hnb:1≤nb) (hsz:sb+nb≤a₀.size) (sA:SIn val (arrOf st) sa (sa+na)) (sB:SIn val (arrOf st) sb (sb+nb))
  (h:∀ kW,SB κ a₀ kW→pendingOf kW=((pendingOf st).setIfInBounds i (sa,na+nb,pw)).eraseIdxIfInBounds (i+1)→(∀ k,(k < sa∨sb+nb≤k)→(arrOf kW)[k]? = (arrOf st)[k]?)→SIn val (arrOf kW) sa (sb+nb)→Q true kW) :
  wpS (model prog w) A E s (mergeAt' i) Q st:=by
 refine zft ?_
 wp_delta
 wp_delta
 refine zfu ?_;refine ao (fB ?_);rw [e1,e2];dsimp only;have xA:=hB.size;obtain⟨y0,sV,Bq⟩:=hB.mem (i:=sb) #[O];generalize vE:(sortPriv% PySem.Builtin.SortState.mk) (kindOf st) (arrOf st) (((pendingOf st).setIfInBounds i (sa,na+nb,pw)).eraseIdxIfInBounds (i+1)) (gallopOf st) (failedOf st)=o1;have rZ:SB κ a₀ o1:=by subst vE; exact⟨hB.perm,hB.kind,hB.failed⟩
 have pg:pendingOf o1=((pendingOf st).setIfInBounds i (sa,na+nb,pw)).eraseIdxIfInBounds (i+1):=by subst vE; rfl
 have rE:arrOf o1=arrOf st:=by subst vE; rfl
 have tN:∀ n,n < a₀.size→∃ p,(arrOf st)[n]? = some p∧p∈a₀.toList:=fun n hn=>hB.mem hn
 refine ao (show wpS _ _ _ _ (set o1) _ st from eW (f:=fun _=>o1) ?_);refine ao (zM sV (ao (za0 (arr:=arrOf st) hC rZ.kind Bq (fun j hj=>tN (sa+j) #[O]) sA #[O] fun k ux oh tj=>?_)));dsimp only;have xB:∀ j,sa≤j→j < sa+k→Vk val (arrOf st) j≤Vk val (arrOf st) sb:=fun j h1 h2=>by
  have:=zcY (oh (j - sa) #[O])
  rwa [show sa+(j - sa)=j by lia,← zO (val:=val) sV] at this
 by_cases rC:na - k=0
 ·rw [if_pos (by simpa using rC)];refine ap (h o1 rZ pg (fun _ _=>by rw [rE]) ?_);rw [rE];intro p q h1 h2 h3;by_cases hq:q < sa+na
  ·exact sA p q h1 h2 hq
  ·by_cases hp:p < sa+na
   ·exact bZ (xB p h1 #[O]) (sB sb q #[O] #[O] h3)
   ·exact sB p q #[O] h2 h3
 rw [if_neg (by simpa using rC)];have xC:sa+k+(na - k) - 1=sa+na - 1:=by lia
 rw [xC];obtain⟨x0,sX,Br⟩:=hB.mem (i:=sa+na - 1) #[O];refine ao (zM sX (ao (za0 (arr:=arrOf st) hC rZ.kind Br (fun j hj=>tN (sb+j) #[O]) sB #[O] fun m pW qw xD=>?_)));dsimp only;have uy:∀ j,sb+m≤j→j < sb+nb→Vk val (arrOf st) (sa+na - 1)≤Vk val (arrOf st) j:=fun j h1 h2=>by
  have:=zcJ (xD (j - sb) #[O] #[O])
  rwa [show sb+(j - sb)=j by lia,← zO (val:=val) sX] at this
 have BC:∀ j,sb≤j→j < sb+m→Vk val (arrOf st) j < Vk val (arrOf st) (sa+na - 1):=fun j h1 h2=>by
  have:=zbQ (qw (j - sb) #[O])
  rwa [show sb+(j - sb)=j by lia,← zO (val:=val) sX] at this
 by_cases hm0:m=0
 ·rw [if_pos (by simpa using hm0)];refine ap (h o1 rZ pg (fun _ _=>by rw [rE]) ?_);rw [rE];intro p q h1 h2 h3;by_cases hq:q < sa+na
  ·exact sA p q h1 h2 hq
  ·by_cases hp:p < sa+na
   ·exact bZ (sA p (sa+na - 1) h1 #[O] #[O]) (uy q #[O] h3)
   ·exact sB p q #[O] h2 h3
 rw [if_neg (by simpa using hm0)];have zx:(arrOf st).size=a₀.size:=xA;have z1:=zc0 (xs:=arrOf st) (i:=sa+k) (j:=sb) #[O];have z2:=zc0 (xs:=arrOf st) (i:=sb) (j:=sb+m) #[O];have hf:Vk val ((arrOf st).extract sb (sb+m)) 0≤Vk val ((arrOf st).extract (sa+k) sb) 0:=by
  rw [zY (zcK #[O] #[O]),zY (zcK (xs:=arrOf st) (i:=sa+k) (j:=sb) (k:=0) #[O] #[O])];have:=zdH (tj k (ah _) #[O]);rw [← zO (val:=val) sV] at this;simp only [c7] at this ⊢;lia
 have hl:∀ j,j < ((arrOf st).extract sb (sb+m)).size→Vk val ((arrOf st).extract sb (sb+m)) j≤Vk val ((arrOf st).extract (sa+k) sb) (((arrOf st).extract (sa+k) sb).size - 1):=by
  intro j hj;rw [z2] at hj;rw [z1,zY (zcK #[O] #[O]),zY (zcK (xs:=arrOf st) (i:=sa+k) (j:=sb) #[O] #[O])];have:=BC (sb+j) #[O] #[O];rw [show sa+k+(sb - (sa+k) - 1)=sa+na - 1 by lia];lia
 have fin:∀ (out:Array Keyed) (g:Nat),Good val (((arrOf st).extract (sa+k) sb).toList++((arrOf st).extract sb (sb+m)).toList) out.toList →
   wpS (model prog w) A E s (do
    modify fun s=>setArr s (out.toList.zipIdx.foldl (fun a (p,j)=>a.setIfInBounds (sa+k+j) p) (arrOf s))
    let s' ← get
    pure (failedOf s').isNone) Q (zab o1 g):=by
  intro out g hG;refine ao (eW (ao (fB ?_)));have tL:out.size=sb+m - (sa+k):=by
   have:=hG.1.length_eq;rw [aF] at this;have e1:out.toList.length=out.size:=by simp
   have e2:((arrOf st).extract (sa+k) sb).toList.length=sb - (sa+k):=by rw [av,z1]
   have e3:((arrOf st).extract sb (sb+m)).toList.length=sb+m - sb:=by rw [av,z2]
   lia
  have qB:=zls (xs:=arrOf st) (sa:=sa+k) (sb:=sb) (e:=sb+m) #[O] #[O] #[O] hG.1;have mC:∀ n,(wb (sa+k) out.toList.zipIdx (arrOf st))[n]? = if sa+k≤n∧n < sb+m then out[n - (sa+k)]? else (arrOf st)[n]?:=fun n=>by
   have:=zj8 (sa+k) out.toList 0 (arrOf st) n (by rw [av]; lia);rw [av,c7,tL,show sa+k+(sb+m - (sa+k))=sb+m by lia,aS] at this;exact this
  have wZ:(failedOf (setArr (zab o1 g) (wb (sa+k) out.toList.zipIdx (arrOf st)))).isNone=true:=by
   show (failedOf o1).isNone=true;rw [rZ.failed];rfl
  have BD:arrOf (zab o1 g)=arrOf st:=rE;show wpS _ _ _ _ (pure (failedOf (setArr (zab o1 g) (wb (sa+k) out.toList.zipIdx (arrOf (zab o1 g))))).isNone) Q (setArr (zab o1 g) (wb (sa+k) out.toList.zipIdx (arrOf (zab o1 g))));rw [BD,wZ];refine ap (h _ ⟨qB.trans hB.perm,rZ.kind,rZ.failed⟩ pg (fun n hn=>?_) ?_)
  ·show (wb (sa+k) out.toList.zipIdx (arrOf st))[n]? = _;rw [mC,if_neg #[O]]
  ·show SIn val (wb (sa+k) out.toList.zipIdx (arrOf st)) sa (sb+nb);have oj:∀ n,sa+k≤n→n < sb+m→∃ q,sa+k≤q∧q < sb+m∧Vk val (wb (sa+k) out.toList.zipIdx (arrOf st)) n=Vk val (arrOf st) q:=fun n h1 h2=>by
    have ho:n - (sa+k) < out.size:=by lia
    have oI:out[n - (sa+k)]? = some out[n - (sa+k)]:=getElem?_pos out _ ho;have mG:out[n - (sa+k)]∈((arrOf st).extract (sa+k) sb).toList++((arrOf st).extract sb (sb+m)).toList:=hG.1.mem_iff.mp #[M];have hv:Vk val (wb (sa+k) out.toList.zipIdx (arrOf st)) n=val out[n - (sa+k)]:=zO (by rw [mC,if_pos ⟨h1,h2⟩,oI]);rcases aP.mp mG with mG | mG
    ·obtain⟨q,q1,q2,q3⟩:=zdJ #[O] mG;exact⟨q,q1,#[O],by rw [hv,zO q3]⟩
    ·obtain⟨q,q1,q2,q3⟩:=zdJ #[O] mG;exact⟨q,#[O],q2,by rw [hv,zO q3]⟩
   have oO:∀ n,¬ (sa+k≤n∧n < sb+m)→Vk val (wb (sa+k) out.toList.zipIdx (arrOf st)) n=Vk val (arrOf st) n:=fun n hn=>zY (by rw [mC,if_neg hn])
   intro p q h1 h2 h3;by_cases hp:p < sa+k
   ·rw [oO p #[O]];by_cases hq:q < sa+k
    ·rw [oO q #[O]];exact sA p q h1 h2 #[O]
    ·have key:∀ q',sa+k≤q'→q' < sb+nb→Vk val (arrOf st) p≤Vk val (arrOf st) q':=fun q' a1 a2=>by
      by_cases o2:q' < sb
      ·exact sA p q' h1 #[O] #[O]
      ·exact bZ (xB p h1 hp) (sB sb q' #[O] #[O] a2)
     by_cases qJ:q < sb+m
     ·obtain⟨q',q1,q2,q3⟩:=oj q #[O] qJ;rw [q3];exact key q' q1 #[O]
     ·rw [oO q #[O]];exact key q #[O] h3
   ·by_cases nM:p < sb+m
    ·by_cases qJ:q < sb+m
     ·have tO:p - (sa+k) < out.size:=by lia
      have oI:q - (sa+k) < out.size:=by lia
      rw [zO (p:=out[p - (sa+k)]) (by rw [mC,if_pos #[O]]; exact getElem?_pos out _ tO),zO (p:=out[q - (sa+k)]) (by rw [mC,if_pos #[O]]; exact getElem?_pos out _ oI)];by_cases hpq:p=q
      ·subst hpq;exact bC _
      ·have:=dE.mp hG.2 (p - (sa+k)) (q - (sa+k)) (by simpa using tO) (by simpa using oI) #[O];simpa using this
     ·obtain⟨p',p1,p2,p3⟩:=oj p #[O] nM;rw [p3,oO q #[O]];by_cases qv:p' < sb
      ·exact bZ (sA p' (sa+na - 1) #[O] #[O] #[O]) (uy q #[O] h3)
      ·exact sB p' q #[O] #[O] h3
    ·rw [oO p #[O],oO q #[O]];exact sB p q #[O] h2 h3
 have ma:∀ p∈((arrOf st).extract (sa+k) sb).toList,p∈a₀.toList:=fun p hp=>by
  obtain⟨q,q1,q2,q3⟩:=zdJ #[O] hp;obtain⟨p',e,m'⟩:=tN q #[O];rw [q3] at e;cases e;exact m'
 have mb:∀ p∈((arrOf st).extract sb (sb+m)).toList,p∈a₀.toList:=fun p hp=>by
  obtain⟨q,q1,q2,q3⟩:=zdJ #[O] hp;obtain⟨p',e,m'⟩:=tN q #[O];rw [q3] at e;cases e;exact m'
 have ss1:=zh0 (val:=val) (xs:=arrOf st) (i:=sa+k) (j:=sb) #[O] (sA.sub #[O] #[O]);have ss2:=zh0 (val:=val) (xs:=arrOf st) (i:=sb) (j:=sb+m) #[O] (sB.sub #[O] #[O]);by_cases hle:na - k≤m
 ·rw [if_pos hle];exact ao (ziU (a:=(arrOf st).extract (sa+k) sb) (b:=(arrOf st).extract sb (sb+m)) hC rZ.kind ma mb ss1 ss2 #[O] #[O] hf hl fin)
 ·rw [if_neg hle];exact ao (ziV (a:=(arrOf st).extract (sa+k) sb) (b:=(arrOf st).extract sb (sb+m)) hC rZ.kind ma mb ss1 ss2 #[O] #[O] hf hl fin)
end
end Srt
end
section
namespace Srt
open PySem PyProof.Rows
def Runs (val:Keyed→Int) (xs:Array Keyed):List (Nat×Nat×Nat)→Nat→Nat→Prop
 | [],lo,hi=>lo=hi
 | (s,n,_) :: r,lo,hi=>s=lo∧1≤n∧SIn val xs lo (lo+n)∧Runs val xs r (lo+n) hi
section
variable {val:Keyed→Int}
theorem Runs.le {xs:Array Keyed}:∀ {p:List (Nat×Nat×Nat)} {lo hi:Nat},Runs val xs p lo hi→lo+p.length≤hi
 | [],lo,hi,h=>by
  have h:lo=hi:=h;simp only [ed];lia
 | (s,n,w) :: r,lo,hi,h=>by
  obtain⟨_,h1,_,h2⟩:=h;have:=h2.le;simp only [cF];lia
theorem Runs.append {xs:Array Keyed}:∀ {p q:List (Nat×Nat×Nat)} {lo hi:Nat},Runs val xs (p++q) lo hi↔∃ mid,Runs val xs p lo mid∧Runs val xs q mid hi
 | [],q,lo,hi=>⟨fun h=>⟨lo,rfl,h⟩,fun ⟨mid,h1,h2⟩=>by
   have h1:lo=mid:=h1;subst h1;exact h2⟩
 | (s,n,w) :: p,q,lo,hi=>by
  constructor
  ·rintro⟨h1,h2,h3,h4⟩;obtain⟨mid,h5,h6⟩:=Runs.append.mp h4;exact⟨mid,⟨h1,h2,h3,h5⟩,h6⟩
  ·rintro⟨mid,⟨h1,h2,h3,h5⟩,h6⟩;exact⟨h1,h2,h3,Runs.append.mpr ⟨mid,h5,h6⟩⟩
theorem Runs.keep {xs ys:Array Keyed}:∀ {p:List (Nat×Nat×Nat)} {lo hi:Nat},Runs val xs p lo hi→(∀ k,lo≤k→k < hi→ys[k]? = xs[k]?)→Runs val ys p lo hi
 | [],lo,hi,h,_=>h
 | (s,n,w) :: p,lo,hi,h,e=>by
  obtain⟨h1,h2,h3,h4⟩:=h;have:=h4.le;refine⟨h1,h2,fun i j a b c=>?_,h4.keep fun k a b=>e k #[O] b⟩;rw [zY (e i #[O] #[O]),zY (e j #[O] #[O])];exact h3 i j a b c
theorem zj9 {α:Type} (p q:List α) (x y v:α):((p++x :: y :: q).toArray.setIfInBounds p.length v).eraseIdxIfInBounds (p.length+1)=(p++v :: q).toArray:=by
 simp [Array.eraseIdxIfInBounds];rw [List.eraseIdx_append_of_length_le #[O],show p.length+1 - p.length=1 by lia];rfl
theorem zka {α:Type} (q:List α) (z:α) (f:α→α):(q++[z]).toArray.modify ((q++[z]).toArray.size - 1) f=(q++[f z]).toArray:=by
 apply Array.ext';simp;induction q with
 | nil=>rfl
 | cons a q ih =>
  show (a :: (q++[z])).modify (q.length+1) f=a :: (q++[f z]);rw [List.modify_succ_cons,ih]
theorem zh1 {xs:Array Keyed} {p:List (Nat×Nat×Nat)} {n:Nat} (hl:p.length≤1) (hn:1≤n) (h:Runs val xs p 0 n):SIn val xs 0 n:=by
 match p,hl,h with
 | [],_,h =>
  have h:0=n:=h;lia
 | [(a,b,c)],_,h =>
  obtain⟨_,_,h3,h4⟩:=h;have h4:0+b=n:=h4;rw [← h4];exact h3
 | _ :: _ :: _,hl,_=>simp at hl
theorem ziY {α:Type} {p:List α} {j:Nat} (h:j+2≤p.length):∃ pre x y post,p=pre++x :: y :: post∧pre.length=j:=by
 refine⟨p.take j,p[j],p[j+1],p.drop (j+2),?_,by rw [aU]; lia⟩;have e1:=(cE j p).symm;rw [cW (show j < p.length by lia),cW (show j+1 < p.length by lia)] at e1;exact e1
end
section
variable {prog:Program} {w:World} {A:Around} {E:Value→Shared→Prop} {s:Shared} {a₀:Array Keyed} {κ:SortKind} {val:Keyed→Int}
theorem zgn {st:SortSt} {pre post:List (Nat×Nat×Nat)} {x y:Nat×Nat×Nat} {hi:Nat} {Q:Bool→SortSt→Prop} (hC:Cmp prog w A s κ val a₀) (hB:SB κ a₀ st) (hp:pendingOf st=(pre++x :: y :: post).toArray) (hR:Runs val (arrOf st) (pre++x :: y :: post) 0 hi) (tI:hi≤a₀.size)
  (h:∀ kW v,SB κ a₀ kW→pendingOf kW=(pre++v :: post).toArray→(∀ k,hi≤k→(arrOf kW)[k]? = (arrOf st)[k]?)→Runs val (arrOf kW) (pre++v :: post) 0 hi→Q true kW) :
  wpS (model prog w) A E s (mergeAt' pre.length) Q st:=by
 obtain⟨sa,na,pw⟩:=x;obtain⟨sb,nb,pw2⟩:=y;obtain⟨mid,r1,r2⟩:=Runs.append.mp hR;obtain⟨rfl,q1,q2,rfl,q4,q5,r3⟩:=r2;have hle:=r3.le;refine ziX (i:=pre.length) (sa:=sa) (na:=na) (pw:=pw) (sb:=sa+na) (nb:=nb) (pw2:=pw2) hC hB (by rw [hp]; simp) (by rw [hp]; simp) rfl q1 q4 #[O] q2 q5 fun kW mR qv hk hs=>?_
 refine h kW (sa,na+nb,pw) mR (by rw [qv,hp,zj9]) (fun k oC=>hk k #[O]) ?_;refine Runs.append.mpr ⟨sa,r1.keep fun k _ b=>hk k #[O],rfl,#[O],?_,?_⟩
 ·rw [← Nat.add_assoc];exact hs
 ·rw [← Nat.add_assoc];exact r3.keep fun k a b=>hk k #[O]
theorem zlt {n:Nat} {c:Prop} [Decidable c] (h:¬ n≤1):(if c then n - 2 - 1 else n - 2)+2≤n:=by
 by_cases hc:c
 ·rw [if_pos hc];lia
 ·rw [if_neg hc];lia
theorem zkb {st:SortSt} {p:List (Nat×Nat×Nat)} {j hi:Nat} {Q:Bool→SortSt→Prop} (hj:j+2≤p.length) (hC:Cmp prog w A s κ val a₀) (hB:SB κ a₀ st) (hp:pendingOf st=p.toArray) (hR:Runs val (arrOf st) p 0 hi) (tI:hi≤a₀.size)
  (h:∀ kW p',SB κ a₀ kW→pendingOf kW=p'.toArray→Runs val (arrOf kW) p' 0 hi→p'.length+1=p.length→Q true kW):wpS (model prog w) A E s (mergeAt' j) Q st:=by
 obtain⟨pre,x,y,post,rfl,rfl⟩:=ziY hj;exact zgn hC hB hp hR tI fun kW v a b _ d=>h kW _ a b d (by simp only [aF,cF]; lia)
theorem zmT {st:SortSt} {Q:Unit→SortSt→Prop} (hC:Cmp prog w A s κ val a₀) (hB:SB κ a₀ st) (hp:pendingOf st = #[]) (h2:1≤a₀.size)
  (h:∀ kW,SB κ a₀ kW→SIn val (arrOf kW) 0 a₀.size→Q () kW):wpS (model prog w) A E s sortRuns' Q st:=by
 rw [sortRuns'_eq];refine ao (fB ?_);dsimp only;rw [hB.size];generalize minRun' a₀.size a₀.size 0=mr;refine ao (dk (cG (I:=fun x c kW=>∃ lo p,c=(none,lo)∧SB κ a₀ kW∧pendingOf kW=p.toArray∧Runs val (arrOf kW) p 0 lo∧lo≤a₀.size∧min x a₀.size≤lo)
  (Q:=fun c kW=>∃ p,c=(none,a₀.size)∧SB κ a₀ kW∧pendingOf kW=p.toArray∧Runs val (arrOf kW) p 0 a₀.size) ?step ?fin ⟨0,[],rfl,hB,hp,rfl,#[O],#[O]⟩) ?post)
 case fin =>
  rintro c kW ⟨lo,p,rfl,mR,qv,hR,nP,hx⟩;have:lo=a₀.size:=by lia
  subst this;exact⟨p,rfl,mR,qv,hR⟩
 case step =>
  rintro x c kW _ hx ⟨lo,p,rfl,mR,qv,hR,nP,xE⟩;dsimp only;by_cases nS:lo≥a₀.size
  ·rw [if_pos nS];have:lo=a₀.size:=by lia
   subst this;exact ap ⟨p,rfl,mR,qv,hR⟩
  rw [if_neg nS];refine ao (zlo hC #[O] #[O] (SF.refl mR) fun m o1 hF1 pW qw Ah=>?_);dsimp only;apply zom
  ·intro k1 k2;by_cases BE:m < mr
   ·rw [if_pos BE]
    (refine ao (gv (cT ⟨rfl,?_⟩)))
    refine ao (znL hC #[O] #[O] hF1 Ah fun mE uz o6=>?_);rw [if_neg #[D]];have qK:1≤min (a₀.size - lo) mr:=by lia
    have rA:lo+min (a₀.size - lo) mr≤a₀.size:=by lia
    generalize min (a₀.size - lo) mr=n at o6 qK rA ⊢
    revert rA; revert qK; revert o6; revert uz; revert mE; revert n
    exact k1 ()
   ·rw [if_neg BE];have rA:lo+m≤a₀.size:=by lia
    clear qw BE
    revert rA; revert pW; revert Ah; revert hF1; revert o1; revert m
    exact k2 ()
  intro n mE uz o6 qK rA;refine ao (fB ?_);have pg:pendingOf mE=p.toArray:=uz.pend.trans qv;have uA:Runs val (arrOf mE) p 0 lo:=hR.keep fun k _ b=>uz.low k b
  rcases i3 p with rfl | ⟨q,z,rfl⟩
  ·rw [pg];show wpS _ _ _ _ (do
    modify fun s=>setPending s ((pendingOf s).push (lo,n,0)); pure (cB (none,lo+n))) _ _
   refine ao (eW (ap ⟨lo+n,[(lo,n,0)],rfl,⟨uz.b.perm,uz.b.kind,uz.b.failed⟩,?_,?_,#[O],#[O]⟩))
   ·show (pendingOf mE).push _=_;rw [pg];rfl
   ·have h0:0=lo:=uA;subst h0;exact⟨rfl,qK,o6,rfl⟩
  obtain⟨s1,n1,w1⟩:=z;rw [pg,ga,show ((q++[(s1,n1,w1)]).toArray).back? = some (s1,n1,w1) by simp];rw [ga] at pg uA;dsimp only;generalize power' a₀.size (2*s1+n1) (2*s1+n1+n1+n) a₀.size=pw;refine ao (dk (cG (I:=fun _ c kW=>c=(none,())∧∃ q' z,SB κ a₀ kW∧pendingOf kW=(q'++[z]).toArray∧Runs val (arrOf kW) (q'++[z]) 0 lo∧(∀ k,lo≤k→(arrOf kW)[k]? = (arrOf mE)[k]?))
   (Q:=fun c kW=>c=(none,())∧∃ q' z,SB κ a₀ kW∧pendingOf kW=(q'++[z]).toArray∧Runs val (arrOf kW) (q'++[z]) 0 lo∧(∀ k,lo≤k→(arrOf kW)[k]? = (arrOf mE)[k]?)) ?_ (fun _ _ hh=>hh) ⟨rfl,q,(s1,n1,w1),uz.b,pg,uA,fun _ _=>rfl⟩) ?_)
  ·rintro x2 c mE _ tJ ⟨rfl,q',z,qC,nM,qN,oh⟩;refine ao (fB ?_);rcases i3 q' with rfl | ⟨q2,y,rfl⟩
   ·rw [nM,if_neg #[M]];exact ap ⟨rfl,[],z,qC,nM,qN,oh⟩
   rw [ga,bg] at nM qN;have esz:(pendingOf mE).size - 2=q2.length:=by rw [nM]; simp
   have eel:(if (pendingOf mE).size > 1 then (pendingOf mE)[(pendingOf mE).size - 2]? else none)=some y:=by
    rw [if_pos (by rw [nM]; simp),esz,nM];simp
   rw [eel];obtain⟨y1,y2,y3⟩:=y;dsimp only;by_cases ho:y3≤pw
   ·rw [if_pos ho];exact ap ⟨rfl,q2++[(y1,y2,y3)],z,qC,by rw [nM,bg],by rw [bg]; exact qN,oh⟩
   ·rw [if_neg ho,esz];refine ao (zgn hC qC nM qN #[O] fun yY v BF tq tj xF=>?_);rw [if_neg #[D]];exact ap ⟨rfl,q2,v,BF,tq,xF,fun k hk=>(tj k hk).trans (oh k hk)⟩
  ·rintro c mE ⟨rfl,q',z,qC,nM,qN,oh⟩;obtain⟨z1,z2,z3⟩:=z;dsimp only;refine ao (eW (ao (eW (ap ⟨lo+n,q'++[(z1,z2,pw),(lo,n,0)],rfl,⟨qC.perm,qC.kind,qC.failed⟩,?_,?_,#[O],#[O]⟩))))
   ·show ((pendingOf mE).modify ((pendingOf mE).size - 1) fun x=>(x.fst,x.2.fst,pw)).push (lo,n,0)=_;rw [nM,zka];simp
   ·show Runs val (arrOf mE) _ _ _;obtain⟨mid,r1,r2⟩:=Runs.append.mp qN;obtain⟨e1,e2,e3,e4⟩:=r2;have e4:mid+z2=lo:=e4;refine Runs.append.mpr ⟨mid,r1,e1,e2,e3,e4.symm,qK,?_,?_⟩
    ·intro i j a1 a2 a3;rw [zY (oh i #[O]),zY (oh j #[O])];exact o6 i j #[O] a2 #[O]
    ·show mid+z2+n=lo+n;lia
 case post =>
  rintro c o1 ⟨p,rfl,rZ,pg,uA⟩;dsimp only;have nO:=uA.le;refine ao (dk (cG (I:=fun x c kW=>c=(none,())∧∃ p,SB κ a₀ kW∧pendingOf kW=p.toArray∧Runs val (arrOf kW) p 0 a₀.size∧p.length≤max 1 (a₀.size - x))
   (Q:=fun c kW=>c=(none,())∧SB κ a₀ kW∧SIn val (arrOf kW) 0 a₀.size) ?_ ?_ ⟨rfl,p,rZ,pg,uA,#[O]⟩) ?_)
  ·rintro x c mE _ hx ⟨rfl,p2,qC,nM,qN,rR⟩;refine ao (fB ?_);have hsz:(pendingOf mE).size=p2.length:=by rw [nM]; simp
   rw [hsz];by_cases hle:p2.length≤1
   ·rw [if_pos hle];exact ap ⟨rfl,qC,zh1 hle h2 qN⟩
   rw [if_neg hle];refine ao (zkb (p:=p2) (zlt hle) hC qC nM qN (ah _) fun yY p3 BF tq xF BG=>?_);rw [if_neg #[D]];exact ap ⟨rfl,p3,BF,tq,xF,#[O]⟩
  ·rintro c mE ⟨rfl,p2,qC,nM,qN,rR⟩;exact⟨rfl,qC,zh1 #[O] h2 qN⟩
  ·rintro c mE ⟨rfl,qC,hS⟩;exact ap (h mE qC hS)
end
end Srt
end
section
namespace Srt
open PySem PyProof.Rows
def num (B:Int):List Int→Int
 | []=>0
 | n :: r=>n*B ^ r.length+num B r
theorem num_rng {B:Int} (hB:1≤B):∀ {ns:List Int},(∀ n∈ns,0≤n∧n < B)→0≤num B ns∧num B ns < B ^ ns.length
 | [],_=>by simp [num]
 | n :: r,h=>by
  obtain⟨h1,h2⟩:=num_rng hB (ns:=r) fun m hm=>h m (aw _ hm)
  obtain⟨a,b⟩:=h n #[M];have hp:0 < B ^ r.length:=Int.pow_pos #[O];have e:B ^ (n :: r).length=B ^ r.length*B:=by rw [cF,ig]
  show 0≤n*B ^ r.length+num B r∧n*B ^ r.length+num B r < _;rw [e];have h3:0≤n*B ^ r.length:=Int.mul_nonneg a #[O];have h4:n*B ^ r.length≤(B - 1)*B ^ r.length:=c8 #[O] #[O];have h5:(B - 1)*B ^ r.length=B ^ r.length*B - B ^ r.length:=by rw [Int.sub_mul,Int.one_mul,eH]
  lia
def zgo:List Int→List Int→Bool
 | [],[]=>false
 | [],_ :: _=>true
 | _ :: _,[]=>false
 | x :: xs,y :: ys=>if x=y then zgo xs ys else decide (x < y)
theorem zcm (x y:Int) (xs ys:List Int):zgo (x :: xs) (y :: ys)=if x=y then zgo xs ys else decide (x < y):=rfl
theorem zh2 {B:Int} (hB:1≤B):∀ {ms ns:List Int},ms.length=ns.length→(∀ n∈ms,0≤n∧n < B)→(∀ n∈ns,0≤n∧n < B)→zgo ms ns=decide (num B ms < num B ns)
 | [],[],_,_,_=>by simp [zgo,num]
 | [],_ :: _,h,_,_=>by simp at h
 | _ :: _,[],h,_,_=>by simp at h
 | m :: ms,n :: ns,hl,h1,h2=>by
  have sQ:ms.length=ns.length:=by simpa using hl
  have ih:=zh2 hB sQ (fun x hx=>h1 x (aw _ hx)) (fun x hx=>h2 x (aw _ hx));obtain⟨a1,a2⟩:=num_rng hB fun x hx=>h1 x (aw m hx)
  obtain⟨b1,b2⟩:=num_rng hB fun x hx=>h2 x (aw n hx)
  rw [zcm];show _=decide (m*B ^ ms.length+num B ms < n*B ^ ns.length+num B ns);rw [sQ] at a2 ⊢;have hp:0 < B ^ ns.length:=Int.pow_pos #[O];by_cases e:m=n
  ·rw [if_pos e,ih,e];rw [dX];simp only [decide_eq_true_eq];lia
  ·rw [if_neg e,dX];simp only [decide_eq_true_eq];have key:∀ x y:Int,x < y→x*B ^ ns.length+B ^ ns.length≤y*B ^ ns.length:=fun x y hxy=>by
    have:=c8 (show x+1≤y by lia) (show 0≤B ^ ns.length by lia);rw [Int.add_mul,Int.one_mul] at this;exact this
   constructor
   ·intro h;have:=key m n h;lia
   ·intro h;rcases jR m n with h3 | h3 | h3
    ·exact h3
    ·exact absurd h3 e
    ·have:=key n m h3;lia
section
variable {prog:Program} {w:World} {A:Around} {E:Value→Shared→Prop} {s:Shared}
theorem zh3 {Q:Bool→Shared→Prop} {fin:Bool}:∀ {xs ys:List Value} {ms ns:List Int} (i:Nat),IntsAre xs ms→IntsAre ys ns→ms.length=ns.length→Q (if ms=ns then fin else zgo ms ns) s→PySem.W.KatLex prog w A true fin Q (xs.zip ys) i s
 | [],[],[],[],i,_,_,_,h=>PySem.W.kat_nil (by simpa using h)
 | _ :: _,_,[],_,_,hx,_,_,_=>by cases hx
 | [],_,_ :: _,_,_,hx,_,_,_=>by cases hx
 | _,[],_,_ :: _,_,_,hy,_,_=>by cases hy
 | _,_ :: _,_,[],_,_,hy,_,_=>by cases hy
 | x :: xs,y :: ys,m :: ms,n :: ns,i,hx,hy,hl,h=>by
  cases hx with
  | cons _ t hx =>
   cases hy with
   | cons _ u hy =>
    refine PySem.W.kat_cons (wpAny_eqBool_int ?_);by_cases e:m=n
    ·rw [show (m == n)=true by simpa using e];refine PySem.W.kat_yes (zh3 (i+1) hx hy (by simpa using hl) ?_);subst e;rw [zcm,if_pos rfl] at h;simpa using h
    ·rw [show (m == n)=false by simpa using e];have lC:¬ (m :: ms=n :: ns):=fun z=>e (List.cons.inj z).1
     rw [if_neg lC,zcm,if_neg e] at h;refine PySem.W.kat_no ?_;by_cases hi:i=0
     ·subst hi;exact oneLt_int h
     ·have hb:(true && i == 0)=false:=by simp [hi]
      rw [hb];exact PySem.W.kat_one _ _ (wpAny_lt_int h)
end
end Srt
end
section
namespace PySem
open PyProof.Rows
end PySem
end
section
namespace Srt
open PySem PyProof.Rows
section
variable {prog:Program} {w:World} {A:Around} {E:Value→Shared→Prop} {s:Shared} {κ:SortKind} {val:Keyed→Int}
theorem zdj {vs:List Value} {p:Keyed} (h:p∈(pairsOf vs).toList):p.1∈vs∧p.2=p.1:=by
 rw [i4] at h;obtain⟨i,hi,e⟩:=dR h;rw [List.getElem_zip] at e;rw [← e];exact⟨dm _,rfl⟩
theorem zmU {vs:List Value} {xs:Array Keyed} (hp:xs.Perm (pairsOf vs)) (hs:SIn val xs 0 (pairsOf vs).size):(xs.map (·.2)).toList.Perm vs∧(xs.map (·.2)).toList.Pairwise fun x y=>val (x,x)≤val (y,y):=by
 (have hl:xs.toList.Perm (vs.zip vs):=by rw [← i4]; exact eZ.mp hp)
 have hm:∀ p∈xs.toList,p=(p.2,p.2):=fun p qv=>by
  have:=zdj (by rw [i4]; exact hl.mem_iff.mp qv);exact Prod.ext this.2.symm rfl
 constructor
 ·rw [ii];refine (hl.map (·.2)).trans ?_;rw [show (vs.zip vs).map (·.2)=vs from List.map_snd_zip (ah _)]
 ·rw [ii,db,dE];intro i j hi hj nk
  (have mj:i < xs.size:=by simpa using hi)
  (have nc:j < xs.size:=by simpa using hj)
  have h1:=hs i j (bp _) #[O] (by rw [← hp.size_eq]; exact nc);rw [zO (getElem?_pos xs i mj),zO (getElem?_pos xs j nc)] at h1;have e1:=hm xs.toList[i] (dm _);have e2:=hm xs.toList[j] (dm _);rw [← e1,← e2];simpa using h1
theorem ziZ {a:Addr} {vs:List Value} {n:Nat} {P:PySem.Fin→Shared→Prop} (ho:s.heap.get? a=some (seqObj "list" vs.toArray n)) (kY:vs.length≤sizeLine)
  (o7:∀ h',(∀ b o,b≠a→s.heap.get? b=some o→h'.get? b=some o)→2≤vs.length→∀ (Q:SortKind→Shared→Prop) (E:Value→Shared→Prop),Q κ { s with heap:=h' }→wpAny (model prog w) A (keyKind' vs.toArray) Q E { s with heap:=h' })
  (ph:∀ h',(∀ b o,b≠a→s.heap.get? b=some o→h'.get? b=some o)→Cmp prog w A { s with heap:=h' } κ val (pairsOf vs))
  (h:∀ out:Array Value,out.toList.Perm vs→(out.toList.Pairwise fun x y=>val (x,x)≤val (y,y))→P (.done (.ret .none)) { s with heap:=sortedHeap s.heap a vs out }):wpAny (model prog w) A (Builtin.«list.sort» ⟨[.ref a],[]⟩) P E s:=by
 rw [list_sort_plain]
 (have ha:a < s.heap.objs.size:=aK ho)
 have hz:vs.toArray.size=vs.length:=au;refine ae (listItems_at ho rfl (ae (jn ho rfl ?_ (hsz:=by rw [hz]; exact kY))))
 (obtain⟨e1,tO⟩:∃ e1,(s.heap.update a (cr fun _=>#[])).get? a=some (seqObj "list" #[] e1):=⟨_,get?_update_seq ho (fun _=>#[])⟩)
 refine ae (j4 tO rfl (ae (wpAny_newTuple (ae (wpAny_newList (bS ?_))) (hsz:=kY))));have Ai:(((s.heap.update a (cr fun _=>#[])).push (seqObj "tuple" vs.toArray 0)).push (seqObj "list" #[] 0)).get? a=some (seqObj "list" #[] e1):=ak _ (ak _ tO);have hk6:∀ b o,b≠a→s.heap.get? b=some o→(((s.heap.update a (cr fun _=>#[])).push (seqObj "tuple" vs.toArray 0)).push (seqObj "list" #[] 0)).get? b=some o:=fun b o hb e=>ak _ (ak _ ((jt _ _ _ _ hb).trans e))
 (show wpAny (model prog w) A _ P E { s with heap:=((s.heap.update a (cr fun _=>#[])).push (seqObj "tuple" vs.toArray 0)).push (seqObj "list" #[] 0) })
 dsimp only;have hcm:=ph _ hk6;have fin:∀ kW:SortSt,SB κ (pairsOf vs) kW∨(arrOf kW=pairsOf vs∧failedOf kW=none)→SIn val (arrOf kW) 0 (pairsOf vs).size →
   P (.done (.ret .none)) { s with heap:=sortedHeap s.heap a vs ((arrOf kW).map (·.2)) }:=fun kW hB hs=>by
  have hp:(arrOf kW).Perm (pairsOf vs):=by
   rcases hB with hB | hB
   ·exact hB.perm
   ·rw [hB.1]
  obtain⟨b1,b2⟩:=zmU hp hs;exact h _ b1 b2
 (by_cases h2:vs.toArray.size < 2)
 ·rw [if_pos h2,if_pos h2];refine ae (aj ?_); rw [StateT.run_pure]; refine ae (aj ?_);dsimp only;refine ae (j4 Ai rfl (ae (jn Ai rfl ?_ (hsz2:=by rw [kB]; show (pairsOf vs).size≤_; rw [ij]; lia))))
  (simp only [bne_self_eq_false,aG,if_false])
  refine aj (fin (kt general' (vs.toArray.zip vs.toArray) #[] 7 none) (.inr ⟨rfl,rfl⟩) fun i j _ nk hj=>?_);have e:i=j:=by rw [ij] at hj; lia
  rw [e];exact bC _
 ·rw [if_neg h2,if_neg h2];refine ae (o7 _ hk6 #[O] _ _ ?_);refine ae (cJ (zmT (a₀:=pairsOf vs) (κ:=κ) (val:=val) (st:=kt κ (vs.toArray.zip vs.toArray) #[] 7 none) (Q:=fun _ kW=>SB κ (pairsOf vs) kW∧SIn val (arrOf kW) 0 (pairsOf vs).size)
   hcm ⟨Array.Perm.refl _,rfl,rfl⟩ rfl (by rw [ij]; lia) fun kW a1 a2=>⟨a1,a2⟩) ?_ fun _ _ e=>e)
  rintro⟨⟨⟩,kW⟩ s' ⟨rfl,hB,hs⟩;dsimp only;refine ae (j4 Ai rfl (ae (jn Ai rfl ?_ (hsz2:=bi (Nat.le_of_eq ((kB ..).trans (hB.perm.size_eq.trans (ij _)))) #[O]))));rw [hB.failed]
  (simp only [bne_self_eq_false,aG,if_false])
  exact aj (fin kW (.inl hB) hs)
theorem zeX {v:Value} {vs:List Value} {Q:Value→Shared→Prop} (kY:vs.length≤sizeLine)
  (BH:∀ R:List Value→Shared→Prop,(∀ (h':Heap) (tk:Nat),(∀ b o,s.heap.get? b=some o→h'.get? b=some o)→R vs { s with heap:=h',toks:=tk })→wpAny (model prog w) A.in1 (collect v) R E s)
  (o7:∀ s',(∀ b o,s.heap.get? b=some o→s'.heap.get? b=some o)→2≤vs.length→∀ (A':Around) (Q:SortKind→Shared→Prop) (E:Value→Shared→Prop),Q κ s'→wpAny (model prog w) A' (keyKind' vs.toArray) Q E s')
  (ph:∀ s' A',(∀ b o,s.heap.get? b=some o→s'.heap.get? b=some o)→Cmp prog w A' s' κ val (pairsOf vs))
  (h:∀ (h':Heap) (tk:Nat) (out:Array Value) (e:Nat) (D:Addr),(∀ b o,s.heap.get? b=some o→h'.get? b=some o)→(∀ b o,s.heap.get? b=some o→b < D)→h'.get? D=some (seqObj "list" out e)→out.toList.Perm vs→(out.toList.Pairwise fun x y=>val (x,x)≤val (y,y))→Q (.ref D) { s with heap:=h',toks:=tk }) :
  wpAny (model prog w) A (call (.builtin "sorted") [v]) Q E s:=by
 refine Calls.call_function_entry kind_sorted plain_sorted entry_sorted (args_sorted1 _) ?_; unfold Builtin.«sorted»;refine ae (m:=checkCount "sorted" 1 1 _) (aj (ae (cJ (BH (fun us s'=>us=vs∧∃ (h':Heap) (tk:Nat),s' = { s with heap:=h',toks:=tk }∧∀ b o,s.heap.get? b=some o→h'.get? b=some o) fun h' tk k=>⟨rfl,h',tk,rfl,k⟩) ?_ fun _ _ e=>e)));rintro us s' ⟨rfl,h1,tk,rfl,kk⟩;refine ae (wpAny_newList ?_ (hsz:=kY));have wY:(h1.push (seqObj "list" us.toArray 0)).get? h1.objs.size=some (seqObj "list" us.toArray 0):=aJ _ rfl;have kn:∀ b o,s.heap.get? b=some o→b≠h1.objs.size:=fun b o e=>ba (aK (kk b o e))
 refine ae (bS (cf slot_list_sort ⟨_,wY,rfl⟩ entry_list_sort (ziZ (κ:=κ) (val:=val) wY kY (fun h' hk h2 Q E hq=>o7 _ (fun b o e=>hk b o (kn b o e) (ak _ (kk b o e))) h2 _ Q E hq) (fun h' hk=>ph _ _ fun b o e=>hk b o (kn b o e) (ak _ (kk b o e))) fun out a1 a2=>⟨_,rfl,?_⟩) (args_list_sort _)));obtain⟨e,he⟩:=sortedHeap_at (out:=out) wY;refine aj ⟨_,rfl,h _ tk out e h1.objs.size (fun b o x=>?_) (fun b o x=>aK (kk _ _ x)) he a1 a2⟩;rw [sortedHeap_old (kn b o x) (by rw [bK]; exact cN (aK (kk _ _ x)))];exact ak _ (kk _ _ x)
end
end Srt
end
section
namespace L2
open PySem PySem.Spec PyProof.Rows PySem.Builtin.Str
theorem Inv.above {X:Cx} {kS:List (Addr×Obj)} {σ:St} {H:Hp} {s:Shared} {h':Heap} {tk:Nat} {D:Addr} {o:HO} (I:Inv X kS σ H s) (k:∀ b o,s.heap.get? b=some o→h'.get? b=some o) (hD:∀ b o,s.heap.get? b=some o→b < D)
  (new:zaJ X.prog X.w (kX H D o) h' D o):H D=none∧Inv X kS σ (kX H D o) { s with heap:=h',toks:=tk }:=by
 have hn:H D=none:=by
  cases e:H D with
  | none=>rfl
  | some u =>
   obtain⟨ob,z⟩:=zmR (I.hok D u e);exact absurd (hD D ob z) (bW _)
 have hL:X.env.locals < D:=by
  obtain⟨m,⟨o,es,ep,ho,_⟩,_⟩:=I.loc;exact hD _ _ ho
 have I1:Inv X kS σ H { s with heap:=h',toks:=tk }:=I.kept k;refine⟨hn,I1.track hn (hU (jD I.ok.above hL)) (ba hL) (fun x c e z=>?_) (fun p hp z=>?_) new⟩
 ·obtain⟨v,oc,q,_⟩:=I.cell x c e;exact absurd (hD c oc q) (by rw [z]; exact bW _)
 ·exact absurd (hD p.1 _ (I.pin p hp).1) (by rw [z]; exact bW _)
end L2
end
section
namespace L2
open PySem PySem.Spec PyProof.Rows Srt
def zkc (xs:List V):List Int:=xs.filterMap fun x=>match x with
 | .int n=>some n
 | _=>none
theorem zi0 (ns:List Int):zkc (ns.map V.int)=ns:=by
 unfold zkc;rw [gI];induction ns with
 | nil=>rfl
 | cons n ns ih =>
  rw [cv];simp only [kG];rw [ih]
def zbY (H:Hp) (v:Value):List Int:=match v with
 | .ref a=>(match H a with
  | some (.tup xs)=>zkc xs
  | _=>[])
 | _=>[]
theorem zc1 {H:Hp} {a:Addr} {ns:List Int} (h:H a=some (.tup (ns.map V.int))):zbY H (.ref a)=ns:=by
 unfold zbY;simp only [h];exact zi0 ns
def zhb (H:Hp) (k:Nat) (B:Int) (ps:List (Addr×List Int)):Prop:=∀ q∈ps,H q.1=some (.tup (q.2.map V.int))∧q.2.length=k∧∀ n∈q.2,0≤n∧n < B
theorem zdk:∀ {ps:List (Addr×List Int)} {us:List Value},zE (ps.map fun q=>V.ref q.1) us→us=ps.map fun q=>a8 q.1
 | [],_,r=>by cases r; rfl
 | q :: ps,_,r=>by
  cases r with
  | cons r1 r2 =>
   cases r1;rw [zdk r2];rfl
theorem zbR:∀ (ps:List (Addr×List Int)),zE (ps.map fun q=>V.ref q.1) (ps.map fun q=>a8 q.1)
 | []=>.nil
 | q :: ps=>.cons rfl (zbR ps)
section
variable {X:Cx} {kS:List (Addr×Obj)} {σ:St} {H:Hp} {s:Shared} {k:Nat} {B:Int} {ps:List (Addr×List Int)}
theorem zfv (I:Inv X kS σ H s) {q:Addr×List Int} (h:H q.1=some (.tup (q.2.map V.int))):∃ o kU n,s.heap.get? q.1=some o∧o.cls = .type "tuple"∧o.data = .seq kU n∧IntsAre kU.toList q.2:=by
 obtain⟨kU,r,⟨o,ho,hc,n,hd⟩,hz⟩:=I.tuple (kZ.of h);exact⟨o,kU.toArray,n,ho,hc,hd,by simpa using intsAre_of r⟩
theorem zkd (I:Inv X kS σ H s) (hT:zhb H k B ps) (hk:1≤k) {s':Shared} (kk:∀ b o,s.heap.get? b=some o→s'.heap.get? b=some o):∃ fs:List Value,PySem.W.KatTups s'.heap (ps.map fun q=>a8 q.1) fs∧fs.length=ps.length∧∀ v∈fs,∃ n t,v=dH n t:=by
 induction ps with
 | nil=>exact⟨[],trivial,rfl,fun v hv=>by cases hv⟩
 | cons q ps ih =>
  obtain⟨fs,h1,h2,h3⟩:=ih fun q' o2=>hT q' (aw _ o2)
  obtain⟨hq,hl,_⟩:=hT q #[M];obtain⟨o,kU,n,ho,hc,hd,hi⟩:=zfv I hq;have kY:=hi.length;obtain⟨m,ms,e⟩:∃ m ms,q.2=m :: ms:=by
   cases e:q.2 with
   | nil=>rw [e] at hl; simp at hl; lia
   | cons m ms=>exact⟨m,ms,rfl⟩
  rw [e] at hi;cases e2:kU.toList with
  | nil=>rw [e2] at hi; cases hi
  | cons f fr =>
   rw [e2] at hi;cases hi with
   | cons _ t hi =>
    refine⟨.int m t :: fs,kR (kk _ _ ho) hc hd ?_ h1,by simp [h2],fun v hv=>?_⟩
    ·rw [← aS,e2];rfl
    ·rcases (aH.mp hv) with rfl | hv
     ·exact⟨m,t,rfl⟩
     ·exact h3 v hv
theorem zeY:∀ ms:List Int,zgo ms ms=false
 | []=>rfl
 | m :: ms=>by rw [zcm,if_pos rfl,zeY ms]
theorem zke (I:Inv X kS σ H s) (hT:zhb H k B ps) (hB:1≤B) {s':Shared} {A':Around} (kk:∀ b o,s.heap.get? b=some o→s'.heap.get? b=some o) :
  Cmp X.prog X.w A' s' (tuples' true) (fun p=>num B (zbY H p.1)) (pairsOf (ps.map fun q=>a8 q.1)):=by
 intro x y hx hy Q E hQ;obtain⟨qx,mx,ex⟩:=az.mp (zdj hx).1;obtain⟨qy,my,ey⟩:=az.mp (zdj hy).1;obtain⟨tf,tJ,hx3⟩:=hT qx mx;obtain⟨hy1,Aj,hy3⟩:=hT qy my;obtain⟨ox,ix,nx,gx,cx,dx,ax⟩:=zfv I tf;obtain⟨oy,iy,ny,gy,cy,dy,ay⟩:=zfv I hy1;have ev:decide ((fun p:Keyed=>num B (zbY H p.1)) x < (fun p:Keyed=>num B (zbY H p.1)) y)=zgo qx.2 qy.2:=by
  rw [zh2 hB (tJ.trans Aj.symm) hx3 hy3,← zc1 tf,← zc1 hy1];simp only [ex,ey]
 rw [ev] at hQ;rw [← ex,← ey];refine PySem.W.kat_lt (kk _ _ gx) dx (kk _ _ gy) dy (zh3 0 ax ay (tJ.trans Aj.symm) ?_);have hsz:decide (ix.size < iy.size)=false:=by
  have e1:=ax.length;have e2:=ay.length;rw [av] at e1 e2;exact decide_eq_false #[O]
 rw [hsz];by_cases e:qx.2=qy.2
 ·rw [if_pos e];rw [e,zeY] at hQ;exact hQ
 ·rw [if_neg e];exact hQ
theorem zgp (hT:zhb H k B ps) {out:Array Value} (hp:out.toList.Perm (ps.map fun q=>a8 q.1)) (hs:out.toList.Pairwise fun x y=>num B (zbY H x)≤num B (zbY H y)) :
  ∃ lN:List (Addr×List Int),lN.Perm ps∧(lN.Pairwise fun a b=>num B a.2≤num B b.2)∧out.toList=lN.map fun q=>a8 q.1:=by
 let g:Value→Addr×List Int:=fun v=>match v with
  | .ref a=>(a,zbY H (.ref a))
  | _=>(0,[])
 have hg:∀ q∈ps,g (.ref q.1)=q:=fun q hq=>Prod.ext rfl (zc1 (hT q hq).1)
 have hv:∀ v∈out.toList,∃ q∈ps,v = .ref q.1:=fun v hv=>by
  obtain⟨q,hq,e⟩:=az.mp (hp.mem_iff.mp hv);exact⟨q,hq,e.symm⟩
 refine⟨out.toList.map g,?_,?_,?_⟩
 ·refine (hp.map g).trans ?_;rw [cj];have:ps.map (g ∘ fun q=>a8 q.1)=ps:=by
   conv=>rhs; rw [← j5 ps]
   exact cz fun q hq=>hg q hq
  rw [this]
 ·rw [db];refine ik (fun {x y} hx hy h=>?_) hs;obtain⟨q,hq,rfl⟩:=hv x hx;obtain⟨q',o2,rfl⟩:=hv y hy;exact h
 ·rw [cj]
  conv=>lhs; rw [← j5 out.toList]
  refine cz fun v uB=>?_
  obtain⟨q,hq,rfl⟩:=hv v uB;rfl
end
theorem zeZ {M:Model} {h:Heap} {n:Int} {t:Tok}:PySem.W.Looks M h (typeOf (.int n t)) (.type "int"):=PySem.W.Looks.of_pure rfl
theorem zfw {X:Cx}:za8 X (.builtin "sorted") (fun xs H Q=>∃ (p:Addr) (k:Nat) (B:Int) (ps:List (Addr×List Int)),xs = [.ref p]∧kT X.K H p (ps.map fun q=>V.ref q.1)∧zhb H k B ps∧1≤k∧1≤B ∧
  ∀ (l:Addr) (lN:List (Addr×List Int)),H l=none→lN.Perm ps→(lN.Pairwise fun a b=>num B a.2≤num B b.2)→Q (.ref l) (kX H l (.lst (lN.map fun q=>V.ref q.1)))):=by
 intro kS s σ H xs us Q I r h;obtain⟨p,k,B,ps,rfl,hq,hT,hk,hB,q⟩:=h;obtain⟨u,rfl,rx⟩:=vals1 r;cases rx;obtain⟨kU,rv,pl,hz⟩:=I.list hq;have ev:=zdk rv;subst ev;rw [ab] at hz;refine zeX (vs:=ps.map fun q=>a8 q.1) (κ:=tuples' true) (val:=fun p=>num B (zbY H p.1)) (by rw [ab]; exact hz) (fun R hR=>?_) (fun s' kk h2 A' Q' E' o2=>?_) (fun s' A' kk=>zke I hT hB kk) fun h' tk out e D kk hD vF hp hs=>?_
 ·exact collect_list pl.isList (hR _ _ fun b o e=>(jt _ _ _ _ (ba (aK e))).trans (ak _ e)) (by rw [ab]; exact hz)
 ·obtain⟨fs,k1,k2,k3⟩:=zkd I hT hk kk;exact kb (T:=.type "int") k1 (by rw [ab] at h2; lia) (fun v hv=>by obtain⟨n,t,rfl⟩:=k3 v hv; exact zeZ) rfl o2
 ·obtain⟨lN,p1,p2,p3⟩:=zgp hT hp hs;have hl:=p1.length_eq;obtain⟨hn,I2⟩:=I.above (tk:=tk) (D:=D) (o:=.lst (lN.map fun q=>V.ref q.1)) kk hD ⟨by rw [ab]; lia,lN.map fun q=>a8 q.1,e,zbR lN,by rw [← p3]; exact vF⟩;exact⟨.ref D,_,I2,rfl,q D lN hn p1 p2⟩
end L2
end
section
namespace L2
open PySem PySem.Spec PyProof.Rows
section
variable {X:Cx} {elt t1 i1 t2 i2:Expr} {f1 f2:List Expr} {scope:Scope} {pos:Pos} {N':List Str} {ix:List (Option Nat)} {wD tP:List Nat} {g1 g2:TG} {Ak wF:TT} {te:TE} {xG vG:TI}
theorem zkf (hc:X.calm=true) (xH:GS tP g2) (wG:∀ s₃ H₃ ex kS,PI (zB X N' scope s₃ H₃ ex kS) t2 i2 vG)
  (pZ:∀ s₃ H₃ ex kS,PG (zB X N' scope s₃ H₃ ex kS) t2 g2) (xI:∀ s₃ H₃ ex kS,zcP (zB X N' scope s₃ H₃ ex kS) f2 wF) (he:∀ s₃ H₃ ex kS,PE (zB X N' scope s₃ H₃ ex kS) elt te)
  (o6:∀ s₃ H₃ ex kS x,foldedSetIterable i2 (zB X N' scope s₃ H₃ ex kS).env x=pure x) :
  ∀ s₃ H₃ ex kS D,PM (zB X N' scope s₃ H₃ ex kS) D tP ((fun D env=>zhN (.ListComp elt [⟨t1,i1,f1,0⟩,⟨t2,i2,f2,0⟩] scope pos) i2 1 (.ref D) env) D (zB X N' scope s₃ H₃ ex kS).env) (zhP vG g2 wF (zhO te)):=by
 intro s₃ H₃ ex kS D;have h:=zmM (Y:=zB X N' scope s₃ H₃ ex kS) (D:=D) (js:=tP) (js':=[]) (elt:=elt) (gens:=[⟨t1,i1,f1,0⟩,⟨t2,i2,f2,0⟩]) (scope:=scope) (pos:=pos) (d:=1) (p:=i2.pos) hc rfl xH (fun _ _ z=>by cases z) (wG s₃ H₃ ex kS) (pZ s₃ H₃ ex kS) (xI s₃ H₃ ex kS) (zg4 rfl (he s₃ H₃ ex kS)) rfl (fun it=>zmN it D _) (o6 s₃ H₃ ex kS);rw [cP] at h;exact h
theorem zlu (SC:CompSc X N' ix scope) (hc:X.calm=true) (BI:GS wD g1) (xH:GS tP g2) (ni:∀ j∈wD,j∉tP) (rT:∀ j∈wD++tP,ix[j]? = some none) (Al:PI X t1 i1 xG)
  (p8:∀ s₃ H₃ ex kS,PG (zB X N' scope s₃ H₃ ex kS) t1 g1) (BJ:∀ s₃ H₃ ex kS,zcP (zB X N' scope s₃ H₃ ex kS) f1 Ak) (wG:∀ s₃ H₃ ex kS,PI (zB X N' scope s₃ H₃ ex kS) t2 i2 vG)
  (pZ:∀ s₃ H₃ ex kS,PG (zB X N' scope s₃ H₃ ex kS) t2 g2) (xI:∀ s₃ H₃ ex kS,zcP (zB X N' scope s₃ H₃ ex kS) f2 wF) (he:∀ s₃ H₃ ex kS,PE (zB X N' scope s₃ H₃ ex kS) elt te)
  (hs:∀ x,foldedSetIterable i1 X.env x=pure x:=by intro _; rfl) (o6:∀ s₃ H₃ ex kS x,foldedSetIterable i2 (zB X N' scope s₃ H₃ ex kS).env x=pure x:=by intros; rfl) :
  PE X (.ListComp elt [⟨t1,i1,f1,0⟩,⟨t2,i2,f2,0⟩] scope pos) (zfm ix xG g1 Ak (zhP vG g2 wF (zhO te))) :=
 zgc SC hc BI ni rT Al p8 BJ (zkf hc xH wG pZ xI he o6) (fun it D env=>zjN it D env) hs
theorem zhc {i:Nat} {x:Str} {pos' nQ:Pos} (hN:X.N.Nodup) (xl:X.N[i]? = some x) (hx:Loc X.env.scope x) (SC:CompSc X N' ix scope) (hc:X.calm=true) (BI:GS wD g1) (xH:GS tP g2) (ni:∀ j∈wD,j∉tP) (rT:∀ j∈wD++tP,ix[j]? = some none) (Al:PI X t1 i1 xG)
  (p8:∀ s₃ H₃ ex kS,PG (zB X N' scope s₃ H₃ ex kS) t1 g1) (BJ:∀ s₃ H₃ ex kS,zcP (zB X N' scope s₃ H₃ ex kS) f1 Ak) (wG:∀ s₃ H₃ ex kS,PI (zB X N' scope s₃ H₃ ex kS) t2 i2 vG)
  (pZ:∀ s₃ H₃ ex kS,PG (zB X N' scope s₃ H₃ ex kS) t2 g2) (xI:∀ s₃ H₃ ex kS,zcP (zB X N' scope s₃ H₃ ex kS) f2 wF) (he:∀ s₃ H₃ ex kS,PE (zB X N' scope s₃ H₃ ex kS) elt te)
  (xm:swapsWith (.ListComp elt [⟨t1,i1,f1,0⟩,⟨t2,i2,f2,0⟩] scope pos) (some (.Name x pos')) nQ.line X.env=pure true:=by rfl)
  (hs:∀ x,foldedSetIterable i1 X.env x=pure x:=by intro _; rfl) (o6:∀ s₃ H₃ ex kS x,foldedSetIterable i2 (zB X N' scope s₃ H₃ ex kS).env x=pure x:=by intros; rfl) (hf:X.fn x=true∨X.env.scope.names.lookup x=some .local:=by first | exact .inl rfl | exact .inr rfl | assumption) :
  PS X (.Assign [.Name x pos'] (.ListComp elt [⟨t1,i1,f1,0⟩,⟨t2,i2,f2,0⟩] scope pos) nQ) (zgW (zfm ix xG g1 Ak (zhP vG g2 wF (zhO te))) (zaK i)) :=
 zdt hN xl hx SC hc BI ni rT Al p8 BJ (zkf hc xH wG pZ xI he o6) (fun it D env=>zjN it D env) xm hs hf
end
theorem ze0 {J:It} {n:Nat} {g:TG} {ts:TT} {tm:TM} {σ0:St} {Q:List V→Hp→Prop} {ys:List V} {H:Hp} (Pv:Nat→List V→Hp→Prop) (h0:Pv 0 ys H) (vg:∀ i ys H,i < n→Pv i ys H→J.go i H) (lW:∀ ys H,Pv n ys H→J.stop n H)
  (hs:∀ i x ys H H',i < n→Pv i ys H→J.yld i H x H'→g x σ0 H' fun σ2 H2=>ts σ2 H2 fun b H3=>if b=true then tm ys σ2 H3 (Pv (i+1)) else Pv (i+1) ys H3)
  (hd:∀ ys H,Pv n ys H→Q ys H):cIn g ts tm σ0 J Q ys H:=by
 refine⟨fun i m ys H=>m=n - i∧i≤n∧Pv i ys H,⟨n,#[M],bp _,h0⟩,?_⟩;rintro i m ys H ⟨rfl,hi,p⟩;by_cases k9:i < n
 ·exact .inr ⟨vg i ys H k9 p,Pv (i+1),fun o9 H' p'=>⟨n - (i+1),#[O],rfl,k9,p'⟩,fun x H' y=>hs i x ys H H' k9 p y⟩
 ·have e:i=n:=by lia
  subst e;exact .inl ⟨lW ys H p,hd ys H p⟩
def zmV (sc:Scope) (x:Str):Bool:=match sc.names.lookup x with
 | some .local=>true
 | some .cell=>true
 | some .free=>true
 | _=>false
theorem zlv {sc:Scope} {x:Str} (h:zmV sc x=true):Vis sc x:=by
 unfold zmV at h;unfold Vis;cases e:sc.names.lookup x with
 | none=>rw [e] at h; cases h
 | some k=>cases k <;> simp_all
def pvB (N:List Str) (sc:Scope) (i:Nat) (x:Str):Bool:=decide (N[i]? = some x) && zmV sc x && !(x == ("__debug__" : Str)) && !(x == ("__classdict__" : Str))
theorem pvx {X:Cx} (i:Nat) {x:Str} {pos:Pos} (h:pvB X.N X.env.scope i x=true):PE X (.Name x pos) (znm i):=by
 unfold pvB at h;simp only [di,Bool.not_eq_true',decide_eq_true_eq] at h;exact zmt h.1.1.1 (zlv h.1.1.2) h.1.2 h.2
end L2
end
section
namespace My
open PySem L2 PyProof.Rows
theorem Paired.get {α β:Type} {F:α→β→Prop}:∀ {l₁:List α} {l₂:List β},Paired F l₁ l₂→∀ {i:Nat} {a:α},l₁[i]? = some a→∃ b,l₂[i]? = some b∧F a b
 | _,_,.nil,i,a,h=>by simp at h
 | _,_,.cons r t,0,a,h=>by
  (simp only [iA,jS] at h)
  subst h;exact⟨_,rfl,r⟩
 | _,_,.cons r t,i+1,a,h=>by
  rw [dS] at h;obtain⟨b,hb,f⟩:=Paired.get t h;exact⟨b,by rw [dS]; exact hb,f⟩
def quo (p r:Int):List Int→List Int
 | []=>[]
 | [_]=>[]
 | _ :: d :: cs=>z9 p r (d :: cs) :: quo p r (d :: cs)
theorem zh4 (p r:Int):∀ (c:Int) (cs:List Int),(quo p r (c :: cs)).length=cs.length
 | _,[]=>rfl
 | _,d :: cs=>by
  show (quo p r (d :: cs)).length+1=cs.length+1;rw [zh4 p r d cs]
theorem zkg {p r x:Int}:∀ d:List Int,Cg p (z9 p x d - z9 p r d) ((x - r)*z9 p x (quo p r d))
 | []=>Cg.of_eq (by show (0:Int) - 0=(x - r)*0; lia)
 | [c]=>by
  have h1:Cg p (z9 p x [c]) (c+x*0):=zaA p x c [];have h2:Cg p (z9 p r [c]) (c+r*0):=zaA p r c [];refine (h1.sub h2).trans (Cg.of_eq ?_);show c+x*0 - (c+r*0)=(x - r)*0;lia
 | c :: d :: cs=>by
  have h1:=zaA p x c (d :: cs);have h2:=zaA p r c (d :: cs);have ih:=zkg (p:=p) (r:=r) (x:=x) (d :: cs);have h3:Cg p (z9 p x (quo p r (c :: d :: cs))) (z9 p r (d :: cs)+x*z9 p x (quo p r (d :: cs))):=zaA p x _ _;have h4:=(Cg.refl p (x - r)).mul h3;have h5:=(Cg.refl p x).mul ih;refine (h1.sub h2).trans (Cg.symm (h4.trans ?_));refine (Cg.of_eq (show _=(x - r)*z9 p r (d :: cs)+x*((x - r)*z9 p x (quo p r (d :: cs))) by grind)).trans ?_;refine ((Cg.refl p ((x - r)*z9 p r (d :: cs))).add h5.symm).trans (Cg.of_eq (by grind))
theorem zgq {p r:Int}:∀ d:List Int,Cg p (z9 p r d) 0→(∀ c∈quo p r d,Cg p c 0)→∀ c∈d,Cg p c 0
 | [],_,_,c,hc=>by cases hc
 | [a],h,_,c,hc=>by
  obtain rfl:c=a:=by simpa using hc
  have h1:Cg p (z9 p r [c]) (c+r*0):=zaA p r c [];exact ((Cg.of_eq #[O]).trans h1.symm).trans h
 | a :: d :: cs,h,hq,c,hc=>by
  have h0:Cg p (z9 p r (d :: cs)) 0:=hq _ aL;rcases (aH.mp hc) with rfl | hc
  ·have h1:=zaA p r c (d :: cs);have h2:=(Cg.refl p r).mul h0;have h3:=(h1.symm.trans h).sub h2;exact (Cg.of_eq #[O]).trans (h3.trans (Cg.of_eq #[O]))
  ·exact zgq (d :: cs) h0 (fun c hc=>hq c (aw _ hc)) c hc
theorem zi1 {p a y:Int} (hp:p∈zp) (ha0:a % p≠0) (h:Cg p (a*y) 0):Cg p y 0:=by
 have rp:=zan hp;have g0:=aQ a (show p≠0 by lia);have g1:=aB a (show 0 < p by lia);have hi:=zjW hp (h:=a % p) #[O] g1;have h1:Cg p (inv p (a % p)*(a % p)*y) (1*y):=hi.mul (Cg.refl p y);have h2:Cg p (inv p (a % p)*(a % p)*y) (inv p (a % p)*(a*y)):=by
  have:=((Cg.refl p (inv p (a % p))).mul (Cg.emod p a)).mul (Cg.refl p y);exact this.trans (Cg.of_eq (by grind))
 have h3:=(Cg.refl p (inv p (a % p))).mul h;exact (Cg.of_eq #[O]).trans (h1.symm.trans (h2.trans (h3.trans (Cg.of_eq #[O]))))
theorem zd5 {p:Int} (hp:p∈zp):∀ (n:Nat) (d xs:List Int),d.length=n→n≤xs.length→xs.Nodup→(∀ x∈xs,0≤x∧x < p)→(∀ x∈xs,Cg p (z9 p x d) 0)→∀ c∈d,Cg p c 0
 | 0,d,xs,hd,_,_,_,_,c,hc=>by
  rw [dU] at hd;subst hd;cases hc
 | n+1,d,[],hd,hx,_,_,_,c,hc=>by simp at hx
 | n+1,[],r :: xs,hd,hx,_,_,_,c,hc=>by cases hc
 | n+1,a :: cs,r :: xs,hd,hx,uC,xJ,hz,c,hc=>by
  have rp:=zan hp;obtain⟨r0,r1⟩:=xJ r aL;have hr:=hz r aL;refine zgq (a :: cs) hr (zd5 hp n (quo p r (a :: cs)) xs (by rw [zh4]; simpa using hd) (by simpa using hx) (cQ.mp uC).2 (fun x h=>xJ x (aw _ h)) fun x h=>?_) c hc;obtain⟨x0,x1⟩:=xJ x (aw _ h);have lC:x≠r:=fun e=>(cQ.mp uC).1 (e ▸ h)
  have he:=zkg (p:=p) (r:=r) (x:=x) (a :: cs);have h0:=(hz x (aw _ h)).sub hr;refine zi1 hp (a:=x - r) (fun e=>?_) (he.symm.trans (h0.trans (Cg.of_eq #[O])));have:Cg p x r:=by
   have h1:Cg p (x - r) 0:=Cg.of_mod (by rw [e]; simp);have h2:=h1.add (Cg.refl p r);exact (Cg.of_eq #[O]).trans (h2.trans (Cg.of_eq #[O]))
  exact lC (this.eq x0 x1 r0 r1)
def IsP (p:Int) (k:Nat) (q:List Int):Prop:=q.length=k∧∀ c∈q,0≤c∧c < p
def zfx (p:Int) (k:Nat) (qs:List (List Int)):Prop:=(∀ q∈qs,IsP p k q)∧qs.Pairwise fun a b=>Srt.num p a < Srt.num p b
theorem zh5 {B:Int} (hB:1≤B):∀ {a b:List Int},a.length=b.length→(∀ n∈a,0≤n∧n < B)→(∀ n∈b,0≤n∧n < B)→Srt.num B a=Srt.num B b→a=b
 | [],[],_,_,_,_=>rfl
 | c :: a,d :: b,h,ha,hb,e=>by
  have h':a.length=b.length:=by simpa using h
  have ra:=Srt.num_rng hB (ns:=a) fun n hn=>ha n (aw _ hn)
  have rb:=Srt.num_rng hB (ns:=b) fun n hn=>hb n (aw _ hn)
  have e':c*B ^ a.length+Srt.num B a=d*B ^ b.length+Srt.num B b:=e;rw [← h'] at e' rb;generalize B ^ a.length=M at e' ra rb;have hM:0 < M:=by lia
  have rN:c=d:=by
   have e2:(c - d)*M=Srt.num B b - Srt.num B a:=by
    rw [Int.sub_mul];lia
   rcases (jR c d) with k9 | heq | hgt
   ·have:(c - d)*M≤(-1)*M:=c8 #[O] #[O];lia
   ·exact heq
   ·have:1*M≤(c - d)*M:=c8 #[O] #[O];lia
  subst rN;rw [zh5 hB h' (fun n hn=>ha n (aw _ hn)) (fun n hn=>hb n (aw _ hn)) #[O]]
 | [],_ :: _,h,_,_,_=>by simp at h
 | _ :: _,[],h,_,_,_=>by simp at h
theorem zh6 {p:Int} (hp:1≤p) {k:Nat} {qs:List (List Int)} (h1:∀ q∈qs,IsP p k q) (h2:qs.Nodup) (h3:qs.Pairwise fun a b=>Srt.num p a≤Srt.num p b):zfx p k qs:=by
 refine⟨h1,?_⟩;have h4:=h3.and h2;refine ik (fun {a b} ha hb h=>?_) h4;have lC:Srt.num p a≠Srt.num p b:=fun e=>h.2 (zh5 hp ((h1 a ha).1.trans (h1 b hb).1.symm) (h1 a ha).2 (h1 b hb).2 e)
 have:=h.1;lia
theorem zfx.tail {p:Int} {k:Nat} {q:List Int} {qs:List (List Int)} (h:zfx p k (q :: qs)):zfx p k qs:=⟨fun x hx=>h.1 x (aw _ hx),(et.mp h.2).2⟩
theorem zfy {p:Int} {k:Nat}:∀ {as bs:List (List Int)},zfx p k as→zfx p k bs→(∀ q,q∈as↔q∈bs)→as=bs
 | [],[],_,_,_=>rfl
 | [],b :: bs,_,_,h=>by
  have:=(h b).mpr aL;cases this
 | a :: as,[],_,_,h=>by
  have:=(h a).mp aL;cases this
 | a :: as,b :: bs,ha,hb,h=>by
  have pa:=(et.mp ha.2).1;have pb:=(et.mp hb.2).1;have e:a=b:=by
   rcases (aH.mp ((h a).mp aL)) with e | ma
   ·exact e
   ·rcases (aH.mp ((h b).mpr aL)) with e | mb
    ·exact e.symm
    ·have:=pb a ma;have:=pa b mb;lia
  subst e;rw [zfy ha.tail hb.tail fun q=>?_];have hq:=h q;rw [aH,aH] at hq;constructor
  ·intro m;rcases (hq.mp (.inr m)) with rfl | z
   ·exact absurd (pa q m) #[O]
   ·exact z
  ·intro m;rcases (hq.mpr (.inr m)) with rfl | z
   ·exact absurd (pb q m) #[O]
   ·exact z
def sm:Nat→(Nat→Int)→Int
 | 0,_=>0
 | n+1,f=>sm n f+f n
theorem zL {f g:Nat→Int}:∀ {n:Nat},(∀ i,i < n→f i=g i)→sm n f=sm n g
 | 0,_=>rfl
 | n+1,h=>by
  show sm n f+f n=sm n g+g n;rw [zL (n:=n) fun i hi=>h i #[O],h n #[O]]
theorem zkh {p:Int} {f g:Nat→Int}:∀ {n:Nat},(∀ i,i < n→Cg p (f i) (g i))→Cg p (sm n f) (sm n g)
 | 0,_=>Cg.refl _ _
 | n+1,h=>(zkh (n:=n) fun i hi=>h i #[O]).add (h n #[O])
theorem zdl {f g:Nat→Int}:∀ n:Nat,sm n (fun i=>f i+g i)=sm n f+sm n g
 | 0=>rfl
 | n+1=>by
  show sm n (fun i=>f i+g i)+(f n+g n)=sm n f+f n+(sm n g+g n);rw [zdl n];lia
theorem za7 {c:Int} {f:Nat→Int}:∀ n:Nat,sm n (fun i=>c*f i)=c*sm n f
 | 0=>by show (0:Int)=c*0; lia
 | n+1=>by
  show sm n (fun i=>c*f i)+c*f n=c*(sm n f+f n);rw [za7 n,Int.mul_add]
theorem zak {f:Nat→Int}:∀ {n:Nat},(∀ i,i < n→f i=0)→sm n f=0
 | 0,_=>rfl
 | n+1,h=>by
  show sm n f+f n=0;rw [zak (n:=n) fun i hi=>h i #[O],h n #[O]];rfl
theorem zki {f:Nat→Int} {j:Nat}:∀ {n:Nat},j < n→(∀ i,i < n→i≠j→f i=0)→sm n f=f j
 | 0,hj,_=>by lia
 | n+1,hj,h=>by
  show sm n f+f n=f j;by_cases e:j=n
  ·subst e;rw [zak fun i hi=>h i #[O] #[O]];lia
  ·rw [zki (n:=n) #[O] fun i hi lC=>h i #[O] lC,h n #[O] #[O]];lia
theorem zaQ {f:Nat→Int}:∀ n:Nat,sm (n+1) f=f 0+sm n (fun i=>f (i+1))
 | 0=>by show (0:Int)+f 0=f 0+0; lia
 | n+1=>by
  show sm (n+1) f+f (n+1)=f 0+(sm n (fun i=>f (i+1))+f (n+1));rw [zaQ n];lia
theorem zdK {f:Nat→Nat→Int} (m:Nat):∀ n:Nat,sm n (fun i=>sm m (fun j=>f i j))=sm m (fun j=>sm n fun i=>f i j)
 | 0=>(zak fun _ _=>rfl).symm
 | n+1=>by
  show sm n (fun i=>sm m (fun j=>f i j))+sm m (fun j=>f n j)=sm m (fun j=>sm n (fun i=>f i j)+f n j);rw [zdK m n,← zdl]
theorem zaX {f:Nat→Int} {m:Nat}:∀ {n:Nat},m≤n→(∀ i,m≤i→i < n→f i=0)→sm n f=sm m f
 | 0,h,_=>by rw [show m=0 by lia]
 | n+1,h,hz=>by
  by_cases e:m=n+1
  ·rw [e]
  ·show sm n f+f n=_;rw [zaX (n:=n) #[O] fun i h1 h2=>hz i h1 #[O],hz n #[O] #[O]];lia
def gl (w:List Int) (y:Nat):Int:=w.getD y 0
theorem zaS {w:List Int} {y:Nat} {c:Int} (h:w[y]? = some c):gl w y=c:=by
 unfold gl;rw [am,h];rfl
theorem zaw {w:List Int} {y:Nat} (h:w.length≤y):gl w y=0:=by
 unfold gl;rw [am,bq h];rfl
theorem zb9 {w:List Int} {y:Nat} (h:y < w.length):w[y]? = some (gl w y):=by
 rw [ai h,zaS (ai h)]
theorem zmW {v w:List Int} (hl:v.length=w.length) (h:∀ y,y < v.length→gl v y=gl w y):v=w:=by
 refine cO fun y=>?_
 by_cases hy:y < v.length
 ·rw [zb9 hy,zb9 #[O],h y hy]
 ·rw [bq #[O],bq #[O]]
theorem zh7 {p x:Int}:∀ q:List Int,Cg p (z9 p x q) (sm q.length fun i=>gl q i*x ^ i)
 | []=>Cg.refl _ _
 | c :: q=>by
  refine (zaA p x c q).trans ?_;rw [cF,zaQ];have e:sm q.length (fun i=>gl (c :: q) (i+1)*x ^ (i+1))=x*sm q.length (fun i=>gl q i*x ^ i):=by
   rw [← za7];refine zL fun i _=>?_
   show gl q i*x ^ (i+1)=_;rw [ig];grind
  rw [e];refine Cg.add (Cg.of_eq ?_) ((Cg.refl p x).mul (zh7 q));show c=c*x ^ 0;rw [Int.pow_zero,Int.mul_one]
theorem zkj {p x:Int} {q:List Int} {n:Nat} (h:q.length≤n):Cg p (z9 p x q) (sm n fun i=>gl q i*x ^ i):=by
 rw [zaX h fun i h1 _=>by rw [zaw h1,bF]];exact zh7 q
def PtB (H:Hp):List Addr→List (Int×Int)→Prop:=Paired fun b q=>H b=some (.tup [.int q.1,.int q.2])
theorem PtB.same {H H':Hp} (s:zC H H') {bs:List Addr} {pts:List (Int×Int)} (h:PtB H bs pts):PtB H' bs pts:=fS (fun _ _ z=>s _ _ z) h
def zaB (H:Hp):List Addr→List (List Int)→Prop:=Paired fun r q=>H r=some (.tup (q.map V.int))
theorem zaB.same {H H':Hp} (s:zC H H') {rs:List Addr} {qs:List (List Int)} (h:zaB H rs qs):zaB H' rs qs:=fS (fun _ _ z=>s _ _ z) h
theorem zaB.of {H:Hp}:∀ {ps:List (Addr×List Int)},(∀ q∈ps,H q.1=some (.tup (q.2.map V.int)))→zaB H (ps.map (·.1)) (ps.map (·.2))
 | [],_=>.nil
 | a :: ps,h=>.cons (h a aL) (zaB.of fun q hq=>h q (aw _ hq))
theorem zcA {α β:Type} {F:α→β→Prop}:∀ {a:List α} {b:List β} {c:List α} {d:List β},Paired F a b→Paired F c d→Paired F (a++c) (b++d)
 | _,_,_,_,.nil,h=>h
 | _,_,_,_,.cons r t,h=>.cons r (zcA t h)
end My
end
section
namespace L2
open PySem PySem.Spec PyProof.Rows
def zmX (K:ag):R2:=fun x y H Q=>∃ a b xs ys,x = .ref a∧y = .ref b∧kZ K H a xs∧kZ K H b ys∧ys≠[]∧xs.length+ys.length≤sizeLine ∧
 (xs = []→Q (.ref b) H)∧(xs≠[]→∀ p,H p=none→Q (.ref p) (kX H p (.tup (xs++ys))))
theorem zi2 {X:Cx} {K:ag} (hK:X.K=K):OpR X (binaryOp .Add) (zmX K):=by
 subst hK;intro kS s σ H x y v u Q I rx ry h;obtain⟨a,b,xs,ys,rfl,rfl,ha,hb,hy,hz,q1,q2⟩:=h;by_cases hx:xs = []
 ·cases rx;cases ry;obtain⟨kU,r1,p1,_⟩:=I.tuple ha;obtain⟨o8,r2,p2,_⟩:=I.tuple hb;obtain⟨⟨cls,dd,data,sl⟩,ho,hc,n,hd⟩:=id p1;obtain⟨⟨AN,yZ,data2,y4⟩,oI,tz,n2,hd2⟩:=id p2;simp only at hc hd tz hd2;subst hc hd tz hd2;exact jx ⟨_,ho,rfl⟩ ⟨_,oI,rfl⟩ h7 jl fP fG (fk _ _)
   (tuple_addW0 a b kU.toArray o8.toArray n n2 dd yZ sl y4 (by simp [r1.nil_iff.mpr hx])) ⟨ho,oI,⟨.ref b,H,I,rfl,q1 hx⟩⟩
 ·exact zld kS s σ H _ _ v u Q I rx ry ⟨a,b,xs,ys,rfl,rfl,ha,hb,hx,hz,fun z=>absurd z hy,fun _=>q2 hx⟩
end L2
end
section
namespace My
open PySem L2 PyProof.Rows
theorem zhd {X:Cx} {st:Stmt} {ts:TS} (h:PS X st ts):PS X st (fun D σ H=>∃ Pv:L2.St→Hp→Prop,ts { D with nx:=Pv } σ H∧∀ σ' H',Pv σ' H'→D.nx σ' H'):=by
 intro kS s σ H D I hq;obtain⟨Pv,h1,h2⟩:=hq;refine thn (h kS s σ H _ I h1) fun f s1 q=>?_
 cases f with
 | next =>
  obtain⟨σ',H',I',p⟩:=q;exact⟨σ',H',I',h2 _ _ p⟩
 | ret v=>exact q
 | brk=>exact q
 | cont=>exact q
end My
end
section
namespace L2
open PySem PySem.Spec PyProof.Rows
theorem zh8 {X:Cx} {K:ag} {tg l:Expr} {tl:TE} (hK:X.K=K) (hl:PE X l tl):PI X tg l (znr K tl):=by subst hK; exact zdf hl
end L2
end
section
namespace HT
open PySem PySem.Spec PyProof.Rows
end HT
namespace L2
open PySem PySem.Spec PyProof.Rows
theorem zgr {X:Cx} {K:ag} {tg l:Expr} {tl:TE} (hK:X.K=K) (hl:PE X l tl):PI X tg l (zl8 K tl):=by subst hK; exact zaf hl
def znM:R2:=fun x y H Q=>∃ a b xs ys,x = .ref a∧y = .ref b∧H a=some (.tup xs)∧H b=some (.tup ys)∧xs.length+ys.length≤sizeLine∧ys≠[]∧∀ p H',zC H H'→H' p=some (.tup (xs++ys))→Q (.ref p) H'
theorem zlw {X:Cx}:OpR X (binaryOp .Add) znM:=by
 intro kS s σ H x y v u Q I rx ry h;obtain⟨a,b,xs,ys,rfl,rfl,ha,hb,hz,hy,q⟩:=h;refine zi2 rfl kS s σ H _ _ v u Q I rx ry ⟨a,b,xs,ys,rfl,rfl,kZ.of ha,kZ.of hb,hy,hz,fun e=>?_,fun _ p hp=>q p _ (fun b o z=>by rw [zl (fun e=>by rw [e,hp] at z; cases z)]; exact z) zc⟩;subst e;exact q b H (fun _ _ e=>e) hb
end L2
end
section
namespace My
open PySem L2 PyProof.Rows
def LsA (H:Hp):List Addr→List (List Int)→Prop:=Paired fun b v=>H b=some (.lst (v.map V.int))
theorem LsA.same {H H':Hp} (s:zC H H') {bs:List Addr} {vv:List (List Int)} (h:LsA H bs vv):LsA H' bs vv:=fS (fun _ _ z=>s _ _ z) h
theorem zmY {a b:List Int} (x:Nat):gl (a++b) x=if x < a.length then gl a x else gl b (x - a.length):=by
 unfold gl;rw [am,am,am];by_cases h:x < a.length
 ·rw [if_pos h,bG h]
 ·rw [if_neg h,bP #[O]]
end My
end
section
namespace L2
open PySem PySem.Spec PyProof.Rows
theorem zbE {X:Cx} (hc:X.calm=true):za8 X (.builtin "max") (fun xs H Q=>∃ (p:Addr) (ns:List Int),xs = [.ref p]∧kT X.K H p (ns.map V.int)∧ns≠[]∧∀ M:Int,M∈ns→(∀ a∈ns,a≤M)→Q (.int M) H):=by
 intro kS s σ H xs us Q I r h;obtain⟨p,ns,rfl,hq,hn,q⟩:=h;obtain⟨u,rfl,rx⟩:=vals1 r;cases rx;obtain⟨kU,rv,pl,hz⟩:=I.list hq;have hi:IntsAre kU ns:=by simpa using intsAre_of rv
 (obtain⟨xs,e⟩:=hi.allInts.items)
 have qt:ns=xs.toList.map (·.1):=by rw [← hi.numsOf,← jo,← e]
 have hsz:0 < xs.size:=by
  have h3:=ju.mpr hn;rw [qt,ab,av] at h3;exact h3
 have hl:=pl.isList;rw [e] at hl;refine max_intList (I.ok.hd hc) hl hsz fun v h' tk hv hk=>?_
 (obtain⟨t,rfl⟩:=gE hv)
 (obtain⟨h1,h2⟩:=argBest_gt (numAt xs) (xs.size - 1))
 refine⟨.int _,H,I.kept hk,⟨_,rfl⟩,q _ ?_ fun a ha=>?_⟩
 ·(rw [qt,il]; exact getD_mem (by rw [ab,av]; lia))
 ·rw [qt] at ha
  (obtain⟨j,hj,rfl⟩:=mem_getD ha)
  (rw [ab,av] at hj)
  (rw [← il]; exact h2 j #[O])
end L2
end
section
namespace PySem
open PyProof.Rows
section
variable {prog:Program} {w:World} {A:Around} {E:Value→Shared→Prop} {s:Shared}
theorem zd6 {id:String} {b:Builtin} {args:List Value} {kw:List (Str×Value)} {Q:Value→Shared→Prop} (hk:builtinKind id=none) (hp:plainId id=true) (hb:entryFor table id=some b) (ha:argsOk id ⟨args,kw⟩)
  (hc:wpAny (model prog w) A.in1 (b ⟨args,kw⟩) (fun fin s'=>match fin with
   | .done fl=>(match (Except.ok fl:Result) with | .ok (.ret v)=>Q v s' | .ok _=>False | .error e=>E e s')
   | .again c'=>c'.quiet=true∧codeAny (model prog w) A c' (fun r s'=>match r with | .ok (.ret v)=>Q v s' | .ok _=>False | .error e=>E e s') s') E s):wpAny (model prog w) A (call (.builtin id) args kw) Q E s:=by
 refine (kh (je hp hb ?_))
 (simp only [checkBuiltinCall,hk])
 cases hs:Manifest.signature? id with
 | none=>exact (aj hc)
 | some sg =>
  have a2:Bind.checkArgs id sg ⟨args,kw⟩=pure ():=by simpa only [argsOk,hs] using ha
  simp only [a2];exact (aj hc)
def Mm (nm lp:String) (op:CmpOp):Prop:=(nm = "max"∧lp = "max.loop"∧op = .Gt)∨(nm = "min"∧lp = "min.loop"∧op = .Lt)
theorem zkk {nm lp:String} {op:CmpOp} (hb:Mm nm lp op) (x d:Value):argsOk nm ⟨[x],[(bY "default",d)]⟩:=by rcases hb with ⟨rfl,_,_⟩ | ⟨rfl,_,_⟩ <;> (unfold argsOk; kernel_rfl)
theorem zlx {nm lp:String} {op:CmpOp} {R:Result→Shared→Prop} {I:Addr} {fp wr:List Addr} {n:Nat} {P:Nat→Value→Prop} {St:Nat→Heap→Prop} {kw:List (Str×Value)} (hb:Mm nm lp op) (W:Walks prog w A.in1 I fp wr n P St) (bt:Nat→Nat→Bool) (ph:CmpOf prog w A.in1 op P bt) (S:Addr) (sd:S∉fp) :
  ∀ (k j:Nat) (s:Shared) (vb:Value) (c:Nat),n - (j+1)=k→j+1≤n→St (j+1) s.heap→P (argBest bt j) vb→s.heap.get? S=some { cls:=.type "list",dict:=none,data:=.seq #[vb,vb] c,slots:=#[] }→(∀ v h' tk,P (argBest bt (n - 1)) v→(∀ b o,b∉wr→b≠S→s.heap.get? b=some o→h'.get? b=some o)→R (.ok (.ret v)) { s with heap:=h',toks:=tk })→codeAny (model prog w) A (.builtin lp ⟨[.ref I,.none,.ref S],kw⟩) R s:=by
 have hw:S∉wr:=fun h=>sd (W.sub _ h)
 have e1:(toString "max"++toString ".loop" : String) = "max.loop":=by decide
 have e2:(toString "min"++toString ".loop" : String) = "min.loop":=by decide
 intro k;induction k with
 | zero =>
  (intro j s vb c hk hj lW xK hS hR)
  obtain rfl:j+1=n:=by lia
  rcases hb with ⟨rfl,rfl,rfl⟩ | ⟨rfl,rfl,rfl⟩
  case' inl=>(have en:=fX; have pl:=fY; have ee:=e1)
  case' inr=>(have en:=fZ; have pl:=f9; have ee:=e2)
  all_goals
   (refine cC en ?_
    rw [b7 pl _];show wpAny _ A.in1 (seqItems? (a8 S) >>= _) _ _ s; refine (ae (dI hS rfl ?_));show wpAny _ A.in1 (tryCatch (pyNext (a8 I)) _ >>= _) _ _ s; refine (ae (eI (W.done s _ _ lW fun h' tk q=>?_)));show wpAny _ A.in1 (updateSeq S (fun _=>(#[]:Array Value)) >>= _) _ _ _; refine (ae (fe (q S _ hw hS) rfl (ae (iO (aj ?_)))));exact (hR vb _ tk xK fun b o h1 h2 e=>(bH _ _ (cD h2)).trans (q b o h1 e)))
 | succ k ih =>
  (intro j s vb c hk hj lW xK hS hR)
  (have k9:j+1 < n:=by lia)
  rcases hb with ⟨rfl,rfl,rfl⟩ | ⟨rfl,rfl,rfl⟩
  case' inl=>(have en:=fX; have pl:=fY; have ee:=e1)
  case' inr=>(have en:=fZ; have pl:=f9; have ee:=e2)
  all_goals
   (refine cC en ?_
    rw [b7 pl _];show wpAny _ A.in1 (seqItems? (a8 S) >>= _) _ _ s; refine (ae (dI hS rfl ?_));show wpAny _ A.in1 (tryCatch (pyNext (a8 I)) _ >>= _) _ _ s; refine (ae (eI (W.item (j+1) s _ _ k9 lW fun v h' tk hP pd q=>?_)));have tQ:=q S _ hw hS
    first
     | show wpAny _ A.in1 (tryCatch (holding [v,v] (richCompare CmpOp.Gt v vb >>= _)) _ >>= _) _ _ _; refine (ae (eI (bS (ae (ph (j+1) (argBest bt j) v vb _ _ _ hP xK ?_)))))
     | show wpAny _ A.in1 (tryCatch (holding [v,v] (richCompare CmpOp.Lt v vb >>= _)) _ >>= _) _ _ _; refine (ae (eI (bS (ae (ph (j+1) (argBest bt j) v vb _ _ _ hP xK ?_)))))
    refine (ae (bS (eB (ae (iO (aj ?_))))));cases eb:bt (j+1) (argBest bt j)
    ·(simp only [aG,if_false])
     refine (ae (iO ?_));rw [ee];refine (aj ⟨df pl _,ih (j+1) _ vb c #[O] k9 pd (by simp only [argBest,eb,aG,if_false]; exact xK) tQ fun v' h2 xM p2 q2=>?_⟩);exact (hR v' h2 xM p2 fun b o i1 i2 e=>q2 b o i1 i2 (q b o i1 e))
    ·simp only [if_true];refine (ae (fe tQ rfl (ae (iO ?_))));rw [ee];refine (aj ⟨df pl _,ih (j+1) _ v _ #[O] k9 (W.frame _ _ _ pd fun b BK o e=>?_) (by simp only [argBest,eb,if_true]; exact hP) (bD _ tQ rfl) fun v' h2 xM p2 q2=>?_⟩)
     ·exact (bH _ _ (fun h:S=b=>sd (h ▸ BK))).trans e
     ·exact (hR v' h2 xM p2 fun b o i1 i2 e=>q2 b o i1 i2 ((bH _ _ (cD i2)).trans (q b o i1 e))))
theorem zkl {nm lp:String} {op:CmpOp} {R:Result→Shared→Prop} {I:Addr} {fp wr:List Addr} {n:Nat} {P:Nat→Value→Prop} {St:Nat→Heap→Prop} {ds:Str} {d:Value} (hb:Mm nm lp op) (W:Walks prog w A.in1 I fp wr n P St) (bt:Nat→Nat→Bool) (ph:CmpOf prog w A.in1 op P bt) (S:Addr) (sd:S∉fp) {c:Nat} (lW:St 0 s.heap) (hS:s.heap.get? S=some { cls:=.type "list",dict:=none,data:=.seq #[] c,slots:=#[] })
  (hR:∀ v h' tk,(0 < n→P (argBest bt (n - 1)) v)→(n=0→v=d)→(∀ b o,b∉wr→b≠S→s.heap.get? b=some o→h'.get? b=some o)→R (.ok (.ret v)) { s with heap:=h',toks:=tk }) :
  codeAny (model prog w) A (.builtin lp ⟨[.ref I,.none,.ref S],[(ds,d)]⟩) R s:=by
 have hw:S∉wr:=fun h=>sd (W.sub _ h)
 have e1:(toString "max"++toString ".loop" : String) = "max.loop":=by decide
 have e2:(toString "min"++toString ".loop" : String) = "min.loop":=by decide
 have L:=@zlx prog w A nm lp op R I fp wr n P St [(ds,d)] hb W bt ph S sd;rcases hb with ⟨rfl,rfl,rfl⟩ | ⟨rfl,rfl,rfl⟩
 case' inl=>(have en:=fX; have pl:=fY; have ee:=e1)
 case' inr=>(have en:=fZ; have pl:=f9; have ee:=e2)
 all_goals
  (refine cC en ?_
   rw [b7 pl _];show wpAny _ A.in1 (seqItems? (a8 S) >>= _) _ _ s; refine (ae (dI hS rfl ?_));rcases Nat.eq_zero_or_pos n with hn | hn
   ·show wpAny _ A.in1 (tryCatch (pyNext (a8 I)) _ >>= _) _ _ s; refine (ae (eI (W.done s _ _ (hn ▸ lW) fun h' tk q=>?_)));show wpAny _ A.in1 (rule _ >>= fun _=>pure (Fin.done (Flow.ret d))) _ _ _
    (refine ae (cT (aj ?_)))
    exact hR d h' tk #[O] (fun _=>rfl) fun b o i1 _ e=>q b o i1 e
   ·show wpAny _ A.in1 (tryCatch (pyNext (a8 I)) _ >>= _) _ _ s; refine (ae (eI (W.item 0 s _ _ hn lW fun v h' tk hP pd q=>?_)));show wpAny _ A.in1 (updateSeq S (fun _=>(#[v,v]:Array Value)) >>= _) _ _ _; refine (ae (fe (q S _ hw hS) rfl ?_));rw [ee];refine (aj ⟨df pl _,L _ 0 _ v _ rfl hn (W.frame _ _ _ pd fun b BK o e=>?_) hP (bD _ (q S _ hw hS) rfl) fun v' h2 xM p2 q2=>?_⟩)
    ·exact (bH _ _ (fun h:S=b=>sd (h ▸ BK))).trans e
    ·exact (hR v' h2 xM (fun _=>p2) #[O] fun b o i1 i2 e=>q2 b o i1 i2 ((bH _ _ (cD i2)).trans (q b o i1 e))))
theorem zkm {nm lp:String} {op:CmpOp} {x d:Value} {Q:Value→Shared→Prop} (hb:Mm nm lp op)
  (h:wpAny (model prog w) A.in1 (pyIter x) (fun it s₂=>∃ I fp wr n P St bt,it = .ref I∧Walks prog w A.in1 I fp wr n P St∧St 0 s₂.heap∧(∀ b∈fp,b < s₂.heap.objs.size)∧CmpOf prog w A.in1 op P bt ∧
   ∀ v h' tk,(0 < n→P (argBest bt (n - 1)) v)→(n=0→v=d)→(∀ b o,b∉wr→s₂.heap.get? b=some o→h'.get? b=some o)→Q v { s₂ with heap:=h',toks:=tk }) E s) :
  wpAny (model prog w) A (call (.builtin nm) [x] [(bY "default",d)]) Q E s:=by
 have aa:=zkk hb x d;have nR:=hb;have e1:(toString "max"++toString ".loop" : String) = "max.loop":=by decide
 have e2:(toString "min"++toString ".loop" : String) = "min.loop":=by decide
 rcases hb with ⟨rfl,rfl,rfl⟩ | ⟨rfl,rfl,rfl⟩
 case' inl=>(have en:=fX; have pl:=fY; have ee:=e1)
 case' inr=>(have en:=fZ; have pl:=f9; have ee:=e2)
 case' inl =>
  refine zd6 F.kind_max F.plain_max F.entry_max aa ?_;show wpAny _ A.in1 (du "max" ["key","default"] 0 ⟨[],[(bY "default",d)]⟩ >>= _) _ _ s;refine ae (cc (show du "max" ["key","default"] 0 ⟨[],[(bY "default",d)]⟩=pure [none,some d] by kernel_rfl) ?_)
 case' inr =>
  refine zd6 F.kind_min F.plain_min F.entry_min aa ?_;show wpAny _ A.in1 (du "min" ["key","default"] 0 ⟨[],[(bY "default",d)]⟩ >>= _) _ _ s;refine ae (cc (show du "min" ["key","default"] 0 ⟨[],[(bY "default",d)]⟩=pure [none,some d] by kernel_rfl) ?_)
 all_goals
  (refine (ae (aj (ae (cJ h (fun it s₂ h2=>?_) fun _ _ e=>e))))
   obtain⟨I,fp,wr,n,P,St,bt,rfl,W,lW,BL,hc,q⟩:=h2;refine (ae (bU ?_));rw [ee];refine (aj ⟨df pl _,zkl nR W bt hc s₂.heap.objs.size (fun hm=>bW _ (BL _ hm)) (W.frame _ _ _ lW fun b _ o e=>ak _ e) (aJ _ rfl) fun v h' tk p1 p2 hk=>?_⟩);exact (q v h' tk p1 p2 fun b o i1 e=>hk b o i1 (ba (aK e)) (ak _ e)))
end
end PySem
namespace L2
open PySem PySem.Spec PyProof.Rows
def zon (K:ag) (gt:Bool) (d:Int) (td:TE):TE:=fun σ H Q=>td σ H fun x H1=>∃ (p:Addr) (ns:List Int),x = .ref p∧kT K H1 p (ns.map V.int) ∧
 ∀ M:Int,(ns = []→M=d)→(ns≠[]→M∈ns∧∀ a∈ns,if gt=true then a≤M else M≤a)→Q (.int M) H1
def mmN (gt:Bool):String:=if gt=true then "max" else "min"
theorem zoo (gt:Bool):Mm (mmN gt) (if gt=true then "max.loop" else "min.loop") (if gt=true then .Gt else .Lt):=by cases gt <;> simp [Mm,mmN]
theorem znN {prog:Program} {w:World} {A:Around} (gt:Bool) (xs:Array (Int×Tok)):CmpOf prog w A (if gt=true then .Gt else .Lt) (fun i v=>(intItems xs)[i]? = some v) (fun i j=>if gt=true then decide (numAt xs i > numAt xs j) else decide (numAt xs i < numAt xs j)):=by
 cases gt
 ·exact CmpOf.ints_lt (numAt xs) (fun _ _=>gE)
 ·exact CmpOf.ints_gt (numAt xs) (fun _ _=>gE)
theorem zmZ (gt:Bool) (f:Nat→Int):∀ n,argBest (fun i j=>if gt=true then decide (f i > f j) else decide (f i < f j)) n≤n∧∀ j,j≤n→if gt=true then f j≤f (argBest (fun i j=>if gt=true then decide (f i > f j) else decide (f i < f j)) n) else f (argBest (fun i j=>if gt=true then decide (f i > f j) else decide (f i < f j)) n)≤f j:=by
 cases gt
 ·exact fun n=>argBest_lt f n
 ·exact fun n=>argBest_gt f n
theorem zhe {X:Cx} (gt:Bool) {x:Str} {elt ev:Expr} {gs:List Comprehension} {sc:Scope} {cp:Pos} {d:Int} {td:TE} {p pos kp:Pos} (hc:X.calm=true) (hx:bootBuiltins x=some (.builtin (mmN gt))) (hg:Gl X x) (hm:X.mg x=none) (hv:PE X ev (tC (.int d))) (ho:PE X (.ListComp elt gs sc cp) td)
  (hn:x≠"__name__":=by decide) (va:(x == ("__debug__" : Str))=false:=by decide) :
  PE X (.Call (.Name x p) [.ListComp elt gs sc cp] [⟨some "default",ev,kp⟩] pos) (zon X.K gt d td):=by
 intro kS s σ H Q I h;refine dr (za5 I hg hm hx ?_ hn va);refine callWith_kw ?_;show wpAny _ _ (spliced ((false,eval (.ListComp elt gs sc cp) X.env) :: [])) _ _ s;refine gF (thn (ho kS s σ H _ I h) fun v s1 ⟨y,H1,I1,r1,q⟩=>?_);refine gT (kws_cons (thn (hv kS s1 σ H1 (fun z H2=>z = .int d∧H2=H1) I1 ⟨rfl,rfl⟩) fun u s2 ⟨z,H2,I2,r2,e1,e2⟩=>kws_nil ?_));subst e1 e2;obtain⟨a,ns,rfl,hq,q⟩:=q;cases r1;obtain⟨kU,rv,pl,hz⟩:=I2.list hq;have hi:IntsAre kU ns:=by simpa using intsAre_of rv
 obtain⟨xs,ex⟩:=hi.allInts.items;have qt:ns=xs.toList.map (·.1):=by rw [← hi.numsOf,← jo,← ex]
 have hl:=pl.isList;rw [ex] at hl;show wpAny _ _ (call (.builtin (mmN gt)) [.ref a] [(bY "default",u)]) _ _ _;refine zkm (zoo gt) (iter_intList hl fun s₂ e st BL hlI=>?_);subst e;refine⟨_,_,_,_,_,_,_,rfl,ku (A:=X.A.in1) (I2.ok.hd hc) _ a hlI (intItems xs),st,BL,znN gt xs,fun v h' tk p1 p2 hk=>?_⟩
 (have hsz:(intItems xs).size=xs.size:=by simp [intItems])
 have kY:ns.length=xs.size:=by rw [qt,ab,av]
 have I3:Inv X kS σ H2 { s2 with heap:=h',toks:=tk }:=I2.kept (old_kept hk);obtain⟨t2,rfl⟩:=r2;by_cases h0:xs.size=0
 ·obtain rfl:=p2 (by rw [hsz]; exact h0);refine⟨.int d,H2,I3,⟨_,rfl⟩,q d (fun _=>rfl) fun lC=>absurd (gk #[O]) lC⟩
 ·have uB:=p1 #[O];rw [hsz] at uB;obtain⟨t,rfl⟩:=gE uB;obtain⟨h1,h2⟩:=zmZ gt (numAt xs) (xs.size - 1);refine⟨.int _,H2,I3,⟨_,rfl⟩,q _ (fun h=>by rw [h] at kY; simp at kY; lia) fun _=>⟨?_,fun b hb=>?_⟩⟩
  ·(rw [qt,il]; exact getD_mem (by rw [ab,av]; lia))
  ·rw [qt] at hb;obtain⟨j,hj,rfl⟩:=mem_getD hb
   (rw [ab,av] at hj)
   (rw [← il]; exact h2 j #[O])
theorem zi3 {X:Cx} (hc:X.calm=true):za8 X (.builtin "min") (fun xs H Q=>∃ (p:Addr) (ns:List Int),xs = [.ref p]∧kT X.K H p (ns.map V.int)∧ns≠[]∧∀ M:Int,M∈ns→(∀ a∈ns,M≤a)→Q (.int M) H):=by
 intro kS s σ H xs us Q I r h;obtain⟨p,ns,rfl,hq,hn,q⟩:=h;obtain⟨u,rfl,rx⟩:=vals1 r;cases rx;obtain⟨kU,rv,pl,hz⟩:=I.list hq;have hi:IntsAre kU ns:=by simpa using intsAre_of rv
 (obtain⟨xs,e⟩:=hi.allInts.items)
 have qt:ns=xs.toList.map (·.1):=by rw [← hi.numsOf,← jo,← e]
 have hsz:0 < xs.size:=by
  have h3:=ju.mpr hn;rw [qt,ab,av] at h3;exact h3
 have hl:=pl.isList;rw [e] at hl;refine min_intList (I.ok.hd hc) hl hsz fun v h' tk hv hk=>?_
 (obtain⟨t,rfl⟩:=gE hv)
 (obtain⟨h1,h2⟩:=argBest_lt (numAt xs) (xs.size - 1))
 refine⟨.int _,H,I.kept hk,⟨_,rfl⟩,q _ ?_ fun a ha=>?_⟩
 ·(rw [qt,il]; exact getD_mem (by rw [ab,av]; lia))
 ·rw [qt] at ha
  (obtain⟨j,hj,rfl⟩:=mem_getD ha)
  (rw [ab,av] at hj)
  (rw [← il]; exact h2 j #[O])
theorem zax {X:Cx} {K:ag} (hK:X.K=K):za8 X (.type "tuple") (fun xs H Q=>∃ p ys,xs = [.ref p]∧((kT K H p ys∧∀ l,H l=none→Q (.ref l) (kX H l (.tup ys)))∨(kZ K H p ys∧Q (.ref p) H))):=by subst hK; exact z8
theorem zhf {X:Cx} {K:ag} (hK:X.K=K) (hc:X.calm=true):za8 X (.builtin "max") (fun xs H Q=>∃ (p:Addr) (ns:List Int),xs = [.ref p]∧kT K H p (ns.map V.int)∧ns≠[]∧∀ M:Int,M∈ns→(∀ a∈ns,a≤M)→Q (.int M) H):=by subst hK; exact zbE hc
end L2
end
section
namespace PySem
end PySem
end
section
namespace PySem
end PySem
namespace L2
open PySem PySem.Spec PyProof.Rows
end L2
end
section
namespace PySem
end PySem
namespace L2
open PySem PySem.Spec PyProof.Rows
end L2
end
section
namespace My
open PySem L2 PyProof.Rows
section
variable {K:ag}
theorem LsA.off {H:Hp} {l:Addr} {ls:List Addr} {vv:List (List Int)} (h:LsA H ls vv) (hl:H l=some (.lst (ls.map V.ref))):∀ (i:Nat) (b:Addr),ls[i]? = some b→b≠l:=by
 rintro i b hb rfl;obtain⟨v,_,hv⟩:=Paired.get h hb;rw [hl] at hv;cases ls with
 | nil=>simp at hb
 | cons x r =>
  cases v with
  | nil=>simp at hv
  | cons y z=>simp at hv
theorem LsA.setAt {H:Hp} {l D:Addr} {ls:List Addr} {vv:List (List Int)} {v:List Int} {j:Nat} (h:LsA H ls vv) (hl:H l=some (.lst (ls.map V.ref))) (hD:H D=some (.lst (v.map V.int))) (hn:D≠l) {o:HO}:LsA (kX H l o) (ls.set j D) (vv.set j v):=by
 have off:=h.off hl;clear hl;induction h generalizing j with
 | nil=>cases j <;> exact .nil
 | @cons b u bs us h1 h2 ih =>
  cases j with
  | zero =>
   refine .cons (by rw [zl hn]; exact hD) ?_;have ih0:LsA (kX H l o) bs us:=by
    have:=ih (j:=bs.length) fun i b' hb=>off (i+1) b' (by simpa using hb)
    rw [im (ah _),im (by rw [aV h2]; exact ah _)] at this;exact this
   exact ih0
  | succ j=>exact .cons (by rw [zl (off 0 b #[M])]; exact h1) (ih fun i b' hb=>off (i+1) b' (by simpa using hb))
theorem zbs {many:Nat} {base:Int} {ds:List Int} (h:zfq many base ds) {i:Int} (h0:0≤i) (h1:i < many):∃ d,atI (ds.map V.int) i=some (.int d)∧0≤d∧d < base:=by
 obtain⟨n,rfl⟩:∃ n:Nat,i=n:=⟨i.toNat,#[O]⟩;have hn:n < ds.length:=by rw [h.1]; lia
 refine⟨ds[n]'hn,zaO (by rw [af,ai hn]; rfl),h.2 _ (dm hn)⟩
theorem zd7 {H:Hp} {ls:List Addr} {vv:List (List Int)} (h:LsA H ls vv) {D:Addr} (hD:H D=none):D∉ls:=fun hm=>by
 obtain⟨i,hi⟩:=bN.mp hm;obtain⟨v,_,hv⟩:=Paired.get h hi;rw [hD] at hv;cases hv
theorem zfz {H H':Hp} {ls:List Addr} {vv:List (List Int)} {D:Addr} (hD:D∉ls) (k:∀ b o,b≠D→H b=some o→H' b=some o) (h:LsA H ls vv):LsA H' ls vv:=by
 induction h with
 | nil=>exact .nil
 | cons h1 _ ih=>exact .cons (k _ _ (fun e=>hD (by rw [← e]; exact aL)) h1) (ih fun z=>hD (aw _ z))
theorem zdw {α β:Type} {R:α→β→Prop}:∀ {as:List α} {bs:List β} {x:α} {y:β},Paired R (as++[x]) (bs++[y])→Paired R as bs∧R x y
 | [],[],_,_,h=>by cases h with | cons h1 _=>exact⟨.nil,h1⟩
 | [],b :: bs,_,_,h=>by have:=aV h; simp at this
 | a :: as,[],_,_,h=>by have:=aV h; simp at this
 | a :: as,b :: bs,_,_,h=>by
  cases h with
  | cons h1 h2 =>
   obtain⟨p1,p2⟩:=zdw h2;exact⟨.cons h1 p1,p2⟩
theorem zkn {H:Hp} {d:Nat} {x:V} (hx:zeO x=true):EqD K H d x x true:=by
 have h:=EqD.flat (K:=K) (H:=H) (d:=d) (x:=x) (y:=x) hx hx;have e:eqV x x=true:=by
  cases x <;> simp_all [eqV,zeO]
 rw [e] at h;exact h
theorem zly {H:Hp} {a b:Addr} {ms:List Int} (ha:H a=some (.tup (ms.map V.int))) (hb:H b=some (.tup (ms.map V.int))):EqD K H 8 (.ref a) (.ref b) true:=by
 by_cases lC:a=b
 ·subst lC;exact .same
 ·have h:=EqD.tups (K:=K) (H:=H) (d:=7) (e:=fun _=>true) lC (kZ.of ha) (kZ.of hb) fun j x y h1 h2=>by
   rw [h1] at h2;cases h2;obtain⟨z,rfl,_⟩:=zag h1;exact zkn rfl
  have e:((aI (min (ms.map V.int).length (ms.map V.int).length)).all (fun _=>true) && (ms.map V.int).length == (ms.map V.int).length)=true:=by simp
  rw [e] at h;exact h
theorem zh9 {H:Hp} {rs rs':List Addr} {qs:List (List Int)} (h1:zaB H rs qs) (h2:zaB H rs' qs):∀ (j:Nat) x y,(rs.map V.ref)[j]? = some x→(rs'.map V.ref)[j]? = some y→EqD K H 8 x y true:=fun j x y e1 e2=>by
 obtain⟨a,rfl,ha⟩:=zH e1;obtain⟨b,rfl,hb⟩:=zH e2;obtain⟨q,g1,g2⟩:=Paired.get h1 ha;obtain⟨q',g3,g4⟩:=Paired.get h2 hb;rw [g1] at g3;cases g3;exact zly g2 g4
def trm (j:Nat) (r:List Int) (m:Nat):List (Int×Int):=((aI m).filter fun i=>gl r i≠0).map fun i:Nat=>((i:Int),(j:Int))
def zW (rows:List (List Int)) (m:Nat):List (Int×Int):=(aI m).flatMap fun j=>trm j (rows.getD j []) (rows.getD j []).length
theorem zc2 (j:Nat) (r:List Int) (m:Nat):trm j r (m+1)=if gl r m≠0 then trm j r m++[((m:Int),(j:Int))] else trm j r m:=by
 unfold trm;rw [ff,gJ,aO];by_cases h:gl r m=0 <;> simp [h]
theorem zcn (rows:List (List Int)) (m:Nat):zW rows (m+1)=zW rows m++trm m (rows.getD m []) (rows.getD m []).length:=by
 unfold zW;rw [ff,List.flatMap_append];simp
theorem zdL (j:Nat) (r:List Int) (m:Nat):(trm j r m).length≤m:=by
 unfold trm;rw [ab];exact bi (eJ _ _) #[M]
def szs (k:Int) (ts:List (Int×Int)):List Int:=ts.map fun q=>q.1+(k - 1)*q.2
theorem zlz (k:Int) (ts:List (Int×Int)):(szs k ts).length=ts.length:=by simp [szs]
def RwA (H:Hp):List Addr→List (List Int)→Prop:=Paired fun b v=>H b=some (.lst (v.map V.int))∨H b=some (.tup (v.map V.int))
def wd (rows:List (List Int)):Nat:=rows.foldr (fun r m=>max r.length m) 0
theorem zia {rows:List (List Int)} {r:List Int} (h:r∈rows):r.length≤wd rows:=by
 induction rows with
 | nil=>cases h
 | cons a l ih =>
  show r.length≤max a.length (wd l);rcases (aH.mp h) with rfl | h
  ·exact iI _ _
  ·exact bi (ih h) (io _ _)
theorem zdm:∀ {rows:List (List Int)},rows≠[]→∃ r∈rows,r.length=wd rows
 | [],h=>absurd rfl h
 | a :: l,_=>by
  by_cases e:l = []
  ·subst e; exact⟨a,aL,by show _=max a.length 0; lia⟩
  ·obtain⟨r,hr,er⟩:=zdm e;by_cases h:wd l≤a.length
   ·exact⟨a,aL,by show _=max a.length (wd l); lia⟩
   ·exact⟨r,aw _ hr,by show _=max a.length (wd l); lia⟩
def zF (rows:List (List Int)):List Int:=rows.map fun r=>(r.length:Int)
theorem zd8 (rows:List (List Int)):(zF rows).length=rows.length:=by simp [zF]
theorem znO {rows:List (List Int)} {M:Int} (h0:zF rows = []→M=0) (h1:zF rows≠[]→M∈zF rows∧∀ a∈zF rows,if true=true then a≤M else M≤a):M=(wd rows:Int):=by
 by_cases e:rows = []
 ·subst e; exact h0 rfl
 ·obtain⟨m1,m2⟩:=h1 (by simpa [zF] using e);obtain⟨r,hr,rfl⟩:=az.mp m1;obtain⟨r',lH,e'⟩:=zdm e;have b1:=zia hr;have b2:=m2 _ (az.mpr ⟨r',lH,rfl⟩);rw [if_pos rfl] at b2;lia
theorem zib {xs:List V} {v:V}:atI (xs++[v]) (-1)=some v:=by
 unfold atI ixN;rw [if_neg #[D],if_pos (by rw [aF]; show -((xs.length+1:Nat):Int)≤-1; lia)];show (xs++[v])[(-1+((xs++[v]).length:Int)).toNat]? = some v;rw [aF,show (-1+((xs.length + [v].length:Nat):Int)).toNat=xs.length by show (-1+((xs.length+1:Nat):Int)).toNat=_; lia,bP (ah _),eK];rfl
end
def sh (b:Int):Nat→(Nat→Int)→Nat→Int
 | 0,_,_=>0
 | n+1,l,0=>l 0+b*sh b n (fun t=>l (t+1)) 0
 | n+1,l,j+1=>sh b n (fun t=>l (t+1)) j+b*sh b n (fun t=>l (t+1)) (j+1)
theorem zbt {b:Int}:∀ {n:Nat} {l:Nat→Int} {j:Nat},n≤j→sh b n l j=0
 | 0,_,_,_=>by simp [sh]
 | n+1,l,0,h=>by lia
 | n+1,l,j+1,h=>by
  rw [sh,zbt #[O],zbt #[O]]; simp
theorem zd9 {b:Int}:∀ {n:Nat} {u v:Nat→Int} {j:Nat},sh b n (fun t=>u t+v t) j=sh b n u j+sh b n v j
 | 0,_,_,_=>by simp [sh]
 | n+1,u,v,0=>by
  have h:=zd9 (b:=b) (n:=n) (u:=fun t=>u (t+1)) (v:=fun t=>v (t+1)) (j:=0);simp only [sh,h]; grind
 | n+1,u,v,j+1=>by
  have h:=zd9 (b:=b) (n:=n) (u:=fun t=>u (t+1)) (v:=fun t=>v (t+1)) (j:=j);have h':=zd9 (b:=b) (n:=n) (u:=fun t=>u (t+1)) (v:=fun t=>v (t+1)) (j:=j+1);simp only [sh,h,h']; grind
theorem zby {b c:Int}:∀ {n:Nat} {u:Nat→Int} {j:Nat},sh b n (fun t=>c*u t) j=c*sh b n u j
 | 0,_,_=>by simp [sh]
 | n+1,u,0=>by
  have h:=zby (b:=b) (c:=c) (n:=n) (u:=fun t=>u (t+1)) (j:=0);simp only [sh,h]; grind
 | n+1,u,j+1=>by
  have h:=zby (b:=b) (c:=c) (n:=n) (u:=fun t=>u (t+1)) (j:=j);have h':=zby (b:=b) (c:=c) (n:=n) (u:=fun t=>u (t+1)) (j:=j+1);simp only [sh,h,h']; grind
theorem zca {b:Int}:∀ {n:Nat} {u v:Nat→Int} {j:Nat},(∀ t,t < n→u t=v t)→sh b n u j=sh b n v j
 | 0,_,_,_,_=>by simp [sh]
 | n+1,u,v,0,h=>by
  rw [sh,sh,h 0 #[O],zca (n:=n) (v:=fun t=>v (t+1)) fun t ht=>h (t+1) #[O]]
 | n+1,u,v,j+1,h=>by
  have e:=fun i=>zca (b:=b) (n:=n) (u:=fun t=>u (t+1)) (v:=fun t=>v (t+1)) (j:=i) fun t ht=>h (t+1) #[O]
  rw [sh,sh,e j,e (j+1)]
theorem zcB {p b b':Int} (hb:Cg p b b'):∀ {n:Nat} {u v:Nat→Int} {j:Nat},(∀ t,t < n→Cg p (u t) (v t))→Cg p (sh b n u j) (sh b' n v j)
 | 0,_,_,_,_=>by simp only [sh]; exact Cg.refl _ _
 | n+1,u,v,0,h=>by
  simp only [sh];exact (h 0 #[O]).add (hb.mul (zcB hb fun t ht=>h (t+1) #[O]))
 | n+1,u,v,j+1,h=>by
  simp only [sh];exact (zcB hb fun t ht=>h (t+1) #[O]).add (hb.mul (zcB hb fun t ht=>h (t+1) #[O]))
theorem zfA {b:Int}:∀ {n:Nat} {f:Nat→Int} {j:Nat},f n=0→sh b (n+1) f j=sh b n f j
 | 0,f,0,h=>by simp [sh,h]
 | 0,f,j+1,h=>by simp [sh]
 | n+1,f,0,h=>by
  rw [sh,zfA (n:=n) (f:=fun t=>f (t+1)) h]; simp only [sh]
 | n+1,f,j+1,h=>by
  have e:=fun i=>zfA (b:=b) (n:=n) (f:=fun t=>f (t+1)) (j:=i) h
  rw [sh,e j,e (j+1)]; simp only [sh]
theorem zdM {b:Int} {n:Nat} {f:Nat→Int} {j:Nat}:∀ {m:Nat},n≤m→(∀ t,n≤t→t < m→f t=0)→sh b m f j=sh b n f j
 | m,h,z=>by
  induction m with
  | zero =>
   obtain rfl:n=0:=by lia
   rfl
  | succ m ih =>
   by_cases e:n=m+1
   ·rw [e]
   ·rw [zfA (z m #[O] #[O])];exact ih #[O] fun t h1 h2=>z t h1 #[O]
theorem zdN:∀ {n:Nat} {l:Nat→Int} {j:Nat},j < n→sh 0 n l j=l j
 | 0,_,_,h=>by lia
 | n+1,l,0,_=>by simp [sh]
 | n+1,l,j+1,h=>by
  rw [sh,zdN (n:=n) (l:=fun t=>l (t+1)) #[O]]; simp
theorem zic {b b':Int}:∀ {n:Nat} {l:Nat→Int} {j:Nat},sh b' n (sh b n l) j=sh (b+b') n l j
 | 0,_,_=>by simp [sh]
 | n+1,l,j=>by
  have hz:sh b n (fun t=>l (t+1)) n=0:=zbt (ah _);have ih:=fun i=>zic (b:=b) (b':=b') (n:=n) (l:=fun t=>l (t+1)) (j:=i)
  have e:sh b' (n+1) (sh b (n+1) l) j=sh b' (n+1) (fun t=>(if t=0 then l 0 else sh b n (fun t=>l (t+1)) (t - 1))+b*sh b n (fun t=>l (t+1)) t) j:=by
   refine zca fun t _=>?_
   cases t <;> simp [sh]
  rw [e,zd9,zby,zfA hz,ih];cases j with
  | zero =>
   simp only [sh,if_true];have e2:sh b' n (fun t=>if t+1=0 then l 0 else sh b n (fun t=>l (t+1)) (t+1 - 1)) 0=sh (b+b') n (fun t=>l (t+1)) 0:=by
    rw [← ih]; exact zca fun t _=>by simp
   rw [e2]; grind
  | succ j =>
   simp only [sh];have e2:∀ i,sh b' n (fun t=>if t+1=0 then l 0 else sh b n (fun t=>l (t+1)) (t+1 - 1)) i=sh (b+b') n (fun t=>l (t+1)) i:=fun i=>by
    rw [← ih]; exact zca fun t _=>by simp
   rw [e2,e2]; grind
def vl:Nat→(Nat→Int)→Int→Int
 | 0,_,_=>0
 | n+1,l,y=>l 0+y*vl n (fun t=>l (t+1)) y
def ch:Nat→Nat→Int
 | _,0=>1
 | 0,_+1=>0
 | t+1,j+1=>ch t j+ch t (j+1)
theorem zfB:∀ {t j:Nat},t < j→ch t j=0
 | _,0,h=>by lia
 | 0,j+1,_=>rfl
 | t+1,j+1,h=>by rw [ch,zfB #[O],zfB #[O]]; rfl
theorem zcC {b:Int}:∀ {n:Nat} {l:Nat→Int} {j:Nat},sh b n l j=sm n fun t=>ch t j*b ^ (t - j)*l t
 | 0,_,_=>rfl
 | n+1,l,0=>by
  rw [sh,zcC,zaQ,← za7];congr 1
  ·simp [ch]
  ·exact zL fun i _=>by simp only [ch,fq]; grind
 | n+1,l,j+1=>by
  rw [sh,zcC,zcC,zaQ,← za7,← zdl];have e0:ch 0 (j+1)*b ^ (0 - (j+1))*l 0=0:=by simp [ch]
  rw [e0,dv];refine zL fun i _=>?_
  have e1:i+1 - (j+1)=i - j:=by lia
  rw [ch,e1];by_cases h:j+1≤i
  ·have e2:i - j=(i - (j+1))+1:=by lia
   rw [e2,ig]; grind
  ·rw [zfB (t:=i) (j:=j+1) #[O]]; simp
def hs (b:Int):Nat→(Nat→Int)→Nat→Int
 | 0,_,_=>0
 | n+1,l,0=>l 0+b*hs b n (fun t=>l (t+1)) 0
 | n+1,l,j+1=>hs b n (fun t=>l (t+1)) j
theorem zfC {b:Int}:∀ {n:Nat} {l:Nat→Int} {j:Nat},n≤j→hs b n l j=0
 | 0,_,_,_=>by simp [hs]
 | n+1,l,0,h=>by lia
 | n+1,l,j+1,h=>by rw [hs,zfC #[O]]
theorem zdO {b:Int}:∀ {n:Nat} {l:Nat→Int} {j:Nat},j < n→hs b n l j=l j+b*hs b n l (j+1)
 | 0,_,_,h=>by lia
 | n+1,l,0,h=>by simp only [hs]
 | n+1,l,j+1,h=>by
  rw [hs,zdO (n:=n) (l:=fun t=>l (t+1)) #[O]]; rfl
theorem zko {b:Int}:∀ {n:Nat} {l:Nat→Int},sh b (n+1) l 0=hs b (n+1) l 0∧∀ j,sh b (n+1) l (j+1)=sh b n (fun t=>hs b (n+1) l (t+1)) j
 | 0,l=>by simp [sh,hs]
 | n+1,l=>by
  obtain⟨h0,h1⟩:=zko (b:=b) (n:=n) (l:=fun t=>l (t+1));refine⟨?_,fun j=>?_⟩
  ·rw [sh,h0]; simp only [hs]
  ·rw [sh];have e:sh b (n+1) (fun t=>hs b (n+2) l (t+1)) j=sh b (n+1) (fun t=>hs b (n+1) (fun t=>l (t+1)) t) j:=zca fun t _=>by rw [hs]
   rw [e];cases j with
   | zero=>rw [h0,h1 0]; simp only [sh]
   | succ j=>rw [h1 j,h1 (j+1)]; simp only [sh]
def qo (b:Int) (n:Nat) (l:Nat→Int):Nat→Nat→Int
 | 0=>l
 | f+1=>fun t=>hs b (n - f) (qo b n l f) (t+1)
theorem zmg {b:Int} {n:Nat} {l:Nat→Int}:∀ {f:Nat},f≤n→∀ j,sh b n l (f+j)=sh b (n - f) (qo b n l f) j
 | 0,_,j=>by rw [bE]; rfl
 | f+1,h,j=>by
  have ih:=zmg (b:=b) (n:=n) (l:=l) (f:=f) #[O] (j+1);have e:f+1+j=f+(j+1):=by lia
  have e2:n - f=(n - (f+1))+1:=by lia
  rw [e,ih,e2,(zko).2 j];refine zca fun t _=>?_
  rw [qo,e2]
theorem zkp {b:Int} {n:Nat} {l:Nat→Int} {f:Nat} (h:f < n):sh b n l f=hs b (n - f) (qo b n l f) 0:=by
 have ih:=zmg (b:=b) (n:=n) (l:=l) (f:=f) #[O] 0;have e2:n - f=(n - (f+1))+1:=by lia
 rw [c7] at ih;rw [ih,e2,(zko).1]
theorem zlA {a b:Int} {n w:Nat} {g:Nat→Nat→Int} {j i:Nat}:sh b n (fun t=>sh a w (fun s=>g t s) i) j=sh a w (fun s=>sh b n (fun t=>g t s) j) i:=by
 rw [zcC,zcC];have e1:(fun t=>ch t j*b ^ (t - j)*sh a w (fun s=>g t s) i)=fun t=>sm w fun s=>(ch t j*b ^ (t - j))*(ch s i*a ^ (s - i)*g t s):=by
  funext t; rw [zcC,← za7]
 have e2:(fun s=>ch s i*a ^ (s - i)*sh b n (fun t=>g t s) j)=fun s=>sm n fun t=>(ch t j*b ^ (t - j))*(ch s i*a ^ (s - i)*g t s):=by
  funext s; rw [zcC,← za7];exact zL fun t _=>by grind
 rw [e1,e2,zdK]
def mv (a b:Int) (n w:Nat) (c:Nat→Nat→Int) (j i:Nat):Int:=sh a w (fun s=>sh b n (fun t=>c t s) j) i
theorem zmh {p a a' b b':Int} {n w:Nat} {c d:Nat→Nat→Int} {j i:Nat} (ha:Cg p a a') (hb:Cg p b b') (h:∀ t s,t < n→s < w→Cg p (c t s) (d t s)):Cg p (mv a b n w c j i) (mv a' b' n w d j i) :=
 zcB ha fun s hs=>zcB hb fun t ht=>h t s ht hs
theorem znP {a b:Int} {n w:Nat} {c:Nat→Nat→Int} {j i:Nat}:mv a b n w c j i=sm n fun t=>sm w fun s=>c t s*ch t j*ch s i*a ^ (s - i)*b ^ (t - j):=by
 unfold mv;rw [zcC,← zdK];refine zL fun s _=>?_
 rw [zcC,← za7];exact zL fun t _=>by grind
theorem zmi {y:Int}:∀ {n:Nat} {l:Nat→Int},vl n l y=sm n fun t=>l t*y ^ t
 | 0,_=>rfl
 | n+1,l=>by
  rw [vl,zmi,zaQ,← za7];congr 1
  ·simp
  ·exact zL fun t _=>by rw [ig]; grind
theorem zlB {p a a' b b':Int} {n w:Nat} {c d:Nat→Nat→Int} (ha:Cg p (a+a') 0) (hb:Cg p (b+b') 0) (hd:∀ t s,t < n→s < w→Cg p (d t s) (mv a b n w c t s)) {j i:Nat} (hj:j < n) (hi:i < w):Cg p (mv a' b' n w d j i) (c j i):=by
 refine (zmh (Cg.refl _ _) (Cg.refl _ _) hd).trans ?_;have e:mv a' b' n w (fun t s=>mv a b n w c t s) j i=mv (a+a') (b+b') n w c j i:=by
  unfold mv;have e1:(fun s=>sh b' n (fun t=>sh a w (fun s=>sh b n (fun t=>c t s) t) s) j)=sh a w (fun s=>sh (b+b') n (fun t=>c t s) j):=by
   funext s;rw [zlA];refine zca fun s _=>?_
   exact zic (b:=b) (b':=b') (l:=fun t=>c t s)
  rw [e1,zic]
 rw [show (mv a b n w c)=(fun t s=>mv a b n w c t s) from rfl,e];refine (zmh ha hb fun _ _ _ _=>Cg.refl _ _).trans (Cg.of_eq ?_);unfold mv;rw [zdN hi,zdN (l:=fun t=>c t i) hj]
theorem znQ {p a b:Int} {n w:Nat} {c:Nat→Nat→Int} {j i:Nat} (hj:j < n) (hi:i < w) (hc:¬ Cg p (c j i) 0):∃ t s,t < n∧s < w∧¬ Cg p (mv a b n w c t s) 0:=by
 refine aq fun h=>hc ?_
 have z:∀ t s,t < n→s < w→Cg p (0:Int) (mv a b n w c t s):=fun t s ht hs=>aq fun q=>h ⟨t,s,ht,hs,fun e=>q e.symm⟩
 have e:=zlB (p:=p) (a:=a) (a':=-a) (b:=b) (b':=-b) (c:=c) (d:=fun _ _=>0) (Cg.of_eq #[O]) (Cg.of_eq #[O]) z hj hi;refine e.symm.trans (Cg.of_eq ?_);rw [znP];exact zak fun t _=>zak fun s _=>by simp
def zu (n w:Nat) (g:Nat→Nat→Int):List (List Int):=(aI n).map fun j=>(aI w).map fun i=>g j i
theorem zaa {n w j:Nat} {g:Nat→Nat→Int} (h:j < n):(zu n w g)[j]? = some ((aI w).map fun i=>g j i):=by
 unfold zu;rw [af,bv h];rfl
theorem zaM {n w:Nat} {g g':Nat→Nat→Int} (h:∀ j i,j < n→i < w→g j i=g' j i):zu n w g=zu n w g':=by
 unfold zu;refine cz fun j hj=>cz fun i hi=>?_
 exact h j i (bd.mp hj) (bd.mp hi)
theorem zi4 {n w j:Nat} {g:Nat→Nat→Int} {v:Nat→Int}:(zu n w g).set j ((aI w).map v)=zu n w (fun j' i=>if j'=j then v i else g j' i):=by
 refine cO fun k=>?_
 rw [jT];by_cases hk:k < n
 ·rw [zaa hk,zaa hk];by_cases e:j=k
  ·subst e;have hl:j < (zu n w g).length:=by unfold zu; rw [ab,aW]; exact hk
   simp [hl]
  ·simp [e,cD e]
 ·have h1:(zu n w g)[k]? = none:=cg.mpr (by unfold zu; rw [ab,aW]; lia);have h2:(zu n w (fun j' i=>if j'=j then v i else g j' i))[k]? = none:=cg.mpr (by unfold zu; rw [ab,aW]; lia);have h3:(zu n w g).length=n:=by unfold zu; rw [ab,aW]
  rw [h1,h2,h3];split
  ·rw [if_neg #[O]]
  ·rfl
theorem zi5 {w:Nat} {u v:Nat→Int} {f:Int→Int→Int}:eD f ((aI w).map u) ((aI w).map v)=(aI w).map fun i=>f (u i) (v i):=by
 rw [List.zipWith_map,List.zipWith_self]
def rst (p b:Int) (n:Nat) (c:Nat→Nat→Int) (f idx j i:Nat):Int :=
 (if j < f then sh b n (fun t=>c t i) j else if n≤idx+1+j then hs b (n - f) (qo b n (fun t=>c t i) f) (j - f) else qo b n (fun t=>c t i) f (j - f)) % p
theorem zi6 {p b:Int} {n:Nat} {c:Nat→Nat→Int} {j i:Nat} (hj:j < n):rst p b n c 0 0 j i=c j i % p:=by
 unfold rst;rw [if_neg #[O]];split
 ·rw [fq,fq,zdO hj,zfC #[O]];simp [qo]
 ·rfl
theorem zkq {p b:Int} {n:Nat} {c:Nat→Nat→Int} {j i:Nat} (hj:j < n):rst p b n c n 0 j i=sh b n (fun t=>c t i) j % p:=by
 unfold rst;rw [if_pos hj]
theorem zkr {p b:Int} {n f:Nat} {c:Nat→Nat→Int} {j i:Nat} (hf:f < n) (hj:j < n):rst p b n c f (n - 1 - f) j i=rst p b n c (f+1) 0 j i:=by
 unfold rst;by_cases h1:j < f
 ·rw [if_pos h1,if_pos #[O]]
 ·rw [if_neg h1,if_pos #[O]];by_cases h2:j=f
  ·subst h2;rw [if_pos #[O],eK,zkp hf]
  ·rw [if_neg #[O]];have e1:j - f=(j - (f+1))+1:=by lia
   have e2:qo b n (fun t=>c t i) (f+1) (j - (f+1))=hs b (n - f) (qo b n (fun t=>c t i) f) (j - f):=by rw [e1]; rfl
   split
   ·rw [zdO (n:=n - (f+1)) (j:=j - (f+1)) #[O],zfC (n:=n - (f+1)) (j:=j - (f+1)+1) #[O],e2]; simp
   ·rw [e2]
theorem zks {p b:Int} {n f idx:Nat} {c:Nat→Nat→Int} {j i:Nat} (hi:idx < n - 1 - f) (hj:j < n):rst p b n c f (idx+1) j i=if j=n - 2 - idx then (rst p b n c f idx (n - 2 - idx) i+b*rst p b n c f idx (n - 2 - idx+1) i) % p else rst p b n c f idx j i:=by
 by_cases h:j=n - 2 - idx
 ·rw [if_pos h,← h];unfold rst;rw [if_neg #[O],if_pos #[O],if_neg #[O],if_neg #[O],if_neg #[O],if_pos #[O],zdO #[O]];have e:j+1 - f=j - f+1:=by lia
  rw [e];exact ((Cg.emod p _).symm.add ((Cg.refl p b).mul (Cg.emod p _).symm)).mod_eq
 ·rw [if_neg h];unfold rst;split
  ·rfl
  ·by_cases h2:n≤idx+1+j
   ·rw [if_pos h2,if_pos #[O]]
   ·rw [if_neg h2,if_neg #[O]]
abbrev Ps:=Nat→Int
structure Add (B:Ps→Ps):Prop where
 a:∀ u v,B (fun i=>u i+v i)=fun i=>B u i+B v i
def shO (B:Ps→Ps):Nat→(Nat→Ps)→Nat→Ps
 | 0,_,_=>fun _=>0
 | n+1,F,0=>fun i=>F 0 i+B (shO B n (fun t=>F (t+1)) 0) i
 | n+1,F,j+1=>fun i=>shO B n (fun t=>F (t+1)) j i+B (shO B n (fun t=>F (t+1)) (j+1)) i
theorem Add.z {B:Ps→Ps} (h:Add B):B (fun _=>0)=fun _=>0:=by
 have:=h.a (fun _=>0) (fun _=>0);funext i;have e:=congrFun this i;have e2:(fun _:Nat=>(0:Int)+0)=fun _=>0:=by funext i; rfl
 rw [e2] at e;lia
theorem zea {B:Ps→Ps} (h:Add B):∀ {n:Nat} {F:Nat→Ps} {j:Nat},n≤j→shO B n F j=fun _=>0
 | 0,_,_,_=>by simp [shO]
 | n+1,F,0,hj=>by lia
 | n+1,F,j+1,hj=>by
  rw [shO,zea h #[O],zea h #[O],h.z];funext i;simp
theorem zdP {B:Ps→Ps} (h:Add B):∀ {n:Nat} {F G:Nat→Ps} {j:Nat},shO B n (fun t i=>F t i+G t i) j=fun i=>shO B n F j i+shO B n G j i
 | 0,_,_,_=>by simp [shO]
 | n+1,F,G,0=>by
  have e:=zdP h (n:=n) (F:=fun t=>F (t+1)) (G:=fun t=>G (t+1)) (j:=0);simp only [shO];rw [e,h.a];funext i;dsimp only;lia
 | n+1,F,G,j+1=>by
  have e:=fun j=>zdP h (n:=n) (F:=fun t=>F (t+1)) (G:=fun t=>G (t+1)) (j:=j)
  simp only [shO];rw [e,e,h.a];funext i;dsimp only;lia
theorem zco {B C:Ps→Ps} (hC:Add C) (hc:∀ l,C (B l)=B (C l)):∀ {n:Nat} {F:Nat→Ps} {j:Nat},shO B n (fun t=>C (F t)) j=C (shO B n F j)
 | 0,_,_=>by simp [shO,hC.z]
 | n+1,F,0=>by
  have e:=zco hC hc (n:=n) (F:=fun t=>F (t+1)) (j:=0);simp only [shO];rw [e,← hc,← hC.a]
 | n+1,F,j+1=>by
  have e:=fun j=>zco hC hc (n:=n) (F:=fun t=>F (t+1)) (j:=j)
  simp only [shO];rw [e,e,← hc,← hC.a]
theorem zc3 {B:Ps→Ps} (h:Add B):∀ {n:Nat} {F:Nat→Ps} {j:Nat},F n=(fun _=>0)→shO B (n+1) F j=shO B n F j
 | 0,F,0,e=>by simp [shO,e,h.z]
 | 0,F,j+1,e=>by simp [shO,h.z]
 | n+1,F,0,e=>by
  rw [shO,zc3 h (n:=n) (F:=fun t=>F (t+1)) e]; simp only [shO]
 | n+1,F,j+1,e=>by
  have g:=fun i=>zc3 h (n:=n) (F:=fun t=>F (t+1)) (j:=i) e
  rw [shO,g j,g (j+1)]; simp only [shO]
theorem zkt {B:Ps→Ps} {n:Nat} {F G:Nat→Ps} {j:Nat} (h:∀ t,F t=G t):shO B n F j=shO B n G j:=by
 rw [funext h]
theorem zid {B B':Ps→Ps} (h:Add B) (h':Add B') (hc:∀ l,B (B' l)=B' (B l)):∀ {n:Nat} {F:Nat→Ps} {j:Nat},shO B' n (shO B n F) j=shO (fun l i=>B l i+B' l i) n F j
 | 0,_,_=>by simp [shO]
 | n+1,F,j=>by
  have hz:shO B n (fun t=>F (t+1)) n=fun _=>0:=zea h (ah _)
  have ih:=fun i=>zid h h' hc (n:=n) (F:=fun t=>F (t+1)) (j:=i)
  have e:shO B' (n+1) (shO B (n+1) F) j=shO B' (n+1) (fun t i=>(if t=0 then F 0 else shO B n (fun t=>F (t+1)) (t - 1)) i+B (shO B n (fun t=>F (t+1)) t) i) j:=by
   refine zkt fun t=>?_
   cases t <;> simp [shO]
  rw [e,zdP h',zco h hc (F:=shO B n (fun t=>F (t+1))),zc3 h' hz,ih];have e2:∀ i,shO B' n (fun t=>if t+1=0 then F 0 else shO B n (fun t=>F (t+1)) (t+1 - 1)) i=shO (fun l i=>B l i+B' l i) n (fun t=>F (t+1)) i:=fun i=>by
   rw [← ih]; exact zkt fun t=>by simp
  cases j with
  | zero =>
   simp only [shO,if_true];rw [e2];funext i;lia
  | succ j =>
   simp only [shO];rw [e2,e2];funext i;lia
def Xl (l:Ps):Ps:=fun i=>if i=0 then 0 else l (i - 1)
def mq (a:Int):Nat→Ps→Ps→Ps
 | 0,_,_=>fun _=>0
 | n+1,b,l=>fun i=>b 0*l i+(Xl (mq a n (fun t=>b (t+1)) l) i+a*mq a n (fun t=>b (t+1)) l i)
theorem zfD (u v:Ps):Xl (fun i=>u i+v i)=fun i=>Xl u i+Xl v i:=by
 funext i;unfold Xl;split
 ·rfl
 ·rfl
theorem zhg (c:Int) (u:Ps):Xl (fun i=>c*u i)=fun i=>c*Xl u i:=by
 funext i;unfold Xl;split
 ·lia
 ·rfl
theorem zaH (a:Int):∀ (n:Nat) (b:Ps),Add (mq a n b)
 | 0,_=>⟨fun _ _=>by funext i; simp [mq]⟩
 | n+1,b=>⟨fun u v=>by
  have ih:=(zaH a n (fun t=>b (t+1))).a u v;funext i;simp only [mq];rw [ih,zfD];grind⟩
theorem zfE (a c:Int):∀ (n:Nat) (b l:Ps),mq a n b (fun i=>c*l i)=fun i=>c*mq a n b l i
 | 0,_,_=>by funext i; simp [mq]
 | n+1,b,l=>by
  have ih:=zfE a c n (fun t=>b (t+1)) l;funext i;simp only [mq];rw [ih,zhg];grind
def Dg (l:Ps) (w:Nat):Prop:=∀ i,w≤i→l i=0
theorem Dg.le {l:Ps} {w w':Nat} (h:Dg l w) (hw:w≤w'):Dg l w':=fun i hi=>h i #[O]
theorem zfF:∀ {n:Nat} {b l:Ps} {w:Nat},Dg l w→Dg (mq 0 n b l) (w+(n - 1))
 | 0,_,_,_,_=>fun i _=>by simp [mq]
 | n+1,b,l,w,h=>fun i hi=>by
  have ih:=zfF (n:=n) (b:=fun t=>b (t+1)) h;simp only [mq,bF,bI];rw [h i #[O],b8,dv];unfold Xl;split
  ·rfl
  ·cases n with
   | zero=>simp [mq]
   | succ n=>exact ih _ #[O]
theorem znR {a:Int}:∀ {w:Nat} {l:Ps},sh a (w+1) (Xl l)=fun i=>Xl (sh a w l) i+a*sh a w l i
 | w,l=>by
  funext i;have e:(fun t=>Xl l (t+1))=l:=by funext t; simp [Xl]
  cases i with
  | zero=>simp only [sh,e]; simp [Xl]
  | succ i=>simp only [sh,e]; simp [Xl]
theorem zlC {a c:Int} {w:Nat} {l:Ps}:sh a w (fun i=>c*l i)=fun i=>c*sh a w l i:=funext fun _=>zby
theorem zie {a:Int} {w:Nat} {u v:Ps}:sh a w (fun i=>u i+v i)=fun i=>sh a w u i+sh a w v i:=funext fun _=>zd9
theorem zfG {a:Int} {w w':Nat} {l:Ps} (h:Dg l w) (hw:w≤w'):sh a w' l=sh a w l:=funext fun _=>zdM hw fun t h1 _=>h t h1
theorem zmj {a:Int}:∀ {n:Nat} {b l:Ps} {w W:Nat},Dg l w→w+n≤W→sh a W (mq 0 n b l)=mq a n b (sh a W l)
 | 0,_,_,_,_,_,_=>by
  funext i;simp only [mq];rw [zcC];exact zak fun t _=>by simp
 | n+1,b,l,w,W,h,hW=>by
  have ih:=zmj (a:=a) (n:=n) (b:=fun t=>b (t+1)) (w:=w) (W:=W) h #[O];have hd:Dg (mq 0 n (fun t=>b (t+1)) l) (W - 1):=(zfF h).le #[O];have e1:sh a W (Xl (mq 0 n (fun t=>b (t+1)) l))=fun i=>Xl (sh a W (mq 0 n (fun t=>b (t+1)) l)) i+a*sh a W (mq 0 n (fun t=>b (t+1)) l) i:=by
   have:=znR (a:=a) (w:=W - 1) (l:=mq 0 n (fun t=>b (t+1)) l);rw [show W - 1+1=W by lia] at this;rw [this,zfG hd (show W - 1≤W by lia)]
  have e2:mq 0 (n+1) b l=fun i=>b 0*l i+Xl (mq 0 n (fun t=>b (t+1)) l) i:=by
   funext i;simp only [mq,bF,bI]
  rw [e2,zie,zlC,e1,ih];rfl
def Od (p:Int) (l:Ps) (r:Nat):Prop:=∀ i,i < r→Cg p (l i) 0
theorem Od.le {p:Int} {l:Ps} {r r':Nat} (h:Od p l r) (hr:r'≤r):Od p l r':=fun i hi=>h i #[O]
theorem Od.add {p:Int} {u v:Ps} {r:Nat} (h:Od p u r) (h':Od p v r):Od p (fun i=>u i+v i) r:=fun i hi=>((h i hi).add (h' i hi)).trans (Cg.of_eq #[M])
theorem Od.mul {p:Int} {u:Ps} {r:Nat} (c:Int) (h:Od p u r):Od p (fun i=>c*u i) r:=fun i hi=>((Cg.refl p c).mul (h i hi)).trans (Cg.of_eq #[M])
theorem Od.Xl {p:Int} {u:Ps} {r:Nat} (h:Od p u r):Od p (Xl u) (r+1):=fun i hi=>by
 unfold My.Xl;split
 ·exact Cg.refl _ _
 ·exact h _ #[O]
theorem Od.mq {p a:Int}:∀ {n:Nat} {b l:Ps} {r:Nat},Od p l r→Od p (mq a n b l) r
 | 0,_,_,_,_=>fun i _=>by simp only [My.mq]; exact Cg.refl _ _
 | n+1,b,l,r,h=>by
  have ih:=Od.mq (a:=a) (n:=n) (b:=fun t=>b (t+1)) h;exact (h.mul (b 0)).add ((ih.Xl.le (fQ _)).add (ih.mul a))
theorem zgs {k1:Nat} {b:Ps}:∀ {n:Nat} {F:Nat→Ps} {S v:Nat},(∀ t,Dg (F t) (S - k1*t))→Dg (shO (mq 0 (k1+1) b) n F v) (S - k1*v)
 | 0,_,_,_,_=>fun i _=>by simp [shO]
 | n+1,F,S,v,h=>by
  have h':∀ t,Dg (F (t+1)) (S - k1 - k1*t):=fun t=>(h (t+1)).le (by rw [gj]; lia)
  have ih:=fun v=>zgs (k1:=k1) (b:=b) (n:=n) (F:=fun t=>F (t+1)) (S:=S - k1) (v:=v) h'
  have hz:∀ v,S≤k1*(v+1)→(shO (mq 0 (k1+1) b) n (fun t=>F (t+1)) v)=fun _=>0:=fun v hv=>by
   funext i;exact ih v i (by rw [gj] at hv; lia)
  have hb:∀ v,Dg (mq 0 (k1+1) b (shO (mq 0 (k1+1) b) n (fun t=>F (t+1)) v)) (S - k1*v):=fun v=>by
   by_cases hv:S≤k1*(v+1)
   ·rw [hz v hv,(zaH 0 (k1+1) b).z];exact fun i _=>rfl
   ·exact (zfF (ih v)).le (by rw [gj] at hv; lia)
  cases v with
  | zero =>
   intro i hi;simp only [shO];rw [h 0 i hi,hb 0 i hi];rfl
  | succ v =>
   intro i hi;simp only [shO];rw [ih v i (by rw [gj] at hi; lia),hb (v+1) i hi];rfl
theorem zif {c:Int}:∀ {n:Nat} {F:Nat→Ps} {v i:Nat},shO (fun l i=>c*l i) n F v i=sh c n (fun t=>F t i) v
 | 0,_,_,_=>by simp [shO,sh]
 | n+1,F,0,i=>by simp only [shO,sh]; rw [zif]
 | n+1,F,v+1,i=>by simp only [shO,sh]; rw [zif,zif]
theorem zcp {p a:Int} {n:Nat} {b l:Ps} (h:∀ i,Cg p (l i) 0) (i:Nat):Cg p (mq a n b l i) 0:=Od.mq (r:=i+1) (fun j _=>h j) i (eS _)
def AL (k:Nat) (f:Ps) (n:Nat) (F:Nat→Ps):Ps:=shO (mq 0 k f) n F 0
def Zr (p:Int) (l:Ps):Prop:=∀ i,Cg p (l i) 0
theorem zmk:∀ {n:Nat} {f g:Ps} (l:Ps),(∀ i,i < n→f i=g i)→mq 0 n f l=mq 0 n g l
 | 0,_,_,_,_=>rfl
 | n+1,f,g,l,h=>by
  have ih:=zmk (n:=n) (f:=fun t=>f (t+1)) (g:=fun t=>g (t+1)) l fun i hi=>h (i+1) #[O]
  funext i;simp only [mq];rw [ih,h 0 #[O]]
theorem zml {k n:Nat} {f g:Ps} {F:Nat→Ps} (h:∀ i,i < k→f i=g i):AL k f n F=AL k g n F:=by
 unfold AL;have:mq 0 k f=mq 0 k g:=funext fun l=>zmk l h
 rw [this]
theorem zig:∀ (n:Nat) (b l:Ps),Xl (mq 0 n b l)=mq 0 n b (Xl l)
 | 0,b,l=>by
  funext i;unfold Xl mq;split <;> rfl
 | n+1,b,l=>by
  have ih:=zig n (fun t=>b (t+1)) l;have e:mq 0 (n+1) b l=fun i=>b 0*l i+Xl (mq 0 n (fun t=>b (t+1)) l) i:=by
   funext i;simp only [mq,bF,bI]
  have e2:mq 0 (n+1) b (Xl l)=fun i=>b 0*Xl l i+Xl (mq 0 n (fun t=>b (t+1)) (Xl l)) i:=by
   funext i;simp only [mq,bF,bI]
  rw [e,e2,zfD,zhg,ih]
theorem AX:Add Xl:=⟨zfD⟩
theorem zop {k n:Nat} {f:Ps} {F:Nat→Ps}:AL k f n (fun j=>Xl (F j))=Xl (AL k f n F):=zco AX (zig k f)
theorem zoq {p:Int} {l:Ps}:Zr p (Xl l)↔Zr p l:=by
 constructor
 ·intro h i;have:=h (i+1);simpa [Xl] using this
 ·intro h i;unfold Xl;split
  ·exact Cg.refl _ _
  ·exact h _
theorem zeb {B:Ps→Ps}:∀ {n:Nat} {F G:Nat→Ps} {j:Nat},(∀ t,t < n→F t=G t)→shO B n F j=shO B n G j
 | 0,_,_,_,_=>rfl
 | n+1,F,G,0,h=>by
  simp only [shO];rw [h 0 #[O],zeb (n:=n) (F:=fun t=>F (t+1)) (G:=fun t=>G (t+1)) fun t ht=>h (t+1) #[O]]
 | n+1,F,G,j+1,h=>by
  simp only [shO];rw [zeb (n:=n) (F:=fun t=>F (t+1)) (G:=fun t=>G (t+1)) (j:=j) fun t ht=>h (t+1) #[O],zeb (n:=n) (F:=fun t=>F (t+1)) (G:=fun t=>G (t+1)) (j:=j+1) fun t ht=>h (t+1) #[O]]
theorem zfH {p:Int} {k n:Nat} {f:Ps}:∀ {s:Nat} {F:Nat→Ps},(∀ j i,j < n→i < s→F j i=0)→(Zr p (AL k f n F)↔Zr p (AL k f n fun j i=>F j (i+s)))
 | 0,F,_=>Iff.rfl
 | s+1,F,h=>by
  have e:AL k f n F=AL k f n fun j=>Xl fun i=>F j (i+1):=zeb fun t ht=>by
   funext i;unfold Xl;split
   ·next h0=>rw [h0]; exact h t 0 ht #[O]
   ·next h0 =>
    show F t i=F t (i - 1+1);rw [show i - 1+1=i by lia]
  rw [e,zop,zoq,zfH (s:=s) (F:=fun j i=>F j (i+1)) fun j i hj hi=>h j (i+1) hj #[O]];have e2:(fun (j:Nat) (i:Nat)=>F j (i+s+1))=fun j i=>F j (i+(s+1)):=rfl
  rw [e2]
def nxc (b:Int) (n:Nat) (F:Nat→Ps) (j i:Nat):Int:=if i < j then 0 else sh b n (fun t=>F t (i - j)) j
def Xp:Nat→Ps→Ps
 | 0,l=>l
 | s+1,l=>Xl (Xp s l)
theorem zbk:∀ (s:Nat) (l:Ps) (i:Nat),Xp s l i=if i < s then 0 else l (i - s)
 | 0,l,i=>by rw [if_neg #[O]]; rfl
 | s+1,l,i=>by
  show Xl (Xp s l) i=_;unfold Xl;split
  ·next h=>rw [h,if_pos #[O]]
  ·next h =>
   rw [zbk s l (i - 1)];by_cases h1:i - 1 < s
   ·rw [if_pos h1,if_pos #[O]]
   ·rw [if_neg h1,if_neg #[O],show i - 1 - s=i - (s+1) by lia]
theorem zmm {M:Ps→Ps} (hM:∀ l,Xl (M l)=M (Xl l)):∀ {n:Nat} {G:Nat→Ps},shO (fun l=>Xl (M l)) n G 0=shO M n (fun j=>Xp j (G j)) 0
 | 0,_=>rfl
 | n+1,G=>by
  have ih:=zmm hM (n:=n) (G:=fun t=>G (t+1));have e:shO M n (fun t=>Xp (t+1) (G (t+1))) 0=Xl (shO M n (fun t=>Xp t (G (t+1))) 0):=zco (C:=Xl) AX hM (F:=fun t=>Xp t (G (t+1)));simp only [shO];rw [ih];funext i;show G 0 i+Xl (M (shO M n (fun j=>Xp j (G (j+1))) 0)) i=G 0 i+M (shO M n (fun t=>Xp (t+1) (G (t+1))) 0) i;rw [e,hM]
theorem zlD {k n:Nat} {f:Ps} {F:Nat→Ps}:AL (k+1) f n F=AL k (fun t=>f (t+1)) n (nxc (f 0) n F):=by
 have aC:Add (fun (l:Ps) i=>f 0*l i):=⟨fun u v=>by funext i; exact Int.mul_add _ _ _⟩;have aM:=zaH 0 k fun t=>f (t+1)
 have aX:Add (fun l=>Xl (mq 0 k (fun t=>f (t+1)) l)):=⟨fun u v=>by rw [aM.a,zfD]⟩;have e:mq 0 (k+1) f=fun (l:Ps) i=>(fun (l:Ps) i=>f 0*l i) l i+(fun l=>Xl (mq 0 k (fun t=>f (t+1)) l)) l i:=by
  funext l i;simp only [mq,bF,bI]
 unfold AL;rw [e,← zid aC aX fun l=>by
  funext i;show f 0*Xl (mq 0 k (fun t=>f (t+1)) l) i=Xl (mq 0 k (fun t=>f (t+1)) (fun i=>f 0*l i)) i;rw [zfE,zhg],zmm (zig k _)]
 refine zeb fun j hj=>?_
 funext i;rw [zbk];unfold nxc;split
 ·rfl
 ·rw [zif]
theorem znS {p:Int} {n:Nat} {b l l':Ps} (h:∀ i,Cg p (l i) (l' i)) (i:Nat):Cg p (mq 0 n b l i) (mq 0 n b l' i):=by
 induction n generalizing b i with
 | zero=>exact Cg.refl _ _
 | succ n ih =>
  simp only [mq,bF,bI];refine ((Cg.refl p _).mul (h i)).add ?_;unfold Xl;split
  ·exact Cg.refl _ _
  ·exact ih _
theorem zgt {p:Int} {k n:Nat} {f:Ps} {F G:Nat→Ps} (h:∀ j i,j < n→Cg p (F j i) (G j i)) (i:Nat):Cg p (AL k f n F i) (AL k f n G i):=by
 unfold AL;induction n generalizing F G i with
 | zero=>exact Cg.refl _ _
 | succ n ih =>
  simp only [shO];exact (h 0 i #[O]).add (znS (fun i=>ih (fun j i hj=>h (j+1) i #[O]) i) i)
theorem zku {p:Int} {u v:Ps} (h:∀ i,Cg p (u i) (v i)):Zr p u↔Zr p v:=⟨fun z i=>(h i).symm.trans (z i),fun z i=>(h i).trans (z i)⟩
theorem zm0 {k n:Nat} {f:Ps} {F:Nat→Ps}:AL (k+1) f n F 0=vl n (fun j=>F j 0) (f 0):=by
 unfold AL;induction n generalizing F with
 | zero=>rfl
 | succ n ih =>
  have ih:=ih (F:=fun t=>F (t+1));have e:∀ l:Ps,mq 0 (k+1) f l 0=f 0*l 0:=fun l=>by simp [mq,Xl]
  show F 0 0+mq 0 (k+1) f (shO (mq 0 (k+1) f) n (fun t=>F (t+1)) 0) 0=_;rw [e,ih];rfl
theorem zm1 {n:Nat} {f:Ps} {F:Nat→Ps}:AL 0 f (n+1) F=F 0:=by
 unfold AL;funext i;simp [shO,mq]
theorem znT {p b:Int} {n:Nat} {l:Nat→Int} (h:∀ j,j < n→Cg p (sh b n l j) 0):∀ j,j < n→Cg p (l j) 0:=fun j hj=>by
 have e:sh (-b) n (sh b n l) j=l j:=by
  rw [zic,show b + -b=0 by lia,zdN hj]
 rw [← e];refine (zcB (Cg.refl p (-b)) fun t ht=>h t ht).trans (Cg.of_eq ?_);have:=zby (b:=-b) (c:=0) (n:=n) (u:=fun _=>0) (j:=j);simpa using this
def cns (b:Int) (g:Ps):Ps:=fun i=>if i=0 then b else g (i - 1)
def apl (known:List Int) (g:Ps):Ps:=fun i=>if i < known.length then gl known i else g (i - known.length)
theorem zkv (known:List Int) (b:Int) (g:Ps):apl (known++[b]) g=apl known (cns b g):=by
 funext i;unfold apl cns;rw [aF,zmY];show (if i < known.length+1 then (if i < known.length then gl known i else gl [b] (i - known.length)) else g (i - (known.length+1)))=_;by_cases h:i < known.length
 ·rw [if_pos #[O],if_pos h,if_pos h]
 ·by_cases h1:i=known.length
  ·subst h1;rw [if_pos #[O],if_neg h,if_neg h,eK,if_pos rfl];rfl
  ·rw [if_neg #[O],if_neg h,if_neg #[O],show i - known.length - 1=i - (known.length+1) by lia]
structure RS (p:Int) (n:Nat) (F0:Nat→Ps) (s:Nat) (known:List Int) (w:Nat) (c:Nat→Nat→Int):Prop where
 kn:IsP p s known
 dg:∀ j i,w≤i→c j i=0
 rg:∀ j i,0≤c j i∧c j i < p
 nz:∃ j i,j < n∧i < w∧c j i≠0
 is:∀ m g,Zr p (AL (s+m) (apl known g) n F0)↔Zr p (AL m g n c)
def Lea (n w:Nat) (c:Nat→Nat→Int) (e:Nat):Prop:=(∀ j i,j < n→i < e→c j i=0)∧∃ j,j < n∧e < w∧c j e≠0
def zez (p b:Int) (n e:Nat) (c:Nat→Nat→Int) (j i:Nat):Int:=if j < n∧j≤i then sh b n (fun t=>c t (i - j+e)) j % p else 0
theorem zlE {p:Int} (hp:p∈zp) {n:Nat} {F0:Nat→Ps} {s w:Nat} {known:List Int} {c:Nat→Nat→Int} (R:RS p n F0 s known w c) {e:Nat} (L:Lea n w c e) {b:Int} (hb:0≤b∧b < p):RS p n F0 (s+1) (known++[b]) (w - e+(n - 1)) (zez p b n e c):=by
 have rp:=zan hp;have p0:0 < p:=by lia
 refine⟨⟨by rw [aF,R.kn.1]; rfl,fun x hx=>?_⟩,fun j i hi=>?_,fun j i=>?_,?_,fun m g=>?_⟩
 ·rcases aP.mp hx with h | h
  ·exact R.kn.2 x h
  ·rw [aN.mp h]; exact hb
 ·unfold zez;split
  ·next h =>
   have e0:sh b n (fun t=>c t (i - j+e)) j=sh b n (fun _=>0) j:=zca fun t _=>R.dg t _ #[O]
   have e1:sh b n (fun _=>(0:Int)) j=0:=by
    have:=zby (b:=b) (c:=0) (n:=n) (u:=fun _=>0) (j:=j);simpa using this
   rw [e0,e1];rfl
  ·rfl
 ·unfold zez;split
  ·exact⟨aQ _ #[O],aB _ p0⟩
  ·lia
 ·obtain⟨j0,nL,BM,lC⟩:=L.2;refine aq fun hno=>lC ?_
  have hz:∀ j,j < n→Cg p (sh b n (fun t=>c t e) j) 0:=fun j hj=>by
   have:zez p b n e c j j=0:=aq fun h=>hno ⟨j,j,hj,#[O],h⟩
   unfold zez at this;rw [if_pos ⟨hj,ah _⟩,eK,bE] at this;exact (Cg.emod p _).symm.trans (Cg.of_eq this)
  have:=znT hz j0 nL;obtain⟨a0,a1⟩:=R.rg j0 e;exact Cg.eq this a0 a1 (bC 0) p0
 ·have h1:=R.is (m+1) (cns b g);rw [show s+(m+1)=s+1+m by lia,← zkv] at h1;rw [h1,zfH (s:=e) L.1,zlD];have eg:(fun t=>cns b g (t+1))=g:=by
   funext t;unfold cns;rw [if_neg #[O],cn]
  have eb:cns b g 0=b:=rfl;rw [eg,eb];refine zku fun i=>zgt (fun j i hj=>?_) i
  unfold nxc zez;by_cases h:i < j
  ·rw [if_pos h,if_neg #[O]];exact Cg.refl _ _
  ·rw [if_neg h,if_pos ⟨hj,#[O]⟩];exact (Cg.emod p _).symm
theorem zm2 {p:Int} {n w:Nat} {c:Nat→Nat→Int} {e m:Nat} {f:Ps} (L:Lea n w c e) (h:Zr p (AL (m+1) f n c)):Cg p (vl n (fun j=>c j e) (f 0)) 0:=by
 have h1:=(zfH (s:=e) L.1).mp h 0;rw [zm0] at h1;simpa using h1
theorem zm3 {p:Int} (hp:p∈zp) {n:Nat} {F0:Nat→Ps} {s w:Nat} {known:List Int} {c:Nat→Nat→Int} (R:RS p (n+1) F0 s known w c):Zr p (AL s (gl known) (n+1) F0)↔∀ i,i < w→c 0 i=0:=by
 have rp:=zan hp;have h:=R.is 0 (fun _=>0);rw [zm1,c7] at h;have e:AL s (apl known fun _=>0) (n+1) F0=AL s (gl known) (n+1) F0:=zml fun i hi=>by
  unfold apl;rw [if_pos (by rw [R.kn.1]; exact hi)]
 rw [e] at h;rw [h];constructor
 ·intro z i _;obtain⟨a0,a1⟩:=R.rg 0 i;exact Cg.eq (z i) a0 a1 (bC 0) #[O]
 ·intro z i;by_cases hi:i < w
  ·rw [z i hi]; exact Cg.refl _ _
  ·rw [R.dg 0 i #[O]]; exact Cg.refl _ _
theorem zlF {p:Int} {n:Nat} {F0:Nat→Ps} {s w m:Nat} {known f:List Int} {c:Nat→Nat→Int} (R:RS p n F0 s known w c) (hf:f.length=s+m) (hk:known=f.take s) (h:Zr p (AL (s+m) (gl f) n F0)):Zr p (AL m (fun i=>gl f (s+i)) n c):=by
 refine (R.is m _).mp ?_;have e:AL (s+m) (gl f) n F0=AL (s+m) (apl known fun i=>gl f (s+i)) n F0:=zml fun i hi=>by
  unfold apl;rw [R.kn.1];split
  ·next h1 =>
   rw [hk];unfold gl;rw [am,am,jE,if_pos h1]
  ·next h1 =>
   show gl f i=gl f (s+(i - s));rw [show s+(i - s)=i by lia]
 rw [← e];exact h
theorem zm4 {j:Nat} {r:List Int} {m:Nat} {q:Int×Int} (h:q∈trm j r m):∃ i:Nat,q=((i:Int),(j:Int))∧i < m∧gl r i≠0:=by
 unfold trm at h
 (obtain⟨i,hi,rfl⟩:=az.mp h)
 obtain⟨h1,h2⟩:=cA.mp hi;exact⟨i,rfl,bd.mp h1,of_decide_eq_true h2⟩
theorem zih {n w:Nat} {c:Nat→Nat→Int} {j i:Nat} (hj:j < n) (hi:i < w):gl ((zu n w c).getD j []) i=c j i:=by
 have e:(zu n w c).getD j []=(aI w).map fun i=>c j i:=by rw [am,zaa hj]; rfl
 rw [e];exact zaS (by rw [af,bv hi]; rfl)
theorem zgu {n w:Nat} {c:Nat→Nat→Int} {j:Nat} (hj:j < n):((zu n w c).getD j []).length=w:=by
 rw [am,zaa hj];show ((aI w).map fun i=>c j i).length=w;rw [ab,aW]
theorem zay (n w:Nat) (g:Nat→Nat→Int):(zu n w g).length=n:=by unfold zu; rw [ab,aW]
theorem zec {n w:Nat} {c:Nat→Nat→Int} {r:List Int} (h:r∈zu n w c):r.length=w:=by
 unfold zu at h;obtain⟨j,_,rfl⟩:=az.mp h;rw [ab,aW]
theorem zcq {n w:Nat} {c:Nat→Nat→Int} {q:Int×Int}:q∈zW (zu n w c) n↔∃ i j:Nat,q=((i:Int),(j:Int))∧j < n∧i < w∧c j i≠0:=by
 unfold zW;rw [kc];constructor
 ·rintro⟨j,hj,h⟩;have hj:=bd.mp hj;rw [zgu hj] at h;obtain⟨i,rfl,h1,h2⟩:=zm4 h;rw [zih hj h1] at h2;exact⟨i,j,rfl,hj,h1,h2⟩
 ·rintro⟨i,j,rfl,hj,hi,h⟩;refine⟨j,bd.mpr hj,?_⟩;rw [zgu hj];unfold trm;exact az.mpr ⟨i,cA.mpr ⟨bd.mpr hi,decide_eq_true (by rw [zih hj hi]; exact h)⟩,rfl⟩
theorem zm5 {n w:Nat} {c:Nat→Nat→Int} {M:Int} (h1:M∈(zW (zu n w c) n).map (·.1)) (h2:∀ a∈(zW (zu n w c) n).map (·.1),M≤a):∃ e:Nat,M=e∧Lea n w c e:=by
 obtain⟨q,hq,rfl⟩:=az.mp h1;obtain⟨i,j,rfl,hj,hi,hc⟩:=zcq.mp hq;refine⟨i,rfl,fun j' i' nc mj=>aq fun lC=>?_,j,hj,hi,hc⟩;have:=h2 _ (az.mpr ⟨_,zcq.mpr ⟨i',j',rfl,nc,#[O],lC⟩,rfl⟩);have:(i:Int)≤(i':Int):=this;lia
def zbz (n e:Nat) (c:Nat→Nat→Int):List Int:=(aI n).map fun j=>c j e
theorem zc4 (n e:Nat) (c:Nat→Nat→Int):(zbz n e c).length=n:=by unfold zbz; rw [ab,aW]
theorem zm6 {n e j:Nat} {c:Nat→Nat→Int} (h:j < n):gl (zbz n e c) j=c j e:=zaS (by unfold zbz; rw [af,bv h]; rfl)
def nums (p:Int) (n e:Nat) (c:Nat→Nat→Int) (m:Nat):List Int:=((aI m).map fun b:Nat=>(b:Int)).filter fun b=>decide (z9 p b (zbz n e c)=0)
theorem ze1 (p:Int) (n e:Nat) (c:Nat→Nat→Int) (m:Nat):nums p n e c (m+1)=nums p n e c m++if z9 p (m:Int) (zbz n e c)=0 then [(m:Int)] else []:=by
 unfold nums;rw [ff,aO,gJ];congr 1;rw [dA,jy,List.filter_cons,kv];by_cases h:z9 p (m:Int) (zbz n e c)=0
 ·rw [if_pos h,if_pos (decide_eq_true h)]
 ·rw [if_neg h,if_neg (by simpa using h)]
theorem zc5 {p:Int} {n e m:Nat} {c:Nat→Nat→Int} {b:Int}:b∈nums p n e c m↔(0≤b∧b < m)∧z9 p b (zbz n e c)=0:=by
 unfold nums;rw [cA,az];constructor
 ·rintro⟨⟨x,hx,rfl⟩,h⟩;have:=bd.mp hx;exact⟨⟨#[O],#[O]⟩,of_decide_eq_true h⟩
 ·rintro⟨⟨h1,h2⟩,h⟩;exact⟨⟨b.toNat,bd.mpr #[O],#[O]⟩,decide_eq_true h⟩
theorem zed (p:Int) (n e:Nat) (c:Nat→Nat→Int) (m:Nat):(nums p n e c m).Nodup:=List.Pairwise.filter _ (db.mpr (jU (fun {a b} Ae e=>Ae #[O]) j9))
theorem zkw {p x:Int} {n e:Nat} {c:Nat→Nat→Int}:Cg p (z9 p x (zbz n e c)) (vl n (fun j=>c j e) x):=by
 rw [zmi];refine (zkj (by rw [zc4]; exact ah _)).trans (Cg.of_eq (zL fun i hi=>?_));rw [zm6 hi]
theorem zkx {p:Int} (hp:p∈zp) {n w e m:Nat} {c:Nat→Nat→Int} (hm:(m:Int)≤p) (hr:∀ j i,0≤c j i∧c j i < p) (L:Lea n w c e):(nums p n e c m).length < n:=by
 have rp:=zan hp;refine aq fun nS=>?_
 have hz:=zd5 hp n (zbz n e c) (nums p n e c m) (zc4 _ _ _) #[O] (zed p n e c m) (fun x hx=>?_) (fun x hx=>?_)
 ·obtain⟨j,hj,_,lC⟩:=L.2;have h1:=hz (c j e) (az.mpr ⟨j,bd.mpr hj,rfl⟩);obtain⟨a0,a1⟩:=hr j e;exact lC (Cg.eq h1 a0 a1 (bC 0) #[O])
 ·have:=(zc5.mp hx).1;lia
 ·exact Cg.of_eq (zc5.mp hx).2
theorem zhh {α β:Type} {out:List (List α×β)} {done:List (List α)} {qs:List α} {L:List α} (f:α→β) (nd:(out.map (·.1)).Nodup) (hd:∀ o∈out,o.1.dropLast∈done) (hq:qs∉done) (hL:L.Nodup) :
  ((out++L.map fun q=>(qs++[q],f q)).map (·.1)).Nodup∧∀ o∈out++L.map (fun q=>(qs++[q],f q)),o.1.dropLast∈done++[qs]:=by
 constructor
 ·rw [aO,cj];have h1:(L.map ((fun x:List α×β=>x.1) ∘ fun q=>(qs++[q],f q))).Nodup:=db.mpr (jU (fun {a b} Ae e=>Ae (by
   have e:qs++[a]=qs++[b]:=e;have:=List.append_cancel_left e;injection this)) hL)
  refine de.mpr ⟨nd,h1,fun a ha b hb e=>?_⟩;obtain⟨o,ho,rfl⟩:=az.mp ha;obtain⟨q,o2,rfl⟩:=az.mp hb;have h1:=hd o ho;have e:o.1=qs++[q]:=e;rw [e,jf] at h1;exact hq h1
 ·intro o ho;rcases aP.mp ho with h | h
  ·exact aP.mpr (.inl (hd o h))
  ·obtain⟨q,_,rfl⟩:=az.mp h;refine aP.mpr (.inr ?_);show (qs++[q]).dropLast∈[qs];rw [jf];exact aN.mpr rfl
end My
end
section
namespace My
end My
end
section
namespace My
open PySem L2 PyProof.Rows
theorem zdQ (n:Nat) (b l:Ps):mq 0 (n+1) b l=fun i=>b 0*l i+Xl (mq 0 n (fun t=>b (t+1)) l) i:=by
 funext i;simp only [mq,bF,bI]
theorem zdR:∀ (n:Nat) (b:Ps) (m:Nat) (c l:Ps),mq 0 n b (mq 0 m c l)=mq 0 m c (mq 0 n b l)
 | 0,b,m,c,l=>by
  have:mq 0 0 b l=fun _=>0:=rfl
  rw [this,(zaH 0 m c).z];rfl
 | n+1,b,m,c,l=>by
  rw [zdQ,zdQ,(zaH 0 m c).a,zfE,← zig,zdR n _ m c l]
def ze2:Ps:=fun i=>if i=0 then 1 else 0
theorem zii:∀ (n:Nat) (b:Ps) (i:Nat),mq 0 n b ze2 i=if i < n then b i else 0
 | 0,b,i=>by rw [if_neg #[O]]; rfl
 | n+1,b,i=>by
  rw [zdQ];show b 0*ze2 i+Xl (mq 0 n (fun t=>b (t+1)) ze2) i=_;unfold Xl ze2;by_cases h:i=0
  ·subst h;rw [if_pos rfl,if_pos rfl,if_pos #[O]];lia
  ·rw [if_neg h,if_neg h];have:=zii n (fun t=>b (t+1)) (i - 1);unfold ze2 at this;rw [this];by_cases h2:i < n+1
   ·rw [if_pos #[O],if_pos h2,show i - 1+1=i by lia];lia
   ·rw [if_neg #[O],if_neg h2];lia
theorem zfI {n:Nat} {b:Ps} (h:Dg b n):mq 0 n b ze2=b:=by
 funext i;rw [zii];split
 ·rfl
 ·rw [h i #[O]]
theorem zij {n m:Nat} {b c:Ps} (hb:Dg b n) (hc:Dg c m):mq 0 n b c=mq 0 m c b:=by
 rw [← zfI hc,zdR,zfI hb,zfI hc]
theorem za1:∀ (n:Nat) (b l:Ps) (x:Nat),mq 0 n b l x=sm n fun t=>b t*Xp t l x
 | 0,b,l,x=>rfl
 | n+1,b,l,x=>by
  rw [zdQ,zaQ];show b 0*l x+Xl (mq 0 n (fun t=>b (t+1)) l) x=b 0*l x+_;congr 1;unfold Xl;by_cases h:x=0
  ·rw [if_pos h];refine (zak fun i _=>?_).symm;rw [zbk,if_pos #[O],b8]
  ·rw [if_neg h,za1 n _ l (x - 1)];refine zL fun i _=>?_
   rw [zbk,zbk];by_cases h2:x - 1 < i
   ·rw [if_pos h2,if_pos #[O]]
   ·rw [if_neg h2,if_neg #[O],show x - 1 - i=x - (i+1) by lia]
def itq (k:Nat) (f:Ps):Nat→Ps→Ps
 | 0,l=>l
 | t+1,l=>mq 0 k f (itq k f t l)
theorem zee (k:Nat) (f:Ps) (n:Nat) (b:Ps):∀ (t:Nat) (l:Ps),mq 0 n b (itq k f t l)=itq k f t (mq 0 n b l)
 | 0,_=>rfl
 | t+1,l=>by
  show mq 0 n b (mq 0 k f (itq k f t l))=mq 0 k f (itq k f t (mq 0 n b l));rw [zdR,zee k f n b t l]
theorem zef (k:Nat) (f:Ps):∀ (n:Nat) (G:Nat→Ps) (x:Nat),mq 0 k f (fun y=>sm n fun t=>G t y) x=sm n fun t=>mq 0 k f (G t) x
 | 0,G,x=>by
  have:(fun y=>sm 0 fun t=>G t y)=fun _=>(0:Int):=rfl
  rw [this,(zaH 0 k f).z];rfl
 | n+1,G,x=>by
  have e:(fun y=>sm (n+1) fun t=>G t y)=fun y=>(fun y=>G 0 y) y+(fun y=>sm n fun t=>G (t+1) y) y:=by
   funext y;rw [zaQ]
  rw [e,(zaH 0 k f).a,zaQ];show mq 0 k f (fun y=>G 0 y) x+mq 0 k f (fun y=>sm n fun t=>G (t+1) y) x=_;rw [zef k f n]
theorem zdn {k:Nat} {f:Ps}:∀ (n:Nat) (F:Nat→Ps) (x:Nat),AL k f n F x=sm n fun t=>itq k f t (F t) x
 | 0,F,x=>rfl
 | n+1,F,x=>by
  have ih:AL k f n (fun t=>F (t+1))=fun y=>sm n fun t=>itq k f t (F (t+1)) y:=funext fun y=>zdn n _ y
  show F 0 x+mq 0 k f (AL k f n fun t=>F (t+1)) x=_;rw [ih,zef,zaQ];rfl
theorem zm7 {k n:Nat} {f:Ps} {F:Nat→Ps}:∀ {m:Nat},n≤m→(∀ t,n≤t→F t=fun _=>0)→AL k f m F=AL k f n F:=fun {m} hm h=>by
 obtain⟨d,rfl⟩:∃ d,m=n+d:=⟨m - n,#[O]⟩;induction d with
 | zero=>rfl
 | succ d ih =>
  have e:AL k f (n+d+1) F=AL k f (n+d) F:=zc3 (zaH 0 k f) (h (n+d) #[O]);rw [show n+(d+1)=n+d+1 by lia,e];exact ih #[O]
theorem zfJ {p:Int} {f:Nat→Int} {j n:Nat} (hj:j < n) (h:∀ i,i < n→i≠j→Cg p (f i) 0):Cg p (sm n f) (f j):=by
 have e:=zki (f:=fun i=>if i=j then f j else 0) hj (fun i _ hi=>if_neg hi);rw [show (if j=j then f j else 0)=f j from if_pos rfl] at e;rw [← e];refine zkh fun i hi=>?_
 by_cases nk:i=j
 ·rw [if_pos nk,nk];exact Cg.refl _ _
 ·rw [if_neg nk];exact h i hi nk
theorem zky {p:Int} (hp:p∈zp) {n:Nat} {b l:Ps} (hb:∃ t,t < n∧¬ Cg p (b t) 0) (h:Zr p (mq 0 n b l)):Zr p l:=by
 obtain⟨a,⟨ha,hna⟩,vo⟩:∃ a,(a < n∧¬ Cg p (b a) 0)∧∀ t,t < a→Cg p (b t) 0:=by
  obtain⟨t0,h0,h1⟩:=hb;induction t0 using fg with
  | ind t0 ih =>
   by_cases hc:∃ t,t < t0∧¬ Cg p (b t) 0
   ·obtain⟨t,ht,hn⟩:=hc;exact ih t ht #[O] hn
   ·exact⟨t0,⟨h0,h1⟩,fun t ht=>aq fun hn=>hc ⟨t,ht,hn⟩⟩
 intro i;induction i using fg with
 | ind i ih =>
  have e:=h (a+i);rw [za1] at e;have e2:=zfJ (p:=p) (f:=fun t=>b t*Xp t l (a+i)) ha (fun t ht lC=>by
   show Cg p (b t*Xp t l (a+i)) 0;by_cases hta:t < a
   ·exact ((vo t hta).mul (Cg.refl p _)).trans (Cg.of_eq (bF _))
   ·rw [zbk];split
    ·exact Cg.of_eq (b8 _)
    ·exact ((Cg.refl p _).mul (ih (a+i - t) #[O])).trans (Cg.of_eq (b8 _)))
  have e3:Cg p (b a*Xp a l (a+i)) 0:=e2.symm.trans e;rw [zbk,if_neg #[O],show a+i - a=i by lia] at e3;rcases zb7 hp e3 with z | z
  ·exact absurd z hna
  ·exact z
theorem zlG (n:Nat) (b l:Ps):mq 0 n b (fun i=>-1*l i)=fun i=>-1*mq 0 n b l i:=zfE 0 (-1) n b l
theorem zlH (n:Nat) (b c l:Ps) (x:Nat):mq 0 n (fun i=>b i - c i) l x=mq 0 n b l x - mq 0 n c l x:=by
 rw [za1,za1,za1];have e:(fun t=>(b t - c t)*Xp t l x)=fun t=>b t*Xp t l x + -1*(c t*Xp t l x):=by
  funext t;grind
 rw [e,zdl,za7];lia
def wr (k:Nat) (f:Ps) (F:Nat→Ps):Nat→Ps
 | 0=>fun i=>0 + -1*mq 0 k f (F 0) i
 | j+1=>fun i=>F j i + -1*mq 0 k f (F (j+1)) i
def sft (F:Nat→Ps):Nat→Ps
 | 0=>fun _=>0
 | j+1=>F j
theorem znU (k:Nat) (f:Ps) (F:Nat→Ps):wr k f F=fun t i=>sft F t i+(fun t=>(fun i=>-1*mq 0 k f (F t) i)) t i:=by
 funext t i;cases t <;> rfl
theorem znV {k n:Nat} {f g:Ps} {F:Nat→Ps} (hF:F n=fun _=>0) (x:Nat):AL k g (n+1) (wr k f F) x=mq 0 k (fun i=>g i - f i) (AL k g n F) x:=by
 have hB:=zaH 0 k g;have hC:Add (fun l i=>-1*mq 0 k f l i):=⟨fun u v=>by
  rw [(zaH 0 k f).a];funext i;grind⟩
 have e1:AL k g (n+1) (sft F) x=mq 0 k g (AL k g n F) x:=by
  show 0+mq 0 k g (shO (mq 0 k g) n (fun t=>sft F (t+1)) 0) x=_;rw [dv];rfl
 have e2:AL k g (n+1) (fun t i=>-1*mq 0 k f (F t) i)=fun i=>-1*mq 0 k f (AL k g (n+1) F) i:=zco hC (fun l=>by
  show (fun i=>-1*mq 0 k f (mq 0 k g l) i)=mq 0 k g (fun i=>-1*mq 0 k f l i);rw [zlG,zdR])
 have e3:AL k g (n+1) F=AL k g n F:=zc3 hB hF;have e4:AL k g (n+1) (wr k f F)=fun i=>AL k g (n+1) (sft F) i+AL k g (n+1) (fun t i=>-1*mq 0 k f (F t) i) i:=by
  rw [znU];exact zdP hB
 rw [e4];show AL k g (n+1) (sft F) x+AL k g (n+1) (fun t i=>-1*mq 0 k f (F t) i) x=_;rw [e1,e2,e3,zlH];show mq 0 k g (AL k g n F) x + -1*mq 0 k f (AL k g n F) x=_;lia
theorem znW {p:Int} {k n:Nat} {f:Ps} {F:Nat→Ps} (hF:∀ t,n≤t→F t=fun _=>0) (h:∃ j i,¬ Cg p (F j i) 0):∃ j i,¬ Cg p (wr k f F j i) 0:=by
 refine aq fun hc=>?_
 have hz:∀ j i,Cg p (wr k f F j i) 0:=fun j i=>aq fun hn=>hc ⟨j,i,hn⟩
 have lR:∀ d j,n≤j+d→∀ i,Cg p (F j i) 0:=fun d=>by
  induction d with
  | zero =>
   intro j hj i;rw [hF j #[O]];exact Cg.refl _ _
  | succ d ih =>
   intro j hj i;have e:=hz (j+1) i;have e2:Cg p (mq 0 k f (F (j+1)) i) 0:=zcp (ih (j+1) #[O]) i;have e3:F j i=wr k f F (j+1) i+mq 0 k f (F (j+1)) i:=by
    show F j i=F j i + -1*mq 0 k f (F (j+1)) i+mq 0 k f (F (j+1)) i;lia
   rw [e3];exact e.add e2
 obtain⟨j,i,hn⟩:=h;exact hn (lR n j #[O] i)
theorem zi7 {p:Int} {k:Nat} {f g:List Int} (hf:IsP p k f) (hg:IsP p k g) (lC:g≠f):∃ t,t < k∧¬ Cg p (gl g t - gl f t) 0:=by
 refine aq fun hc=>lC (zmW (hg.1.trans hf.1.symm) fun t ht=>?_)
 have htk:t < k:=by rw [← hg.1]; exact ht
 have h1:Cg p (gl g t - gl f t) 0:=aq fun hn=>hc ⟨t,htk,hn⟩
 have h2:Cg p (gl g t) (gl f t):=(h1.add (Cg.refl p (gl f t))).trans (Cg.of_eq #[O]) |> (Cg.of_eq #[O]).trans
 have pZ:=hg.2 _ (aA (zb9 (w:=g) (y:=t) ht));have hf2:=hf.2 _ (aA (zb9 (w:=f) (y:=t) (by rw [hf.1]; exact htk)));exact h2.eq pZ.1 pZ.2 hf2.1 hf2.2
theorem zeg {p:Int} (hp:p∈zp) {k:Nat}:∀ (n:Nat) (F:Nat→Ps) (L:List (List Int)),L.Nodup→(∀ f∈L,IsP p k f∧Zr p (AL k (gl f) n F))→(∃ j,j < n∧∃ i,¬ Cg p (F j i) 0)→L.length < n
 | 0,_,_,_,_,⟨j,hj,_⟩=>absurd hj (Nat.not_lt_zero _)
 | n+1,F,[],_,_,_=>eL _
 | n+1,F,f :: L,hd,hL,hz=>by
  let G:Nat→Ps:=fun j=>AL k (gl f) (n - j) (fun t=>F (t+(j+1)))
  have hG:∀ j,n≤j→G j=fun _=>0:=fun j hj=>by
   show AL k (gl f) (n - j) _=_;rw [show n - j=0 by lia];rfl
  have BN:∀ j,j < n→∀ i,G j i=F (j+1) i+mq 0 k (gl f) (G (j+1)) i:=fun j hj i=>by
   show AL k (gl f) (n - j) (fun t=>F (t+(j+1))) i=F (j+1) i+mq 0 k (gl f) (AL k (gl f) (n - (j+1)) fun t=>F (t+(j+1+1))) i;rw [show n - j=n - (j+1)+1 by lia];show F (0+(j+1)) i+mq 0 k (gl f) (AL k (gl f) (n - (j+1)) fun t=>F (t+1+(j+1))) i=_;rw [bE];have e:(fun t=>F (t+1+(j+1)))=fun t=>F (t+(j+1+1)):=by
    funext t;congr 1;lia
   rw [e]
  have h0:∀ i,AL k (gl f) (n+1) F i=F 0 i+mq 0 k (gl f) (G 0) i:=fun i=>rfl
  have hf:=hL f aL;have hFw:∀ j i,j < n+1→Cg p (F j i) (wr k (gl f) G j i):=fun j i hj=>by
   cases j with
   | zero =>
    show Cg p (F 0 i) (0 + -1*mq 0 k (gl f) (G 0) i);have:=hf.2 i;rw [h0] at this;exact (Cg.of_eq #[O]).trans (this.sub (Cg.refl p (mq 0 k (gl f) (G 0) i))) |>.trans (Cg.of_eq #[O])
   | succ j =>
    show Cg p (F (j+1) i) (G j i + -1*mq 0 k (gl f) (G (j+1)) i);rw [BN j #[O]];exact Cg.of_eq #[O]
  have qO:∃ j,j < n∧∃ i,¬ Cg p (G j i) 0:=by
   refine aq fun hc=>?_
   have BO:∀ j i,Cg p (G j i) 0:=fun j i=>by
    by_cases hj:j < n
    ·exact aq fun hn=>hc ⟨j,hj,i,hn⟩
    ·rw [hG j #[O]];exact Cg.refl _ _
   obtain⟨j,hj,i,hn⟩:=hz;refine hn ((hFw j i hj).trans ?_);cases j with
   | zero =>
    show Cg p (0 + -1*mq 0 k (gl f) (G 0) i) 0;exact ((Cg.refl p 0).add ((Cg.refl p (-1)).mul (zcp (BO 0) i))).trans (Cg.of_eq #[O])
   | succ j =>
    show Cg p (G j i + -1*mq 0 k (gl f) (G (j+1)) i) 0;exact ((BO j i).add ((Cg.refl p (-1)).mul (zcp (BO (j+1)) i))).trans (Cg.of_eq #[O])
  have:=zeg hp n G L (cQ.mp hd).2 (fun g hg=>by
   have vH:=hL g (aw _ hg);refine⟨vH.1,zky hp (zi7 hf.1 vH.1 fun e=>(cQ.mp hd).1 (e ▸ hg)) (l:=AL k (gl g) n G) fun x=>?_⟩;rw [← znV (hG n (ah _))];exact (zgt (fun j i hj=>(hFw j i hj).symm) x).trans (vH.2 x)) qO
  exact Nat.succ_lt_succ this
theorem znX {k n W:Nat} {f:Ps} {F:Nat→Ps} (hk:1≤k) (hF:∀ t,t < n→Dg (F t) W) (hz:∀ t,n≤t→F t=fun _=>0):Dg (AL k f n F) (W+n*k):=by
 obtain⟨k1,rfl⟩:∃ k1,k=k1+1:=⟨k - 1,#[O]⟩;have h:Dg (AL (k1+1) f n F) (W+k1*n - k1*0):=zgs fun t=>by
  by_cases ht:t < n
  ·refine (hF t ht).le ?_;have:k1*t≤k1*n:=Nat.mul_le_mul_left _ #[O];lia
  ·rw [hz t #[O]];exact fun _ _=>rfl
 refine h.le ?_;rw [Nat.mul_zero,gj,Nat.mul_comm k1 n];lia
def cv2 (F G:Nat→Nat→Int) (j i:Nat):Int:=sm (j+1) fun a=>sm (i+1) fun t=>F a t*G (j - a) (i - t)
theorem zhi {p a b:Int} (hp:p∈zp) (ha:¬ Cg p a 0) (hb:¬ Cg p b 0):¬ Cg p (a*b) 0:=fun h=>by
 rcases zb7 hp h with z | z
 ·exact ha z
 ·exact hb z
theorem zcb {p a b:Int} (h:¬ (¬ Cg p a 0∧¬ Cg p b 0)):Cg p (a*b) 0:=by
 by_cases ha:Cg p a 0
 ·exact (ha.mul (Cg.refl p b)).trans (Cg.of_eq (bF b))
 ·have hb:Cg p b 0:=aq fun hn=>h ⟨ha,hn⟩
  exact ((Cg.refl p a).mul hb).trans (Cg.of_eq (b8 a))
theorem zcr {p:Int} {n:Nat} {f:Nat→Int} (h:∀ i,i < n→Cg p (f i) 0):Cg p (sm n f) 0:=(zkh (g:=fun _=>0) h).trans (Cg.of_eq (zak fun _ _=>rfl))
structure Lea2 (p c1 c2:Int) (F:Nat→Nat→Int) (m:Int):Prop where
 at':∃ j i,¬ Cg p (F j i) 0∧c1*i+c2*j=m
 le:∀ j i,¬ Cg p (F j i) 0→m≤c1*i+c2*j
theorem Lea2.first {p c1 c2 m:Int} {F:Nat→Nat→Int} (h:Lea2 p c1 c2 F m):∃ j i,(¬ Cg p (F j i) 0∧c1*i+c2*j=m)∧∀ j' i',¬ Cg p (F j' i') 0→c1*i'+c2*j'=m→j≤j':=by
 obtain⟨j,hj⟩:=h.at';induction j using fg with
 | ind j ih =>
  by_cases hc:∃ j',j' < j∧∃ i',¬ Cg p (F j' i') 0∧c1*i'+c2*j'=m
  ·obtain⟨j',k9,h'⟩:=hc;exact ih j' k9 h'
  ·obtain⟨i,hi⟩:=hj;refine⟨j,i,hi,fun j' i' h1 h2=>?_⟩;refine aq fun hn=>hc ⟨j',#[O],i',h1,h2⟩
theorem zdo {p c1 c2 m1 m2:Int} (hp:p∈zp) (hc:c1≠0) {F G P:Nat→Nat→Int} (hP:∀ j i,Cg p (P j i) (cv2 F G j i)) (hF:Lea2 p c1 c2 F m1) (hG:Lea2 p c1 c2 G m2):Lea2 p c1 c2 P (m1+m2):=by
 have BP:∀ (t I a J:Nat),t≤I→a≤J→c1*(t:Int)+c2*(a:Int)+(c1*((I - t:Nat):Int)+c2*((J - a:Nat):Int))=c1*(I:Int)+c2*(J:Int):=fun t I a J h1 h2=>by
  have e1:((I - t:Nat):Int)=(I:Int) - t:=by lia
  have e2:((J - a:Nat):Int)=(J:Int) - a:=by lia
  rw [e1,e2];grind
 constructor
 ·obtain⟨j1,i1,⟨n1,e1⟩,l1⟩:=hF.first;obtain⟨j2,i2,⟨n2,e2⟩,l2⟩:=hG.first;refine⟨j1+j2,i1+i2,fun hz=>?_,?_⟩
  ·have h1:Cg p (cv2 F G (j1+j2) (i1+i2)) (F j1 i1*G j2 i2):=by
    unfold cv2;have e3:c1*((i1+i2:Nat):Int)+c2*((j1+j2:Nat):Int)=m1+m2:=by
     rw [← e1,← e2];push_cast;grind
    have hA:∀ a,a < j1+j2+1→a≠j1→Cg p (sm (i1+i2+1) fun t=>F a t*G (j1+j2 - a) (i1+i2 - t)) 0:=fun a ha lC=>zcr fun t ht=>zcb fun ⟨x,y⟩=>by
     have hk:=BP t (i1+i2) a (j1+j2) #[O] #[O];have q1:=hF.le a t x;have q2:=hG.le _ _ y;have w1:=l1 a t x #[O];have w2:=l2 _ _ y #[O];lia
    have hB:∀ t,t < i1+i2+1→t≠i1→Cg p (F j1 t*G (j1+j2 - j1) (i1+i2 - t)) 0:=fun t ht lC=>zcb fun ⟨x,y⟩=>by
     have hk:=BP t (i1+i2) j1 (j1+j2) #[O] #[O];have q1:=hF.le j1 t x;have q2:=hG.le _ _ y;have e4:c1*(t:Int)+c2*(j1:Int)=m1:=by lia
     have e5:c1*((t:Int) - (i1:Int))=0:=by grind
     rcases Int.mul_eq_zero.mp e5 with z | z
     ·exact hc z
     ·lia
    refine (zfJ (j:=j1) #[O] hA).trans ((zfJ (j:=i1) #[O] hB).trans (Cg.of_eq ?_));rw [show j1+j2 - j1=j2 by lia,show i1+i2 - i1=i2 by lia]
   exact zhi hp n1 n2 (h1.symm.trans ((hP _ _).symm.trans hz))
  ·rw [← e1,← e2];push_cast;grind
 ·intro j i hn;refine aq fun k9=>hn ((hP j i).trans ?_)
  unfold cv2;refine zcr fun a ha=>zcr fun t ht=>zcb fun ⟨x,y⟩=>?_
  have hk:=BP t i a j #[O] #[O];have q1:=hF.le a t x;have q2:=hG.le _ _ y;lia
theorem zkz (X:Nat→Nat→Int):∀ N,(sm N fun t=>sm (t+1) fun a=>X a (t - a))=sm N fun a=>sm (N - a) fun b=>X a b
 | 0=>rfl
 | N+1=>by
  have ih:=zkz X N;have e1:(sm (N+1) fun t=>sm (t+1) fun a=>X a (t - a))=(sm N fun t=>sm (t+1) fun a=>X a (t - a))+sm (N+1) fun a=>X a (N - a):=rfl
  have e2:(sm (N+1) fun a=>sm (N+1 - a) fun b=>X a b)=sm (N+1) fun a=>(sm (N - a) fun b=>X a b)+X a (N - a):=zL fun a ha=>by
   rw [show N+1 - a=N - a+1 by lia];rfl
  have e3:(sm (N+1) fun a=>sm (N - a) fun b=>X a b)=(sm N fun a=>sm (N - a) fun b=>X a b)+sm (N - N) fun b=>X N b:=rfl
  rw [e1,e2,zdl,e3,ih,eK];show _+_=_+0+_;lia
theorem zlI {X:Nat→Nat→Int} {n m N:Nat} (hN:n+m≤N) (hn:∀ a b,n≤a→X a b=0) (hm:∀ a b,m≤b→X a b=0):(sm N fun t=>sm (t+1) fun a=>X a (t - a))=sm n fun a=>sm m fun b=>X a b:=by
 rw [zkz,zaX (m:=n) (n:=N) #[O] (fun a ha _=>zak fun b _=>hn a b ha)];exact zL fun a ha=>zaX #[O] fun b hb _=>hm a b hb
theorem zfK {F G:Nat→Nat→Int} {w:Nat} (hF:∀ a,Dg (F a) w) (j i:Nat):cv2 F G j i=sm (j+1) fun a=>mq 0 w (F a) (G (j - a)) i:=by
 unfold cv2;refine zL fun a _=>?_
 rw [za1];have h1:(sm (max (i+1) w) fun t=>F a t*Xp t (G (j - a)) i)=sm (i+1) fun t=>F a t*Xp t (G (j - a)) i:=zaX (iI _ _) fun t ht _=>by rw [zbk,if_pos #[O],b8]
 have h2:(sm (max (i+1) w) fun t=>F a t*Xp t (G (j - a)) i)=sm w fun t=>F a t*Xp t (G (j - a)) i:=zaX (io _ _) fun t ht _=>by rw [hF a t ht,bF]
 rw [← h2,h1];refine zL fun t ht=>?_
 rw [zbk,if_neg #[O]]
theorem zfL (k:Nat) (f:Ps):∀ (t n:Nat) (L:Nat→Ps),itq k f t (fun x=>sm n fun a=>L a x)=fun x=>sm n fun a=>itq k f t (L a) x
 | 0,n,L=>rfl
 | t+1,n,L=>by
  show mq 0 k f (itq k f t fun x=>sm n fun a=>L a x)=_;rw [zfL k f t n L];funext x;rw [zef];rfl
theorem zik (k:Nat) (f:Ps) (b:Nat) (l:Ps):∀ a,itq k f a (itq k f b l)=itq k f (a+b) l
 | 0=>by rw [bE]; rfl
 | a+1=>by
  rw [show a+1+b=a+b+1 by lia];show mq 0 k f (itq k f a (itq k f b l))=mq 0 k f (itq k f (a+b) l);rw [zik k f b l a]
theorem zil (k:Nat) (f:Ps):∀ t,itq k f t (fun _=>0)=fun _=>0
 | 0=>rfl
 | t+1=>by
  show mq 0 k f (itq k f t fun _=>0)=_;rw [zil k f t,(zaH 0 k f).z]
theorem zlJ {k n m N w W:Nat} {f:Ps} {F G:Nat→Ps} (hF:∀ a,Dg (F a) w) (hn:∀ a,n≤a→F a=fun _=>0) (hm:∀ b,m≤b→G b=fun _=>0) (hN:n+m≤N) (hW:Dg (AL k f m G) W) (x:Nat):AL k f N (fun t i=>cv2 F G t i) x=mq 0 W (AL k f m G) (AL k f n F) x:=by
 have hz:∀ l:Ps,mq 0 w (fun _=>0) l=fun _=>0:=fun l=>by
  funext x;rw [za1];exact zak fun i _=>bF _
 have e1:∀ t,itq k f t (fun i=>cv2 F G t i)=fun x=>sm (t+1) fun a=>itq k f a (mq 0 w (F a) (itq k f (t - a) (G (t - a)))) x:=fun t=>by
  have e:(fun i=>cv2 F G t i)=fun x=>sm (t+1) fun a=>mq 0 w (F a) (G (t - a)) x:=funext fun i=>zfK hF t i
  rw [e,zfL];funext x;refine zL fun a ha=>?_
  rw [zee,zik,show a+(t - a)=t by lia]
 rw [zdn];have e2:(sm N fun t=>itq k f t (fun i=>cv2 F G t i) x)=sm N fun t=>sm (t+1) fun a=>itq k f a (mq 0 w (F a) (itq k f (t - a) (G (t - a)))) x:=zL fun t _=>by rw [e1]
 rw [e2,zlI (X:=fun a b=>itq k f a (mq 0 w (F a) (itq k f b (G b))) x) hN (fun a b ha=>by rw [hn a ha,hz,zil]) (fun a b hb=>by rw [hm b hb,zil,(zaH 0 w (F a)).z,zil])];have e3:∀ a,(sm m fun b=>itq k f a (mq 0 w (F a) (itq k f b (G b))) x)=itq k f a (mq 0 W (AL k f m G) (F a)) x:=fun a=>by
  have eG:AL k f m G=fun x=>sm m fun b=>itq k f b (G b) x:=funext fun x=>zdn m G x
  rw [← zij (hF a) hW,eG];have e4:mq 0 w (F a) (fun x=>sm m fun b=>itq k f b (G b) x)=fun x=>sm m fun b=>mq 0 w (F a) (itq k f b (G b)) x:=funext fun x=>zef w (F a) m _ x
  rw [e4,zfL]
 have e5:AL k f n F=fun x=>sm n fun a=>itq k f a (F a) x:=funext fun x=>zdn n F x
 rw [e5,zef];refine zL fun a _=>?_
 rw [e3,zee]
theorem zi8 {p:Int} (hp:p∈zp) {k n m N w W:Nat} {f:Ps} {F G P:Nat→Ps} (hF:∀ a,Dg (F a) w) (hn:∀ a,n≤a→F a=fun _=>0) (hm:∀ b,m≤b→G b=fun _=>0) (hN:n+m≤N) (hW:Dg (AL k f m G) W) (hP:∀ t i,Cg p (P t i) (cv2 F G t i)):Zr p (AL k f N P)↔Zr p (AL k f n F)∨Zr p (AL k f m G):=by
 have e:Zr p (AL k f N P)↔Zr p (mq 0 W (AL k f m G) (AL k f n F)):=zku fun i=>(zgt (fun t x _=>hP t x) i).trans (Cg.of_eq (zlJ hF hn hm hN hW i))
 rw [e];constructor
 ·intro h;by_cases hz:Zr p (AL k f m G)
  ·exact .inr hz
  ·refine .inl (zky hp ?_ h);refine aq fun wX=>hz fun x=>?_
   by_cases hx:x < W
   ·exact aq fun hc=>wX ⟨x,hx,hc⟩
   ·rw [hW x #[O]];exact Cg.refl _ _
 ·rintro (h | h)
  ·exact zcp h
  ·intro x;rw [za1];exact zcr fun t _=>((h t).mul (Cg.refl p _)).trans (Cg.of_eq (bF _))
theorem zim {a:Int} {W:Nat} (j:Nat):sh a W (fun _=>0) j=0:=(zdM (n:=0) (bp _) fun _ _ _=>rfl).trans (zbt (bp _))
theorem zkA {a:Int} {W:Nat}:∀ (n:Nat) (L:Nat→Ps) (j:Nat),sh a W (fun i=>sm n fun t=>L t i) j=sm n fun t=>sh a W (L t) j
 | 0,L,j=>zim j
 | n+1,L,j=>by
  have e:(fun i=>sm (n+1) fun t=>L t i)=fun i=>(sm n fun t=>L t i)+L n i:=rfl
  rw [e,zie];show sh a W (fun i=>sm n fun t=>L t i) j+sh a W (L n) j=_;rw [zkA n L j];rfl
theorem zgv {a:Int}:∀ (n:Nat) (b l:Ps),mq a n b l=mq 0 n (sh a n b) l
 | 0,b,l=>rfl
 | n+1,b,l=>by
  have ih:=zgv (a:=a) n (fun t=>b (t+1)) l;funext x;show b 0*l x+(Xl (mq a n (fun t=>b (t+1)) l) x+a*mq a n (fun t=>b (t+1)) l x)=_;rw [ih,za1 (n+1)];have hS:∀ t,n≤t→sh a n (fun t=>b (t+1)) t=0:=fun t ht=>zbt ht
  have e1:(sm (n+1) fun t=>sh a (n+1) b t*Xp t l x)=b 0*l x+((sm n fun t=>sh a n (fun t=>b (t+1)) t*Xp (t+1) l x)+a*sm (n+1) fun t=>sh a n (fun t=>b (t+1)) t*Xp t l x):=by
   rw [zaQ];have f0:sh a (n+1) b 0=b 0+a*sh a n (fun t=>b (t+1)) 0:=rfl;have fs:∀ t,sh a (n+1) b (t+1)=sh a n (fun t=>b (t+1)) t+a*sh a n (fun t=>b (t+1)) (t+1):=fun t=>rfl
   have e2:(sm n fun t=>sh a (n+1) b (t+1)*Xp (t+1) l x)=(sm n fun t=>sh a n (fun t=>b (t+1)) t*Xp (t+1) l x)+a*sm n fun t=>sh a n (fun t=>b (t+1)) (t+1)*Xp (t+1) l x:=by
    rw [← za7,← zdl];refine zL fun t _=>?_
    rw [fs];grind
   rw [e2,f0,zaQ (f:=fun t=>sh a n (fun t=>b (t+1)) t*Xp t l x)];show (b 0+a*sh a n (fun t=>b (t+1)) 0)*Xp 0 l x+_=b 0*l x+(_+a*(sh a n (fun t=>b (t+1)) 0*Xp 0 l x+_));show (b 0+a*sh a n (fun t=>b (t+1)) 0)*l x+_=b 0*l x+(_+a*(sh a n (fun t=>b (t+1)) 0*l x+_));grind
  rw [e1];have e3:(sm (n+1) fun t=>sh a n (fun t=>b (t+1)) t*Xp t l x)=sm n fun t=>sh a n (fun t=>b (t+1)) t*Xp t l x:=zaX (fQ n) fun t ht _=>by rw [hS t ht,bF]
  rw [e3,← za1];have e4:Xl (mq 0 n (sh a n fun t=>b (t+1)) l) x=sm n fun t=>sh a n (fun t=>b (t+1)) t*Xp (t+1) l x:=by
   unfold Xl;by_cases hx:x=0
   ·rw [if_pos hx];exact (zak fun t _=>by rw [zbk,if_pos #[O],b8]).symm
   ·rw [if_neg hx,za1];refine zL fun t _=>?_
    rw [zbk,zbk];by_cases h2:x - 1 < t
    ·rw [if_pos h2,if_pos #[O]]
    ·rw [if_neg h2,if_neg #[O],show x - 1 - t=x - (t+1) by lia]
  rw [e4]
theorem zin {a:Int} {F G:Nat→Ps} {w1 w2 W:Nat} (hF:∀ j,Dg (F j) w1) (hG:∀ j,Dg (G j) w2) (hW:w1+w2≤W) (j i:Nat):sh a W (fun s=>cv2 F G j s) i=cv2 (fun j=>sh a W (F j)) (fun j=>sh a W (G j)) j i:=by
 have e:(fun s=>cv2 F G j s)=fun s=>sm (j+1) fun t=>mq 0 w1 (F t) (G (j - t)) s:=funext fun s=>zfK hF j s
 have hFs:∀ t,Dg (sh a W (F t)) w1:=fun t=>by
  rw [zfG (hF t) #[O]];exact fun i hi=>zbt hi
 rw [e,zkA,zfK hFs];refine zL fun t _=>?_
 rw [zmj (hG (j - t)) #[O],zgv,zfG (hF t) (show w1≤W by lia)]
theorem zgw (F G:Nat→Nat→Int) (j i:Nat):cv2 F G j i=cv2 (fun i j=>F j i) (fun i j=>G j i) i j:=by
 unfold cv2;rw [zdK]
theorem zlK {b:Int} {F G:Nat→Nat→Int} {n1 n2 N:Nat} (hF:∀ i,Dg (fun t=>F t i) n1) (hG:∀ i,Dg (fun t=>G t i) n2) (hN:n1+n2≤N) (j i:Nat):sh b N (fun t=>cv2 F G t i) j=cv2 (fun j i=>sh b N (fun t=>F t i) j) (fun j i=>sh b N (fun t=>G t i) j) j i:=by
 have e:(fun t=>cv2 F G t i)=fun t=>cv2 (fun i j=>F j i) (fun i j=>G j i) i t:=funext fun t=>zgw F G t i
 rw [e,zin (F:=fun i j=>F j i) (G:=fun i j=>G j i) hF hG hN,zgw]
theorem zlL {x y:Int} {F G:Nat→Nat→Int} {n1 n2 w1 w2 N W:Nat} (hF:∀ j i,n1≤j∨w1≤i→F j i=0) (hG:∀ j i,n2≤j∨w2≤i→G j i=0) (hN:n1+n2≤N) (hW:w1+w2≤W) (j i:Nat):mv x y N W (cv2 F G) j i=cv2 (fun j i=>mv x y N W F j i) (fun j i=>mv x y N W G j i) j i:=by
 unfold mv;have e:(fun s=>sh y N (fun t=>cv2 F G t s) j)=fun s=>cv2 (fun j i=>sh y N (fun t=>F t i) j) (fun j i=>sh y N (fun t=>G t i) j) j s:=funext fun s=>zlK (fun i t ht=>hF t i (.inl ht)) (fun i t ht=>hG t i (.inl ht)) hN j s
 have hz:∀ {H:Nat→Nat→Int} {n w:Nat},(∀ j i,n≤j∨w≤i→H j i=0)→∀ j,Dg (fun i=>sh y N (fun t=>H t i) j) w:=fun {H n w} h j i hi=>by
  have:(fun t=>H t i)=fun _=>0:=funext fun t=>h t i (.inr hi)
  show sh y N (fun t=>H t i) j=0;rw [this];exact zim j
 rw [e];exact zin (F:=fun j i=>sh y N (fun t=>F t i) j) (G:=fun j i=>sh y N (fun t=>G t i) j) (hz hF) (hz hG) hW j i
end My
end
section
namespace My
open PySem PySem.Spec L2 PyProof.Rows
noncomputable def isAt (H:Hp) (q:List Int) (u:Value):Bool:=@decide (∃ b,u = .ref b∧H b=some (.tup (q.map V.int))) (Classical.propDecidable _)
end My
end
section
namespace L2
open PySem PySem.Spec PyProof.Rows
theorem zc6:∀ (ns:List Int),(aI ns.length).any (fun i=>ns.getD i 0 != 0)=ns.any (· != 0)
 | []=>rfl
 | b :: bs=>by
  rw [cF,fR,kH,List.any_map,kH];have ih:=zc6 bs;have e:((fun i=>(b :: bs).getD i 0 != 0) ∘ Nat.succ)=fun i=>bs.getD i 0 != 0:=by funext i; rfl
  rw [e,ih];rfl
theorem zi9 {X:Cx} {K:ag} (hK:X.K=K) (hc:X.calm=true):za8 X (.builtin "any") (fun xs H Q=>∃ (p:Addr) (ns:List Int),xs = [.ref p]∧kT K H p (ns.map V.int)∧Q (.bl (ns.any (· != 0))) H):=by
 subst hK;intro kS s σ H xs us Q I r h;obtain⟨p,bs,rfl,hq,q⟩:=h;obtain⟨u,rfl,rx⟩:=vals1 r;cases rx;obtain⟨kU,rv,pl,hz⟩:=I.list hq;have hl:=rv.length;rw [ab] at hl;have k9:p < s.heap.objs.size:=by obtain⟨_,_,e,_⟩:=pl; exact aK e
 refine call_any_walk (fI pl.isList ?_);refine⟨s.heap.objs.size,_,_,kU.toArray.size,_,_,fun i=>bs.getD i 0 != 0,rfl,ku (by simp [I.ok.hd hc]) s.heap.objs.size p (ba k9) kU.toArray,⟨⟨_,aJ _ rfl,rfl,rfl⟩,pl.isList.push _⟩,fun i v s' Q' E' hP hQ=>?_,fun h' tk kk=>?_⟩
 ·have e1:kU[i]? = some v:=by simpa using hP
  obtain⟨hi,_⟩:=bw.mp e1;have mj:i < bs.length:=by lia
  obtain⟨u,hu,ru⟩:=rv.get (i:=i) (x:=V.int bs[i]) (by rw [af,ai mj]; rfl);rw [e1] at hu;cases hu;obtain⟨tk,ru⟩:=(show ∃ t,v=dH bs[i] t from ru);subst ru;have e2:bs.getD i 0=bs[i]:=by simp [mj]
  have hQ:Q' (bs.getD i 0 != 0) s':=hQ;rw [e2] at hQ;exact PyProof.Rows.truthy_int hQ
 ·rw [au,← hl,zc6];exact⟨.bl (bs.any (· != 0)),H,I.kept fun b o e=>kk b o (fun z=>by
   have z:b=s.heap.objs.size:=by simpa using z
   exact absurd (aK e) (by rw [z]; exact bW _)) (ak _ e),rfl,q⟩
end L2
end
section
namespace PySem
open PyProof.Rows
theorem zdA:isSubtype (.type "range_iterator") (.type "reversed")=pure false:=by rw [cK]; kernel_rfl
abbrev zgx (a b:Int):Obj:={ cls:=.type "range_iterator",data:=.fields #[rawInt (a+(bo a b 1 - 1)*1),rawInt (bo a b 1),rawInt (-1)] }
theorem zkB (r:Addr) (a b:Int) (t u v:Tok) (hs:(bh a && bh b && bh 1 && bh (-1) && bh (a - 1) && bh (bo a b 1))=true) :
  Meets (Builtin.«range.__reversed__» ⟨[.ref r],[]⟩) (fun _ R s=>s.heap.get? r=some { cls:=.type "range",dict:=none,data:=.fields #[.int a t,.int b u,.int 1 v],slots:=#[] }∧R (.ok (.ret (a8 s.heap.objs.size))) { s with heap:=s.heap.push (zgx a b) }) :=
 .of_wp fun prog w A R s h=>by
  (obtain⟨hp,g,d,tk,os⟩:=s)
  obtain⟨hl,h⟩:=h
  wp_walk
  rw [hs];exact⟨_,rfl,h⟩
section
variable {prog:Program} {w:World} {A:Around} {E:Value→Shared→Prop} {s:Shared}
theorem zlM {r:Addr} {a b:Int} {t u v:Tok} {Q:Value→Shared→Prop} (hr:IsRange s.heap r a b 1 t u v) (ha:-1000000≤a∧a < 1000000∧-1000000≤b∧b < 1000000)
  (h:Q (.ref s.heap.objs.size) { s with heap:=s.heap.push (zgx a b) }):wpAny (model prog w) A (call (.type "reversed") [.ref r]) Q E s:=by
 have hs:(bh a && bh b && bh 1 && bh (-1) && bh (a - 1) && bh (bo a b 1))=true:=by
  have hz:0≤bo a b 1∧bo a b 1≤2000000:=by
   (unfold bo)
   rw [if_pos #[D],Int.ediv_one];split <;> lia
  generalize bo a b 1=z at hz ⊢;unfold bh
  (simp only [di,decide_eq_true_eq])
  lia
 (have hT:s.TypeIs (.ref r) "range":=⟨_,hr,rfl⟩)
 refine callType_other (U:="range_iterator") (Q₁:=fun obj s₁=>obj = .ref s.heap.objs.size∧s₁ = { s with heap:=s.heap.push (zgx a b) }) #[N] F.create_reversed ⟨_,_,F.mro_reversed⟩ F.made_reversed zdA (iT _) ?_ ?_
 ·refine gf ?_;show wpAny _ A.in1.in1 (do checkBuiltinCall "reversed.__new__" ⟨[.type "reversed",.ref r],[]⟩; again (.builtin "reversed.__new__" ⟨[.type "reversed",.ref r],[]⟩)) _ _ s;refine (ae (cc (jb _) (aj ⟨df jg _,cC jd ?_⟩)))
  (rw [b7 jg _])
  (unfold Builtin.«reversed.__new__»)
  refine (ae (cc (newClass_reversed _) ?_))
  try dsimp only
  refine (ae (cc (a:=()) (by first | rfl | kernel_rfl) (ae (cc (a:=()) (by first | rfl | kernel_rfl) ?_))))
  try dsimp only
  refine (ae (dZ hT F.slot_range_reversed.lookup ?_))
  try dsimp only
  refine (ae (cc (F.slot_range_reversed.bind _) ?_))
  try dsimp only
  show wpAny _ _ (if (kJ "range.__reversed__" == cR)=true then _ else _) _ _ _;rw [if_neg (show ¬ ((kJ "range.__reversed__" == cR)=true) from aZ)];refine (ae (cT ?_));refine ae (m:=runValue (.call (.builtin "range.__reversed__") ⟨[.ref r],[]⟩)) (show wpAny _ _ (call (.builtin "range.__reversed__") [.ref r]) _ _ _ from ge F.slot_range_reversed hT F.entry_range_reversed (F.args_range_reversed_1 _) (zkB r a b t u v hs) ⟨hr,?_⟩)
  first
  | exact aj ⟨rfl,rfl⟩
  | exact ae (aj (aj ⟨rfl,rfl⟩))
 ·rintro obj s₁ ⟨rfl,rfl⟩
  (exact⟨⟨_,aJ _ rfl,rfl⟩,h⟩)
end
end PySem
namespace L2
open PySem PySem.Spec PyProof.Rows
theorem zgy {X:Cx}:za8 X (.type "range") (fun xs H Q=>∃ i j:Int,xs = [.int i,.int j]∧∀ l,H l=none→Q (.ref l) (kX H l (.rng i j))):=by
 intro kS s σ H xs us Q I r h;obtain⟨i,j,rfl,q⟩:=h;cases r with
 | cons r1 r =>
  cases r with
  | cons r2 r =>
   cases r;obtain⟨t,rfl⟩:=r1;obtain⟨t',rfl⟩:=r2;refine call_range_2 ?_;exact⟨.ref s.heap.objs.size,_,I.laid (o:=.rng i j) (fun b o e=>ak _ e) (ah _) ⟨_,_,_,aJ _ rfl⟩,rfl,q _ I.fresh⟩
def znY (ta:TA):TI:=fun σ H R=>ta σ H fun vs H1=>∃ (a:Addr) (i j:Int),vs = [.ref a]∧H1 a=some (.rng i j)∧(-1000000≤i∧i < 1000000∧-1000000≤j∧j < 1000000)∧R (ziT (i+((j - i).toNat:Int) - 1) (j - i).toNat) H1
theorem zlN {X:Cx} {tg:Expr} {p pos:Pos} {a:Expr} {ta:TA} (hg:Gl X "reversed") (hm:X.mg "reversed" = none) (ha:PA X [a] ta) (hs:starEach [a] X.env = [(false,eval a X.env)]:=by rfl) :
  PI X tg (.Call (.Name "reversed" p) [a] [] pos) (znY ta):=by
 intro kS s σ H R I h;refine Call_ (za5 I hg hm boot_reversed (bA (thn (ha pos kS s σ H _ I h) fun us s1 ⟨vs,H1,I1,r1,q1⟩=>?_) hs rfl));obtain⟨l,i,j,e,hq,hb,q⟩:=q1;subst e;cases r1 with
 | cons r rr =>
  cases rr;cases r;obtain⟨t,u,v,hr⟩:=(show zaJ X.prog X.w H1 s1.heap l (.rng i j) from I1.hok l _ hq);refine zlM hr hb ?_;have hsz:bo i j 1=((j - i).toNat:Int):=by
   (unfold bo)
   rw [if_pos #[D],Int.ediv_one];split <;> lia
  have I2:Inv X kS σ H1 { s1 with heap:=s1.heap.push (zgx i j) }:=I1.kept (t':=s1.toks) fun b o e=>ak _ e
  have hit:IsRangeIter (s1.heap.push (zgx i j)) s1.heap.objs.size ((i+((j - i).toNat:Int) - 1)+((0:Nat):Int)*(-1)) ((((j - i).toNat:Nat):Int) - ((0:Nat):Int)) (-1):=by
   have e1:(i+((j - i).toNat:Int) - 1)+((0:Nat):Int)*(-1)=i+(bo i j 1 - 1)*1:=by rw [hsz]; lia
   have e2:(((j - i).toNat:Nat):Int) - ((0:Nat):Int)=bo i j 1:=by rw [hsz]; lia
   rw [e1,e2];exact aJ _ rfl
  refine fO hit ?_;refine⟨_,[s1.heap.objs.size],_,ziT (i+((j - i).toNat:Int) - 1) (j - i).toNat,H1,rfl,I2,zgi _ _ _,hit,fun b hb=>?_,q⟩;have z:b=s1.heap.objs.size:=by simpa using hb
  subst z;exact I1.fpOk (ah _) (I1.hok.fresh (ah _))
end L2
end
section
namespace L2
open PySem PySem.SetTable
def Rs (xs:Array Nat):Prop:=xs.toList.Pairwise (· < ·)
theorem Rs.lt {xs:Array Nat} (h:Rs xs) {i j:Nat} (hj:j < xs.size) (nk:i < j):xs[i]'#[O] < xs[j]:=by
 have:=(dE.mp h) i j (by simpa using (by lia:i < xs.size)) (by simpa using hj) nk;simpa using this
theorem zeh {xs:Array Nat} (h:Rs xs) {j:Nat}:∀ fuel lo hi,hi - lo≤fuel→lo≤hi→hi≤xs.size→(∀ i (mj:i < xs.size),i < lo→xs[i] < j)→(∀ i (mj:i < xs.size),hi≤i→j≤xs[i]) →
  below.go xs j fuel lo hi≤xs.size∧(∀ i (mj:i < xs.size),i < below.go xs j fuel lo hi→xs[i] < j)∧(∀ i (mj:i < xs.size),below.go xs j fuel lo hi≤i→j≤xs[i])
 | 0,lo,hi,hf,hl,hs,h1,h2=>by
  have e:lo=hi:=by lia
  subst e;exact⟨hs,h1,h2⟩
 | fuel+1,lo,hi,hf,hl,hs,h1,h2=>by
  rw [below.go];by_cases k9:lo < hi
  ·rw [if_pos k9];have hm:(lo+hi) / 2 < xs.size:=by lia
   have e:xs.getD ((lo+hi) / 2) j=xs[(lo+hi) / 2]:=by simp [fE,hm]
   dsimp only;rw [e];by_cases hc:xs[(lo+hi) / 2] < j
   ·rw [if_pos hc];refine zeh h fuel _ hi #[O] #[O] hs (fun i mj hlt'=>?_) h2;by_cases e2:i=(lo+hi) / 2
    ·subst e2; exact hc
    ·exact Nat.lt_trans (h.lt hm #[O]) hc
   ·rw [if_neg hc];refine zeh h fuel lo _ #[O] #[O] #[O] h1 (fun i mj hle=>?_);by_cases e2:i=(lo+hi) / 2
    ·subst e2; lia
    ·have:=h.lt mj (show (lo+hi) / 2 < i by lia); lia
  ·rw [if_neg k9];have e:lo=hi:=by lia
   subst e;exact⟨hs,h1,h2⟩
theorem zcc {xs:Array Nat} (h:Rs xs) (j:Nat):below xs j≤xs.size∧(∀ i (mj:i < xs.size),i < below xs j→xs[i] < j)∧(∀ i (mj:i < xs.size),below xs j≤i→j≤xs[i]) :=
 zeh h _ _ _ #[O] #[O] (ah _) (fun i _ hi=>absurd hi #[O]) (fun i mj hle=>absurd mj #[O])
theorem zhj {xs:Array Nat} (h:Rs xs) {i:Nat} (hi:i < xs.size):below xs (xs[i]+1)=i+1:=by
 obtain⟨a,b,c⟩:=zcc h (xs[i]+1);have e1:i < below xs (xs[i]+1):=by
  (refine aq fun hn=>?_)
  have:=c i hi #[O];lia
 (refine aq fun hn=>?_)
 have h2:i+1 < xs.size:=by lia
 have:=b (i+1) h2 #[O];have:=h.lt h2 (show i < i+1 by lia);lia
theorem zhk {xs:Array Nat} (h:Rs xs):below xs 0=0:=by
 obtain⟨a,b,c⟩:=zcc h 0
 (refine aq fun hn=>?_)
 have:=b 0 #[O] #[O];lia
theorem zja {xs:Array Nat} (h:Rs xs) {j:Nat} (hn:xs[below xs j]?≠some j):Rs (insertAt xs (below xs j) j):=by
 obtain⟨a,b,c⟩:=zcc h j;unfold Rs insertAt;simp only [bz,g7,cL,List.extract_eq_drop_take,fq,gz];have hsz:xs.toList.length=xs.size:=by simp
 have e1:List.take (xs.size - below xs j) (List.drop (below xs j) xs.toList)=List.drop (below xs j) xs.toList:=aT (by rw [dL]; lia);rw [e1,bg];have hp:(xs.toList.take (below xs j)).Pairwise (· < ·):=h.sublist (gU _ _);have hq:(xs.toList.drop (below xs j)).Pairwise (· < ·):=h.sublist (jQ _ _);have ht:∀ x∈xs.toList.take (below xs j),x < j:=fun x hx=>by
  obtain⟨i,hi,rfl⟩:=jh.mp hx;rw [aU] at hi;rw [gZ];have:=b i #[O] #[O];simpa using this
 have hd:∀ x∈xs.toList.drop (below xs j),j < x:=fun x hx=>by
  obtain⟨i,hi,rfl⟩:=jh.mp hx;rw [dL] at hi;rw [List.getElem_drop];have h1:below xs j < xs.size:=by lia
  have h2:=c (below xs j) h1 (ah _);have h3:xs[below xs j]≠j:=fun e=>hn (by rw [be h1,e])
  have h4:=c (below xs j+i) #[O] #[O];by_cases e:i=0
  ·subst e;have:j < xs[below xs j]:=by lia
   simpa using this
  ·have:=h.lt (show below xs j+i < xs.size by lia) (show below xs j < below xs j+i by lia);have:j < xs[below xs j+i]:=by lia
   simpa using this
 refine gg.mpr ⟨hp,?_,?_⟩
 ·show (j :: xs.toList.drop (below xs j)).Pairwise (· < ·);exact et.mpr ⟨hd,hq⟩
 ·intro x hx y hy;rcases (aH.mp hy) with rfl | hy
  ·exact ht x hx
  ·exact Nat.lt_trans (ht x hx) (hd y hy)
structure Tb (led:Bool) (t:SetTable):Prop where
 r:Rs t.place
 d:t.dummies = #[]
 l:t.led=led
theorem Tb.fresh (f m:Nat) (led:Bool):Tb led (SetTable.fresh f m led):=⟨fK,rfl,rfl⟩
theorem Tb.standIn {led:Bool} {t:SetTable} (h:Tb led t) (n:Nat):Tb led (t.standIn n):=⟨by
 show (Array.range n).toList.Pairwise (· < ·);rw [Array.toList_range];exact fT,rfl,h.l⟩
theorem zfM (j:Nat):has #[] j=false:=by
 unfold has;simp
theorem Tb.put {led:Bool} {t:SetTable} (h:Tb led t) {j:Nat} (hn:t.place[below t.place j]?≠some j):Tb led (t.put j).1:=⟨zja h.r hn,by
 show (if has t.dummies j=true then _ else t.dummies) = #[];rw [h.d,zfM];rfl,h.l⟩
theorem Tb.relay {led:Bool} {t:SetTable} (h:Tb led t) (es:Array (Int×Value)) (wanted:Nat):Tb led (relayAll t es wanted).2.1:=by
 unfold relayAll;split
 ·next t' o he =>
  have ht:Tb led t':=by
   unfold SetTable.relaid SetTable.laid at he;cases hl:layClean (sizeAbove wanted - 1) (es.map (·.1)) with
   | none=>rw [hl] at he; simp at he
   | some ow =>
    rw [hl] at he;simp only [Option.pure_def,Option.bind_eq_bind,Option.bind_some,jS,Prod.mk.injEq] at he;obtain⟨rfl,_⟩:=he;refine⟨?_,rfl,h.l⟩;show (List.toArray _).toList.Pairwise (· < ·);rw [jF];refine List.Pairwise.filterMap _ ?_ fT;intro a a' haa b hb b' nR;simp at hb nR;obtain⟨_,_,rfl⟩:=hb;obtain⟨_,_,rfl⟩:=nR;exact haa
  dsimp only;split
  ·exact ht
  ·exact h.standIn _
 ·exact h.standIn _
end L2
end
section
namespace L2
open PySem PySem.Spec PyProof.Rows
end L2
end
section
namespace L2
open PySem PySem.SetTable
def tM (mask:Nat):SetTable:={ mask:=mask,place:=#[],dummies:=#[],finger:=0,led:=true,moves:=0,plain:=true }
theorem zei (t:SetTable) (p:Probe):t.advance p=(tM t.mask).advance p:=rfl
def rch (mask:Nat):Nat→Probe→Nat→Bool
 | 0,_,_=>false
 | n+1,p,j=>p.j == j || rch mask n ((tM mask).advance p) j
theorem zhl {mask i:Nat} (h:i≤mask):i+(runEnd mask i - i)≤mask:=by
 unfold runEnd;split <;> lia
theorem zkC {t:SetTable} {p:Probe} (h:p.j+p.more≤t.mask):(t.advance p).j+(t.advance p).more≤t.mask:=by
 unfold advance;split
 ·show p.j+1+(p.more - 1)≤t.mask;lia
 ·exact zhl (eC (dF _ (eL _)))
theorem ze3 {t:SetTable} {p:Probe} (h:p.dummy=none):(t.advance p).dummy=none:=by
 unfold advance;split <;> exact h
theorem zej {t:SetTable} (hd:t.dummies = #[]) {j:Nat} (hn:j∉t.place.toList):t.slot j = .empty:=by
 unfold slot;dsimp only;rw [hd,zfM,if_neg,if_neg #[M]];intro hc;have hc:t.place[below t.place j]? = some j:=by simpa using hc
 exact hn (by rw [cM]; exact Array.mem_of_getElem? hc)
theorem zkD {t:SetTable} (hd:t.dummies = #[]) (hs:t.place.size≤t.mask):∃ j,j≤t.mask∧t.slot j = .empty:=by
 (refine aq fun hn=>?_)
 have oK:aI (t.mask+1) ⊆ t.place.toList:=fun j hj=>aq fun hc=>hn ⟨j,by have:=bd.mp hj; lia,zej hd hc⟩
 have:=List.nodup_range.length_le_of_subset oK;rw [aW,av] at this;lia
structure Pb (led:Bool) (t:SetTable) (n:Nat):Prop where
 b:Tb led t
 p:t.plain=true
 z:t.place.size=n
 i:∀ j∈t.place.toList,j≤t.mask
 m:t.mask=7∧n≤4∨t.mask=31∧n≤18
theorem zgz {α:Type} {xs:Array α} {p:Nat} {x:α} (hp:p≤xs.size):(insertAt xs p x).size=xs.size+1:=by
 unfold insertAt;simp only [Array.size_append,Array.size_push,jC];lia
def rF (mask:Nat):Nat→Nat→Nat→Nat→Bool
 | 0,_,_,_=>false
 | n+1,i,q,j=>(decide (i≤j) && decide (j≤runEnd mask i)) || rF mask n (leap mask i q).1 (leap mask i q).2 j
theorem zdp {ow:Array (Option Nat)} {mask j0:Nat} (hz:ow.size=mask+1) (h0:ow[j0]? = some none):∀ fuel i q,i≤mask→rF mask fuel i q j0=true→∃ j,layClean.free mask ow fuel i q=some j∧ow[j]? = some none
 | 0,i,q,_,h=>by simp [rF] at h
 | fuel+1,i,q,hi,h=>by
  rw [layClean.free];cases hf:(aI (runEnd mask i+1 - i)).find? (fun k=>(ow.getD (i+k) (some 0)).isNone) with
  | some k =>
   refine⟨i+k,rfl,?_⟩;have hk:=List.find?_some hf;have hk:(ow.getD (i+k) (some 0)).isNone=true:=hk;by_cases hs:i+k < ow.size
   ·rw [be hs];have:ow.getD (i+k) (some 0)=ow[i+k]:=by simp [fE,hs]
    rw [this] at hk;rw [Option.isNone_iff_eq_none.mp hk]
   ·have:ow.getD (i+k) (some 0)=some 0:=by simp [fE,hs]
    rw [this] at hk;cases hk
  | none =>
   dsimp only;have hn:=jG.mp hf;rw [rF,bM,di,decide_eq_true_eq,decide_eq_true_eq] at h;rcases h with ⟨h1,h2⟩ | h
   ·exfalso;refine hn (j0 - i) (bd.mpr #[O]) ?_;have k9:j0 < ow.size:=by
     rcases dO j0 ow.size with h | h
     ·exact h
     ·rw [bR h] at h0; cases h0
    have e:ow[j0]=none:=by rw [be k9] at h0; injection h0
    have:ow.getD (i+(j0 - i)) (some 0)=none:=by rw [show i+(j0 - i)=j0 by lia]; simp [fE,k9,e]
    rw [this];rfl
   ·exact zdp hz h0 fuel _ _ (eC (dF _ (eL _))) h
theorem zkE {k:Nat}:∀ {l:List (Option Nat)} {j:Nat},l[j]? = some none→((l.set j (some k)).filterMap id).Perm (k :: l.filterMap id)
 | [],j,h=>by simp at h
 | a :: l,0,h=>by
  simp at h;subst h;simp
 | a :: l,j+1,h=>by
  (simp only [dS] at h)
  have ih:=zkE (k:=k) h;cases a with
  | none=>simpa using ih
  | some a =>
   simp only [List.set_cons_succ,cv,id];exact (ih.cons a).trans (.swap k a _)
theorem zfN:∀ {l:List (Option Nat)},(l.filterMap id).length < l.length→∃ j:Nat,l[j]? = some none
 | [],h=>by simp at h
 | none :: l,_=>⟨0,rfl⟩
 | some a :: l,h=>by
  simp only [cv,id,cF] at h;obtain⟨j,hj⟩:=zfN (l:=l) #[O];exact⟨j+1,by simpa using hj⟩
def Ow (ow:Array (Option Nat)) (k:Nat):Prop:=ow.size=32∧(ow.toList.filterMap id).Perm (aI k)
theorem range_getD {α:Type} {d:α}:∀ (l:List α),(aI l.length).map (fun j=>l.getD j d)=l:=fun l=>by
 refine List.ext_getElem #[M] fun i h1 h2=>?_
 simp [am,ai h2]
theorem zjb {ow:Array (Option Nat)} (hz:ow.size=32):((aI 32).filterMap fun j=>(ow.getD j none).map (j,·)).map (·.2)=ow.toList.filterMap id:=by
 have e:ow.toList.filterMap id=((aI 32).map fun j=>ow.toList.getD j none).filterMap id:=by
  have:=range_getD (d:=(none:Option Nat)) ow.toList;rw [av,hz] at this;rw [this]
 rw [e,jF,gI];congr 1;funext j;have:ow.toList.getD j none=ow.getD j none:=by
  rw [am,aS,eP]
 simp only [kG,id];rw [this];cases ow.getD j none <;> rfl
theorem zjc {α:Type} (es:Array α):(aI es.size).filterMap (fun i=>es[i]?)=es.toList:=by
 have h:∀ (l:List α),(aI l.length).filterMap (fun i=>l[i]?)=l:=fun l=>by
  induction l with
  | nil=>rfl
  | cons a l ih =>
   rw [cF,fR,cv];simp only [iA];rw [gI];show a :: _=_;congr 1
 have:=h es.toList;rw [av] at this;simpa using this
def lr (mask:Nat):Nat→Nat→Nat→Nat→Bool
 | 0,i,_,j=>i == j
 | n+1,i,q,j=>i == j || lr mask n (leap mask i q).1 (leap mask i q).2 j
theorem lr7:∀ i,i < 8→∀ j,j < 8→lr 7 7 i 0 j=true:=by decide +kernel
theorem znZ:∀ i,i < 32→∀ j,j < 32→lr 31 31 i 0 j=true:=by decide +kernel
theorem zdS {mask j m:Nat} (hb:∀ i,i < mask+1→∀ j,j < mask+1→lr mask m i 0 j=true) (hj:j < mask+1):∀ n i q,i < mask+1→q < 32 ^ n→lr mask (n+m) i q j=true
 | 0,i,q,hi,hq=>by
  obtain rfl:q=0:=by lia
  rw [bE];exact hb i hi j hj
 | n+1,i,q,hi,hq=>by
  rw [show n+1+m=n+m+1 by lia,lr,bM];refine .inr (zdS hb hj n _ _ (dF _ (eL _)) ?_);show q / 32 < 32 ^ n;rw [jH] at hq;lia
theorem zfO (h:Int):bits h < 32 ^ 13:=by
 unfold bits;have h1:=aB h (show (0:Int) < 2 ^ 64 by decide);have h0:=aQ h (show (2:Int) ^ 64≠0 by decide);have:(2:Int) ^ 64=18446744073709551616:=by decide
 have h2:(32:Nat) ^ 13=36893488147419103232:=by decide
 lia
def zbS (mask i q:Nat):Probe:={ j:=i,more:=runEnd mask i - i,i:=i,perturb:=q,dummy:=none }
theorem zc7 {mask j:Nat}:∀ {n:Nat} {p:Probe} {m:Nat},n≤m→rch mask n p j=true→rch mask m p j=true
 | 0,p,m,_,h=>by simp [rch] at h
 | n+1,p,0,hm,h=>by lia
 | n+1,p,m+1,hm,h=>by
  rw [rch,bM] at h ⊢;rcases h with h | h
  ·exact .inl h
  ·exact .inr (zc7 #[O] h)
theorem zio {mask j:Nat}:∀ (d:Nat) (p:Probe) (n:Nat),p.more=d→rch mask n (zbS mask (leap mask p.i p.perturb).1 (leap mask p.i p.perturb).2) j=true→p.dummy=none→rch mask (n+d+1) p j=true
 | 0,p,n,hd,h,hp=>by
  rw [c7,rch,bM];refine .inr ?_;have:(tM mask).advance p=zbS mask (leap mask p.i p.perturb).1 (leap mask p.i p.perturb).2:=by
   unfold advance;rw [if_neg #[O]];show ({ p with j:=(leap mask p.i p.perturb).1,more:=runEnd mask (leap mask p.i p.perturb).1 - (leap mask p.i p.perturb).1,i:=(leap mask p.i p.perturb).1,perturb:=(leap mask p.i p.perturb).2 }:Probe)=_;rw [hp];rfl
  rw [this];exact h
 | d+1,p,n,hd,h,hp=>by
  rw [rch,bM];refine .inr ?_;have:(tM mask).advance p = { p with j:=p.j+1,more:=p.more - 1 }:=by
   unfold advance;rw [if_pos #[O]]
  rw [this];exact zio d _ n (by show p.more - 1=d; lia) h hp
theorem zgA (mask i:Nat):runEnd mask i - i≤9:=by
 unfold runEnd;split <;> lia
theorem zhm {mask j:Nat}:∀ (n i q:Nat),lr mask n i q j=true→rch mask (10*n+1) (zbS mask i q) j=true
 | 0,i,q,h=>by
  rw [Nat.mul_zero,bE,rch,bM];exact .inl h
 | n+1,i,q,h=>by
  rw [lr,bM] at h;rcases h with h | h
  ·rw [show 10*(n+1)+1=10*n+10+1 by lia,rch,bM];exact .inl h
  ·have h9:=zgA mask i;exact zc7 (show 10*n+1+(runEnd mask i - i)+1≤10*(n+1)+1 by lia) (zio _ (zbS mask i q) (10*n+1) rfl (zhm n _ _ h) rfl)
theorem ziq {mask j:Nat}:∀ {n m i q:Nat},n≤m→rF mask n i q j=true→rF mask m i q j=true
 | 0,m,i,q,_,h=>by simp [rF] at h
 | n+1,0,i,q,hm,h=>by lia
 | n+1,m+1,i,q,hm,h=>by
  rw [rF,bM] at h ⊢;rcases h with h | h
  ·exact .inl h
  ·exact .inr (ziq #[O] h)
theorem zhn (mask i:Nat):i≤runEnd mask i:=by
 unfold runEnd;split <;> lia
theorem zmn {mask j:Nat}:∀ (n i q:Nat),lr mask n i q j=true→rF mask (n+1) i q j=true
 | 0,i,q,h=>by
  rw [rF,bM];have h:i=j:=by rw [lr] at h; exact beq_iff_eq.mp h
  have:=zhn mask i;exact .inl (by rw [di]; exact⟨decide_eq_true #[O],decide_eq_true #[O]⟩)
 | n+1,i,q,h=>by
  rw [lr,bM] at h;rw [rF,bM];rcases h with h | h
  ·have h:i=j:=beq_iff_eq.mp h;have:=zhn mask i;exact .inl (by rw [di]; exact⟨decide_eq_true #[O],decide_eq_true #[O]⟩)
  ·exact .inr (zmn n _ _ h)
theorem zlO {t:SetTable} (hm:t.mask=7∨t.mask=31) (h:Int) {j:Nat} (hj:j≤t.mask):rch t.mask (10*turns t.mask) (t.probeStart h) j=true:=by
 have e:t.probeStart h=zbS t.mask (bits h % (t.mask+1)) (bits h):=rfl;rw [e];rcases hm with m | m
 ·rw [m] at hj ⊢;exact zc7 #[D] (zhm _ _ _ (zdS lr7 (show j < 7+1 by lia) 13 (bits h % (7+1)) (bits h) (dF _ #[D]) (zfO h)))
 ·rw [m] at hj ⊢;exact zc7 #[D] (zhm _ _ _ (zdS znZ (show j < 31+1 by lia) 13 (bits h % (31+1)) (bits h) (dF _ #[D]) (zfO h)))
theorem zkF (h:Int) {j:Nat} (hj:j < 32):rF 31 46 (bits h % 32) (bits h) j=true :=
 ziq #[D] (zmn _ _ _ (zdS znZ (show j < 31+1 from hj) 13 (bits h % (31+1)) (bits h) (dF _ #[D]) (zfO h)))
theorem zkG {ow:Array (Option Nat)} {k:Nat} (O:Ow ow k) (hk:k < 32) (h:Int):∃ j,layClean.free 31 ow (turns 31) (bits h % (31+1)) (bits h)=some j∧Ow (ow.setIfInBounds j (some k)) (k+1):=by
 obtain⟨j0,h0⟩:=zfN (l:=ow.toList) (by rw [O.2.length_eq,aW,av,O.1]; exact hk);rw [aS] at h0;have nL:j0 < 32:=by
  rcases dO j0 ow.size with h | h
  ·rw [← O.1]; exact h
  ·rw [bR h] at h0; cases h0
 obtain⟨j,e,hj⟩:=zdp (mask:=31) O.1 h0 46 (bits h % 32) (bits h) #[O] (zkF h nL);refine⟨j,e,by rw [ie]; exact O.1,?_⟩;rw [Array.toList_setIfInBounds];refine (zkE (by rw [aS]; exact hj)).trans ?_;rw [ff];exact (O.2.cons k).trans (List.perm_append_singleton k (aI k)).symm
theorem Pb.fitsG {led:Bool} {t:SetTable} {n:Nat} (P:Pb led t n):t.fits n=true:=by
 unfold gQ gR;rw [P.b.d,P.z];rcases P.m with m | m <;> simp <;> lia
theorem Pb.nextG {led:Bool} {t1:SetTable} {n:Nat} (T:Tb led t1) (hp:t1.plain=true) (hz:t1.place.size=n) (hi:∀ j∈t1.place.toList,j≤t1.mask) (hm:t1.mask=7∧n≤5∨t1.mask=31∧n≤18) :
  (t1.tooFull=true→n=5)∧(t1.tooFull=false→Pb led t1 n):=by
 have ef:t1.fill=n:=by unfold gR; rw [T.d,hz]; rfl
 constructor
 ·intro h;unfold tooFull at h;rw [ef] at h;simp at h;rcases hm with ⟨m,h2⟩ | ⟨m,h2⟩ <;> rw [m] at h <;> lia
 ·intro h;unfold tooFull at h;rw [ef] at h;simp at h;refine⟨T,hp,hz,hi,?_⟩;rcases hm with ⟨m,h2⟩ | ⟨m,h2⟩ <;> rw [m] at h
  ·exact .inl ⟨m,#[O]⟩
  ·exact .inr ⟨m,h2⟩
def ChO (mask:Nat) (se:Nat→Prop):Nat→Probe→Nat→Prop
 | 0,_,_=>False
 | n+1,p,j=>p.j=j∨(se p.j∧ChO mask se n ((tM mask).advance p) j)
theorem ChO.more {mask j:Nat} {se xN:Nat→Prop} (ho:∀ x,se x→xN x):∀ {n m:Nat} {p:Probe},n≤m→ChO mask se n p j→ChO mask xN m p j
 | 0,m,p,_,h=>h.elim
 | n+1,0,p,hm,_=>by lia
 | n+1,m+1,p,hm,h=>by
  rcases h with h | ⟨h1,h2⟩
  ·exact .inl h
  ·exact .inr ⟨ho _ h1,h2.more ho #[O]⟩
theorem ChO.run {mask j:Nat} {se:Nat→Prop}:∀ (d:Nat) {n:Nat} {p:Probe},d≤p.more→(∀ x,x < d→se (p.j+x))→ChO mask se n { p with j:=p.j+d,more:=p.more - d } j→ChO mask se (n+d) p j
 | 0,n,p,_,_,h=>h
 | d+1,n,p,hd,ho,h=>by
  refine .inr ⟨ho 0 #[O],?_⟩;have e:(tM mask).advance p = { p with j:=p.j+1,more:=p.more - 1 }:=by
   unfold advance;rw [if_pos #[O]]
  rw [e];refine ChO.run d (p:={ p with j:=p.j+1,more:=p.more - 1 }) (by show d≤p.more - 1; lia) (fun x hx=>?_) ?_
  ·show se (p.j+1+x);rw [show p.j+1+x=p.j+(x+1) by lia];exact ho (x+1) #[O]
  ·show ChO mask se n { p with j:=p.j+1+d,more:=p.more - 1 - d } j;rw [show p.j+1+d=p.j+(d+1) by lia,show p.more - 1 - d=p.more - (d+1) by lia];exact h
def zgB (ow:Array (Option Nat)) (x:Nat):Prop:=∃ k,ow[x]? = some (some k)
theorem zek {ow:Array (Option Nat)} {mask:Nat} (hz:ow.size=mask+1) {j:Nat}:∀ fuel i q,i≤mask→layClean.free mask ow fuel i q=some j→ChO mask (zgB ow) (10*fuel) (zbS mask i q) j
 | 0,i,q,_,h=>by simp [layClean.free] at h
 | fuel+1,i,q,hi,h=>by
  rw [layClean.free] at h;have hre:=zhl hi;have h9:=zgA mask i;have nS:=zhn mask i;have full:∀ x,x≤mask→¬ (ow.getD x (some 0)).isNone=true→zgB ow x:=fun x hx hn=>by
   have k9:x < ow.size:=by lia
   have e:ow.getD x (some 0)=ow[x]:=by simp [fE,k9]
   rw [e] at hn;cases hv:ow[x] with
   | none=>rw [hv] at hn; exact absurd rfl hn
   | some k=>exact⟨k,by rw [be k9,hv]⟩
  cases hf:(aI (runEnd mask i+1 - i)).find? (fun k=>(ow.getD (i+k) (some 0)).isNone) with
  | some k =>
   rw [hf] at h;injection h with h
   obtain⟨ux,as,bs,oh,tj⟩:=List.find?_eq_some_iff_append.mp hf;have hkm:k∈aI (runEnd mask i+1 - i):=by rw [oh]; simp
   have xO:=bd.mp hkm;have BQ:∀ x,x < k→¬ (ow.getD (i+x) (some 0)).isNone=true:=fun x hx=>by
    have hxm:x∈aI (runEnd mask i+1 - i):=bd.mpr #[O];rw [oh] at hxm;rcases aP.mp hxm with hm | hm
    ·intro hc;have h2:=tj x hm;rw [hc] at h2;cases h2
    ·exfalso;have xP:(as++k :: bs).Pairwise (· < ·):=oh ▸ fT;rcases (aH.mp hm) with rfl | hm
     ·lia
     ·have:=(et.mp (gg.mp xP).2.1).1 x hm;lia
   have BR:ChO mask (zgB ow) 1 { (zbS mask i q) with j:=(zbS mask i q).j+k,more:=(zbS mask i q).more - k } j:=.inl h;exact (ChO.run k (p:=zbS mask i q) (by show k≤runEnd mask i - i; lia) (fun x hx=>full (i+x) #[O] (BQ x hx)) BR).more (fun _ h=>h) #[O]
  | none =>
   rw [hf] at h;have hn:=jG.mp hf;have ih:=zek hz fuel _ _ (eC (dF _ (eL _))) h;have om:∀ x,x≤runEnd mask i - i→zgB ow (i+x):=fun x hx=>full (i+x) #[O] (hn x (bd.mpr #[O]))
   have xQ:ChO mask (zgB ow) (10*fuel+1) { (zbS mask i q) with j:=(zbS mask i q).j+(runEnd mask i - i),more:=(zbS mask i q).more - (runEnd mask i - i) } j:=by
    refine .inr ⟨om _ (ah _),?_⟩;have e:(tM mask).advance { (zbS mask i q) with j:=(zbS mask i q).j+(runEnd mask i - i),more:=(zbS mask i q).more - (runEnd mask i - i) }=zbS mask (leap mask i q).1 (leap mask i q).2:=by
     unfold advance;rw [if_neg (by show ¬ (runEnd mask i - i - (runEnd mask i - i) > 0); lia)];rfl
    rw [e];exact ih
   exact (ChO.run (runEnd mask i - i) (p:=zbS mask i q) (ah _) (fun x hx=>om x #[O]) xQ).more (fun _ h=>h) #[O]
def Chs (hs:List Int) (ow:Array (Option Nat)):Prop:=∀ j k,ow[j]? = some (some k)→∃ h,hs[k]? = some h∧ChO 31 (zgB ow) (10*turns 31) (zbS 31 (bits h % 32) (bits h)) j
theorem zkH {hs:List Int} (hl:hs.length≤31):∃ ow,layClean 31 hs.toArray=some ow∧Ow ow hs.length∧Chs hs ow:=by
 have key:∀ (rest done:List Int) (ow:Array (Option Nat)),done.length+rest.length≤31→Ow ow done.length→Chs done ow→∃ xR,rest.foldl (fun (acc:Option (Array (Option Nat)×Nat)) (h:Int)=>do
   let (owner,k) ← acc
   let j ← layClean.free 31 owner (turns 31) (bits h % (31+1)) (bits h)
   pure (owner.setIfInBounds j (some k),k+1)) (some (ow,done.length))=some (xR,done.length+rest.length)∧Ow xR (done.length+rest.length)∧Chs (done++rest) xR:=by
  intro rest;induction rest with
  | nil=>intro done ow _ O C; exact⟨ow,rfl,O,by rw [cP]; exact C⟩
  | cons h rest ih =>
   intro done ow hl O C;rw [cF] at hl;obtain⟨j,e,O2⟩:=zkG O #[O] h;have oz:=zek (mask:=31) O.1 (turns 31) _ _ (eC (dF _ (eL _))) e;have hj:j < ow.size∧ow[j]? = some none:=by
    obtain⟨j0,h0⟩:=zfN (l:=ow.toList) (by
     have e1:=O.2.length_eq;rw [aW] at e1;have e2:ow.toList.length=32:=by rw [av]; exact O.1
     lia)
    rw [aS] at h0;have nL:j0 < 32:=by
     rcases dO j0 ow.size with h | h
     ·rw [← O.1]; exact h
     ·rw [bR h] at h0; cases h0
    obtain⟨j',e',nc⟩:=zdp (mask:=31) O.1 h0 46 (bits h % 32) (bits h) #[O] (zkF h nL);obtain rfl:j'=j:=bf (e'.symm.trans e);refine⟨?_,nc⟩;rcases dO j' ow.size with h | h
    ·exact h
    ·rw [bR h] at nc; cases nc
   have om:∀ x,zgB ow x→zgB (ow.setIfInBounds j (some done.length)) x:=fun x ⟨k,hk⟩=>by
    by_cases hx:j=x
    ·subst hx;rw [hj.2] at hk;cases hk
    ·exact⟨k,by rw [eF,if_neg hx]; exact hk⟩
   have C2:Chs (done++[h]) (ow.setIfInBounds j (some done.length)):=fun x k hk=>by
    rw [eF] at hk;by_cases hx:j=x
    ·rw [if_pos hx,if_pos hj.1] at hk;obtain rfl:done.length=k:=by injection hk with hk; injection hk
     exact⟨h,#[M],hx ▸ oz.more om (ah _)⟩
    ·rw [if_neg hx] at hk;obtain⟨h',e1,e2⟩:=C x k hk;exact⟨h',by rw [bG (bw.mp e1).1]; exact e1,e2.more om (ah _)⟩
   obtain⟨xR,e2,O3,C3⟩:=ih (done++[h]) _ (by simp; lia) (by simpa using O2) C2;have el:(done++[h]).length+rest.length=done.length+(h :: rest).length:=by simp; lia
   refine⟨xR,?_,by rw [← el]; exact O3,by rw [bg] at C3; exact C3⟩;rw [ko,← el,← e2];congr 1;show (layClean.free 31 ow (turns 31) (bits h % (31+1)) (bits h)).bind _=_;rw [e];show some (ow.setIfInBounds j (some done.length),done.length+1)=some (ow.setIfInBounds j (some done.length),(done++[h]).length);rw [aF];rfl
 obtain⟨ow,e,O,C⟩:=key hs [] (Array.replicate 32 none) (by simpa using hl) ⟨#[M],by
  rw [Array.toList_replicate];have:∀ n,(ar n (none:Option Nat)).filterMap id = []:=fun n=>by
   induction n with
   | zero=>rfl
   | succ n ih=>simp [dh,ih]
  rw [this];exact .refl _⟩ (fun j k hk=>by
   rw [Array.getElem?_replicate] at hk;split at hk
   ·injection hk with hk; cases hk
   ·cases hk)
 simp only [ed,bE,iE] at e O C;refine⟨ow,?_,O,C⟩;unfold layClean;rw [← Array.foldl_toList];rw [e];rfl
theorem zir {t:SetTable} (hr:Rs t.place) {j:Nat} (hj:j∈t.place.toList):∃ i,t.slot j = .live i∧t.place[i]? = some j:=by
 obtain⟨i0,qL⟩:=bN.mp hj;rw [aS] at qL;obtain⟨k9,e0⟩:=br.mp qL;obtain⟨hb,h1,h2⟩:=zcc hr j;have nS:below t.place j≤i0:=by
  rcases dO i0 (below t.place j) with h | h
  ·have:=h1 i0 k9 h;lia
  ·exact h
 have pN:below t.place j < t.place.size:=by lia
 have h3:=h2 _ pN (ah _);have e:t.place[below t.place j]=j:=by
  rcases dO (below t.place j) i0 with h | h
  ·have:=hr.lt k9 h;lia
  ·have:below t.place j=i0:=by lia
   simp only [this];exact e0
 have e2:t.place[below t.place j]? = some j:=by rw [be pN,e]
 refine⟨below t.place j,?_,e2⟩;unfold slot;dsimp only;rw [if_pos (by rw [e2]; simp)]
abbrev zbT (t:SetTable) (x:Nat):Prop:=x∈t.place.toList
theorem zkI {t:SetTable} (hd:t.dummies = #[]) {j:Nat} (h:t.slot j≠.empty):zbT t j:=aq fun hn=>h (zej hd hn)
def Chn (es:List (Int×Value)) (t:SetTable):Prop:=∀ e j,(e,j)∈es.zip t.place.toList→ChO t.mask (zbT t) (10*turns t.mask) (t.probeStart e.1) j
theorem zlP {α β:Type} {a:List α} {b:List β} (hl:a.length=b.length) {x:α} {y:β} {q:Nat} {z:α×β} (h:z∈List.zip (a.take q++x :: a.drop q) (b.take q++y :: b.drop q)):z=(x,y)∨z∈a.zip b:=by
 rw [List.zip_append (by rw [aU,aU,hl]),jI] at h;rcases (aP.mp h) with h | h
 ·rw [show (a.take q).zip (b.take q)=(a.zip b).take q from (List.take_zipWith ..).symm] at h;exact .inr (eX h)
 ·rcases aH.mp h with h | h
  ·exact .inl h
  ·rw [show (a.drop q).zip (b.drop q)=(a.zip b).drop q from (List.drop_zipWith ..).symm] at h;exact .inr (gh h)
theorem Chn.put {es:Array (Int×Value)} {t:SetTable} (C:Chn es.toList t) (hz:t.place.size=es.size) {j:Nat} {e:Int×Value} (hc:ChO t.mask (zbT t) (10*turns t.mask) (t.probeStart e.1) j):Chn (insertAt es (t.put j).2 e).toList (t.put j).1:=by
 have om:∀ x,zbT t x→zbT (t.put j).1 x:=fun x hx=>by
  show x∈(insertAt t.place (below t.place j) j).toList;have hx:x∈t.place.toList:=hx;rw [dP];rw [← cE (below t.place j) t.place.toList] at hx;rcases aP.mp hx with h | h
  ·exact aY _ h
  ·exact aE _ (aw _ h)
 intro e' j' h;have h:(e',j')∈(insertAt es (below t.place j) e).toList.zip (insertAt t.place (below t.place j) j).toList:=h;rw [dP,dP] at h;rcases zlP (by rw [av,av,hz]) h with h | h
 ·injection h with h1 h2
  subst h1 h2;exact hc.more om (ah _)
 ·exact (C e' j' h).more om (ah _)
theorem zis {t:SetTable} (hd:t.dummies = #[]) {hashAt:Nat→Int} {h:Int} {j0:Nat} (h0:t.slot j0 = .empty):∀ fuel F p,F≤fuel→p.dummy=none→p.j+p.more≤t.mask→rch t.mask F p j0=true →
  (∃ j,probe.go t hashAt h fuel p=some (.empty j none)∧j≤t.mask∧t.slot j = .empty∧∃ n,n≤F∧ChO t.mask (zbT t) n p j) ∨
  (∃ j i p' F',probe.go t hashAt h fuel p=some (.candidate j i p')∧t.slot j = .live i∧hashAt i=h∧F' < F∧rch t.mask F' p' j0=true∧p'.dummy=none∧p'.j+p'.more≤t.mask∧∀ n x,n≤F'→ChO t.mask (zbT t) n p' x→∃ n2,n2≤F∧ChO t.mask (zbT t) n2 p x)
 | fuel,0,p,_,_,_,hr=>by simp [rch] at hr
 | 0,F+1,p,hF,_,_,_=>by lia
 | fuel+1,F+1,p,hF,hp,hm,hr=>by
  rw [probe.go];split
  ·next hs=>exact .inl ⟨p.j,by rw [hp],#[O],hs,1,#[O],.inl rfl⟩
  ·next hs =>
   exfalso;unfold slot at hs;dsimp only at hs;rw [hd,zfM] at hs;split at hs
   ·cases hs
   ·simp at hs
  ·next i hs =>
   rw [rch,bM] at hr;have uw:rch t.mask F (t.advance p) j0=true:=by
    rcases hr with hr | hr
    ·rw [beq_iff_eq.mp hr,h0] at hs;cases hs
    ·rw [zei]; exact hr
   have om:zbT t p.j:=zkI hd (by rw [hs]; intro z; cases z);have step:∀ n x,ChO t.mask (zbT t) n (t.advance p) x→ChO t.mask (zbT t) (n+1) p x:=fun n x hx=>.inr ⟨om,by rw [zei] at hx; exact hx⟩
   by_cases hh:(hashAt i == h)=true
   ·rw [if_pos hh];exact .inr ⟨_,_,_,F,rfl,hs,beq_iff_eq.mp hh,eS _,uw,ze3 hp,zkC hm,fun n x hn hx=>⟨n+1,#[O],step n x hx⟩⟩
   ·rw [if_neg hh];rcases zis hd (hashAt:=hashAt) (h:=h) h0 fuel F _ #[O] (ze3 hp) (zkC hm) uw with ⟨j,e1,e2,e3,n,e4,e5⟩ | ⟨j,i',p',F',e1,e2,e3,e4,e5,e6,e7,e8⟩
    ·exact .inl ⟨j,e1,e2,e3,n+1,#[O],step n j e5⟩
    ·exact .inr ⟨j,i',p',F',e1,e2,e3,#[O],e5,e6,e7,fun n x hn hx=>by
      obtain⟨n2,a1,a2⟩:=e8 n x hn hx;exact⟨n2+1,#[O],step n2 x a2⟩⟩
theorem zkJ {t:SetTable} (hr:Rs t.place) (hd:t.dummies = #[]) {hashAt:Nat→Int} {h:Int} {j0 i0:Nat} (wH:t.slot j0 = .live i0) (BS:hashAt i0=h):∀ fuel n p,n≤fuel→ChO t.mask (zbT t) n p j0 →
  ∃ j i p',probe.go t hashAt h fuel p=some (.candidate j i p')∧t.slot j = .live i∧hashAt i=h∧(j=j0∨∃ n',n' < n∧ChO t.mask (zbT t) n' p' j0)
 | fuel,0,p,_,hc=>hc.elim
 | 0,n+1,p,hF,_=>by lia
 | fuel+1,n+1,p,hF,hc=>by
  rw [probe.go];rcases hc with hc | ⟨ho,hc⟩
  ·rw [hc,wH];dsimp only;rw [if_pos (by rw [BS]; simp)];exact⟨j0,i0,_,rfl,wH,BS,.inl rfl⟩
  ·obtain⟨i,hs,_⟩:=zir hr ho;rw [hs];dsimp only;have hc:ChO t.mask (zbT t) n (t.advance p) j0:=by rw [zei]; exact hc
   by_cases hh:(hashAt i == h)=true
   ·rw [if_pos hh];exact⟨_,_,_,rfl,hs,beq_iff_eq.mp hh,.inr ⟨n,eS _,hc⟩⟩
   ·rw [if_neg hh];obtain⟨j,i',p',e1,e2,e3,e4⟩:=zkJ hr hd wH BS fuel n _ #[O] hc;refine⟨j,i',p',e1,e2,e3,?_⟩;rcases e4 with e4 | ⟨n',e4,e5⟩
    ·exact .inl e4
    ·exact .inr ⟨n',#[O],e5⟩
theorem zkK {α β γ:Type} {f:β→Option γ}:∀ {live:List (α×β)},(∀ q∈live,∃ e,f q.2=some e)→∀ {z:γ×α},z∈((live.map (·.2)).filterMap f).zip (live.map (·.1))→∃ q∈live,f q.2=some z.1∧q.1=z.2
 | [],_,z,h=>by cases h
 | q :: live,hs,z,h=>by
  obtain⟨e,he⟩:=hs q aL;rw [dA,cv,he,dA,jI] at h;rcases aH.mp h with h | h
  ·rw [h];exact⟨q,aL,he,rfl⟩
  ·obtain⟨q',h1,h2⟩:=zkK (fun q hq=>hs q (aw _ hq)) h;exact⟨q',aw _ h1,h2⟩
theorem Pb.relayH {led:Bool} {t:SetTable} {n wanted:Nat} {es:Array (Int×Value)} (T:Tb led t) (hp:t.plain=true) (he:es.size=n) (hn:n≤18) (hw:sizeAbove wanted=32) :
  ∃ t' order,t.relaid (es.map (·.1)) wanted=some (t',order)∧(order.filterMap (es[·]?)).size=n∧(order.filterMap (es[·]?)).toList.Perm es.toList∧Pb led t' n∧Chn (order.filterMap (es[·]?)).toList t':=by
 have hT:=T.relay es wanted;have hl:(es.toList.map (·.1)).length=n:=by rw [ab,av,he]
 have eh:es.map (·.1)=(es.toList.map (·.1)).toArray:=by
  refine Array.toList_inj.mp ?_;rw [ii]
 obtain⟨ow,e,O,C⟩:=zkH (hs:=es.toList.map (·.1)) #[O];rw [hl] at O;obtain⟨live,Am⟩:∃ live,live=(aI 32).filterMap fun j=>(ow.getD j none).map (j,·):=⟨_,rfl⟩
 have hv:(live.map (·.2)).Perm (aI n):=by rw [Am,zjb O.1]; exact O.2
 have qP:live.length=n:=by rw [← ab (f:=(·.2)),hv.length_eq,aW]
 have er:t.relaid (es.map (·.1)) wanted=some ({ mask:=31,place:=(live.map (·.1)).toArray,dummies:=#[],finger:=t.finger,led:=t.led,moves:=t.movedTo 31,plain:=t.plain },(live.map (·.2)).toArray):=by
  unfold relaid laid;rw [hw,eh];show (layClean 31 (es.toList.map (·.1)).toArray).bind _=_;rw [e,Am];rfl
 have wI:((live.map (·.2)).toArray.filterMap (es[·]?)).toList.Perm es.toList:=by
  rw [iP];refine (hv.filterMap _).trans ?_;rw [← he,zjc]
 have pL:((live.map (·.2)).toArray.filterMap (es[·]?)).size=n:=by
  rw [← av,wI.length_eq,av,he]
 have hc:coversAll (live.map (·.2)).toArray n=true:=by
  unfold coversAll;exact List.isPerm_iff.mpr hv
 unfold relayAll at hT;rw [er] at hT;dsimp only at hT;have hf:gQ { mask:=31,place:=(live.map (·.1)).toArray,dummies:=#[],finger:=t.finger,led:=t.led,moves:=t.movedTo 31,plain:=t.plain } n=true:=by
  unfold fits fill;simp [qP];lia
 rw [pL,he,hc,hf] at hT;have uD:∀ {x k:Nat},ow[x]? = some (some k)↔(x,k)∈live:=fun {x k}=>by
  rw [Am,fi];constructor
  ·intro h;have hx:x < ow.size:=(br.mp h).1;refine⟨x,bd.mpr (by rw [← O.1]; exact hx),?_⟩;rw [eP,h];rfl
  ·rintro⟨j',_,e'⟩;cases h:ow.getD j' none with
   | none=>rw [h] at e'; cases e'
   | some v =>
    rw [h] at e';injection e' with e'
    injection e' with e1 e2
    subst e1 e2;rw [eP] at h;cases h3:ow[j']? with
    | none=>rw [h3] at h; cases h
    | some y=>rw [h3] at h; rw [show y=some v from h]
 refine⟨_,_,er,pL,wI,⟨hT,hp,by simp [qP],fun j hj=>?_,.inr ⟨rfl,hn⟩⟩,fun z j hz=>?_⟩
 ·have hj:j∈live.map (·.1):=hj;obtain⟨q,hq,rfl⟩:=az.mp hj;rw [Am] at hq;obtain⟨j',nc,e'⟩:=fi.mp hq;have:=bd.mp nc;cases h:ow.getD j' none with
  | none=>rw [h] at e'; cases e'
  | some v =>
   rw [h] at e';injection e' with e'
   subst e';show j'≤31;lia
 ·rw [iP] at hz;have hz:(z,j)∈((live.map (·.2)).filterMap (es[·]?)).zip (live.map (·.1)):=hz;obtain⟨q,hq,e1,e2⟩:=zkK (fun q hq=>by
   have hm:q.2∈aI n:=hv.mem_iff.mp (az.mpr ⟨q,hq,rfl⟩);have:=bd.mp hm;exact⟨es[q.2]'#[O],be #[O]⟩) hz
  obtain⟨h,f1,f2⟩:=C q.1 q.2 (uD.mpr hq);rw [af,aS,e1] at f1;obtain rfl:z.1=h:=by injection f1
  have e2:q.1=j:=e2;rw [← e2];exact f2.more (fun x ⟨k,hk⟩=>az.mpr ⟨(x,k),uD.mp hk,rfl⟩) (ah _)
end L2
end
section
namespace L2
open PySem PySem.Spec PyProof.Rows PySem.SetTable
section
variable {prog:Program} {w:World} {A:Around} {E:Value→Shared→Prop} {s:Shared}
abbrev tkH (prog:Program) (w:World) (ks:List Int):Int:=tupleKeyHash (intKind prog w) ks
abbrev za2 (prog:Program) (w:World) (h:Heap) (ks:List Int) (a:Addr):Prop:=IsTupleKey (intKind prog w) h ks a
theorem items_int {ks:List Int} {vs:List Value} (h:ItemsAre (intKind prog w) ks vs):∀ v∈vs,∃ n t,v = .int n t:=by
 induction h with
 | nil=>intro v hv; cases hv
 | cons h1 _ ih =>
  intro v hv;rcases (aH.mp hv) with rfl | hv
  ·have h:jY _ _=true:=h1;cases v with
   | int i t=>exact⟨i,t,rfl⟩
   | _=>exact absurd h (by unfold jY; simp)
  ·exact ih v hv
theorem zjd {ks:List Int} {b:Addr} {Q:Bool→Shared→Prop} (hk:za2 prog w s.heap ks b) (h:Q true s):wpAny (model prog w) A (hashByValue 8 (.ref b)) Q E s:=by
 have hT:=hk.typeIs
 (obtain⟨o,items,n,ho,_,hd,hi⟩:=hk)
 unfold hashByValue
 (refine ae (dZ hT F.slot_tuple_hash.lookup ?_))
 show wpAny _ _ (seqItems? (.ref b) >>= _) _ _ s
 (refine ae (dI ho hd ?_))
 refine ae ?_
 (show wpAny _ _ (forIn items _ _) _ _ s)
 rw [← jJ];refine ip _ (fun rest r s'=>r.1=none∧s'=s∧∀ v∈rest,∃ n t,v=dH n t) _ ?_ ?_ _ _ ⟨rfl,rfl,items_int hi⟩
 ·(rintro v rest r s' ⟨hr,rfl,lR⟩)
  obtain⟨m,tk,rfl⟩:=lR v aL;rw [hashByValue_scannable 7 (x:=.int m tk) rfl];refine ae (aj ?_);rw [show plainKind (.int m tk)=true from rfl]
  (simp only [cI,aG,if_false])
  (exact aj ⟨rfl,rfl,fun u xS=>lR u (aw _ xS)⟩)
 ·(rintro⟨r1,r2⟩ s' ⟨hr,rfl,_⟩)
  simp only at hr;subst hr;exact aj h
theorem ze4 {ks:List Int} {b:Addr} {Q:Bool→Shared→Prop} (hk:za2 prog w s.heap ks b) (h:Q false s):wpAny (model prog w) A (ofAClassStatement 8 (.ref b)) Q E s:=by
 have hT:=hk.typeIs
 (obtain⟨o,items,n,ho,_,hd,hi⟩:=hk)
 unfold ofAClassStatement
 (refine ae (jK hT ?_))
 dsimp only;rw [if_pos #[D]];refine ae (aj ?_)
 (simp only [cI,aG,if_false])
 (refine ae (dI ho hd ?_))
 refine ae ?_
 (show wpAny _ _ (forIn items _ _) _ _ s)
 rw [← jJ];refine ip _ (fun rest r s'=>r.1=none∧s'=s∧∀ v∈rest,∃ n t,v=dH n t) _ ?_ ?_ _ _ ⟨rfl,rfl,items_int hi⟩
 ·(rintro v rest r s' ⟨hr,rfl,lR⟩)
  obtain⟨m,tk,rfl⟩:=lR v aL;have e:ofAClassStatement 7 (.int m tk)=pure false:=by unfold ofAClassStatement; rfl
  rw [e];refine ae (aj ?_)
  (simp only [aG,if_false])
  (exact aj ⟨rfl,rfl,fun u xS=>lR u (aw _ xS)⟩)
 ·(rintro⟨r1,r2⟩ s' ⟨hr,rfl,_⟩)
  simp only at hr;subst hr;exact aj h
theorem zgC {ks:List Int} {b:Addr} {ys:List Value} {Q:Bool→Shared→Prop} (hk:za2 prog w s.heap ks b) (hy:∀ v∈ys,∃ k' b',v = .ref b'∧za2 prog w s.heap k' b') (h:Q false s):wpAny (model prog w) A (searchCouldBeSeen (.ref b) ys) Q E s:=by
 unfold searchCouldBeSeen;refine ae ?_;refine ip _ (fun rest r s'=>r.1=none∧s'=s∧∀ v∈rest,∃ k' b',v = .ref b'∧za2 prog w s.heap k' b') _ ?_ ?_ _ _ ⟨rfl,rfl,hy⟩
 ·(rintro v rest r s' ⟨hr,rfl,lR⟩)
  obtain⟨k',b',rfl,oC⟩:=lR v aL;have hnx:∀ u∈rest,∃ k' b',u = .ref b'∧za2 prog w s'.heap k' b':=fun u xS=>lR u (aw _ xS)
  dsimp only;by_cases hv:(b == b')=true
  ·rw [hv];exact aj ⟨rfl,rfl,hnx⟩
  ·rw [show (b == b')=false by simpa using hv];show wpAny _ _ (eqIsQuiet 8 (.ref b) >>= _) _ _ s';refine ae (i5 hk ?_)
   (simp only [cI,aG,if_false])
   refine ae (i5 oC ?_)
   (simp only [cI,aG,if_false])
   refine ae (ze4 hk ?_)
   (simp only [aG,if_false])
   refine ae (ze4 oC ?_)
   (simp only [aG,if_false])
   exact aj ⟨rfl,rfl,hnx⟩
 ·(rintro⟨r1,r2⟩ s' ⟨hr,rfl,_⟩)
  simp only at hr;subst hr;exact aj h
structure SetU (prog:Program) (w:World) (led:Bool) (h:Heap) (a:Addr) (ms:List (List Int×Addr)) (o:Obj) (es:Array (Int×Value)) (ep:Nat) (t:SetTable):Prop where
 g:h.get? a=some o
 ex:o.ExactSet
 dt:o.data = .set es ep t
 pm:es.toList.Perm (ms.map fun q=>(tkH prog w q.1,a8 q.2))
 ky:∀ q∈ms,za2 prog w h q.1 q.2
 pb:Pb led t es.size
theorem ze5 {t:SetTable} {j i:Nat} (h:t.slot j = .live i):t.place[i]? = some j:=by
 unfold slot at h;dsimp only at h;split at h
 ·next hc =>
  injection h with h
  rw [← h];simpa using hc
 ·split at h <;> cases h
end
section
variable {prog:Program} {w:World} {A:Around} {E:Value→Shared→Prop} {s:Shared}
theorem zgD {h h':Heap} {ks:List Int} {b a:Addr} {o:Obj} {es ep t} (x:za2 prog w h ks b) (ho:h.get? a=some o) (hd:o.data = .set es ep t) (hs:dJ a h h'):za2 prog w h' ks b:=by
 (obtain⟨o',items,n,oZ,hc,sP,hi⟩:=x)
 have lC:b≠a:=by
  rintro rfl
  (obtain rfl:o'=o:=bf (oZ.symm.trans ho))
  (rw [hd] at sP; exact nomatch sP)
 exact⟨o',items,n,(hs.2 b lC).trans oZ,hc,sP,hi⟩
theorem zgE {h h':Heap} {ks:List Int} {b:Addr} (x:za2 prog w h ks b) (e:∀ o,h.get? b=some o→h'.get? b=some o):za2 prog w h' ks b:=by
 obtain⟨o',items,n,oZ,r⟩:=x;exact⟨o',items,n,e _ oZ,r⟩
theorem zit {h:Heap} {a:Addr} {o:Obj} {es es':Array (Int×Value)} {ep:Nat} {t t':SetTable} (ho:h.get? a=some o) (hd:o.data = .set es ep t) :
  (h.update a (g8 es' t')).get? a=some { o with data:=.set es' (ep+1) t' }:=by
 (have:=bD (g8 es' t') ho (by rw [putSet_of es' t' hd]; rfl))
 rw [putSet_of es' t' hd] at this;exact this
end
section
variable {prog:Program} {w:World} {A:Around} {E:Value→Shared→Prop} {s:Shared}
theorem zgF {a b:Addr} {led:Bool} {ms:List (List Int×Addr)} {o:Obj} {es:Array (Int×Value)} {ep:Nat} {t:SetTable} {ks:List Int} {Q:SetFound→Shared→Prop} (hu:A.units < cLine) (S:SetU prog w led s.heap a ms o es ep t) (hk:za2 prog w s.heap ks b)
  (rS:∀ q∈ms,q.1≠ks) {j0:Nat} (h0:t.slot j0 = .empty) (hq:∀ j,j≤t.mask→t.slot j = .empty→ChO t.mask (zbT t) (10*turns t.mask) (t.probeStart (tkH prog w ks)) j→Q (.free j false) s):∀ F fuel (st:Option Probe),F < fuel→F≤10*turns t.mask→(st.getD (t.probeStart (tkH prog w ks))).dummy=none→(st.getD (t.probeStart (tkH prog w ks))).j+(st.getD (t.probeStart (tkH prog w ks))).more≤t.mask→rch t.mask F (st.getD (t.probeStart (tkH prog w ks))) j0=true→(∀ n x,n≤F→ChO t.mask (zbT t) n (st.getD (t.probeStart (tkH prog w ks))) x→ChO t.mask (zbT t) (10*turns t.mask) (t.probeStart (tkH prog w ks)) x) →
   wpAny (model prog w) A (setSearchFrom a (.ref b) (tkH prog w ks) true fuel st) Q E s:=by
 intro F;induction F using fg with
 | ind F ih =>
  intro fuel st hF hT hd oj hr pS;obtain⟨fuel,rfl⟩:∃ f,fuel=f+1:=⟨fuel - 1,#[O]⟩;have hf:=S.pb.fitsG;rw [setSearchFrom];refine ae (ci S.g S.dt hf ?_);dsimp only;have hg:t.gaveWay=false:=by
   unfold gaveWay;rcases S.pb.m with ⟨m,_⟩ | ⟨m,_⟩ <;> rw [m] <;> decide
  rw [hg]
  (simp only [aG,if_false])
  generalize tR:t.probe _ (tkH prog w ks) (st.getD (t.probeStart (tkH prog w ks)))=pr;rcases zis S.pb.b.d (hashAt:=fun i=>(es[i]?.map (·.1)).getD 0) (h:=tkH prog w ks) h0 (10*turns t.mask) F _ hT hd oj hr with ⟨j,e,hj,hs,n,hn,oz⟩ | ⟨j,i,p',F',e,hs,hh,k9,lH,sP,BU,oz⟩
  ·obtain rfl:some (Met.empty j none)=pr:=e.symm.trans tR;exact aj (hq j hj hs (pS n j hn oz))
  ·obtain rfl:some (Met.candidate j i p')=pr:=e.symm.trans tR;dsimp only;have nO:=ze5 hs;have hi:i < es.size:=by
    rw [← S.pb.z];exact (br.mp nO).1
   have mG:es[i]∈ms.map fun q=>(tkH prog w q.1,a8 q.2):=S.pm.mem_iff.mp (by rw [cM]; exact jV hi)
   obtain⟨q,uE,eq⟩:=az.mp mG;have lR:∀ v∈(es.filter (·.1 == tkH prog w ks)).toList.map (·.2),∃ k' b',v = .ref b'∧za2 prog w s.heap k' b':=fun v hv=>by
    obtain⟨e',rV,rfl⟩:=az.mp hv;rw [cM] at rV;obtain⟨q',o2,rfl⟩:=az.mp (S.pm.mem_iff.mp (by rw [cM]; exact (kd.mp rV).1));exact⟨q'.1,q'.2,rfl,S.ky q' o2⟩
   have xT:wpAny (model prog w) A (setSearchFrom a (.ref b) (tkH prog w ks) true fuel (some p')) Q E s:=ih F' k9 fuel (some p') #[O] #[O] sP BU lH (fun n x hn hx=>by
    obtain⟨n2,a1,a2⟩:=oz n x hn hx;exact pS n2 x a1 a2)
   have pL:es[i]? = some (tkH prog w q.1,a8 q.2):=by rw [be hi,← eq]
   have lC:decide (q.1=ks)=false:=decide_eq_false (rS q uE);have xt:t.sameMemory t.moves t.mask=some true:=by unfold sameMemory; rw [if_pos #[M]]
   by_cases si:t.led=true;rw [si]; simp only [cI,aG,if_false]; rotate_left;rw [show t.led=false by simpa using si]; simp only [fF,if_true]; refine ae (zgC hk lR ?_); simp only [aG,if_false]
   all_goals (
    rw [pL];dsimp only;refine ae (bS (jL hu (S.ky q uE) hk ?_));rw [lC];refine ae (ci S.g S.dt hf ?_);dsimp only;simp only [iW,aG,if_false];rw [xt];dsimp only;rw [if_pos rfl,hs];dsimp only;rw [pL];dsimp only;refine ae (i6 ?_);rw [if_pos rfl];exact ae (aj xT))
theorem zho {a b:Addr} {led:Bool} {ms:List (List Int×Addr)} {o:Obj} {es:Array (Int×Value)} {ep:Nat} {t:SetTable} {ks:List Int} {Q:SetFound→Shared→Prop} (hu:A.units < cLine) (S:SetU prog w led s.heap a ms o es ep t) (hk:za2 prog w s.heap ks b)
  {q0:List Int×Addr} {i0 j0:Nat} (wJ:q0.1=ks) (BV:za2 prog w s.heap q0.1 q0.2) (he0:es[i0]? = some (tkH prog w q0.1,a8 q0.2)) (wH:t.slot j0 = .live i0) (hq:Q (.there none) s):∀ n fuel (st:Option Probe),n < fuel→n≤10*turns t.mask→ChO t.mask (zbT t) n (st.getD (t.probeStart (tkH prog w ks))) j0 →
   wpAny (model prog w) A (setSearchFrom a (.ref b) (tkH prog w ks) true fuel st) Q E s:=by
 intro F;induction F using fg with
 | ind F ih =>
  intro fuel st hF hT BW;obtain⟨fuel,rfl⟩:∃ f,fuel=f+1:=⟨fuel - 1,#[O]⟩;have hf:=S.pb.fitsG;rw [setSearchFrom];refine ae (ci S.g S.dt hf ?_);dsimp only;have hg:t.gaveWay=false:=by
   unfold gaveWay;rcases S.pb.m with ⟨m,_⟩ | ⟨m,_⟩ <;> rw [m] <;> decide
  rw [hg]
  (simp only [aG,if_false])
  generalize tR:t.probe _ (tkH prog w ks) (st.getD (t.probeStart (tkH prog w ks)))=pr;obtain⟨j,i,p',e,hs,hh,xv⟩:=zkJ S.pb.b.r S.pb.b.d (hashAt:=fun i=>(es[i]?.map (·.1)).getD 0) (h:=tkH prog w ks) wH (by show (es[i0]?.map (·.1)).getD 0=_; rw [he0,← wJ]; rfl) (10*turns t.mask) F _ hT BW
  ·obtain rfl:some (Met.candidate j i p')=pr:=e.symm.trans tR;dsimp only;have nO:=ze5 hs;have hi:i < es.size:=by
    rw [← S.pb.z];exact (br.mp nO).1
   have mG:es[i]∈ms.map fun q=>(tkH prog w q.1,a8 q.2):=S.pm.mem_iff.mp (by rw [cM]; exact jV hi)
   obtain⟨q,uE,eq⟩:=az.mp mG;have lR:∀ v∈(es.filter (·.1 == tkH prog w ks)).toList.map (·.2),∃ k' b',v = .ref b'∧za2 prog w s.heap k' b':=fun v hv=>by
    obtain⟨e',rV,rfl⟩:=az.mp hv;rw [cM] at rV;obtain⟨q',o2,rfl⟩:=az.mp (S.pm.mem_iff.mp (by rw [cM]; exact (kd.mp rV).1));exact⟨q'.1,q'.2,rfl,S.ky q' o2⟩
   have pL:es[i]? = some (tkH prog w q.1,a8 q.2):=by rw [be hi,← eq]
   have xt:t.sameMemory t.moves t.mask=some true:=by unfold sameMemory; rw [if_pos #[M]]
   by_cases si:t.led=true;rw [si]; simp only [cI,aG,if_false]; rotate_left;rw [show t.led=false by simpa using si]; simp only [fF,if_true]; refine ae (zgC hk lR ?_); simp only [aG,if_false]
   all_goals (
    rw [pL];dsimp only;refine ae (bS (jL hu (S.ky q uE) hk ?_));refine ae (ci S.g S.dt hf ?_);dsimp only;by_cases BX:q.1=ks
    ·rw [decide_eq_true BX]
     (simp only [Bool.and_self,if_true])
     exact aj hq
    rw [decide_eq_false BX];simp only [iW,aG,if_false];rw [xt];dsimp only;rw [if_pos rfl,hs];dsimp only;rw [pL];dsimp only;refine ae (i6 ?_);rw [if_pos rfl];refine ae (aj ?_);rcases xv with xv | ⟨n',wX,vI⟩
    ·exfalso;rw [xv,wH] at hs;obtain rfl:i0=i:=by injection hs
     rw [he0] at pL;have:q0.1=q.1:=by
      injection pL with pL
      injection pL with h1 h2
      injection h2 with h2
      have g0:=S.ky q uE;rw [← h2] at g0;exact (BV.inj g0)
     exact BX (this ▸ wJ)
    ·exact ih n' wX fuel (some p') #[O] #[O] vI)
end
section
variable {prog:Program} {w:World} {A:Around} {E:Value→Shared→Prop} {s:Shared}
abbrev zeA (prog:Program) (w:World) (led:Bool) (h:Heap) (a:Addr) (ms:List (List Int×Addr)):Prop:=∃ o es ep t,SetU prog w led h a ms o es ep t∧Chn es.toList t
def stepT (ms:List (List Int×Addr)) (q:List Int×Addr):List (List Int×Addr):=if q.1∈ms.map (·.1) then ms else ms++[q]
theorem zkL {a b:Addr} {led:Bool} {ms:List (List Int×Addr)} {ks:List Int} {Q:Bool→Shared→Prop} (hu:A.units < cLine) (hS:zeA prog w led s.heap a ms) (uF:ms.length+1≤18) (hk:za2 prog w s.heap ks b)
  (h:∀ h' r,dJ a s.heap h'→zeA prog w led h' a (stepT ms (ks,b))→Q r { s with heap:=h' }) :
  wpAny (model prog w) A (setAddHashed a (.ref b) (tkH prog w ks)) Q E s:=by
 obtain⟨o,es,ep,t,S,CH⟩:=hS;have hf:=S.pb.fitsG;have hn:es.size=ms.length:=by rw [← av,S.pm.length_eq,ab]
 (unfold setAddHashed setAddHashedIn)
 refine bS (ae (ci S.g S.dt hf ?_));dsimp only;rw [show byScan (.ref b) es=false from rfl]
 (simp only [aG,if_false])
 obtain⟨j0,nL,h0⟩:=zkD S.pb.b.d (by have:=S.pb.z; rcases S.pb.m with m | m <;> lia);have Ab:t.mask=7∨t.mask=31:=by rcases S.pb.m with ⟨m,_⟩ | ⟨m,_⟩ <;> simp [m]
 have lW:(t.probeStart (tkH prog w ks)).j+(t.probeStart (tkH prog w ks)).more≤t.mask:=zhl (eC (dF _ (eL _)));have hfu:10*turns t.mask < 100000:=by unfold turns; rcases Ab with m | m <;> rw [m] <;> decide
 unfold setSearch;by_cases oj:ks∈ms.map (·.1)
 ·obtain⟨q0,wJ,An⟩:=az.mp oj;have mG:(tkH prog w q0.1,a8 q0.2)∈es.toList:=S.pm.mem_iff.mpr (az.mpr ⟨q0,wJ,rfl⟩);obtain⟨i0,qL⟩:=bN.mp mG;rw [aS] at qL;have BY:i0 < es.size:=(br.mp qL).1;obtain⟨j1,rX⟩:∃ j1,t.place[i0]? = some j1:=⟨t.place[i0]'(by rw [S.pb.z]; exact BY),be _⟩;have BZ:((tkH prog w q0.1,a8 q0.2),j1)∈es.toList.zip t.place.toList:=by
   refine bN.mpr ⟨i0,?_⟩;rw [List.getElem?_zip_eq_some];exact⟨by rw [aS]; exact qL,by rw [aS]; exact rX⟩
  have oz:=CH _ _ BZ;have xy:j1∈t.place.toList:=bN.mpr ⟨i0,by rw [aS]; exact rX⟩;obtain⟨i1,Ah,pg⟩:=zir S.pb.b.r xy;obtain rfl:i1=i0:=by
   obtain⟨l1,e1⟩:=br.mp pg;obtain⟨l0,e0⟩:=br.mp rX;rcases Nat.lt_trichotomy i1 i0 with z | z | z
   ·have:=S.pb.b.r.lt l0 z; lia
   ·exact z
   ·have:=S.pb.b.r.lt l1 z; lia
  have vI:ChO t.mask (zbT t) (10*turns t.mask) (t.probeStart (tkH prog w ks)) j1:=by rw [← An]; exact oz
  have e1:stepT ms (ks,b)=ms:=if_pos oj;refine ae (zho hu S hk An (S.ky q0 wJ) qL Ah ?_ (10*turns t.mask) 100000 none hfu (ah _) vI);dsimp only;refine aj ?_;have e0:s = { s with heap:=s.heap }:=by cases s; rfl
  rw [e0];exact h s.heap _ (Heap.SameBut.refl a s.heap) (by rw [e1]; exact⟨o,es,ep,t,S,CH⟩)
 have Aa:stepT ms (ks,b)=ms++[(ks,b)]:=if_neg oj;rw [Aa] at h;have rS:∀ q∈ms,q.1≠ks:=fun q hq e=>oj (az.mpr ⟨q,hq,e⟩)
 refine ae (zgF hu S hk rS h0 (fun j hj hs oz=>?_) (10*turns t.mask) 100000 none hfu (ah _) rfl lW (zlO Ab _ nL) (fun n x hn hx=>hx.more (fun _ h=>h) hn));dsimp only;refine ae (ci S.g S.dt hf ?_);dsimp only;have hnp:t.place[below t.place j]?≠some j:=fun hc=>by
  unfold slot at hs;dsimp only at hs;rw [hc] at hs;simp at hs
 have hb:=(zcc S.pb.b.r j).1;have hT:=S.pb.b.put hnp;have hz:(t.put j).1.place.size=es.size+1:=by
  show (insertAt t.place (below t.place j) j).size=es.size+1;rw [zgz hb,S.pb.z]
 have nO:(t.put j).1.plain=true:=S.pb.p;have B0:(t.put j).1.mask=t.mask:=rfl;have xU:∀ k∈(t.put j).1.place.toList,k≤(t.put j).1.mask:=fun k oC=>by
  rw [B0];have oC:k∈(insertAt t.place (below t.place j) j).toList:=oC;rw [dP] at oC;rcases aP.mp oC with h1 | h1
  ·exact S.pb.i k (eX h1)
  ·rcases aH.mp h1 with rfl | h1
   ·exact hj
   ·exact S.pb.i k (gh h1)
 obtain⟨p9,e1⟩:∃ p9,p9=SetTable.insertAt es (t.put j).2 (tkH prog w ks,a8 b):=⟨_,rfl⟩;have pg:p9.toList.Perm ((ms++[(ks,b)]).map fun q=>(tkH prog w q.1,a8 q.2)):=by
  rw [e1];refine (SetTable.insertAt_perm _ _ _).trans ?_;rw [g7,aO];exact S.pm.append (.refl _)
 have sU:p9.size=es.size+1:=by rw [← av,pg.length_eq,ab,aF,hn]; rfl
 have C1:Chn p9.toList (t.put j).1:=by rw [e1]; exact CH.put S.pb.z oz
 rw [← e1];generalize (t.put j).1=t1 at hT hz nO B0 xU C1 ⊢;rw [if_pos nO];refine ae (zjd hk ?_);simp only [if_true,fF,Bool.true_and];have og:sizeLine=16777216:=rfl;refine ae (wpAny_storeSet_of S.g S.dt ?_ #[O]);have p8:=zit (es':=p9) (t':=t1) S.g S.dt;have pT:=bO s.heap a (g8 p9 t1);have pW:t1.mask=7∧es.size+1≤5∨t1.mask=31∧es.size+1≤18:=by
  rw [B0];rcases S.pb.m with ⟨x,y⟩ | ⟨x,y⟩
  ·exact .inl ⟨x,#[O]⟩
  ·exact .inr ⟨x,#[O]⟩
 obtain⟨nx1,nx2⟩:=Pb.nextG hT nO hz xU pW;have hky:∀ {h'},dJ a s.heap h'→∀ q∈ms++[(ks,b)],za2 prog w h' q.1 q.2:=fun {h'} lX q hq=>by
  rcases (aP.mp hq) with hq | hq
  ·exact zgD (S.ky q hq) S.g S.dt lX
  ·(rw [aN.mp hq])
   exact zgD hk S.g S.dt lX
 by_cases uG:t1.tooFull=true
 ·rw [if_pos uG];have h5:=nx1 uG;unfold setRelay;have hf1:t1.fits p9.size=true:=by
   unfold gQ gR;rw [hT.d,hz,sU];rcases pW with m | m <;> simp <;> lia
  refine ae (ae (ci (s:={ s with heap:=s.heap.update a (g8 p9 t1) }) p8 rfl hf1 ?_));dsimp only;have hw:sizeAbove (kC (es.size+1))=32:=by rw [h5]; decide
  rw [hw,if_neg #[O]];obtain⟨t3,order,er,B1,hop,P3,C3⟩:=Pb.relayH (wanted:=kC (es.size+1)) (es:=p9) hT nO rfl #[O] hw;rw [er];obtain⟨xV,e2⟩:∃ xV,xV=order.filterMap (p9[·]?):=⟨_,rfl⟩;rw [← e2] at B1 hop C3;refine ae ?_;show wpAny _ _ (if ((order.filterMap (p9[·]?)).size != p9.size)=true then _ else _) _ _ _;rw [← e2,B1,if_neg #[M]]
  (refine ae (aj (aj ?_)))
  refine wpAny_storeSet_of (s:={ s with heap:=s.heap.update a (g8 p9 t1) }) p8 rfl ?_ (show xV.size≤sizeLine by lia);refine aj (h _ _ (pT.trans (bO _ a _)) ⟨_,xV,_,t3,⟨zit (es':=xV) (t':=t3) p8 rfl,S.ex,rfl,hop.trans pg,hky (pT.trans (bO _ a _)),by rw [B1]; exact P3⟩,C3⟩)
 ·rw [if_neg uG];exact ae (aj (aj (h _ _ pT ⟨_,p9,_,t1,⟨p8,S.ex,rfl,pg,hky pT,by rw [sU]; exact nx2 (by simpa using uG)⟩,C1⟩)))
end
def zbl (w:World):Bool:=!w.params.followText "set-order"
def zba (led:Bool):Obj:={ cls:=.type "set",dict:=none,data:=.set #[] 0 (.fresh 0 0 led) }
section
variable {prog:Program} {w:World} {A:Around} {E:Value→Shared→Prop} {s:Shared}
theorem zkM (a:Value) {Q₁:Value→Shared→Prop} (h:Q₁ (.ref s.heap.objs.size) { s with heap:=s.heap.push (zba (zbl w)) }):codeAny (model prog w) A (.call (.builtin "set.__new__") ⟨[.type "set",a],[]⟩) (wants Q₁ E) s:=by
 refine gf ?_;show wpAny _ A.in1 (checkBuiltinCall "set.__new__" ⟨[.type "set",a],[]⟩ >>= fun _=>again (.builtin "set.__new__" ⟨[.type "set",a],[]⟩)) _ _ s;refine ae (cc (PySem.F.newCall_set_1 a) (aj ⟨df i7 _,cC PySem.F.entry_set_new ?_⟩));rw [b7 i7 _]
 (unfold Builtin.«set.__new__» kK)
 have oK:=sub_set_self
 (obtain⟨hp,g,d,tk,os⟩:=s)
 dsimp only
 wp_walk
 (refine fV (aj ?_))
 dsimp only;simp only [newObj]
 (refine ae (wpAny_alloc (aj ?_)))
 exact aj h
theorem zor:isSubtype (.type "list") (.type "set")=pure false:=by rw [cK]; kernel_rfl
theorem zos:isSubtype (.type "list") (.type "frozenset")=pure false:=by rw [cK]; kernel_rfl
end
section
variable {St:Nat→Shared→Prop} {prog:Program} {w:World} {A:Around} {R:Result→Shared→Prop} {I:Addr} {fp wr:List Addr} {G:Array GenState→Array GenState→Prop} {n:Nat} {P:Nat→Value→Prop}
theorem zeA.at {led:Bool} {h h':Heap} {a:Addr} {ms:List (List Int×Addr)} (hS:zeA prog w led h a ms) (e:∀ o,h.get? a=some o→h'.get? a=some o) (hk:∀ q∈ms,za2 prog w h' q.1 q.2):zeA prog w led h' a ms:=by
 obtain⟨o,es,ep,t,S,C⟩:=hS;exact⟨o,es,ep,t,⟨e o S.g,S.ex,S.dt,S.pm,hk,S.pb⟩,C⟩
theorem zkN {α:Type} {l:List α} {i:Nat} {x:α} (h:l[i]? = some x):l.take (i+1)=l.take i++[x]:=by
 rw [gX,h];rfl
def zbU (ms:List (List Int×Addr)):List (List Int×Addr):=ms.foldl stepT []
theorem ze6 (ms:List (List Int×Addr)) (q:List Int×Addr):zbU (ms++[q])=stepT (zbU ms) q:=by
 unfold zbU;rw [List.foldl_append];rfl
theorem ze7:∀ (n:Nat) (ms:List (List Int×Addr)),ms.length=n→(∀ q∈zbU ms,q∈ms)∧(zbU ms).length≤ms.length∧((zbU ms).map (·.1)).Nodup∧∀ k,k∈(zbU ms).map (·.1)↔k∈ms.map (·.1)
 | 0,ms,hl=>by
  obtain rfl:ms = []:=gk hl;exact⟨fun q hq=>hq,ah _,gA,fun k=>Iff.rfl⟩
 | n+1,Ao,hl=>by
  have lC:Ao≠[]:=fun e=>by rw [e] at hl; cases hl
  obtain⟨ms,q,rfl⟩:∃ ms q,Ao=ms++[q]:=⟨Ao.dropLast,Ao.getLast lC,(eM lC).symm⟩;have ih:=ze7 n ms (by rw [aF] at hl; simpa using hl);obtain⟨h1,h2,h3,h4⟩:=ih;rw [ze6];unfold stepT;by_cases hc:q.1∈(zbU ms).map (·.1)
  ·rw [if_pos hc];refine⟨fun q' o2=>aY _ (h1 q' o2),by rw [aF]; lia,h3,fun k=>?_⟩;rw [h4 k,aO,aP];constructor
   ·exact .inl
   ·rintro (h | h)
    ·exact h
    ·rw [jM,aN] at h;rw [h];exact (h4 _).mp hc
  ·rw [if_neg hc];refine⟨fun q' o2=>?_,by rw [aF,aF]; lia,?_,fun k=>?_⟩
   ·rcases aP.mp o2 with h | h
    ·exact aY _ (h1 q' h)
    ·exact aE _ h
   ·rw [aO];exact de.mpr ⟨h3,#[M],fun a ha b hb e=>hc (by rw [jM,aN] at hb; rw [← hb,← e]; exact ha)⟩
   ·rw [aO,aO,aP,aP,h4 k]
theorem zcd (ms:List (List Int×Addr)):(∀ q∈zbU ms,q∈ms)∧(zbU ms).length≤ms.length∧((zbU ms).map (·.1)).Nodup∧∀ k,k∈(zbU ms).map (·.1)↔k∈ms.map (·.1):=ze7 _ ms rfl
theorem zje (W:WalksS prog w A.in1 I fp wr G n P St) (S:Addr) (sd:S∉fp) (ms:List (List Int×Addr)) (B2:∀ i v,P i v→∃ q,ms[i]? = some q∧v = .ref q.2) (hb:ms.length≤17) (hn:ms.length=n) (hw:∀ q∈ms,q.2∉wr) (hSm:∀ q∈ms,q.2≠S) (hu:A.units+1 < cLine) {led:Bool} :
  ∀ (k i:Nat) (s:Shared),n - i=k→i≤n→St i s→zeA prog w led s.heap S (zbU (ms.take i))→(∀ q∈ms,za2 prog w s.heap q.1 q.2) →
   (∀ s',Moved (S :: wr) G s s'→zeA prog w led s'.heap S (zbU ms)→R (.ok (.ret .none)) s')→codeAny (model prog w) A (.builtin "set.update.loop" ⟨[.ref S,.ref I],[]⟩) R s:=by
 (have hSw:S∉wr:=fun h=>sd (W.sub _ h))
 (have oK:∀ b∈wr,b∈S :: wr:=fun b hb=>aw _ hb)
 intro k;induction k with
 | zero =>
  intro i s hk hi lW hS hK hR;obtain rfl:i=n:=by lia
  refine cC fu ?_;rw [b7 dw _]
  (refine ae (W.done s _ _ lW fun s' hm=>?_))
  rw [aT #[O]] at hS;exact aj (hR s' (hm.mono oK) (hS.at (fun o e=>hm.heap S _ hSw e) fun q hq=>zgE (hK q ((zcd ms).1 q hq)) fun o e=>hm.heap _ _ (hw q ((zcd ms).1 q hq)) e))
 | succ k ih =>
  intro i s hk hi lW hS hK hR;have k9:i < n:=by lia
  refine cC fu ?_;rw [b7 dw _]
  (refine ae (W.item i s _ _ k9 lW fun v s' hP pd hm=>?_))
  obtain⟨q,hqi,rfl⟩:=B2 i v hP;have uE:=aA hqi;have Ap:∀ q∈ms,za2 prog w s'.heap q.1 q.2:=fun q hq=>zgE (hK q hq) fun o e=>hm.heap _ _ (hw q hq) e
  have tQ:=hS.at (h':=s'.heap) (fun o e=>hm.heap S _ hSw e) fun q hq=>Ap q (eX ((zcd _).1 q hq))
  show wpAny _ A.in1 (holding [a8 q.2] (setAdd S (.ref q.2)) >>= _) _ _ s'
  (refine ae (bS ?_))
  unfold setAdd;have Aq:A.in1.units < cLine:=by simp; lia
  refine bS (ae (wpAny_pyHash_tuple (knd:=intKind prog w) Aq (Ap q uE) ?_));have uF:(zbU (ms.take i)).length+1≤18:=by
   have:=(zcd (ms.take i)).2.1;rw [aU] at this;lia
  refine zkL (s:={ s' with toks:=s'.toks+(q.1.length+1) }) Aq tQ uF (Ap q uE) fun h' b pT uH=>?_
  rw [show ((q.1,q.2):List Int×Addr)=q from rfl,← ze6,← zkN hqi] at uH;have hK2:∀ q∈ms,za2 prog w h' q.1 q.2:=fun q hq=>zgE (Ap q hq) fun o e=>by rw [pT.2 _ (hSm q hq)]; exact e
  refine aj ⟨df dw _,ih (i+1) _ #[O] k9 (W.frame _ s' _ _ pd (ke _ _) fun b hb o e=>?_) uH hK2 fun vc B3 B4=>?_⟩
  ·(rw [pT.2 b (fun h:b=S=>sd (by rw [← h]; exact hb))]; exact e)
  ·refine hR vc (Moved.trans W.gtrans ((hm.mono oK).then_heap (ke _ _) fun b o hb e=>?_) B3) B4
   (rw [pT.2 b (fun h:b=S=>hb (by rw [h]; exact aL))]; exact e)
end
section
variable {prog:Program} {w:World} {A:Around} {E:Value→Shared→Prop} {s:Shared}
theorem zfP {h:Heap} {a:Addr} {led:Bool} (ho:h.get? a=some (zba led)):zeA prog w led h a [] :=
 ⟨_,#[],0,_,⟨ho,⟨rfl,rfl,rfl⟩,rfl,.refl _,(fun q hq=>by cases hq),⟨.fresh _ _ _,rfl,rfl,(fun j hj=>by cases hj),.inl ⟨rfl,bp _⟩⟩⟩,fun e j h=>by cases h⟩
abbrev ziu (prog:Program) (w:World) (s:Shared) (ms:List (List Int×Addr)) (h':Heap):Prop :=
 zeA prog w (zbl w) h' s.heap.objs.size (zbU ms)∧∀ b o,b < s.heap.objs.size→s.heap.get? b=some o→h'.get? b=some o
theorem zjf {l:Addr} {items:Array Value} {ms:List (List Int×Addr)} {R:Result→Shared→Prop} (hh:A.handled=none) (hu:A.units+8 < cLine) (hl:s.heap.IsList l items) (hi:items.toList=ms.map fun q=>a8 q.2) (hb:ms.length≤17) (hk:∀ q∈ms,za2 prog w s.heap q.1 q.2)
  (h:∀ h' tk,ziu prog w s ms h'→R (.ok (.ret .none)) { s with heap:=h',toks:=tk }) :
  wpAny (model prog w) A.in1 (Builtin.«set.__init__» ⟨[.ref s.heap.objs.size,.ref l],[]⟩) (fun fin s'=>match fin with | .done f=>R (.ok f) s' | .again c'=>c'.quiet=true∧codeAny (model prog w) A c' R s') (fun e s'=>R (.error e) s') { s with heap:=s.heap.push (zba (zbl w)) }:=by
 have hzi:items.size=ms.length:=by rw [← av,hi,ab]
 have hS:(s.heap.push (zba (zbl w))).get? s.heap.objs.size=some (zba (zbl w)):=aJ _ rfl;have k9:l < s.heap.objs.size:=by obtain⟨o,ho,_⟩:=hl; exact aK ho
 have xO:∀ q∈ms,q.2 < s.heap.objs.size:=fun q hq=>by obtain⟨o,_,_,ho,_⟩:=hk q hq; exact aK ho
 have zz:(s.heap.push (zba (zbl w))).objs.size=s.heap.objs.size+1:=bK ..;have vk:(s.heap.push (zba (zbl w))).IsList l items:=hl.push _;have hT:kL { s with heap:=s.heap.push (zba (zbl w)) } (.ref s.heap.objs.size) "set":=⟨_,hS,rfl⟩;have ux:∀ q∈ms,za2 prog w (s.heap.push (zba (zbl w))) q.1 q.2:=fun q hq=>zgE (hk q hq) fun o e=>ak _ e
 have q1:=zor;have q2:=zos;have q3:(eQ "list" == eQ "dict")=false:=by decide
 have uH:=zfP (prog:=prog) (w:=w) hS;unfold ziu at h;generalize zbl w=led at *;obtain⟨ol,Ar,sR,nl,uI⟩:=id vk
 (obtain⟨ocls,odict,odata,B5⟩:=ol)
 simp only at sR uI;subst sR uI;unfold Builtin.«set.__init__» noKeywords kD zba;unfold zba at hS hT Ar vk zz uH ux;generalize hPI:pyIter=PI
 wp_walk
 subst hPI;refine fI vk (ae (wpAny_runValue ?_));have z0:s.heap.objs.size≠s.heap.objs.size+1:=ba (eS _);refine zje (led:=led) ((ku (show A.in1.in1.handled=none by simp [hh]) (s.heap.push (zba led)).objs.size l (by rw [bK]; exact ba (cN k9)) items).toS) s.heap.objs.size (by
   rw [bK];intro m;rcases (aH.mp m) with e | e
   ·exact z0 e
   ·exact hX k9 (aN.mp e)) ms (fun i v hv=>by
    have hv:items.toList[i]? = some v:=by rw [aS]; exact hv
    rw [hi,af] at hv;obtain⟨q,hq,e⟩:=Option.map_eq_some_iff.mp hv;exact⟨q,hq,e.symm⟩) hb hzi.symm (fun q hq m=>by
    have:=xO q hq;have m:=aN.mp m;rw [bK] at m;exact ba (cN this) m) (fun q hq=>ba (xO q hq)) (by simp; lia) (items.size - 0) 0 _ rfl (bp _) ⟨⟨_,aJ _ rfl,rfl,rfl⟩,vk.push _⟩
  (uH.at (fun o e=>ak _ e) fun q hq=>by cases hq) (fun q hq=>zgE (ux q hq) fun o e=>ak _ e) fun s' hm tQ=>?_
 (obtain⟨h',g',d',B6,w6⟩:=s')
 obtain rfl:g'=s.gens:=hm.gens;obtain rfl:d'=s.drawn:=hm.drawn;obtain rfl:w6=s.os:=hm.os;refine aj ?_
 (show wpAny _ _ (ret cR) _ _ _)
 refine aj (h h' B6 ⟨tQ,fun b o nR e=>?_⟩);refine hm.heap b o ?_ (ak _ (ak _ e));intro m;rcases (aH.mp m) with e | e
 ·exact ba nR e
 ·have e:=aN.mp e;rw [bK] at e;exact ba (cN nR) e
theorem zjg {l:Addr} {items:Array Value} {ms:List (List Int×Addr)} {Q:Value→Shared→Prop} (hh:A.handled=none) (hu:A.units+16 < cLine) (hl:s.heap.IsList l items) (hi:items.toList=ms.map fun q=>a8 q.2) (hb:ms.length≤17) (hk:∀ q∈ms,za2 prog w s.heap q.1 q.2)
  (h:∀ h' tk,ziu prog w s ms h'→Q (.ref s.heap.objs.size) { s with heap:=h',toks:=tk }):wpAny (model prog w) A (call (.type "set") [.ref l]) Q E s:=by
 have ft:=PySem.F.called_set
 (obtain⟨c,tl,hmro⟩:=ft.mro)
 have p1:=ft.made;have p2:=ft.sub;have p3:=ft.notType;have p4:=ft.canCreate;have p5:=PySem.F.typeCall_set_1 (.ref l);refine kh (gf ?_); show wpAny _ _ (callAny (.type "set") _) _ _ _;refine aj ⟨Code.quiet_builtin _ #[N],cC PySem.F.entry_type_call ?_⟩; rw [Around.under_plain (weight_type_call_type "set" [.ref l] []) rfl]; repeat (any_goals (first | assumption | wp_step))
 refine gb (zkM (.ref l) (E:=E) (Q₁:=fun obj s₁=>obj = .ref s.heap.objs.size∧s₁ = { s with heap:=s.heap.push (zba (zbl w)) }) ⟨rfl,rfl⟩) fun r s₁ hr=>?_
 cases r with
 | error e=>exact hr
 | ok fl =>
  cases fl with
  | ret obj =>
   obtain⟨rfl,rfl⟩:=hr;have hS:(s.heap.push (zba (zbl w))).get? s.heap.objs.size=some (zba (zbl w)):=aJ _ rfl;have hT:kL { s with heap:=s.heap.push (zba (zbl w)) } (.ref s.heap.objs.size) "set":=⟨_,hS,rfl⟩;have p6:=ft.init.lookup;have p7:=ft.init.bind (.ref s.heap.objs.size); repeat (any_goals (first | assumption | wp_step))
   refine gb (je (R:=wants (fun r s₂=>r = .none∧∃ h' tk,s₂ = { s with heap:=h',toks:=tk }∧ziu prog w s ms h') E) ft.init.plain PySem.F.entry_set_init (check_set_init_1 hT (zjf (A:=A.in1) (by simp [hh]) (by simp; lia) hl hi hb hk fun h' tk fl=>⟨rfl,h',tk,rfl,fl⟩))) fun r₂ s₂ hr₂=>?_
   cases r₂ with
   | error e=>exact hr₂
   | ok fl₂ =>
    cases fl₂ with
    | ret r =>
     obtain⟨rfl,h',tk,rfl,fl⟩:=hr₂; repeat (any_goals (first | assumption | wp_step))
     exact h _ _ fl
    | _=>exact hr₂.elim
  | _=>exact hr.elim
end
theorem zgG {P:Program} {w:World}:∀ {ns:List Int} {us:List Value},zE (ns.map V.int) us→ItemsAre (intKind P w) ns us
 | [],us,r=>by cases r; exact .nil
 | n :: ns,us,r=>by
  cases r with
  | cons h t =>
   obtain⟨tk,rfl⟩:=h;exact .cons (intKind_is _ _ _ _) (zgG t)
theorem Inv.tk {X:Cx} {kS:List (Addr×Obj)} {σ:St} {H:Hp} {s:Shared} {a:Addr} {ns:List Int} (I:Inv X kS σ H s) (h:H a=some (.tup (ns.map V.int))):za2 X.prog X.w s.heap ns a:=by
 obtain⟨kU,r,p,_⟩:=I.tuple (kZ.of h);obtain⟨o,ho,hc,n,hd⟩:=p;exact⟨o,_,n,ho,hc,hd,by simpa using zgG r⟩
theorem Pb.fits {led:Bool} {t:SetTable} {n:Nat} (P:Pb led t n):t.fits n=true:=by
 unfold gQ gR;rw [P.b.d,P.z];rcases P.m with m | m <;> simp <;> lia
end L2
end
section
namespace L2
open PySem PySem.Spec PyProof.Rows
def zbZ (w:World):Bool:=!w.params.followText "set-order"
theorem erase_perm {α:Type}:∀ {l:List α} {i:Nat} (h:i < l.length),(l[i] :: l.eraseIdx i).Perm l
 | [],i,h=>by simp at h
 | a :: l,0,h=>by simp
 | a :: l,i+1,h=>by
  have:=erase_perm (l:=l) (i:=i) (by simpa using h);simp only [List.getElem_cons_succ,List.eraseIdx_cons_succ];exact (kA _ _ _).trans (this.cons a)
theorem ziv {α:Type} {next:Nat→Nat}:∀ (fuel k:Nat) (left:List α) (out:Array α),left.length≤fuel→(jN next fuel k left out).toList.Perm (out.toList++left)
 | 0,k,left,out,h=>by
  have:left = []:=dU.mp #[O];subst this;simp [jN]
 | fuel+1,k,left,out,h=>by
  rw [jN];split
  ·next x hx =>
   have hi:next k % left.length < left.length:=by
    rcases dO (next k % left.length) left.length with h' | h'
    ·exact h'
    ·rw [bq h'] at hx; cases hx
   have e:left[next k % left.length]=x:=by rw [ai hi] at hx; injection hx
   refine (ziv fuel (k+1) _ _ (by rw [List.length_eraseIdx_of_lt hi]; lia)).trans ?_;rw [g7,bg]
   (refine List.Perm.append_left _ ?_)
   rw [List.singleton_append,← e];exact erase_perm hi
  ·next hx =>
   have:left = []:=by
    cases left with
    | nil=>rfl
    | cons a l=>rw [ai (dF _ #[M])] at hx; cases hx
   subst this;simp
theorem zjh {α:Type} (next:Nat→Nat) (xs:Array α):(pickOrder next xs).toList.Perm xs.toList:=by
 have:=ziv (next:=next) xs.size 0 xs.toList #[] #[M];simpa [pickOrder] using this
def zaT (w:World) (a:Addr) (ep:Nat) (es:Array (Int×Value)):Array (Int×Value):=if zbZ w=true then es else pickOrder (w.params.setOrder a ep) es
theorem zbF (w:World) (a:Addr) (ep:Nat) (es:Array (Int×Value)):(zaT w a ep es).toList.Perm es.toList:=by
 unfold zaT;split
 ·exact .refl _
 ·exact zjh _ _
def slotAt (w:World) (t:SetTable) (i:Nat):Nat:=if zbZ w=true then (if i=0 then 0 else t.place.getD (i - 1) 0+1) else 0
section
variable {prog:Program} {w:World} {A:Around} {E:Value→Shared→Prop} {s:Shared}
theorem zcL {Q:Bool→Shared→Prop} (h:Q (!zbZ w) s):wpAny (model prog w) A setsByText Q E s:=by
 unfold setsByText;refine ae (fV (aj ?_));unfold zbZ at h;rw [Bool.not_not] at h;exact h
theorem zgH {a:Addr} {o:Obj} {es:Array (Int×Value)} {ep i:Nat} {t:SetTable} {Q:Option (Value×Nat)→Shared→Prop} (ho:s.heap.get? a=some o) (hd:o.data = .set es ep t) (P:Pb (zbZ w) t es.size) (hi:i≤es.size)
  (h:Q (((zaT w a ep es)[i]?).map fun e=>(e.2,slotAt w t (i+1))) s):wpAny (model prog w) A (setNext a (slotAt w t i) i ep) Q E s:=by
 have hf:=P.fits;unfold setNext
 (refine ae (ci ho hd hf ?_))
 dsimp only;refine ae (zcL ?_);cases hl:zbZ w with
 | false =>
  rw [fF,if_pos rfl];rw [if_neg #[M]];have e1:zaT w a ep es=pickOrder (w.params.setOrder a ep) es:=by unfold zaT; rw [hl]; rfl
  have e2:∀ j,slotAt w t j=0:=fun j=>by unfold slotAt; rw [hl]; rfl
  rw [e1,e2] at h;rw [e2];refine ae ?_;unfold setWalk
  (refine ae (ci ho hd hf ?_))
  dsimp only;refine ae (zcL ?_);rw [hl,fF,if_pos rfl];refine ae (fV (aj ?_));exact aj h
 | true =>
  rw [cI,if_neg #[M]];have e1:zaT w a ep es=es:=by unfold zaT; rw [hl]; rfl
  have pN:SetTable.below t.place (slotAt w t i)=i:=by
   unfold slotAt;rw [hl,if_pos rfl];by_cases h0:i=0
   ·rw [if_pos h0,h0]; exact zhk P.b.r
   ·rw [if_neg h0];have k9:i - 1 < t.place.size:=by rw [P.z]; lia
    have:t.place.getD (i - 1) 0=t.place[i - 1]:=by simp [fE,k9]
    rw [this,zhj P.b.r k9];lia
  have h2:slotAt w t (i+1)=t.place.getD i 0+1:=by unfold slotAt; rw [hl]; rfl
  rw [e1,h2] at h;split
  ·next tS =>
   exfalso;have tS:(!t.plain && decide (es.size > 1))=true:=tS;rw [P.p] at tS;simp at tS
  ·refine ae ?_;show wpAny _ _ (if (!t.led && !es.isEmpty)=true then _ else _) _ _ _;rw [P.b.l,hl];rw [if_neg #[M]];refine aj ?_;rw [pN];by_cases k9:i < es.size
   ·have hz:i < t.place.size:=by rw [P.z]; exact k9
    rw [be k9,be hz];rw [be k9] at h;have:t.place.getD i 0=t.place[i]:=by simp [fE,hz]
    rw [this] at h;exact aj h
   ·rw [bR #[O]] at h ⊢;exact aj h
end
theorem zaC:Slot "set_iterator" "__next__" "set_iterator.__next__" :=
 .of (owner:="set_iterator") (n:="__next__") (by rw [dY,cU]; kernel_rfl) #[N] #[N] #[N] (by first | exact .inl #[N] | exact .inr #[N]) (by rw [cK]; kernel_rfl)
theorem zc8:Slot "set_iterator" "__iter__" "set_iterator.__iter__" :=
 .of (owner:="set_iterator") (n:="__iter__") (by rw [dY,cU]; kernel_rfl) #[N] #[N] #[N] (by first | exact .inl #[N] | exact .inr #[N]) (by rw [cK]; kernel_rfl)
theorem zcD:entryFor table "set_iterator.__next__" = some Builtin.«set_iterator.__next__»:=entryFor_of_fast (by kernel_rfl)
theorem zeB:entryFor table "set_iterator.__iter__" = some Builtin.«dict_keyiterator.__iter__»:=iS (id':="dict_keyiterator.__iter__") (by kernel_rfl) rfl #[N] (by kernel_rfl)
theorem zel:entryFor table "set.__iter__" = some Builtin.«frozenset.__iter__»:=iS (id':="frozenset.__iter__") (by kernel_rfl) rfl #[N] (by kernel_rfl)
theorem zc9 (a:Value):argsOk "set_iterator.__next__" ⟨[a],[]⟩:=by unfold argsOk; kernel_rfl
theorem zfQ (a:Value):argsOk "set_iterator.__iter__" ⟨[a],[]⟩:=by unfold argsOk; kernel_rfl
def SIt (h:Heap) (it a:Addr) (sl i n ep:Nat):Prop:=∃ o,h.get? it=some o∧o.cls = .type "set_iterator"∧o.data = .fields #[rawInt sl,rawInt i,.ref a,rawInt n,rawInt ep]
section
variable {prog:Program} {w:World} {A:Around} {E:Value→Shared→Prop} {s:Shared}
theorem SIt.typeIs {it a:Addr} {sl i n ep:Nat} (h:SIt s.heap it a sl i n ep):s.TypeIs (.ref it) "set_iterator":=let ⟨o,ho,hc,_⟩:=h; ⟨o,ho,hc⟩
theorem zlQ {it a:Addr} {sl i n ep:Nat} {Q:Value→Shared→Prop} (hit:SIt s.heap it a sl i n ep) (h:Q (.ref it) s):wpAny (model prog w) A (pyIter (.ref it)) Q E s:=by
 refine gW hit.typeIs zc8 (cf zc8 hit.typeIs zeB ?_ (zfQ _))
 (show wpAny _ _ (ret (.ref it)) _ _ s)
 exact aj ⟨_,rfl,"set_iterator",_,hit.typeIs,zaC.lookup,h⟩
theorem zkO {a:Addr} {o:Obj} {es:Array (Int×Value)} {ep:Nat} {t:SetTable} {Q:Value→Shared→Prop} (ho:s.heap.get? a=some o) (hex:o.ExactSet) (hd:o.data = .set es ep t) (P:Pb (zbZ w) t es.size)
  (h:Q (.ref s.heap.objs.size) { s with heap:=s.heap.push { cls:=.type "set_iterator",data:=.fields #[rawInt 0,rawInt 0,.ref a,rawInt es.size,rawInt ep] } }):wpAny (model prog w) A (pyIter (.ref a)) Q E s:=by
 have hf:=P.fits
 (have hT:s.TypeIs (.ref a) "set":=⟨o,ho,hex.1⟩)
 refine gW hT F.slot_set_iter (cf F.slot_set_iter hT zel ?_ (F.args_set_iter_1 _));unfold Builtin.«frozenset.__iter__» kP slotArgs
 (simp only [iq,cI,aG,↓reduceIte,bind_assoc,ed,bne_self_eq_false])
 (unfold kN kO)
 refine ae (aj ?_)
 try dsimp only
 refine ae (aj ?_)
 (refine ae (ae (gq ho hd hf (aj ?_))))
 unfold setDrawn;refine ae (ae (ci ho hd hf ?_));dsimp only;refine ae (zcL (aj ?_));split
 ·next tS =>
  exfalso;have tS:(!!zbZ w && (!t.plain && decide (es.size > 1)))=true:=tS;rw [P.p] at tS;simp at tS
 ·exact ae (aj (ae (wpAny_setEpoch_of ho hd hf (ae (bU (aj ⟨_,rfl,"set_iterator",_,⟨_,aJ _ rfl,rfl⟩,zaC.lookup,h⟩))))))
theorem next_item {it a:Addr} {o:Obj} {es:Array (Int×Value)} {ep i:Nat} {t:SetTable} {x:Int×Value} {Q:Option Value→Shared→Prop} (hit:SIt s.heap it a (slotAt w t i) i es.size ep) (lC:a≠it)
  (ho:s.heap.get? a=some o) (hd:o.data = .set es ep t) (P:Pb (zbZ w) t es.size) (hx:(zaT w a ep es)[i]? = some x)
  (hQ:∀ h',SIt h' it a (slotAt w t (i+1)) (i+1) es.size ep→dJ it s.heap h'→Q (some x.2) { s with heap:=h' }):wpAny (model prog w) A (pyNext (.ref it)) Q E s:=by
 have hf:=P.fits;have hi:i≤es.size:=by
  have h1:(zaT w a ep es).size=es.size:=by rw [← av,(zbF w a ep es).length_eq,av]
  rcases (dO i es.size) with h | h
  ·lia
  ·rw [bR #[O]] at hx; cases hx
 obtain⟨oi,wK,hci,vJ⟩:=id hit;unfold pyNext;refine ae (dW (cq (name:=bY "__next__") hit.typeIs zaC (cf zaC hit.typeIs zcD ?_ (zc9 _))));unfold Builtin.«set_iterator.__next__» slotArgs
 (simp only [iq,cI,aG,↓reduceIte,bind_assoc,ed,bne_self_eq_false])
 refine ae (aj ?_);refine ae (wpAny_fieldsOf wK vJ ?_);dsimp only [rawInt];refine ae (gq ho hd hf ?_);rw [if_neg #[M]];refine ae ?_;simp only [da];refine zgH ho hd P hi ?_;rw [hx];show wpAny _ _ (setField (a8 it) 0 (dH (slotAt w t (i+1):Nat) 0) >>= fun _=>setField (a8 it) 1 (dH ((i:Int)+1) 0) >>= fun _=>ret x.2) _ _ s;refine ae (dj wK vJ #[M] ?_);have g1:=bD (gO (·.setIfInBounds 0 (dH (slotAt w t (i+1):Nat) 0))) wK (dz (cm vJ _));have d1:=cm vJ (·.setIfInBounds 0 (dH (slotAt w t (i+1):Nat) 0));refine ae (dj g1 d1 #[M] ?_);have g2:=bD (gO (·.setIfInBounds 1 (dH ((i:Int)+1) 0))) g1 (dz (cm d1 _));refine aj ⟨x.2,rfl,aj (hQ _ ⟨_,g2,?_,?_⟩ ((bO ..).trans (bO ..)))⟩
 ·exact (fM ..).trans ((fM ..).trans hci)
 ·rw [cm d1];simp [rawInt]
theorem next_end {it a:Addr} {o:Obj} {es:Array (Int×Value)} {ep:Nat} {t:SetTable} {Q:Option Value→Shared→Prop} (hh:A.handled=none) (hit:SIt s.heap it a (slotAt w t es.size) es.size es.size ep)
  (ho:s.heap.get? a=some o) (hd:o.data = .set es ep t) (P:Pb (zbZ w) t es.size) (hQ:∀ h',jZ it s.heap h'→Q none { s with heap:=h' }):wpAny (model prog w) A (pyNext (.ref it)) Q E s:=by
 have hf:=P.fits;have hx:(zaT w a ep es)[es.size]? = none:=bR (by rw [← av,(zbF w a ep es).length_eq,av]; lia);obtain⟨oi,wK,hci,vJ⟩:=id hit;unfold pyNext;refine ae (dW (cq (name:=bY "__next__") hit.typeIs zaC (cf zaC hit.typeIs zcD ?_ (zc9 _))));unfold Builtin.«set_iterator.__next__» slotArgs
 (simp only [iq,cI,aG,↓reduceIte,bind_assoc,ed,bne_self_eq_false])
 refine ae (aj ?_);refine ae (wpAny_fieldsOf wK vJ ?_);dsimp only [rawInt];refine ae (gq ho hd hf ?_);rw [if_neg #[M]];refine ae ?_;simp only [da];refine zgH ho hd P (ah _) ?_;rw [hx];show wpAny _ _ (setField (a8 it) 2 cR >>= fun _=>newExc (.type "StopIteration") [] >>= fun e=>raiseNew e) _ _ s;refine ae (dj wK vJ #[M] ?_);refine ae ?_;simp only [newExc,newTuple]
 (refine ae (bU ?_ (by size_fits)))
 (refine ae (m:=firstArgMember _ _) (cc (a:=cR) (by first | rfl | (simp only [firstArgMember]; rfl)) ?_))
 (refine bU ?_ (by size_fits))
 simp only [raiseNew]
 (refine ae (jm ?_))
 (rw [show A.in1.handled=none from hh])
 (refine ae (aj (j3 ?_)))
 (refine ae (eU (T:="StopIteration") (b:=true) ⟨_,aJ _ rfl,rfl⟩ iU ?_))
 (exact aj (hQ _ (((bO ..).extBut.push _).push _)))
theorem SIt.at {h h':Heap} {it a:Addr} {sl i n ep:Nat} (x:SIt h it a sl i n ep) (e:∀ o,h.get? it=some o→h'.get? it=some o):SIt h' it a sl i n ep:=let ⟨o,ho,r⟩:=x; ⟨o,e _ ho,r⟩
theorem zji (hh:A.handled=none) (I a:Addr) (lC:a≠I) {o:Obj} {es:Array (Int×Value)} {ep:Nat} {t:SetTable} (hd:o.data = .set es ep t) (P:Pb (zbZ w) t es.size) :
  Walks prog w A I [I,a] [I] es.size (fun i v=>((zaT w a ep es)[i]?).map (·.2)=some v) (fun i h=>SIt h I a (slotAt w t i) i es.size ep∧h.get? a=some o) where
 sub:=(fun b hb=>by simp at hb; simp [hb])
 frame:=fun _ _ _ st hk=>⟨st.1.at fun o e=>hk I #[M] o e,hk a #[M] o st.2⟩; item:=fun i s Q E hi st hQ=>by
  have h1:(zaT w a ep es).size=es.size:=by rw [← av,(zbF w a ep es).length_eq,av]
  have hx:(zaT w a ep es)[i]? = some ((zaT w a ep es)[i]'#[O]):=be #[O];refine next_item st.1 lC st.2 hd P hx fun h' pU lX=>?_
  refine hQ _ h' s.toks (by rw [hx]; rfl) ⟨pU,lX.extBut a o lC st.2⟩ fun b o hb e=>lX.extBut b o (fun h=>hb (by simp [h])) e
 done:=fun s Q E st hQ=>next_end hh st.1 st.2 hd P fun h' rV=>hQ h' s.toks fun b o hb e=>rV b o (fun h=>hb (by simp [h])) e
 self:=fun _ _ _ _ st hQ=>zlQ st.1 hQ
end
section
variable {prog:Program} {w:World} {A:Around} {E:Value→Shared→Prop} {s:Shared}
theorem zjj {ord:Array (Int×Value)} {acc:Array Value} (h:ItemsOf (fun i v=>(ord[i]?).map (·.2)=some v) acc ord.size):acc.toList=ord.toList.map (·.2):=by
 refine cO fun i=>?_
 rw [af,aS,aS];by_cases hi:i < acc.size
 ·rw [h.2 i _ (be hi),be hi]
 ·rw [bR #[O],bR (by have:=h.1; lia)];rfl
theorem zgI {a:Addr} {o:Obj} {es:Array (Int×Value)} {ep:Nat} {t:SetTable} {Q:List Value→Shared→Prop} (hh:A.handled=none) (ho:s.heap.get? a=some o) (hex:o.ExactSet) (hd:o.data = .set es ep t) (P:Pb (zbZ w) t es.size)
  (hQ:∀ h' tk,(∀ b o,s.heap.get? b=some o→h'.get? b=some o)→Q ((zaT w a ep es).toList.map (·.2)) { s with heap:=h',toks:=tk }):wpAny (model prog w) A (collect (.ref a)) Q E s:=by
 have hsz:es.size≤18:=by have:=P.m; lia
 have xW:(zaT w a ep es).size=es.size:=by rw [← av,(zbF w a ep es).length_eq,av]
 have k9:=aK ho;unfold collect
 (refine ae (wpAny_runValue (cC F.entry_proto_collect ?_)))
 (rw [b7 F.plain_proto_collect _])
 show wpAny _ A.in1 (newList [] >>= fun l=>again (.builtin "list.__iadd__" ⟨[l,.ref a],[]⟩)) _ _ s
 (refine ae (bU ?_))
 (refine aj ⟨df jW _,cC F.entry_list_iadd ?_⟩)
 (rw [b7 jW _])
 show wpAny _ A.in1 (gK (.ref s.heap.objs.size) (.ref a) (.ref s.heap.objs.size)) _ _ _
 (unfold gK)
 generalize hH:s.heap.push { cls:=.type "list",data:=.seq ([]:List Value).toArray }=H
 (have B7:H.objs.size=s.heap.objs.size+1:=by rw [← hH,bK])
 have tO:H.get? a=some o:=hH ▸ ak _ ho;have hS:H.get? s.heap.objs.size=some { cls:=.type "list",data:=.seq ([]:List Value).toArray }:=hH ▸ aJ _ rfl;refine ae (jK (T:="set") ⟨o,tO,hex.1⟩ ?_);have h1:ir (.ref s.heap.objs.size) (.ref a)=false:=by
  unfold ir;simpa using hX k9
 have h2:(eQ "set" == eQ "list")=false:=by decide
 have h3:(eQ "set" == eQ "tuple")=false:=by decide
 (simp only [h1,h2,h3,Bool.or_false,aG,if_false])
 refine ae (zkO tO hex hd P ?_)
 (refine ae (bS ?_))
 generalize hG:H.push { cls:=.type "set_iterator",data:=.fields #[rawInt 0,rawInt 0,.ref a,rawInt es.size,rawInt ep] }=G;have oI:G.get? a=some o:=hG ▸ ak _ tO;have uH:G.get? s.heap.objs.size=some { cls:=.type "list",data:=.seq ([]:List Value).toArray }:=hG ▸ ak _ hS;have ng:G.get? H.objs.size=some { cls:=.type "set_iterator",data:=.fields #[rawInt 0,rawInt 0,.ref a,rawInt es.size,rawInt ep] }:=hG ▸ aJ _ rfl
 (unfold Builtin.List.listLengthHint)
 refine ae (dZ (T:="set") ⟨o,oI,hex.1⟩ F.slot_set_len.lookup ?_)
 wp_delta
 refine ae (eU (T:="set") (b:=true) ⟨o,oI,hex.1⟩ (by rw [cK]; kernel_rfl) ?_);show wpAny _ A.in1 (typeOf (a8 a) >>= _) _ _ _;refine ae (jK (T:="set") ⟨o,oI,hex.1⟩ ?_);refine aj ?_;rw [if_pos #[D]];refine ae (cT ?_);refine ae ?_
 (show wpAny _ A.in1 (updateSeq s.heap.objs.size (·.push .none) >>= fun _=>updateSeq s.heap.objs.size (·.pop)) _ _ _)
 refine ae (fe uH rfl ?_);have hS3:=bD (cr (·.push cR)) uH rfl;refine fe hS3 rfl ?_;have hS4:=bD (cr (·.pop)) hS3 rfl;have B8:∀ b o,b≠s.heap.objs.size→G.get? b=some o→((G.update s.heap.objs.size (cr (·.push cR))).update s.heap.objs.size (cr (·.pop))).get? b=some o :=
  fun b o hb e=>(bH _ _ (cD hb)).trans ((bH _ _ (cD hb)).trans e)
 have xX:H.objs.size≠s.heap.objs.size:=by rw [B7]; exact fW _
 have sd:s.heap.objs.size∉[H.objs.size,a]:=fun hm=>by
  rcases aH.mp hm with e | e
  ·exact xX e.symm
  ·exact hX k9 (aN.mp e)
 have h0:slotAt w t 0=0:=by unfold slotAt; split <;> rfl
 refine aj ⟨df F.plain_extend_loop _,codeAny_extend_loopS ((zji (prog:=prog) (A:=A.in1) (by simp [hh]) H.objs.size a (by rw [B7]; exact ba (cN k9)) hd P).toS) (bi hsz (by rw [show sizeLine=16777216 from rfl]; decide)) _ sd _ es.size 0 _ _ _ rfl (bp _)
  ⟨⟨_,B8 _ _ xX ng,rfl,by rw [h0]; rfl⟩,B8 a o (ba k9) oI⟩ hS4 (ItemsOf.nil _) fun s' vp c' hm tQ vq=>?_⟩
 (show wpAny _ A (load s.heap.objs.size >>= _) _ _ s')
 (refine ae (wpAny_load tQ ?_))
 (obtain⟨h',g',d',B6,w6⟩:=s')
 obtain rfl:g'=s.gens:=hm.gens;obtain rfl:d'=s.drawn:=hm.drawn;obtain rfl:w6=s.os:=hm.os;show wpAny _ A (pure vp.toList) _ _ _;rw [zjj (ord:=zaT w a ep es) (by rw [xW]; exact vq)];refine aj (hQ h' B6 fun b ob e=>?_);have hb:=aK e;refine hm.heap b ob (fun tE=>?_) (B8 b ob (ba hb) (hG ▸ ak _ (hH ▸ ak _ e)));rcases aH.mp tE with e' | e'
 ·exact ba hb e'
 ·rw [aN.mp e',B7] at hb;exact absurd hb (Nat.not_lt.mpr (fQ _))
end
end L2
end
section
namespace L2
open PySem PySem.Spec PyProof.Rows Srt
def zn0 (H:Hp) (v:Value):Addr×List Int:=(match v with | .ref a=>a | _=>0,zbY H v)
theorem zgJ {X:Cx} (hc:X.calm=true) {kS:List (Addr×Obj)} {s:Shared} {σ:St} {H:Hp} {a:Addr} {ms:List (List Int×Addr)} {k:Nat} {B:Int} {Q:VK} (I:Inv X kS σ H s) (hS:zeA X.prog X.w (zbl X.w) s.heap a ms) (hT:zhb H k B (ms.map fun q=>(q.2,q.1))) (hk:1≤k) (hB:1≤B)
  (q:∀ (l:Addr) (lN:List (Addr×List Int)),H l=none→lN.Perm (ms.map fun q=>(q.2,q.1))→(lN.Pairwise fun a b=>num B a.2≤num B b.2)→Q (.ref l) (kX H l (.lst (lN.map fun q=>V.ref q.1)))) :
  wpAny (model X.prog X.w) X.A (call (.builtin "sorted") [.ref a]) (EP X kS σ Q) X.xe s:=by
 obtain⟨o,es,ep,t,S,_⟩:=hS;have hsz:es.size≤18:=by have:=S.pb.m; lia
 obtain⟨vs,ev⟩:∃ vs,vs=(zaT X.w a ep es).toList.map (·.2):=⟨_,rfl⟩;have hpv:vs.Perm (ms.map fun q=>a8 q.2):=by
  rw [ev];refine ((zbF X.w a ep es).map (·.2)).trans ((S.pm.map (·.2)).trans (kx ?_));rw [cj];rfl
 have hg:∀ q∈ms,zn0 H (a8 q.2)=(q.2,q.1):=fun q hq=>by
  have h:=(hT _ (az.mpr ⟨q,hq,rfl⟩)).1;show (q.2,zbY H (a8 q.2))=(q.2,q.1);rw [zc1 h]
 obtain⟨vK,xY⟩:∃ vK,vK=vs.map (zn0 H):=⟨_,rfl⟩;have qQ:vK.Perm (ms.map fun q=>(q.2,q.1)):=by
  rw [xY];refine (hpv.map _).trans (kx ?_);rw [cj];exact cz fun q hq=>hg q hq
 have As:vs=vK.map fun q=>a8 q.1:=by
  rw [xY,cj];refine (j5 vs).symm.trans (cz fun v hv=>?_);obtain⟨q,hq,rfl⟩:=az.mp (hpv.mem_iff.mp hv);rfl
 have tT:zhb H k B vK:=fun x hx=>hT x (qQ.mem_iff.mp hx)
 have hl:vK.length≤18:=by rw [xY,ab,ev,ab,(zbF X.w a ep es).length_eq,av]; exact hsz
 have og:sizeLine=16777216:=rfl;subst As;refine zeX (vs:=vK.map fun q=>a8 q.1) (κ:=tuples' true) (val:=fun p=>num B (zbY H p.1)) (by rw [ab]; lia) (fun R hR=>?_) (fun s' kk h2 A' Q' E' o2=>?_) (fun s' A' kk=>zke I tT hB kk) fun h' tk out e D kk hD vF hp hs=>?_
 ·refine zgI (A:=X.A.in1) (by rw [show X.A.in1.handled=X.A.handled by simp]; exact I.ok.hd hc) S.g S.ex S.dt S.pb fun h' tk k=>?_
  rw [← ev];exact hR h' tk k
 ·obtain⟨fs,k1,k2,k3⟩:=zkd I tT hk kk;exact kb (T:=.type "int") k1 (by rw [ab] at h2; lia) (fun v hv=>by obtain⟨n,t,rfl⟩:=k3 v hv; exact zeZ) rfl o2
 ·obtain⟨lN,p1,p2,p3⟩:=zgp tT hp hs;have hl:=p1.length_eq;obtain⟨hn,I2⟩:=I.above (tk:=tk) (D:=D) (o:=.lst (lN.map fun q=>V.ref q.1)) kk hD ⟨by rw [ab]; lia,lN.map fun q=>a8 q.1,e,zbR lN,by rw [← p3]; exact vF⟩;exact⟨.ref D,_,I2,rfl,q D lN hn (p1.trans qQ) p2⟩
def zot (K:ag):List V→Hp→VK→Prop:=fun xs H Q=>∃ (p:Addr) (k:Nat) (B:Int) (ps:List (Addr×List Int)),xs = [.ref p]∧H p=some (.lst (ps.map fun q=>V.ref q.1))∧zhb H k B ps∧1≤k∧1≤B∧ps.length≤17 ∧
 ∀ (l:Addr) (lN:List (Addr×List Int)),H l=none→(∀ x∈lN,x∈ps)→(lN.map (·.2)).Nodup→(∀ c,c∈lN.map (·.2)↔c∈ps.map (·.2))→(lN.Pairwise fun a b=>num B a.2≤num B b.2)→Q (.ref l) (kX H l (.lst (lN.map fun q=>V.ref q.1)))
theorem zeC {X:Cx} {e:Expr} {t:TA} {p p' pos pos':Pos} (hc:X.calm=true) (hu:X.A.units+16 < cLine) (hg:Gl X "sorted") (hm:X.mg "sorted" = none) (vH:Gl X "set") (tE:X.mg "set" = none) (ha:PA X [e] t)
  (he:starEach [e] X.env = [(false,eval e X.env)]:=by rfl):PE X (.Call (.Name "sorted" p) [.Call (.Name "set" p') [e] [] pos'] [] pos) (tCB (zot X.K) t):=by
 intro kS s σ H Q I h;refine dr (za5 I hg hm (u:=.builtin "sorted") rfl ?_ #[D] #[D]);refine gd ?_ rfl rfl;show wpAny _ _ (spliced ((false,eval (.Call (.Name "set" p') [e] [] pos') X.env) :: [])) _ _ s;refine gF ?_;refine dr (za5 I vH tE (u:=.type "set") rfl ?_ #[D] #[D]);refine bA (thn (ha pos' kS s σ H _ I h) fun us s1 ⟨vs,H1,I1,r1,q1⟩=>?_) he rfl;obtain⟨pa,k,B,ps,rfl,hq,hT,hk,hB,hn,q⟩:=q1;obtain⟨u,rfl,rx⟩:=vals1 r1;cases rx;obtain⟨kU,rv,pl,hz⟩:=I1.list (kT.of hq);have ev:=zdk rv;subst ev;refine zjg (ms:=ps.map fun q=>(q.2,q.1)) (I1.ok.hd hc) hu (show s1.heap.IsList pa (ps.map fun q=>a8 q.1).toArray from pl.isList) ?_ (by rw [ab]; exact hn) (fun q hq=>?_) fun h' tk fl=>?_
 ·show ps.map _=_;rw [cj];rfl
 ·obtain⟨x,hx,rfl⟩:=az.mp hq;exact I1.tk (hT x hx).1
 obtain⟨f1,f2⟩:=fl;have k':∀ b o,s1.heap.get? b=some o→h'.get? b=some o:=fun b o e=>f2 b o (aK e) e
 have I2:Inv X kS σ H1 { s1 with heap:=h',toks:=tk }:=I1.kept k';refine gT ?_;obtain⟨m1,m2,m3,m4⟩:=zcd (ps.map fun q=>(q.2,q.1));have uJ:∀ x∈(zbU (ps.map fun q=>(q.2,q.1))).map (fun q=>(q.2,q.1)),x∈ps:=fun x hx=>by
  (obtain⟨y,hy,rfl⟩:=az.mp hx)
  obtain⟨z,hz,rfl⟩:=az.mp (m1 y hy);exact hz
 refine zgJ hc I2 f1 (fun x hx=>hT x (uJ x hx)) hk hB fun l lN hl hp hs=>?_
 have e2:((zbU (ps.map fun q=>(q.2,q.1))).map fun q:List Int×Addr=>(q.2,q.1)).map (·.2)=(zbU (ps.map fun q=>(q.2,q.1))).map (·.1):=by rw [cj]; rfl
 have e3:(ps.map fun q:Addr×List Int=>(q.2,q.1)).map (·.1)=ps.map (·.2):=by rw [cj]; rfl
 have nM:=hp.map (·.2);rw [e2] at nM;exact q l lN hl (fun x hx=>uJ x (hp.mem_iff.mp hx)) (nM.nodup_iff.mpr m3) (fun c=>by rw [nM.mem_iff,m4,e3]) hs
end L2
end
section
namespace My
open PySem L2 PyProof.Rows
def top (i:Nat):Stmt:=PySem.Challenge.pw_slipcurve_k10_whole_curves_multiplied.main.body.getD i (.Pass ⟨0,0,0,0⟩)
abbrev zbV:Stmt:=top 1
abbrev zbm:Stmt:=top 3
abbrev zce:Stmt:=top 4
abbrev zbn:Stmt:=top 5
abbrev zcf:Stmt:=top 6
abbrev zcg:Stmt:=top 7
abbrev zbG:Stmt:=top 8
abbrev zda:Stmt:=top 9
abbrev za3:Stmt:=top 10
abbrev zaN:Stmt:=top 12
abbrev zaR:Stmt:=top 13
abbrev zbf:Stmt:=top 14
abbrev zaU:Stmt:=top 15
abbrev zdb:Stmt:=top 17
abbrev zcs:Stmt:=top 18
abbrev zch:Stmt:=top 19
abbrev zct:Stmt:=top 20
abbrev zbg:Stmt:=top 21
abbrev zcu:Stmt:=top 22
abbrev zah:Stmt:=top 23
abbrev zap:Stmt:=top 24
abbrev zb0:Stmt:=top 25
structure Adr where
 value_at:Addr
 width_of:Addr
 filled:Addr
 terms_of:Addr
 turned:Addr
 raised:Addr
 size_of:Addr
 moved:Addr
 weight_at:Addr
 without_x:Addr
 next_curve:Addr
 further:Addr
 roots_of:Addr
 l_cell:Addr
 l_draws:Addr
 l_code:Addr
 l_value:Addr
 l_curve:Addr
 l_times:Addr
 l_with_root:Addr
 l_product:Addr
 law:Addr
structure Txt (K:ag) (mg:Str→Option Value) (t:Adr):Prop where
 len_:mg "len" = none
 range_:mg "range" = none
 list_:mg "list" = none
 tuple_:mg "tuple" = none
 min_:mg "min" = none
 max_:mg "max" = none
 zip_:mg "zip" = none
 enumerate_:mg "enumerate" = none
 reversed_:mg "reversed" = none
 sorted_:mg "sorted" = none
 any_:mg "any" = none
 set_:mg "set" = none
 m_value_at:mg "value_at" = some (.ref t.value_at)
 m_width_of:mg "width_of" = some (.ref t.width_of)
 m_filled:mg "filled" = some (.ref t.filled)
 m_terms_of:mg "terms_of" = some (.ref t.terms_of)
 m_turned:mg "turned" = some (.ref t.turned)
 m_raised:mg "raised" = some (.ref t.raised)
 m_size_of:mg "size_of" = some (.ref t.size_of)
 m_moved:mg "moved" = some (.ref t.moved)
 m_weight_at:mg "weight_at" = some (.ref t.weight_at)
 m_without_x:mg "without_x" = some (.ref t.without_x)
 m_next_curve:mg "next_curve" = some (.ref t.next_curve)
 m_further:mg "further" = some (.ref t.further)
 m_roots_of:mg "roots_of" = some (.ref t.roots_of)
 m_l_cell:mg "_law_cell" = some (.ref t.l_cell)
 m_l_draws:mg "_law_draws" = some (.ref t.l_draws)
 m_l_code:mg "_law_code" = some (.ref t.l_code)
 m_l_value:mg "_law_value" = some (.ref t.l_value)
 m_l_curve:mg "_law_curve" = some (.ref t.l_curve)
 m_l_times:mg "_law_times" = some (.ref t.l_times)
 m_l_with_root:mg "_law_with_root" = some (.ref t.l_with_root)
 m_l_product:mg "_law_product" = some (.ref t.l_product)
 f_value_at:∃ fd,Fun K "value_at" "value_at" zbV t.value_at fd∧Binds K fd ["p","polynomial","x"] []
 f_width_of:∃ fd,Fun K "width_of" "width_of" zbm t.width_of fd∧Binds K fd ["curve"] []
 f_filled:∃ fd,Fun K "filled" "filled" zce t.filled fd∧Binds K fd ["p","curve"] []
 f_terms_of:∃ fd,Fun K "terms_of" "terms_of" zbn t.terms_of fd∧Binds K fd ["curve"] []
 f_turned:∃ fd,Fun K "turned" "turned" zcf t.turned fd∧Binds K fd ["lines","width"] []
 f_raised:∃ fd,Fun K "raised" "raised" zcg t.raised fd∧Binds K fd ["p","lines","by"] []
 f_size_of:∃ fd,Fun K "size_of" "size_of" zbG t.size_of fd∧Binds K fd ["k","curve"] []
 f_moved:∃ fd,Fun K "moved" "moved" zda t.moved fd∧Binds K fd ["p","curve","point"] []
 f_weight_at:∃ fd,Fun K "weight_at" "weight_at" za3 t.weight_at fd∧Binds K fd ["p","curve","point"] []
 f_without_x:∃ fd,Fun K "without_x" "without_x" zaN t.without_x fd∧Binds K fd ["lines"] []
 f_next_curve:∃ fd,Fun K "next_curve" "next_curve" zaR t.next_curve fd∧Binds K fd ["p","lines","number"] []
 f_further:∃ fd,Fun K "further" "further" zbf t.further fd∧Binds K fd ["p","known","lines"] []
 f_roots_of:∃ fd,Fun K "roots_of" "roots_of" zaU t.roots_of fd∧Binds K fd ["p","k","curve"] []
 f_l_cell:∃ fd,Fun K "_law_cell" "_law_cell" zdb t.l_cell fd∧Binds K fd ["script","k"] []
 f_l_draws:∃ fd,Fun K "_law_draws" "_law_draws" zcs t.l_draws fd∧Binds K fd ["script","k","many","base"] []
 f_l_code:∃ fd,Fun K "_law_code" "_law_code" zch t.l_code fd∧Binds K fd ["script","at","most_k","most_n"] []
 f_l_value:∃ fd,Fun K "_law_value" "_law_value" zct t.l_value fd∧Binds K fd ["p","polynomial","x"] []
 f_l_curve:∃ fd,Fun K "_law_curve" "_law_curve" zbg t.l_curve fd∧Binds K fd ["script","at","p","high","wide"] []
 f_l_times:∃ fd,Fun K "_law_times" "_law_times" zcu t.l_times fd∧Binds K fd ["p","one","other"] []
 f_l_with_root:∃ fd,Fun K "_law_with_root" "_law_with_root" zah t.l_with_root fd∧Binds K fd ["p","curve","polynomial"] []
 f_l_product:∃ fd,Fun K "_law_product" "_law_product" zap t.l_product fd∧Binds K fd ["p","one","other"] []
section
variable {P:Program} {w:World} {K:ag} {mg:Str→Option Value} {base:Heap} {t:Adr}
theorem zjk:FnScope ["script","k"] ["script","k"] (zh zdb):=#[S]
theorem zjl {fd:FuncData} (T:Txt K mg t) (F:Fun K "_law_cell" "_law_cell" zdb t.l_cell fd):FnOk P w K mg base CX0 1 t.l_cell fd ["script","k"] (ziP K):=by
 refine F.ok zjk (fun vs H Q E h=>?_) (fun lM A outer s H vs Q E hr h=>?_)
 ·obtain⟨a,ns,k,rfl,_⟩:=h; rfl
 ·obtain⟨a,ns,k,rfl,hS,kY,k0,k1,q⟩:=h;refine zbo ?_; intro zX;refine⟨_,#[zf,#[zbA,#[zau,(@znw _),#[pvx,1],#[zt,#[zA],T.len_,ck,#[ya,#[pvx,0]]],(zaD _)],#[zj,#[zQ,#[zJ,#[zn],#[pvx,0],#[pvx,1]]]],#[zaz]],#[zf,#[zbA,#[zau,#[zdU],#[zt,#[zA],T.len_,ck,#[ya,#[pvx,0]]],#[ze],(zaD _)],#[zj,#[zQ,#[zg,#[zv],#[zg,#[zam],#[ze],#[pvx,1]],#[ze]]]],#[zaz]],#[zj,#[zQ,#[zg,#[zv],#[zg,#[zy],#[zJ,#[zn],#[pvx,0],#[zg,#[zy],#[pvx,1],#[zt,#[zA],T.len_,ck,#[ya,#[pvx,0]]]]],#[ze]],#[zg,#[zam],#[ze],#[pvx,1]]]]]]],?_⟩;refine zjK ?_; intro qR pO;refine⟨_,rfl,_,rfl,a,_,rfl,.inl hS,_,_,rfl,rfl,_,rfl,?_⟩; rw [ab];refine zcH (fun h=>?_) (fun h=>?_)
  ·have h:k < (ns.length:Int):=by simpa using h
   obtain⟨c,hc⟩:=zfp k0 h;exact⟨_,rfl,_,rfl,a,_,k,_,rfl,rfl,hS,hc,q c⟩
  ·have h:¬ k < (ns.length:Int):=by simpa using h
   refine⟨_,rfl,a,_,rfl,.inl hS,rfl,_,rfl,?_⟩;rw [ab];refine zcH (fun h2=>?_) (fun h2=>?_)
   ·exact⟨_,rfl,_,_,rfl,rfl,.inl ⟨#[D],#[D]⟩,_,_,rfl,rfl,q _⟩
   ·have h2:¬ V.int (ns.length:Int)=V.int 0:=by simpa using h2
    have xZ:0 < (ns.length:Int):=by
     have:(ns.length:Int)≠0:=fun z=>h2 (by rw [z])
     lia
    have m0:=aQ k (show (ns.length:Int)≠0 by lia);have m1:=aB k xZ;obtain⟨c,hc⟩:=zfp m0 m1;refine⟨_,rfl,_,rfl,_,rfl,a,_,rfl,.inl hS,_,_,rfl,rfl,by rw [ab]; exact xZ,a,_,_,_,rfl,rfl,hS,by rw [ab]; exact hc,_,_,rfl,rfl,(by show (0:Int) < 1000003; decide),?_⟩;exact⟨_,rfl,_,_,rfl,rfl,.inl ⟨#[D],#[D]⟩,_,_,rfl,rfl,q _⟩
theorem zU:FnScope ["script","k","many","base","primes","cell","rest","row","j","mash"] ["script","k","many","base"] (zh zcs):=#[S]
theorem zcM {fd:FuncData} (T:Txt K mg t) (F:Fun K "_law_draws" "_law_draws" zcs t.l_draws fd):FnOk P w K mg base CX0 2 t.l_draws fd ["script","k","many","base"] (zg7 K):=by
 obtain⟨qS,pj,nU⟩:=T.f_l_cell;have sj:=zjl (P:=P) (w:=w) (base:=base) T pj;refine F.ok zU (fun vs H Q E h=>?_) (fun lM A outer s H vs Q E hr h=>?_)
 ·obtain⟨a,ns,k,many,base,rfl,_⟩:=h;rfl
 ·obtain⟨a,ns,k,many,bs,rfl,hS,kY,k0,k1,m0,m1,b0,b1,q⟩:=h;refine zbo ?_; intro zX;refine⟨_,#[zf,#[zo,4,zU.nd,#[A],#[zbh,#[zd0,#[zd0,#[zd0,#[zd0,#[zd0,#[za,#[ze],#[za,#[ze],#[ya,#[ze]]]]]]]]]]],#[zf,#[zo,5,zU.nd,#[A],#[zk,sj,(hr.mono #[D]),T.m_l_cell,pj.kp,nU,#[zK],#[za,#[pvx,0],#[ya,#[pvx,1]]]]],#[zf,#[zo,6,zU.nd,#[A],#[ze]],#[zf,#[zbA,#[zau,(@znx _),#[pvx,5],#[zg,(@zmB _),#[ze],#[ze]],(zaD _)],#[zj,#[zo,6,zU.nd,#[A],#[pvx,5]]],#[zaz]],#[zf,#[zo,7,zU.nd,#[A],#[zaE,#[zd]]],#[zf,#[zal,bn,#[zac,T.range_,#[ya,#[pvx,2]]],#[zi,8,zU.nd,#[A]],#[zf,#[zo,9,zU.nd,#[A],#[zg,#[zam],#[zg,#[zy],#[pvx,5],#[zJ,#[zg1],#[pvx,4],#[zg,#[zy],#[pvx,8],#[ze]]]],#[zg,#[zv],#[ze],#[zg,#[zam],#[zg,#[zam],#[ze],#[pvx,8]],#[pvx,8]]]]],#[zf,#[zo,9,zU.nd,#[A],#[zg,#[zv],#[zg,#[zv],#[pvx,9],#[zg,#[zam],#[zg,#[zam],#[ze],#[zg,#[zv],#[pvx,8],#[ze]]],#[zg,#[zv],#[pvx,8],#[ze]]]],#[zg,#[zam],#[ze],#[pvx,1]]]],#[zf,#[zo,9,zU.nd,#[A],#[zg,#[zy],#[pvx,9],#[zJ,#[zg1],#[pvx,4],#[zg,#[zy],#[zg,#[zv],#[zg,#[zam],#[ze],#[pvx,8]],#[pvx,1]],#[ze]]]]],#[zf,#[zo,9,zU.nd,#[A],#[zg,#[zy],#[zg,#[zam],#[zg,#[zam],#[pvx,9],#[pvx,9]],#[pvx,9]],#[zJ,#[zg1],#[pvx,4],#[zg,#[zy],#[zg,#[zv],#[pvx,8],#[ze]],#[ze]]]]],#[zf,#[zbA,#[zau,#[zl9],#[pvx,6],#[ze],(zaD _)],#[zj,#[zo,9,zU.nd,#[A],#[pvx,6]]],#[zaz]],#[zf,#[zhB,#[zjE,fH,iu,iw,#[zeQ],#[pvx,7],#[ya,#[zg,#[zy],#[pvx,9],#[pvx,3]]]]],#[zj,#[zo,6,zU.nd,#[A],#[zg,(@zla _),#[pvx,6],#[pvx,3]]]]]]]]]]],#[zj,#[zQ,#[pvx,7]]]]]]]]],?_⟩;refine znH ?_; intro zN7 B9 Au uK qR pO;refine⟨by show 8≤sizeLine; rw [bm]; decide,fun tp ht=>?_⟩;have s1:zC H (kX H tp (.tup zll)):=zb ht;refine⟨_,rfl,_,rfl,a,ns,k,rfl,s1.seq hS,kY,k0,k1,fun c=>?_⟩;refine⟨_,rfl,_,_,rfl,rfl,⟨#[D],#[D],#[D]⟩,_,_,rfl,rfl,_,rfl,?_⟩;refine zcH (fun _=>⟨_,rfl,?_⟩) (fun _=>?_)
  all_goals
   refine⟨bp _,fun l hl=>?_⟩;have Ca:H l=none:=zC.free s1 hl;have wL:tp≠l:=zI zc hl;refine⟨_,rfl,many,rfl,#[O],#[O],zav (lo:=0) (n:=many.toNat) (fun i σ H'=>∃ (r:Int) (v8 v9:Option V) (ds:List Int),σ = [some (.ref a),some (.int k),some (.int many),some (.int bs),some (.ref tp),some (.int c),some (.int r),some (.ref l),v8,v9]∧zfq i bs ds∧zC H H'∧H' tp=some (.tup zll)∧H' l=some (.lst (ds.map V.int)))
    ⟨_,none,none,[],rfl,⟨rfl,#[M]⟩,zaL s1 Ca,by rw [zl wL]; exact zc,zc⟩ ?_ ?_⟩
   ·rintro zD zT i σ H2 hi ⟨r,v8,v9,ds,rfl,hd,s2,x3,nq⟩;obtain⟨q1,e1,q1p,q1l⟩:=zd1 (0+(i:Int));obtain⟨q2,e2,q2p,q2l⟩:=zd1 (3*(0+(i:Int))+k);obtain⟨q3,e3,q3p,q3l⟩:=zd1 (0+(i:Int)+5);have c1:=aQ c (show q1≠0 by lia);have c2:=aB c q1p;have mj:(i:Int) < 1000:=by lia
    refine⟨_,rfl,_,rfl,_,rfl,_,_,rfl,rfl,(by show (0:Int) < 8; decide),tp,_,_,_,rfl,rfl,kZ.of x3,e1,_,_,rfl,rfl,q1p,_,rfl,_,_,rfl,rfl,.inl ⟨#[D],#[D]⟩,_,rfl,_,_,rfl,rfl,.inl ⟨#[O],#[O]⟩,_,_,rfl,rfl,_,_,rfl,rfl,.inl ⟨#[O],#[O]⟩,?_⟩;refine⟨_,rfl,_,rfl,_,_,rfl,rfl,_,_,rfl,rfl,.inl ⟨#[D],#[D]⟩,_,rfl,_,_,rfl,rfl,_,_,rfl,rfl,.inl ⟨#[O],#[O]⟩,_,_,rfl,rfl,_,rfl,_,_,rfl,rfl,.inl ⟨#[D],#[D]⟩,_,_,rfl,rfl,?_⟩;refine⟨_,rfl,_,rfl,_,rfl,_,_,rfl,rfl,.inl ⟨#[D],#[D]⟩,_,rfl,_,_,rfl,rfl,_,_,rfl,rfl,(by show (0:Int) < 8; decide),tp,_,_,_,rfl,rfl,kZ.of x3,e2,_,_,rfl,rfl,q2p,?_⟩;generalize c % q1*(48271+2*(0+(i:Int))*(0+(i:Int)))+7919*(0+(i:Int)+1)*(0+(i:Int)+1)+104729*k=ms;have d1:=aQ ms (show q2≠0 by lia);have d2:=aB ms q2p;refine⟨_,rfl,_,rfl,_,_,rfl,rfl,.inl ⟨#[O],#[O]⟩,_,rfl,_,_,rfl,rfl,.inr ⟨#[O],#[O]⟩,_,rfl,_,rfl,_,_,rfl,rfl,_,_,rfl,rfl,(by show (0:Int) < 8; decide),tp,_,_,_,rfl,rfl,kZ.of x3,e3,_,_,rfl,rfl,q3p,?_⟩;refine⟨_,rfl,_,_,rfl,rfl,_,rfl,?_⟩;have uI:=hd.1;refine zcH (fun _=>⟨_,rfl,?_⟩) (fun _=>?_)
    all_goals
     refine⟨_,rfl,.inl ⟨rfl,_,kT.of nq⟩,_,rfl,_,rfl,_,_,rfl,rfl,b0,l,_,_,rfl,rfl,nq,zbj (by rw [ab]; lia),?_⟩;refine⟨_,rfl,_,rfl,_,_,rfl,rfl,⟨b0,b1⟩,?_⟩;refine⟨_,_,_,ds++[_],rfl,⟨by rw [aF,uI]; rfl,fun d hm=>?_⟩,zaL s2 Ca,by rw [zl wL]; exact x3,by rw [zc,aO]; rfl⟩; rcases aP.mp hm with hm | hm
     ·exact hd.2 d hm
     ·have e:=aN.mp hm;rw [e];exact⟨aQ _ #[O],aB _ b0⟩
   ·rintro σ H2 ⟨r,v8,v9,ds,rfl,hd,s2,x3,nq⟩;exact⟨_,rfl,q l ds H2 Ca s2 hd nq⟩
theorem zaV:FnScope ["script","at","most_k","most_n","plan","primes","p","k","many","left"] ["script","at","most_k","most_n"] (zh zch):=#[S]
theorem zjm {fd:FuncData} (T:Txt K mg t) (F:Fun K "_law_code" "_law_code" zch t.l_code fd):FnOk P w K mg base CX0 3 t.l_code fd ["script","at","most_k","most_n"] (ziQ K):=by
 obtain⟨mT,lq,lA⟩:=T.f_l_draws;have lK:=zcM (P:=P) (w:=w) (base:=base) T lq;refine F.ok zaV (fun vs H Q E h=>?_) (fun lM A outer s H vs Q E hr h=>?_)
 ·obtain⟨a,ns,at',mk,mn,rfl,_⟩:=h;rfl
 ·obtain⟨a,ns,at',mk,mn,rfl,hS,kY,a0,a1,k1,k5,kn,n16,q⟩:=h;refine zbo ?_; intro zX;refine⟨_,#[zf,#[zo,4,zaV.nd,(fv rfl),#[zk,lK,(hr.mono #[D]),T.m_l_draws,lq.kp,lA,#[zK],#[za,#[pvx,0],by exact #[za,#[pvx,1],#[za,#[ze],#[ya,#[ze]]]]]]],(by exact (@zjT _ 5 _ _ _ _ _ _ _ [5,7,11,13,17,19,23,29,31,37,41,43,47,53,59,61,67,71,73,79,83,89,97] #[N] zaV.nd rfl #[A] (by first | exact .inl rfl | exact .inr rfl) (by exact #[zf,#[zo,6,zaV.nd,#[A],#[zJ,#[zn],#[zaE,#[za,#[zJ,#[zn],#[pvx,5],#[zg,#[zy],#[zJ,#[zn],#[pvx,4],#[ze]],#[ze]]],#[ya,#[zJ,#[zn],#[pvx,5],#[zg,#[zy],#[zJ,#[zn],#[pvx,4],#[ze]],#[ze]]]]]],#[zg,#[zy],#[zJ,#[zn],#[pvx,4],#[ze]],#[ze]]]],#[zf,#[zo,7,zaV.nd,#[A],#[zg,#[zv],#[ze],#[zg,#[zy],#[zJ,#[zn],#[pvx,4],#[ze]],#[zt,#[zeJ],T.min_,kf,#[za,#[pvx,2],#[ya,#[pvx,6]]]]]]],#[zf,#[zo,8,zaV.nd,#[A],#[zg,#[zv],#[pvx,7],#[zg,#[zy],#[zJ,#[zn],#[pvx,4],#[ze]],#[zg,#[zv],#[zg,#[za6],#[zt,#[zeJ],T.min_,kf,#[za,#[pvx,3],#[ya,#[pvx,6]]]],#[pvx,7]],#[ze]]]]],#[zf,#[zo,9,zaV.nd,(fv rfl),#[zG,(@zey _ rfl),T.list_,gL,#[ya,#[zG,(@zgh _),T.range_,i8,#[ya,#[pvx,6]]]]]],#[zj,#[zQ,#[zbh,#[za,#[pvx,6],#[za,#[pvx,7],#[ya,#[zG,#[z8],T.tuple_,c9,#[ya,#[zN,(CompSc.of (N':=["j","left","plan"]) (ix:=[none,some 9,some 4]) (zh zch) ["script","at","most_k","most_n","plan","primes","p","k","many","left"] rfl rfl #[N]),#[zS],#[zac,T.range_,#[ya,#[pvx,8]]],(fun _ _ _ _=>#[zi,0,(show (["j","left","plan"]:List Str).Nodup from #[N]),#[A]]),(fun _ _ _ _=>#[zw]),(fun _ _ _ _=>(@zmP _ (K) _ _ _ _ _ _ _ _ _ _ _ rfl fH PySem.F.slot_list_pop PySem.F.type_list_pop (@zjG _) #[pvx,1] #[ya,#[zg,#[zy],#[zJ,#[zcS,(K)],#[pvx,2],#[zg,#[zv],#[ze],#[pvx,0]]],#[zt,#[zar,(K)],T.len_,ck,#[ya,#[pvx,1]]]]] (by rfl) (by rfl) (by rfl) (by rfl) (by rfl)))]]]]]]]]]]]]])))],?_⟩;refine znH ?_; intro zN7 B9 Au uK qR pO;refine⟨_,rfl,_,rfl,a,ns,at',20,27720,rfl,hS,kY,a0,a1,#[D],#[D],#[D],#[D],fun l ds H1 hl s1 hd nO=>?_⟩;have uI:ds.length=20:=hd.1;have dat:∀ m:Int,0≤m→m < 20→∃ c:Int,atI (ds.map V.int) m=some (.int c):=fun m h0 h1=>zfp h0 #[O]
  refine⟨by show 23≤sizeLine; rw [bm]; decide,fun pr tR=>?_⟩;have Cb:l≠pr:=zI nO tR;obtain⟨d0,ed0⟩:=dat 0 #[D] #[D];obtain⟨d1,ed1⟩:=dat 1 #[D] #[D];obtain⟨d2,ed2⟩:=dat 2 #[D] #[D];obtain⟨d3,ed3⟩:=dat 3 #[D] #[D];have nM:(kX H1 pr (.lst (zp.map V.int))) l=some (.lst (ds.map V.int)):=by rw [zl Cb]; exact nO
  obtain⟨p1,mp1,ep1⟩:=zjY (ns:=zp) (k:=d0 % 23) (aQ _ #[D]) (aB _ #[D]);obtain⟨p2,mp2,xY⟩:=zjY (ns:=zp) (k:=d0 % 3) (aQ _ #[D]) (by have:=aB d0 (show (0:Int) < 3 by decide); have e:(zp.length:Int)=23:=rfl; lia);obtain⟨p,ep,hpp⟩:=zmQ (x:=p1) (y:=p2) (m:=d1 % 2) (aQ _ #[D]) (aB _ #[D]);have mp:p∈zp:=by rcases hpp with e | e <;> rw [e] <;> assumption
  have rp:=zan mp;refine⟨_,rfl,_,rfl,l,_,_,_,rfl,rfl,kT.of nM,ed0,_,_,rfl,rfl,(by show (0:Int) < 23; decide),pr,_,_,_,rfl,rfl,kT.of zc,ep1,
   _,rfl,_,rfl,l,_,_,_,rfl,rfl,kT.of nM,ed0,_,_,rfl,rfl,(by show (0:Int) < 3; decide),pr,_,_,_,rfl,rfl,kT.of zc,xY,zbr,fun l2 rR=>?_⟩
  have Cc:l≠l2:=zI nM rR;have tq:(kX (kX H1 pr (.lst (zp.map V.int))) l2 (.lst [.int p1,.int p2])) l=some (.lst (ds.map V.int)):=by rw [zl Cc]; exact nM
  refine⟨_,rfl,l,_,_,_,rfl,rfl,kT.of tq,ed1,_,_,rfl,rfl,(by show (0:Int) < 2; decide),l2,_,_,_,rfl,rfl,kT.of zc,ep,?_⟩;have pW:(0:Int) < (if p < mk then p else mk):=by split <;> lia
  have qw:(if p < mk then p else mk)≤mk:=by split <;> lia
  have xD:(if p < mk then p else mk)≤p:=by split <;> lia
  refine⟨_,rfl,l,_,_,_,rfl,rfl,kT.of tq,ed2,_,rfl,_,rfl,_,_,rfl,_,_,rfl,rfl,pW,_,_,rfl,rfl,?_⟩;generalize (if p < mk then p else mk)=mm at pW qw xD ⊢;have rC:=aQ d2 (show mm≠0 by lia);have ux:=aB d2 pW;have qK:(if p < mn then p else mn)≤mn:=by split <;> lia
  have rA:(if p < mn then p else mn)≤p:=by split <;> lia
  have hn3:mm≤(if p < mn then p else mn):=by split <;> lia
  refine⟨_,rfl,_,rfl,l,_,_,_,rfl,rfl,kT.of tq,ed3,_,rfl,_,rfl,_,_,rfl,_,rfl,_,_,rfl,rfl,_,_,rfl,rfl,_,_,rfl,rfl,#[O],_,_,rfl,rfl,?_⟩;generalize (if p < mn then p else mn)=nn at qK rA hn3 ⊢;have wJ:=aQ d3 (show nn - (1+d2 % mm)+1≠0 by lia);have vj:=aB d3 (show 0 < nn - (1+d2 % mm)+1 by lia);refine⟨_,rfl,p,rfl,fun r uw=>⟨r,p,rfl,zc,#[O],#[O],fun lf Cd=>?_⟩⟩;have wB:l≠r:=zI tq uw;have x4:l≠lf:=by
   refine zI (H:=kX (kX (kX H1 pr (.lst (zp.map V.int))) l2 (.lst [.int p1,.int p2])) r (.rng 0 p)) (o:=.lst (ds.map V.int)) ?_ Cd;rw [zl wB]; exact tq
  have sA:zC H (kX (kX H1 pr (.lst (zp.map V.int))) l2 (.lst [.int p1,.int p2])):=(s1.trans (zb tR)).trans (zb rR);have sB:=(sA.trans (zb (o:=.rng 0 p) uw)).trans (zb (o:=.lst ((zbx 0 p.toNat).map V.int)) Cd);have Ce:H lf=none:=(sA.trans (zb (o:=.rng 0 p) uw)).free Cd;obtain⟨nd0,rg0⟩:=ziR p;refine⟨_,rfl,_,rfl,_,rfl,_,rfl,#[O],#[O],zV (n:=(1+d2 % mm+d3 % (nn - (1+d2 % mm)+1)).toNat) (fun i ys H'=>∃ xs ls:List Int,ys=xs.map V.int∧xs.length=i∧zC H H'∧H' l=some (.lst (ds.map V.int))∧H' lf=some (.lst (ls.map V.int))∧ls.length+i=p.toNat∧(xs++ls).Nodup∧∀ y∈xs++ls,0≤y∧y < p)
   ⟨[],zbx 0 p.toNat,rfl,rfl,sB,by rw [zl x4,zl wB]; exact tq,zc,by rw [zcy]; rfl,by simpa using nd0,by simpa using rg0⟩ (fun i ys H' hi _=>hi) (fun ys H' _=>ah _) ?_ ?_⟩
  ·rintro i x ys H4 H5 hi ⟨xs,ls,rfl,xE,s4,vL,tU,qP,nd,rg⟩ ⟨rfl,rfl⟩;refine gY ?_;obtain⟨c,ec⟩:=dat (4+(0+(i:Int))) #[O] #[O];have lpos:0 < ls.length:=by lia
   have lm:((ls.map V.int).length:Int)=(ls.length:Int):=by rw [ab]
   have c0:=aQ c (show (ls.length:Int)≠0 by lia);have c1:=aB c (show (0:Int) < ls.length by lia);have og:=bm;obtain⟨y,ey⟩:∃ y,ls[(c % (ls.length:Int)).toNat]? = some y:=⟨ls[(c % (ls.length:Int)).toNat]'#[O],#[M]⟩;refine⟨_,rfl,.inl ⟨rfl,_,kT.of tU⟩,_,rfl,_,rfl,_,_,rfl,rfl,l,_,_,_,rfl,rfl,kT.of vL,ec,_,rfl,lf,_,rfl,.inl (kT.of tU),_,_,rfl,rfl,(by rw [lm]; lia),lf,_,_,(c % (ls.length:Int)).toNat,.int y,rfl,rfl,tU,?_⟩;rw [lm];refine⟨#[O],#[O],by rw [ab]; exact gD c0 c1,by rw [af,ey]; rfl,zbj (by rw [ab]; lia),xs++[y],ls.eraseIdx (c % (ls.length:Int)).toNat,by rw [aO]; rfl,by rw [aF,xE]; rfl,zaL s4 Ce,by rw [zl x4]; exact vL,by rw [zc,zeV],?_,zln ey nd rg⟩;rw [List.length_eraseIdx];split <;> lia
  ·rintro ys H4 D ⟨xs,ls,rfl,xE,s4,vL,tU,qP,nd,rg⟩ hD;refine⟨D,_,rfl,.inl ⟨kT.of zc,fun tt htt=>⟨by show 3≤sizeLine; rw [bm]; decide,fun c hc=>?_⟩⟩⟩;have s5:=(s4.trans (zb (o:=.lst (xs.map V.int)) hD)).trans (zb (o:=.tup (xs.map V.int)) htt);refine q c tt p _ xs _ (s5.free hc) (s5.trans (zb hc)) ⟨mp,#[O],#[O],#[O],#[O],(de.mp nd).1,fun y hy=>rg y (aY _ hy)⟩ zc ?_;rw [zl (zI zc hc)];exact zc
theorem zaW:FnScope ["p","polynomial","x","total","power","number"] ["p","polynomial","x"] (zh zct):=#[S]
theorem zhp {fd:FuncData} (T:Txt K mg t) (F:Fun K "_law_value" "_law_value" zct t.l_value fd):FnOk P w K mg base CX0 1 t.l_value fd ["p","polynomial","x"] (zg8 K):=by
 refine F.ok zaW (fun vs H Q E h=>?_) (fun lM A outer s H vs Q E hr h=>?_)
 ·obtain⟨p,x,a,cs,rfl,_⟩:=h;rfl
 ·obtain⟨p,x,a,cs,rfl,hS,p0,p1,x0,x1,q⟩:=h;refine zbo ?_; intro zX;refine⟨_,#[zf,#[zo,3,zaW.nd,#[A],#[ze]],#[zf,#[zo,4,zaW.nd,#[A],#[ze]],#[zf,#[zal,bn,#[zjR,#[pvx,1]],#[zi,5,zaW.nd,#[A]],#[zf,#[zo,3,zaW.nd,#[A],#[zg,#[zy],#[zg,#[zv],#[pvx,3],#[zg,#[zam],#[pvx,5],#[pvx,4]]],#[pvx,0]]],#[zj,#[zo,4,zaW.nd,#[A],#[zg,#[zy],#[zg,#[zam],#[pvx,4],#[pvx,2]],#[pvx,0]]]]]],#[zj,#[zQ,#[pvx,3]]]]]],?_⟩;refine zlh ?_; intro uK qR pO;refine⟨_,rfl,a,rfl,?_⟩;rcases hS with hS | hS
  ·refine .inl ⟨⟨_,hS⟩,zcj (K:=K) (a:=a) (xs:=cs.map V.int) (fun i σ H'=>H'=H∧∃ (k4 power:Int) (nb:Option V),σ = [some (.int p),some (.ref a),some (.int x),some (.int k4),some (.int power),nb]∧0≤power∧power≤97∧lv p x k4 power (cs.drop i)=lv p x 0 1 cs)
    ⟨rfl,0,1,none,rfl,#[D],#[D],rfl⟩ (fun i σ H' _ ⟨e,_⟩=>by rw [e]; exact hS) ?_ ?_⟩
   ·rintro zD zT i y σ H1 hy ⟨rfl,k4,power,nb,rfl,w0,w1,hl⟩;obtain⟨c,rfl,hc⟩:=zag hy;have m0:=aQ (power*x) (show p≠0 by lia);have m1:=aB (power*x) p0;refine⟨_,rfl,_,rfl,_,rfl,_,_,rfl,rfl,.inr ⟨#[O],#[O]⟩,_,_,rfl,rfl,_,rfl,_,_,rfl,rfl,p0,?_⟩;refine⟨_,rfl,_,rfl,_,_,rfl,rfl,.inl ⟨#[O],#[O]⟩,_,rfl,_,_,rfl,rfl,p0,?_⟩;exact⟨rfl,_,_,_,rfl,m0,#[O],(zhU hc).symm.trans hl⟩
   ·rintro σ H1 ⟨rfl,k4,power,nb,rfl,w0,w1,hl⟩;rw [ab,f'] at hl;have hl:k4=lv p x 0 1 cs:=hl;rw [zhS p0] at hl;rw [← hl] at q;exact⟨_,rfl,q⟩
  ·refine .inr ⟨⟨_,hS⟩,zjM (K:=K) (a:=a) (xs:=cs.map V.int) (fun i σ H'=>H'=H∧∃ (k4 power:Int) (nb:Option V),σ = [some (.int p),some (.ref a),some (.int x),some (.int k4),some (.int power),nb]∧0≤power∧power≤97∧lv p x k4 power (cs.drop i)=lv p x 0 1 cs)
    ⟨rfl,0,1,none,rfl,#[D],#[D],rfl⟩ (fun i σ H' _ ⟨e,_⟩=>by rw [e]; exact hS) ?_ ?_⟩
   ·rintro zD zT i y σ H1 hy ⟨rfl,k4,power,nb,rfl,w0,w1,hl⟩;obtain⟨c,rfl,hc⟩:=zag hy;have m0:=aQ (power*x) (show p≠0 by lia);have m1:=aB (power*x) p0;refine⟨_,rfl,_,rfl,_,rfl,_,_,rfl,rfl,.inr ⟨#[O],#[O]⟩,_,_,rfl,rfl,_,rfl,_,_,rfl,rfl,p0,?_⟩;refine⟨_,rfl,_,rfl,_,_,rfl,rfl,.inl ⟨#[O],#[O]⟩,_,rfl,_,_,rfl,rfl,p0,?_⟩;exact⟨rfl,_,_,_,rfl,m0,#[O],(zhU hc).symm.trans hl⟩
   ·rintro σ H1 ⟨rfl,k4,power,nb,rfl,w0,w1,hl⟩;rw [ab,f'] at hl;have hl:k4=lv p x 0 1 cs:=hl;rw [zhS p0] at hl;rw [← hl] at q;exact⟨_,rfl,q⟩
theorem zbu:FnScope ["p","polynomial","x","value","number"] ["p","polynomial","x"] (zh zbV):=#[S]
theorem zgK {fd:FuncData} (T:Txt K mg t) (F:Fun K "value_at" "value_at" zbV t.value_at fd):FnOk P w K mg base CX0 1 t.value_at fd ["p","polynomial","x"] (zdv K):=by
 refine F.ok zbu (fun vs H Q E h=>?_) (fun lM A outer s H vs Q E hr h=>?_)
 ·obtain⟨p,x,a,cs,rfl,_⟩:=h;rfl
 ·obtain⟨p,x,a,cs,rfl,hS,p0,p1,x0,x1,q⟩:=h;refine zbo ?_; intro zX;refine⟨_,#[zf,#[zo,3,zbu.nd,#[A],#[ze]],#[zf,#[zal,bn,(@zmO _ _ _ _ _ _ rfl T.reversed_ #[ya,#[pvx,1]] (by rfl)),#[zi,4,zbu.nd,#[A]],#[zj,#[zo,3,zbu.nd,#[A],#[zg,#[zy],#[zg,#[zv],#[zg,#[zam],#[pvx,3],#[pvx,2]],#[pvx,4]],#[pvx,0]]]]],#[zj,#[zQ,#[pvx,3]]]]],?_⟩;refine zjK ?_; intro qR pO;refine⟨_,rfl,a,cs.map V.int,rfl,?_⟩;rcases hS with hS | hS
  ·refine .inl ⟨hS,?_⟩;rw [ab];refine zbq (n:=cs.length) (fun i σ H'=>H'=H∧∃ nb,σ = [some (.int p),some (.ref a),some (.int x),some (.int (z9 p x (cs.drop (cs.length - i)))),nb]) ⟨rfl,none,by rw [fq,f']; rfl⟩
    (fun i σ H' hi ⟨e,_⟩=>⟨hi,cs.map V.int,by rw [e]; exact hS,by rw [ab]⟩) (fun σ H' _=>ah _) ?_ ?_
   ·rintro zD zT i y σ H1 H2 hi ⟨rfl,nb,rfl⟩ ⟨rfl,hy⟩;obtain⟨c,rfl,hc⟩:=zag (hy _ hS);have v0:=zcT (x:=x) p0 (cs.drop (cs.length - i));have v1:=zcU (x:=x) p0 (cs.drop (cs.length - i));refine⟨_,rfl,_,rfl,_,_,rfl,rfl,.inl ⟨#[O],#[O]⟩,_,rfl,_,_,rfl,rfl,_,rfl,_,_,rfl,rfl,p0,?_⟩;refine⟨rfl,some (.int c),?_⟩;rw [zeW hi hc];show _ = [some (V.int p),_,_,some (V.int ((c+x*z9 p x (cs.drop (cs.length - i))) % p)),_];rw [Int.add_comm c,eH x];rfl
   ·rintro σ H1 ⟨rfl,nb,rfl⟩;rw [eK,gz];exact⟨_,rfl,q⟩
  ·refine .inr ⟨hS,?_⟩;rw [ab];refine zbq (n:=cs.length) (fun i σ H'=>H'=H∧∃ nb,σ = [some (.int p),some (.ref a),some (.int x),some (.int (z9 p x (cs.drop (cs.length - i)))),nb]) ⟨rfl,none,by rw [fq,f']; rfl⟩
    (fun i σ H' hi ⟨e,_⟩=>⟨hi,cs.map V.int,by rw [e]; exact hS,by rw [ab]⟩) (fun σ H' _=>ah _) ?_ ?_
   ·rintro zD zT i y σ H1 H2 hi ⟨rfl,nb,rfl⟩ ⟨rfl,hy⟩;obtain⟨c,rfl,hc⟩:=zag (hy _ hS);have v0:=zcT (x:=x) p0 (cs.drop (cs.length - i));have v1:=zcU (x:=x) p0 (cs.drop (cs.length - i));refine⟨_,rfl,_,rfl,_,_,rfl,rfl,.inl ⟨#[O],#[O]⟩,_,rfl,_,_,rfl,rfl,_,rfl,_,_,rfl,rfl,p0,?_⟩;refine⟨rfl,some (.int c),?_⟩;rw [zeW hi hc];show _ = [some (V.int p),_,_,some (V.int ((c+x*z9 p x (cs.drop (cs.length - i))) % p)),_];rw [Int.add_comm c,eH x];rfl
   ·rintro σ H1 ⟨rfl,nb,rfl⟩;rw [eK,gz];exact⟨_,rfl,q⟩
end
section
variable {P:Program} {w:World} {K:ag} {mg:Str→Option Value} {base:Heap} {t:Adr}
def zhq (K:ag):Sp:=fun vs H Q _=>∃ (p:Int) (a b:Addr) (as bs:List Int),vs = [.int p,.ref a,.ref b]∧H a=some (.lst (as.map V.int))∧H b=some (.lst (bs.map V.int))∧1≤as.length∧as.length≤1000∧1≤bs.length∧bs.length≤1000∧5≤p∧p≤97∧(∀ c∈as,0≤c∧c < p) ∧
 ∀ (l:Addr) (rs:List Int) (H':Hp),H l=none→zC H H'→H' l=some (.lst (rs.map V.int))→rs.length=as.length+bs.length - 1→(∀ c∈rs,0≤c∧c < p)→(∀ x,Cg p (gl rs x) (mq 0 as.length (gl as) (gl bs) x))→Q (.ref l) H'
def psm (as bs:List Int) (j i x:Nat):Int:=(sm j fun t=>gl as t*Xp t (gl bs) x)+if j≤x∧x < j+i then gl as j*gl bs (x - j) else 0
theorem zlR (as bs:List Int) (j x:Nat):psm as bs j bs.length x=psm as bs (j+1) 0 x:=by
 unfold psm;rw [if_neg (show ¬ (j+1≤x∧x < j+1+0) by lia),bI];show _=(sm j fun t=>gl as t*Xp t (gl bs) x)+gl as j*Xp j (gl bs) x;congr 1;rw [zbk];by_cases h1:x < j
 ·rw [if_neg #[O],if_pos h1,b8]
 ·rw [if_neg h1];by_cases h2:x < j+bs.length
  ·rw [if_pos ⟨#[O],h2⟩]
  ·rw [if_neg #[O],zaw (w:=bs) (y:=x - j) #[O],b8]
theorem zkP {rs:List Int} {i x:Nat} {v:Int} (hi:i < rs.length):gl (rs.set i v) x=if x=i then v else gl rs x:=by
 unfold gl;rw [am,am];by_cases h:x=i
 ·subst h;rw [if_pos rfl,eA hi];rfl
 ·rw [if_neg h,eR (fun e=>h e.symm)]
theorem ze8 {as:List Int} {j:Nat} (h:j < as.length):atI (as.map V.int) (j:Int)=some (.int (gl as j)):=zaO (by rw [af,zb9 h]; rfl)
theorem zbW:FnScope ["p","one","other","found","j","i"] ["p","one","other"] (zh zcu):=#[S]
theorem zem {fd:FuncData} (T:Txt K mg t) (F:Fun K "_law_times" "_law_times" zcu t.l_times fd):FnOk P w K mg base CX0 1 t.l_times fd ["p","one","other"] (zhq K):=by
 refine F.ok zbW (fun vs H Q E h=>?_) (fun lM A outer s H vs Q E hr h=>?_)
 ·obtain⟨p,a,b,as,bs,rfl,_⟩:=h;rfl
 ·obtain⟨p,a,b,as,bs,rfl,ha,hb,a1,a2,b1,b2,p5,qb,vM,q⟩:=h;refine zbo ?_; intro zX;refine⟨_,#[zf,#[zo,3,zbW.nd,#[A],#[zg,#[zcG],#[zaE,#[ya,#[ze]]],#[zg,#[za6],#[zg,#[zv],#[zt,#[zA],T.len_,ck,#[ya,#[pvx,1]]],#[zt,#[zA],T.len_,ck,#[ya,#[pvx,2]]]],#[ze]]]],#[zf,#[zal,bn,#[zac,T.range_,#[ya,#[zt,#[zA],T.len_,ck,#[ya,#[pvx,1]]]]],#[zi,4,zbW.nd,#[A]],#[zj,#[zal,bn,#[zac,T.range_,#[ya,#[zt,#[zA],T.len_,ck,#[ya,#[pvx,2]]]]],#[zi,5,zbW.nd,#[A]],#[zj,#[zbK,#[zg,#[zy],#[zg,#[zv],#[zJ,#[zn],#[pvx,3],#[zg,#[zv],#[pvx,4],#[pvx,5]]],#[zg,#[zam],#[zJ,#[zn],#[pvx,1],#[pvx,4]],#[zJ,#[zn],#[pvx,2],#[pvx,5]]]],#[pvx,0]],#[zcF,#[pvx,3],#[zg,#[zv],#[pvx,4],#[pvx,5]],set_list]]]]]],#[zj,#[zQ,#[pvx,3]]]]],?_⟩;refine zjK ?_; intro qR pO;have og:=bm;refine⟨by show 1≤sizeLine; lia,fun z hz=>?_⟩;have u0:=zb (o:=.lst [.int 0]) hz;have eN:(((as.map V.int).length:Nat):Int)+(((bs.map V.int).length:Nat):Int) - 1=((as.length+bs.length - 1:Nat):Int):=by rw [ab,ab]; lia
  have eT:(((as.length+bs.length - 1:Nat):Int)).toNat=as.length+bs.length - 1:=by lia
  refine⟨_,rfl,a,_,rfl,.inl (kT.of (u0 _ _ ha)),_,rfl,b,_,rfl,.inl (kT.of (u0 _ _ hb)),_,_,rfl,rfl,_,_,rfl,rfl,?_⟩;show zmH (.ref z) (.int ((((as.map V.int).length:Nat):Int)+(((bs.map V.int).length:Nat):Int) - 1)) _ _;rw [eN];refine⟨z,_,[.int 0],rfl,rfl,zc,#[O],#[O],by rw [eT]; show 1*_≤sizeLine; lia,fun fa wM=>?_⟩;rw [eT,bT];have x5:=u0.free wM;have u1:=u0.trans (zb (o:=.lst (ar (as.length+bs.length - 1) (V.int 0))) wM);have f1:kX (kX H z (.lst [.int 0])) fa (.lst (ar (as.length+bs.length - 1) (V.int 0))) fa=some (.lst ((ar (as.length+bs.length - 1) (0:Int)).map V.int)):=by rw [zc,cV]
  generalize kX (kX H z (.lst [.int 0])) fa (.lst (ar (as.length+bs.length - 1) (V.int 0)))=H1 at u1 f1 ⊢;have hz0:∀ x,gl (ar (as.length+bs.length - 1) (0:Int)) x=0:=fun x=>by
   by_cases h:x < as.length+bs.length - 1
   ·exact zaS (by rw [bQ,if_pos h])
   ·exact zaw (by rw [aR]; lia)
  refine⟨_,rfl,a,_,rfl,.inl (kT.of (u1 _ _ ha)),_,rfl,by rw [ab]; lia,by rw [ab]; lia,?_⟩;rw [ab,da];refine zav (lo:=0) (n:=as.length) (fun j σ H'=>∃ (rs:List Int) (e4 e5:Option V),σ = [some (.int p),some (.ref a),some (.ref b),some (.ref fa),e4,e5]∧zC H H'∧H' fa=some (.lst (rs.map V.int))∧rs.length=as.length+bs.length - 1∧(∀ c∈rs,0≤c∧c < p)∧∀ x,Cg p (gl rs x) (psm as bs j 0 x))
   ⟨_,none,none,rfl,u1,f1,aR,fun c hc=>by rw [cH hc]; lia,fun x=>by rw [hz0]; unfold psm; rw [if_neg #[O]]; exact Cg.refl _ _⟩ ?_ ?_
  ·rintro zD zT j σ H2 hj ⟨rs,e4,e5,rfl,s2,h2,o3,sk,rG⟩;rw [show ((0:Int)+(j:Int))=(j:Int) from dv _];refine⟨_,rfl,b,_,rfl,.inl (kT.of (s2 _ _ hb)),_,rfl,by rw [ab]; lia,by rw [ab]; lia,?_⟩;rw [ab,da];refine zav (lo:=0) (n:=bs.length) (fun i σ H'=>∃ (rs:List Int) (e5:Option V),σ = [some (.int p),some (.ref a),some (.ref b),some (.ref fa),some (.int (j:Int)),e5]∧zC H H'∧H' fa=some (.lst (rs.map V.int))∧rs.length=as.length+bs.length - 1∧(∀ c∈rs,0≤c∧c < p)∧∀ x,Cg p (gl rs x) (psm as bs j i x))
    ⟨rs,e5,rfl,s2,h2,o3,sk,rG⟩ ?_ ?_
   ·rintro zD zT i σ H3 hi ⟨rs,e5,rfl,s3,h3,o3,sk,rG⟩;rw [show ((0:Int)+(i:Int))=(i:Int) from dv _];have eji:(j:Int)+(i:Int)=((j+i:Nat):Int):=by lia
    have Cf:j+i < rs.length:=by lia
    obtain⟨g0,g1⟩:=vM _ (aA (zb9 hj));refine⟨_,rfl,_,rfl,_,rfl,_,_,rfl,rfl,fa,_,_,_,rfl,rfl,kT.of h3,(by rw [eji]; exact ze8 Cf),_,rfl,_,rfl,a,_,_,_,rfl,rfl,kT.of (s3 _ _ ha),ze8 hj,_,rfl,_,rfl,b,_,_,_,rfl,rfl,kT.of (s3 _ _ hb),ze8 hi,_,_,rfl,rfl,.inl ⟨#[O],#[O]⟩,_,_,rfl,rfl,_,rfl,_,_,rfl,rfl,#[O],?_⟩;refine⟨_,rfl,_,rfl,_,rfl,_,_,rfl,rfl,fa,_,_,j+i,rfl,rfl,h3,by rw [eji]; exact zdD (by rw [ab]; exact Cf),?_⟩;refine⟨rs.set (j+i) ((gl rs (j+i)+gl as j*gl bs i) % p),_,rfl,zaL s3 x5,by rw [zc,eO],by rw [cZ]; exact o3,fun c hc=>?_,fun x=>?_⟩
    ·rcases dG hc with h | h
     ·exact sk c h
     ·rw [h];exact⟨aQ _ #[O],aB _ #[O]⟩
    ·rw [zkP Cf];by_cases h:x=j+i
     ·subst h;rw [if_pos rfl];refine (Cg.emod p _).trans ?_;have h1:=rG (j+i);unfold psm at h1 ⊢;rw [if_neg #[O],bI] at h1;rw [if_pos #[O],iB];exact h1.add (Cg.refl p _)
     ·rw [if_neg h];have h1:=rG x;unfold psm at h1 ⊢;by_cases h2:j≤x∧x < j+i
      ·rw [if_pos h2] at h1;rw [if_pos #[O]];exact h1
      ·rw [if_neg h2] at h1;rw [if_neg #[O]];exact h1
   ·rintro σ H3 ⟨rs,e5,rfl,s3,h3,o3,sk,rG⟩;exact⟨rs,_,_,rfl,s3,h3,o3,sk,fun x=>by rw [← zlR]; exact rG x⟩
  ·rintro σ H2 ⟨rs,e4,e5,rfl,s2,h2,o3,sk,rG⟩;refine⟨_,rfl,q fa rs H2 x5 s2 h2 o3 sk fun x=>?_⟩;have h1:=rG x;unfold psm at h1;rw [if_neg #[O],bI,← za1] at h1;exact h1
theorem zgL (r:List Int):Dg (gl r) r.length:=fun i hi=>zaw hi
end
section
variable {P:Program} {w:World} {K:ag} {mg:Str→Option Value} {base:Heap} {t:Adr}
theorem zm8 {H:Hp} {ls:List Addr} {vv:List (List Int)} {j:Nat} {b:Addr} {v:List Int} (h:LsA H ls vv) (nd:ls.Nodup) (hj:ls[j]? = some b):LsA (kX H b (.lst (v.map V.int))) ls (vv.set j v):=by
 induction h generalizing j with
 | nil=>cases hj
 | @cons a c as cs h1 ht ih =>
  obtain⟨hn,nd'⟩:=cQ.mp nd;cases j with
  | zero =>
   obtain rfl:a=b:=by simpa using hj
   exact .cons zc (zfz hn (fun c o hc e=>by rw [zl hc]; exact e) ht)
  | succ j =>
   have hj:as[j]? = some b:=by simpa using hj
   refine .cons ?_ (ih nd' hj);rw [zl (fun e:a=b=>hn (by rw [e]; exact aA hj))];exact h1
structure Lin (H0 H:Hp) (L:Addr) (ls:List Addr) (vv:List (List Int)):Prop where
 s:zC H0 H
 l:H L=some (.lst (ls.map V.ref))
 a:LsA H ls vv
 nd:ls.Nodup
 nl:L∉ls
 fr:∀ b∈ls,H0 b=none
theorem Lin.same {H0 H H':Hp} {L:Addr} {ls:List Addr} {vv:List (List Int)} (h:Lin H0 H L ls vv) (s:zC H H'):Lin H0 H' L ls vv:=⟨h.s.trans s,s _ _ h.l,h.a.same s,h.nd,h.nl,h.fr⟩
theorem Lin.set {H0 H:Hp} {L b:Addr} {ls:List Addr} {vv:List (List Int)} {j:Nat} {v:List Int} (h:Lin H0 H L ls vv) (hj:ls[j]? = some b):Lin H0 (kX H b (.lst (v.map V.int))) L ls (vv.set j v):=by
 have hb:=aA hj;refine⟨zaL h.s (h.fr b hb),?_,zm8 h.a h.nd hj,h.nd,h.nl,h.fr⟩;rw [zl (fun e:L=b=>h.nl (by rw [e]; exact hb))];exact h.l
structure Gd (p:Int) (n W:Nat) (vv:List (List Int)) (G:Nat→Nat→Int):Prop where
 gn:vv.length=n
 gw:∀ r∈vv,r.length=W∧∀ c∈r,0≤c∧c < p
 gc:∀ j x,j < n→x < W→Cg p (gl (vv.getD j []) x) (G j x)
theorem getD_mem {α:Type} {l:List (List α)} {j:Nat} (h:j < l.length):l.getD j []∈l:=by rw [am,ai h]; exact dm h
theorem zbH {α:Type} {l:List (List α)} {j:Nat} (h:l.length≤j):l.getD j [] = []:=by rw [am,bq h]; rfl
theorem Gd.set {p:Int} {n W:Nat} {vv:List (List Int)} {G G':Nat→Nat→Int} (h:Gd p n W vv G) {j0 i0:Nat} {v:Int} (hj:j0 < n) (hi:i0 < W) (v0:0≤v) (v1:v < p) (hv:Cg p v (G' j0 i0)) (hG:∀ j x,¬ (j=j0∧x=i0)→G' j x=G j x):Gd p n W (vv.set j0 ((vv.getD j0 []).set i0 v)) G':=by
 have tV:j0 < vv.length:=by rw [h.gn]; exact hj
 have hr:=h.gw _ (getD_mem tV);refine⟨by rw [cZ]; exact h.gn,fun r lH=>?_,fun j x nc hx=>?_⟩
 ·rcases dG lH with z | rfl
  ·exact h.gw r z
  ·refine⟨by rw [cZ]; exact hr.1,fun c hc=>?_⟩;rcases dG hc with z | rfl
   ·exact hr.2 c z
   ·exact⟨v0,v1⟩
 ·have e:(vv.set j0 ((vv.getD j0 []).set i0 v)).getD j []=if j=j0 then (vv.getD j0 []).set i0 v else vv.getD j []:=by
   rw [am,jT];by_cases z:j0=j
   ·rw [if_pos z,if_pos z.symm,if_pos tV]; rfl
   ·rw [if_neg z,if_neg (fun q=>z q.symm),am]
  rw [e];by_cases z:j=j0
  ·rw [if_pos z,zkP (by rw [hr.1]; exact hi)];by_cases y:x=i0
   ·rw [if_pos y,z,y]; exact hv
   ·rw [if_neg y,hG j x (fun q=>y q.2),z]; exact h.gc j0 x hj hx
  ·rw [if_neg z,hG j x (fun q=>z q.1)];exact h.gc j x nc hx
theorem Gd.eq {p:Int} {n W:Nat} {vv:List (List Int)} {G G':Nat→Nat→Int} (h:Gd p n W vv G) (e:∀ j x,j < n→x < W→Cg p (G j x) (G' j x)):Gd p n W vv G':=⟨h.gn,h.gw,fun j x hj hx=>(h.gc j x hj hx).trans (e j x hj hx)⟩
def wt (k:Nat) (f:Ps) (F:Nat→Ps) (t:Nat) (j x:Nat):Int:=(if 0 < j∧j≤t then F (j - 1) x else 0) + -1*(if j < t then mq 0 k f (F j) x else 0)
theorem zlS (k:Nat) (f:Ps) (F:Nat→Ps) (j x:Nat):wt k f F 0 j x=0:=by
 unfold wt;rw [if_neg #[O],if_neg #[O]];rfl
theorem zlT (k:Nat) (f:Ps) (F:Nat→Ps) (t j x:Nat):wt k f F (t+1) j x=wt k f F t j x+(if j=t+1 then F t x else 0) + -1*(if j=t then mq 0 k f (F t) x else 0):=by
 unfold wt;by_cases h1:j=t+1
 ·subst h1;rw [if_pos #[O],if_neg #[O],if_neg #[O],if_neg #[O],if_pos rfl,if_neg #[O]];simp
 ·by_cases h2:j=t
  ·subst h2;rw [if_neg h1,if_pos (show j < j+1 by lia),if_neg (show ¬ j < j by lia),if_pos rfl];by_cases h3:0 < j
   ·rw [if_pos #[O],if_pos #[O]]; lia
   ·rw [if_neg #[O],if_neg #[O]]; lia
  ·rw [if_neg h1,if_neg h2];by_cases h3:j < t
   ·rw [if_pos (show j < t+1 by lia),if_pos h3];by_cases h4:0 < j
    ·rw [if_pos #[O],if_pos #[O]]; lia
    ·rw [if_neg #[O],if_neg #[O]]; lia
   ·rw [if_neg (show ¬ j < t+1 by lia),if_neg h3,if_neg #[O],if_neg #[O]]; rfl
theorem zm9 {k n:Nat} {f:Ps} {F:Nat→Ps} (hF:∀ t,n≤t→F t=fun _=>0) (j x:Nat) (hj:j < n+1):wt k f F n j x=wr k f F j x:=by
 have hz:∀ x,mq 0 k f (fun _=>0) x=0:=fun x=>by rw [(zaH 0 k f).z]
 unfold wt;cases j with
 | zero =>
  show _=0 + -1*mq 0 k f (F 0) x;rw [if_neg #[O]];by_cases h:0 < n
  ·rw [if_pos h]
  ·rw [if_neg h,hF 0 #[O],hz]
 | succ j =>
  show _=F j x + -1*mq 0 k f (F (j+1)) x;rw [if_pos #[O]];by_cases h:j+1 < n
  ·rw [if_pos h]; rfl
  ·rw [if_neg h,hF (j+1) #[O],hz]; rfl
theorem zna {k W:Nat} {f:Ps} {F:Nat→Ps} (hk:1≤k) (hF:∀ t,Dg (F t) W) {j x:Nat} (hx:W+k - 1≤x):wr k f F j x=0:=by
 have h:∀ t,mq 0 k f (F t) x=0:=fun t=>zfF (hF t) x #[O]
 cases j with
 | zero=>show 0 + -1*mq 0 k f (F 0) x=0; rw [h]; rfl
 | succ j=>show F j x + -1*mq 0 k f (F (j+1)) x=0; rw [h,hF j x #[O]]; rfl
def zen (K:ag):Sp:=fun vs H Q _=>∃ (p:Int) (k:Nat) (ca qa:Addr) (bs:List Addr) (rows:List (List Int)) (f:List Int),vs = [.int p,.ref ca,.ref qa]∧H ca=some (.tup (bs.map V.ref))∧zaB H bs rows∧1≤rows.length∧rows.length≤50∧(∀ r∈rows,1≤r.length∧r.length≤90∧∀ c∈r,0≤c∧c < p)∧H qa=some (.tup (f.map V.int))∧IsP p k f∧1≤k∧k≤5∧5≤p∧p≤97 ∧
 ∀ (l:Addr) (us:List Addr) (lh:List (List Int)) (W:Nat) (H':Hp),H l=none→zC H H'→H' l=some (.tup (us.map V.ref))→zaB H' us lh→lh.length=rows.length+1→(∀ r∈rows,r.length≤W)→(∃ r∈rows,r.length=W)→(∀ r∈lh,r.length=W+k - 1∧∀ c∈r,0≤c∧c < p)→(∀ j x,Cg p (gl (lh.getD j []) x) (wr k (gl f) (fun j i=>gl (rows.getD j []) i) j x))→Q (.ref l) H'
theorem zR:FnScope ["p","curve","polynomial","wide","lines","j","line","i","number"] ["p","curve","polynomial"] (zh zah):=#[S]
theorem zeo {fd:FuncData} (T:Txt K mg t) (F:Fun K "_law_with_root" "_law_with_root" zah t.l_with_root fd):FnOk P w K mg base CX0 2 t.l_with_root fd ["p","curve","polynomial"] (zen K):=by
 obtain⟨nV,md,me⟩:=T.f_l_times;have nr:=zem (P:=P) (w:=w) (base:=base) T md;refine F.ok zR (fun vs H Q E h=>?_) (fun lM A outer s H vs Q E hr h=>?_)
 ·obtain⟨p,k,ca,qa,bs,rows,f,rfl,_⟩:=h;rfl
 ·obtain⟨p,k,ca,qa,bs,rows,f,rfl,pP,hb,n1,hn,uL,hqa,hf,k1,k5,p5,qb,q⟩:=h;apply zbo; intro zX;refine⟨_,#[zf,#[zo,3,zR.nd,(fv rfl),#[zg,#[za6],#[zg,#[zv],#[zt,#[zbE],T.max_,gB,#[ya,#[zN,(CompSc.of (N':=["line"]) (ix:=[none]) (zh zah) ["p","curve","polynomial","wide","lines","j","line","i","number"] rfl rfl #[N]),#[zS],#[zdf,#[pvx,1]],(fun _ _ _ _=>#[zi,0,(show (["line"]:List Str).Nodup from #[N]),#[A]]),(fun _ _ _ _=>#[zw]),(fun _ _ _ _=>#[zt,#[zar,(K)],T.len_,ck,#[ya,#[pvx,0]]])]]],#[zt,#[zA],T.len_,ck,#[ya,#[pvx,2]]]],#[ze]]],#[zf,#[zdY,4,zR.nd,#[A],(CompSc.of (N':=["j","wide"]) (ix:=[none,some 3]) (zh zah) ["p","curve","polynomial","wide","lines","j","line","i","number"] rfl rfl #[N]),#[zS],#[zac,T.range_,#[ya,#[zg,#[zv],#[zt,#[zA],T.len_,ck,#[ya,#[pvx,1]]],#[ze]]]],(fun _ _ _ _=>#[zi,0,(show (["j","wide"]:List Str).Nodup from #[N]),#[A]]),(fun _ _ _ _=>#[zw]),(fun _ _ _ _=>#[zg,#[zcG],#[zaE,#[ya,#[ze]]],#[pvx,1]])],#[zf,#[zal,bn,#[zb6,T.enumerate_,#[ya,#[pvx,1]]],#[zbJ,#[zm,#[zi,5,zR.nd,#[A]],#[zm,#[zi,6,zR.nd,#[A]],#[zae]]]],#[zf,#[zal,bn,#[zb6,T.enumerate_,#[ya,#[pvx,6]]],#[zbJ,#[zm,#[zi,7,zR.nd,#[A]],#[zm,#[zi,8,zR.nd,#[A]],#[zae]]]],#[zj,#[zbK,#[zg,#[zy],#[zg,#[zv],#[zJ,#[zn],#[zJ,#[zn],#[pvx,4],#[zg,#[zv],#[pvx,5],#[ze]]],#[pvx,7]],#[pvx,8]],#[pvx,0]],#[zcF,#[zJ,#[zn],#[pvx,4],#[zg,#[zv],#[pvx,5],#[ze]]],#[pvx,7],set_list]]]],#[zj,#[zal,bn,#[zcR,T.enumerate_,#[ya,#[zk,nr,(hr.mono #[D]),T.m_l_times,md.kp,me,#[zK],#[za,#[pvx,0],#[za,#[zG,#[zaP],T.list_,gL,#[ya,#[pvx,6]]],#[ya,#[zG,#[zaP],T.list_,gL,#[ya,#[pvx,2]]]]]]]]],#[zbJ,#[zm,#[zi,7,zR.nd,#[A]],#[zm,#[zi,8,zR.nd,#[A]],#[zae]]]],#[zj,#[zbK,#[zg,#[zy],#[zg,#[za6],#[zJ,#[zn],#[zJ,#[zn],#[pvx,4],#[pvx,5]],#[pvx,7]],#[pvx,8]],#[pvx,0]],#[zcF,#[zJ,#[zn],#[pvx,4],#[pvx,5]],#[pvx,7],set_list]]]]]]],#[zj,#[zQ,#[zG,#[z8],T.tuple_,c9,#[ya,#[zN,(CompSc.of (N':=["line"]) (ix:=[none]) (zh zah) ["p","curve","polynomial","wide","lines","j","line","i","number"] rfl rfl #[N]),#[zS],#[zaf,#[pvx,4]],(fun _ _ _ _=>#[zi,0,(show (["line"]:List Str).Nodup from #[N]),#[A]]),(fun _ _ _ _=>#[zw]),(fun _ _ _ _=>#[zG,(zax (K:=K) rfl),T.tuple_,c9,#[ya,#[pvx,0]]])]]]]]]]],?_⟩;apply zlh; intro uK qR pO;have og:=bm;have pN:=hb.length;have uG:f.length=k:=hf.1;refine⟨_,rfl,ca,rfl,⟨_,kZ.of pP⟩,zbe (K:=K) (xs:=bs.map V.ref) (fs:=(zF rows).map V.int) (kZ.of pP) (by unfold zF; rw [ab,ab,ab]; lia) (by rw [ab]; lia) ?_ ?_⟩
  ·intro j x y R B hx hy hR;obtain⟨b,rfl,x6⟩:=zH hx;obtain⟨r,lH,mC⟩:=Paired.get hb x6;have qH:y = .int (r.length:Int):=by
    unfold zF at hy;rw [af,af,lH] at hy;exact (bf hy).symm
   subst qH;refine gY ⟨_,rfl,b,_,rfl,.inr (kZ.of mC),?_⟩;rw [ab];exact hR
  intro D hD;have u1:=zb (o:=.lst ((zF rows).map V.int)) hD;have lC:zF rows≠[]:=fun e=>by
   have:=congrArg gC e;unfold zF at this;rw [ab] at this;have:rows.length=0:=this;lia
  refine⟨D,zF rows,rfl,kT.of zc,lC,fun M su tW=>?_⟩;obtain⟨W,rfl,hW,rH⟩:∃ W:Nat,M=(W:Int)∧(∀ r∈rows,r.length≤W)∧∃ r∈rows,r.length=W:=by
   obtain⟨r,lH,e⟩:=az.mp su;refine⟨r.length,e.symm,fun r2 h2=>?_,r,lH,rfl⟩;have:=tW _ (az.mpr ⟨r2,h2,rfl⟩);lia
  have hW1:1≤W∧W≤90:=by
   obtain⟨r,lH,e⟩:=rH;have:=uL r lH;lia
  generalize kX H D (.lst ((zF rows).map V.int))=H1 at u1 ⊢;have Ci:((W:Int)+(((f.map V.int).length:Nat):Int) - 1)=((W+k - 1:Nat):Int):=by rw [ab,uG]; lia
  refine⟨_,rfl,qa,_,rfl,.inr (kZ.of (u1 _ _ hqa)),_,_,rfl,rfl,_,_,rfl,rfl,?_⟩;show zaK 3 (.int ((W:Int)+(((f.map V.int).length:Nat):Int) - 1)) _ _ _;rw [Ci];obtain⟨Wd,x8⟩:∃ Wd,W+k - 1=Wd:=⟨_,rfl⟩;rw [x8];have hWd1:1≤Wd∧Wd≤94:=by lia
  have eN:((((bs.map V.ref).length:Nat):Int)+1)=((rows.length+1:Nat):Int):=by rw [ab,pN]; rfl
  refine⟨_,rfl,ca,_,rfl,.inr (kZ.of (u1 _ _ pP)),_,_,rfl,rfl,_,rfl,by rw [eN]; lia,by rw [eN]; lia,?_⟩;show cGo _ _ _ _ (Itr 0 ((((bs.map V.ref).length:Nat):Int)+1).toNat) _ _;rw [eN];refine zV (n:=rows.length+1) (fun m ys H'=>zC H1 H'∧∃ ls:List Addr,ys=ls.map V.ref∧LsA H' ls (ar m (ar Wd (0:Int)))∧ls.Nodup∧∀ b∈ls,H b=none) ⟨fun _ _ e=>e,[],rfl,.nil,gA,fun b hb=>by cases hb⟩ (fun m ys H' hm _=>by show m < ((rows.length+1:Nat):Int).toNat; lia) (fun ys H' _=>by show ((rows.length+1:Nat):Int).toNat≤rows.length+1; lia) ?_ ?_
  ·rintro m x ys H2 H3 hm ⟨s2,ls,rfl,lD,nd,fr⟩ ⟨rfl,rfl⟩;have hz:ls.length=m:=by rw [aV lD,aR]
   refine⟨by show 1≤sizeLine; lia,fun z hz=>⟨_,rfl,z,_,[.int 0],rfl,rfl,zc,#[O],#[O],by show 1*(Wd:Int).toNat≤sizeLine; lia,fun y hy=>?_⟩⟩;rw [show (Wd:Int).toNat=Wd by lia,bT];have v1:=(zb (o:=.lst [.int 0]) hz).trans (zb (o:=.lst (ar Wd (V.int 0))) hy);have x9:H3 y=none:=(zb (o:=.lst [.int 0]) hz).free hy;refine⟨by rw [ab]; lia,s2.trans v1,ls++[y],#[M],?_,?_,?_⟩
   ·rw [ji];exact bV (lD.same v1) (by rw [zc,cV])
   ·exact de.mpr ⟨nd,#[M],fun a ha b hb e=>by
     obtain rfl:=aN.mp hb;subst e;exact zd7 lD x9 ha⟩
   ·intro b hb;rcases (aP.mp hb) with hb | hb
    ·exact fr b hb
    ·(rw [aN.mp hb])
     exact (u1.trans s2).free x9
  rintro ys H2 L ⟨s2,ls,rfl,lD,nd,fr⟩ hL;have qP:ls.length=rows.length+1:=by rw [aV lD,aR]
  have v2:=zb (o:=.lst (ls.map V.ref)) hL;have qc:Lin H (kX H2 L (.lst (ls.map V.ref))) L ls (ar (rows.length+1) (ar Wd (0:Int))):=⟨(u1.trans s2).trans v2,zc,lD.same v2,nd,zd7 lD hL,fr⟩;generalize kX H2 L (.lst (ls.map V.ref))=H3 at qc ⊢;have Cj:Gd p (rows.length+1) Wd (ar (rows.length+1) (ar Wd (0:Int))) (wt k (gl f) (fun j i=>gl (rows.getD j []) i) 0):=⟨aR,fun r hr=>by
    rw [cH hr];exact⟨aR,fun c hc=>by rw [cH hc]; lia⟩,fun j x hj hx=>by
    rw [zlS,am,bQ,if_pos hj];exact Cg.of_eq (zaS (by rw [dM,bQ,if_pos hx]))⟩
  refine⟨_,rfl,ca,_,rfl,kZ.of (qc.s _ _ pP),zbq (n:=rows.length) (fun t σ H'=>∃ (vv:List (List Int)) (e5 e6 e7 e8:Option V),σ = [some (.int p),some (.ref ca),some (.ref qa),some (.int (Wd:Int)),some (.ref L),e5,e6,e7,e8]∧Lin H H' L ls vv∧Gd p (rows.length+1) Wd vv (wt k (gl f) (fun j i=>gl (rows.getD j []) i) t))
   ⟨_,none,none,none,none,rfl,qc,Cj⟩ ?_ ?_ ?_ ?_⟩
  ·rintro i σ H4 hi ⟨vv,e5,e6,e7,e8,rfl,mU,pk⟩;exact⟨_,.ref (bs[i]'#[O]),kZ.of (mU.s _ _ pP),by rw [af,ai #[O]]; rfl⟩
  ·rintro σ H4 ⟨vv,e5,e6,e7,e8,rfl,mU,pk⟩;exact⟨_,kZ.of (mU.s _ _ pP),by rw [ab]; lia⟩
  ·rintro zD zT j x σ H4 H5 hj ⟨vv,e5,e6,e7,e8,rfl,mU,pk⟩ ⟨T1,v,Ck,rfl,rfl,hv⟩;obtain⟨lb,rfl,wN⟩:=zH (hv _ (kZ.of (mU.s _ _ pP)));obtain⟨r,lH,mC⟩:=Paired.get hb wN;obtain⟨r1,r90,sk⟩:=uL r (aA lH);have hrW:=hW r (aA lH);have er:rows.getD j []=r:=by rw [am,lH]; rfl
   have tX:=mU.same (zb (o:=.tup [.int (j:Int),.ref lb]) Ck);refine⟨T1,_,rfl,kZ.of zc,rfl,_,_,rfl,_,_,rfl,rfl,?_⟩;generalize kX H4 T1 (.tup [.int (j:Int),.ref lb])=H5 at tX ⊢;apply zjJ; intro zM2;have hF:∀ x,gl (rows.getD j []) x=gl r x:=fun x=>by rw [er]
   refine⟨_,rfl,lb,_,rfl,kZ.of (tX.s _ _ mC),zbq (n:=r.length) (fun i σ H'=>∃ (vv:List (List Int)) (e7 e8:Option V),σ = [some (.int p),some (.ref ca),some (.ref qa),some (.int (Wd:Int)),some (.ref L),some (.int (j:Int)),some (.ref lb),e7,e8]∧Lin H H' L ls vv∧Gd p (rows.length+1) Wd vv (fun a x=>wt k (gl f) (fun j i=>gl (rows.getD j []) i) j a x+if a=j+1∧x < i then gl r x else 0))
    ⟨vv,_,_,rfl,tX,pk.eq fun a x _ _=>Cg.of_eq (by rw [if_neg #[O],bI])⟩ ?_ ?_ ?_ ?_⟩
   ·rintro i σ H6 hi ⟨sv,e7,e8,rfl,nW,qT⟩;exact⟨_,.int (r[i]'(hi)),kZ.of (nW.s _ _ mC),by rw [af,ai hi]; rfl⟩
   ·rintro σ H6 ⟨sv,e7,e8,rfl,nW,qT⟩;exact⟨_,kZ.of (nW.s _ _ mC),by rw [ab]; exact ah _⟩
   ·rintro Cm Cn i x σ H6 H7 hi ⟨sv,e7,e8,rfl,nW,qT⟩ ⟨T2,v2,tT,rfl,rfl,yb⟩;obtain⟨y,rfl,hy⟩:=zag (yb _ (kZ.of (nW.s _ _ mC)));have yc:gl r i=y:=zaS hy;have qU:=nW.same (zb (o:=.tup [.int (i:Int),.int y]) tT);refine⟨T2,_,rfl,kZ.of zc,rfl,_,_,rfl,_,_,rfl,rfl,?_⟩;generalize kX H6 T2 (.tup [.int (i:Int),.int y])=H7 at qU ⊢;obtain⟨b,nN⟩:∃ b,ls[j+1]? = some b:=⟨ls[j+1]'#[O],ai #[O]⟩;obtain⟨row,nq,hB⟩:=Paired.get qU.a nN;have tu:sv.getD (j+1) []=row:=by rw [am,nq]; rfl
    have o3:=(qT.gw row (aA nq)).1;have uM:i < row.length:=by lia
    have pq:atI (ls.map V.ref) ((j:Int)+1)=some (.ref b):=zaO (j:=j+1) (by rw [af,nN]; rfl);refine⟨_,rfl,_,rfl,_,_,rfl,rfl,L,_,_,_,rfl,rfl,kT.of qU.l,pq,_,rfl,b,_,_,_,rfl,rfl,kT.of hB,ze8 uM,_,rfl,_,_,rfl,rfl,_,rfl,_,_,rfl,rfl,#[O],?_⟩;refine⟨_,rfl,_,rfl,_,_,rfl,rfl,L,_,_,_,rfl,rfl,kT.of qU.l,pq,_,rfl,b,_,_,i,rfl,rfl,hB,zdD (by rw [ab]; exact uM),?_⟩;have e1:(row.map V.int).set i (.int ((gl row i+y) % p))=(row.set i ((gl row i+y) % p)).map V.int:=by rw [eO]
    rw [e1];have hc:=qT.gc (j+1) i #[O] #[O];rw [tu,if_neg #[O],bI] at hc;have hs:=qT.set (G':=fun a x=>wt k (gl f) (fun j i=>gl (rows.getD j []) i) j a x+if a=j+1∧x < i+1 then gl r x else 0) (j0:=j+1) (i0:=i) (v:=(gl row i+y) % p) #[O] #[O] (aQ _ #[O]) (aB _ #[O]) (by
     rw [if_pos #[O],yc];exact (Cg.emod p _).trans (hc.add (Cg.refl p y))) (fun a x wA=>by
     by_cases h1:a=j+1∧x < i
     ·rw [if_pos h1,if_pos #[O]]
     ·rw [if_neg h1,if_neg #[O]])
    rw [tu] at hs;exact⟨_,_,_,rfl,qU.set nN,hs⟩
   ·rintro σ H6 ⟨sv,e7,e8,rfl,nW,qT⟩;refine⟨_,rfl,_,rfl,lb,_,rfl,.inr (kZ.of (nW.s _ _ mC)),fun x1 tf=>?_⟩;have w1:=zb (o:=.lst (r.map V.int)) tf;refine⟨_,rfl,qa,_,rfl,.inr (kZ.of ((nW.same w1).s _ _ hqa)),fun x2 tJ=>?_⟩;have w2:=zb (o:=.lst (f.map V.int)) tJ;refine⟨p,x1,x2,r,f,rfl,w2 _ _ zc,zc,#[O],#[O],#[O],#[O],p5,qb,sk,fun ra rs H8 Co w3 yd o3 Cp rG=>?_⟩;have Av:=((nW.same w1).same w2).same w3;have vN:ra∉ls:=zd7 ((nW.same w1).same w2).a Co;have sx:∀ x,Cg p (gl rs x) (mq 0 k (gl f) (gl (rows.getD j [])) x):=fun x=>by
     have e:=zij (zgL r) (zgL f);rw [uG] at e;rw [er,← e];exact rG x
    refine⟨ra,_,rfl,kT.of yd,zbq (n:=rs.length) (fun i σ H'=>∃ (vv:List (List Int)) (e7 e8:Option V),σ = [some (.int p),some (.ref ca),some (.ref qa),some (.int (Wd:Int)),some (.ref L),some (.int (j:Int)),some (.ref lb),e7,e8]∧H' ra=some (.lst (rs.map V.int))∧Lin H H' L ls vv∧Gd p (rows.length+1) Wd vv (fun a x=>wt k (gl f) (fun j i=>gl (rows.getD j []) i) j a x+(if a=j+1 then gl r x else 0) + -1*if a=j∧x < i then gl rs x else 0))
     ⟨sv,_,_,rfl,yd,Av,qT.eq fun a x _ _=>Cg.of_eq (by
      rw [if_neg (show ¬ (a=j∧x < 0) by lia),b8,bI];by_cases h1:a=j+1
      ·rw [if_pos h1];by_cases h2:x < r.length
       ·rw [if_pos ⟨h1,h2⟩]
       ·rw [if_neg (fun z=>h2 z.2),zaw (w:=r) #[O]]
      ·rw [if_neg h1,if_neg (fun z=>h1 z.1)])⟩ ?_ ?_ ?_ ?_⟩
    ·rintro i σ H9 hi ⟨sy,e7,e8,rfl,qd,qD,qe⟩;exact⟨_,.int (rs[i]'(hi)),kT.of qd,by rw [af,ai hi]; rfl⟩
    ·rintro σ H9 ⟨sy,e7,e8,rfl,qd,qD,qe⟩;exact⟨_,kT.of qd,by rw [ab]; exact ah _⟩
    ·rintro Cm Cn i x σ H9 Ha hi ⟨sy,e7,e8,rfl,qd,qD,qe⟩ ⟨T2,v2,tT,rfl,rfl,yb⟩;obtain⟨y,rfl,hy⟩:=zag (yb _ (kT.of qd));have yc:gl rs i=y:=zaS hy;have wT:=zb (o:=.tup [.int (i:Int),.int y]) tT;have sC:=qD.same wT;have vM:=wT _ _ qd;refine⟨T2,_,rfl,kZ.of zc,rfl,_,_,rfl,_,_,rfl,rfl,?_⟩;generalize kX H9 T2 (.tup [.int (i:Int),.int y])=Ha at wT sC vM ⊢;obtain⟨b,nN⟩:∃ b,ls[j]? = some b:=⟨ls[j]'#[O],ai #[O]⟩;have vO:ra≠b:=fun e=>vN (by rw [e]; exact aA nN)
     obtain⟨row,nq,hB⟩:=Paired.get sC.a nN;have tu:sy.getD j []=row:=by rw [am,nq]; rfl
     have Cq:=(qe.gw row (aA nq)).1;have uM:i < row.length:=by lia
     have pq:atI (ls.map V.ref) (j:Int)=some (.ref b):=zaO (j:=j) (by rw [af,nN]; rfl);refine⟨_,rfl,_,rfl,L,_,_,_,rfl,rfl,kT.of sC.l,pq,_,rfl,b,_,_,_,rfl,rfl,kT.of hB,ze8 uM,_,rfl,_,_,rfl,rfl,_,rfl,_,_,rfl,rfl,#[O],?_⟩;refine⟨_,rfl,_,rfl,L,_,_,_,rfl,rfl,kT.of sC.l,pq,_,rfl,b,_,_,i,rfl,rfl,hB,zdD (by rw [ab]; exact uM),?_⟩;have e1:(row.map V.int).set i (.int ((gl row i - y) % p))=(row.set i ((gl row i - y) % p)).map V.int:=by rw [eO]
     rw [e1];have hc:=qe.gc j i #[O] #[O];rw [tu,if_neg (show ¬ (j=j∧i < i) by lia),b8,bI] at hc;have hs:=qe.set (G':=fun a x=>wt k (gl f) (fun j i=>gl (rows.getD j []) i) j a x+(if a=j+1 then gl r x else 0) + -1*if a=j∧x < i+1 then gl rs x else 0) (j0:=j) (i0:=i) (v:=(gl row i - y) % p) #[O] #[O] (aQ _ #[O]) (aB _ #[O]) (by
      rw [if_pos (show j=j∧i < i+1 by lia),yc];exact (Cg.emod p _).trans ((hc.sub (Cg.refl p y)).trans (Cg.of_eq #[O]))) (fun a x wA=>by
      by_cases h1:a=j∧x < i
      ·rw [if_pos h1,if_pos (show a=j∧x < i+1 by lia)]
      ·rw [if_neg h1,if_neg (show ¬ (a=j∧x < i+1) by lia)])
     rw [tu] at hs;exact⟨_,_,_,rfl,by rw [zl vO]; exact vM,sC.set nN,hs⟩
    ·rintro σ H9 ⟨sy,e7,e8,rfl,qd,qD,qe⟩;refine⟨sy,_,_,_,_,rfl,qD,qe.eq fun a x _ _=>?_⟩;rw [zlT,hF];refine ((Cg.refl p _)).add ((Cg.refl p (-1)).mul ?_);by_cases h1:a=j
     ·rw [if_pos h1];by_cases h2:x < rs.length
      ·rw [if_pos ⟨h1,h2⟩];exact sx x
      ·rw [if_neg (fun z=>h2 z.2)];have:=sx x;rw [zaw (w:=rs) #[O]] at this;exact this
     ·rw [if_neg h1,if_neg (fun z=>h1 z.1)];exact Cg.refl _ _
  ·rintro σ H4 ⟨vv,e5,e6,e7,e8,rfl,mU,pk⟩;have y8:=pk.gn;have Cr:=aV mU.a;refine⟨_,rfl,L,rfl,⟨_,kT.of mU.l⟩,zV (n:=rows.length+1) (fun m ys H'=>zC H4 H'∧∃ us:List Addr,ys=us.map V.ref∧zaB H' us (vv.take m)) ⟨fun _ _ e=>e,[],rfl,.nil⟩ ?_ ?_ ?_ ?_⟩
   ·rintro m ys H7 hm ⟨s7,_⟩;exact⟨_,.ref (ls[m]'#[O]),kT.of (s7 _ _ mU.l),by rw [af,ai #[O]]; rfl⟩
   ·rintro ys H7 ⟨s7,_⟩;exact⟨_,kT.of (s7 _ _ mU.l),by rw [ab]; lia⟩
   ·rintro m z ys H7 H8 hm ⟨s7,us,rfl,lu⟩ ⟨rfl,hx⟩;obtain⟨b,rfl,pv⟩:=zH (hx _ (kT.of (s7 _ _ mU.l)));obtain⟨r,hr,oP⟩:=Paired.get mU.a pv;have hz:us.length=m:=by rw [aV lu,aU]; lia
    refine gY ?_;refine⟨_,rfl,b,_,rfl,.inl ⟨kT.of (s7 _ _ oP),fun D hD=>⟨by rw [ab]; lia,s7.trans (zb hD),us++[D],#[M],?_⟩⟩⟩;rw [take_snoc hr];exact bV (lu.same (zb hD)) zc
   ·rintro ys H7 D ⟨s7,us,rfl,lu⟩ hD;rw [aT #[O]] at lu;refine⟨D,_,rfl,.inl ⟨kT.of zc,fun l hl=>?_⟩⟩;have sf:=(mU.s.trans s7).trans (zb (o:=.lst (us.map V.ref)) hD);refine q l us vv W _ (sf.free hl) (sf.trans (zb hl)) zc ((lu.same (zb hD)).same (zb hl)) y8 hW rH (by rw [x8]; exact pk.gw) fun j x=>?_
    have Cs:∀ t,rows.length≤t→(fun j i=>gl (rows.getD j []) i) t=fun _=>0:=fun t ht=>by
     funext i;show gl (rows.getD t []) i=0;rw [zbH ht];rfl
    by_cases hj:j < rows.length+1
    ·by_cases hx:x < Wd
     ·exact (pk.gc j x hj hx).trans (Cg.of_eq (zm9 Cs j x hj))
     ·rw [zaw (by rw [(pk.gw _ (getD_mem #[O])).1]; lia)];refine Cg.of_eq (zna k1 (W:=W) (fun t=>?_) #[O]).symm;by_cases ht:t < rows.length
      ·exact (zgL _).le (hW _ (getD_mem ht))
      ·intro i _;rw [zbH #[O]];rfl
    ·rw [zbH #[O]];refine Cg.of_eq ?_;obtain⟨j',rfl⟩:∃ j',j=j'+1:=⟨j - 1,#[O]⟩;show 0=(fun j i=>gl (rows.getD j []) i) j' x + -1*mq 0 k (gl f) ((fun j i=>gl (rows.getD j []) i) (j'+1)) x;rw [Cs j' #[O],Cs (j'+1) #[O],(zaH 0 k (gl f)).z];rfl
end
def pw (w:Nat) (F G:Nat→Ps) (m j t a x:Nat):Int:=(sm j fun s=>if s≤a∧a < s+m then mq 0 w (F s) (G (a - s)) x else 0)+if j≤a∧a < j+t then mq 0 w (F j) (G (a - j)) x else 0
theorem zlU (w:Nat) (F G:Nat→Ps) (m a x:Nat):pw w F G m 0 0 a x=0:=by
 unfold pw;rw [if_neg #[O]];rfl
theorem zlV (w:Nat) (F G:Nat→Ps) (m j a x:Nat):pw w F G m j m a x=pw w F G m (j+1) 0 a x:=by
 unfold pw;rw [if_neg (show ¬ (j+1≤a∧a < j+1+0) by lia)];show _=(_+_)+0;rw [bI]
theorem zlW (w:Nat) (F G:Nat→Ps) (m j t a x:Nat):pw w F G m j (t+1) a x=pw w F G m j t a x+if a=j+t then mq 0 w (F j) (G t) x else 0:=by
 unfold pw;by_cases h:a=j+t
 ·subst h;rw [if_pos #[O],if_neg #[O],if_pos rfl,iB];lia
 ·rw [if_neg h];by_cases h2:j≤a∧a < j+t
  ·rw [if_pos h2,if_pos #[O]]; lia
  ·rw [if_neg h2,if_neg #[O]]; lia
theorem znb {w n m:Nat} {F G:Nat→Ps} (hF:∀ a,Dg (F a) w) (hn:∀ a,n≤a→F a=fun _=>0) (hm:∀ b,m≤b→G b=fun _=>0) (a x:Nat):pw w F G m n 0 a x=cv2 F G a x:=by
 rw [zfK hF];unfold pw;rw [if_neg #[O],bI];have hz:∀ l:Ps,mq 0 w (fun _=>0) l=fun _=>0:=fun l=>by
  funext x;rw [za1];exact zak fun i _=>bF _
 have h1:(sm (max n (a+1)) fun s=>if s≤a∧a < s+m then mq 0 w (F s) (G (a - s)) x else 0)=sm n fun s=>if s≤a∧a < s+m then mq 0 w (F s) (G (a - s)) x else 0:=zaX (iI _ _) fun s hs _=>by
  rw [hn s hs,hz];split <;> rfl
 have h2:(sm (max n (a+1)) fun s=>if s≤a∧a < s+m then mq 0 w (F s) (G (a - s)) x else 0)=sm (a+1) fun s=>if s≤a∧a < s+m then mq 0 w (F s) (G (a - s)) x else 0:=zaX (io _ _) fun s hs _=>if_neg #[O]
 rw [← h1,h2];refine zL fun s hs=>?_
 by_cases h:a < s+m
 ·rw [if_pos ⟨#[O],h⟩]
 ·rw [if_neg (fun z=>h z.2),hm (a - s) #[O],(zaH 0 w (F s)).z]
theorem znc {n m:Nat} {b c:Ps} (hb:Dg b n) (hc:Dg c m) (hn:n≤m+n):∀ w,n≤w→mq 0 w b c=mq 0 n b c:=fun w hw=>by
 funext x;rw [za1,za1];exact zaX hw fun t ht _=>by rw [hb t ht,bF]
theorem zkQ {F G:Nat→Ps} {u v:Nat} (hF:∀ a,Dg (F a) u) (hG:∀ a,Dg (G a) v) {j x:Nat} (hx:u+v≤x+1):cv2 F G j x=0:=by
 unfold cv2;refine zak fun a _=>zak fun t ht=>?_
 by_cases h:t < u
 ·rw [hG _ _ (show v≤x - t by lia),b8]
 ·rw [hF _ _ (show u≤t by lia),bF]
theorem zkR {F G:Nat→Ps} {n m:Nat} (hn:∀ a,n≤a→F a=fun _=>0) (hm:∀ b,m≤b→G b=fun _=>0) {j x:Nat} (hj:n+m≤j+1):cv2 F G j x=0:=by
 unfold cv2;refine zak fun a ha=>zak fun t _=>?_
 by_cases h:a < n
 ·rw [hm (j - a) #[O],b8]
 ·rw [hn a #[O],bF]
section
variable {P:Program} {w:World} {K:ag} {mg:Str→Option Value} {base:Heap} {t:Adr}
theorem ziw {rows:List (List Int)} (h:1≤rows.length):zF rows≠[]:=fun e=>by
 have:=congrArg gC e;unfold zF at this;rw [ab] at this;have:rows.length=0:=this;lia
theorem zgM {rows:List (List Int)} {M:Int} {b:Nat} (h1:M∈zF rows) (h2:∀ x∈zF rows,x≤M) (hr:∀ r∈rows,1≤r.length∧r.length≤b):∃ W:Nat,M=(W:Int)∧(∀ r∈rows,r.length≤W)∧(∃ r∈rows,r.length=W)∧1≤W∧W≤b:=by
 obtain⟨r,lH,e⟩:=az.mp h1;refine⟨r.length,e.symm,fun r2 h3=>?_,⟨r,lH,rfl⟩,hr r lH⟩;have:=h2 _ (az.mpr ⟨r2,h3,rfl⟩);lia
def rwF (rows:List (List Int)):Nat→Ps:=fun j i=>gl (rows.getD j []) i
theorem zaY {rows:List (List Int)} {t:Nat} (ht:rows.length≤t):rwF rows t=fun _=>0:=by
 funext i;show gl (rows.getD t []) i=0;rw [zbH ht];rfl
theorem zep {rows:List (List Int)} {W:Nat} (h:∀ r∈rows,r.length≤W) (t:Nat):Dg (rwF rows t) W:=fun x hx=>by
 by_cases ht:t < rows.length
 ·exact zaw (bi (h _ (getD_mem ht)) hx)
 ·rw [zaY #[O]]
def zfR (K:ag):Sp:=fun vs H Q _=>∃ (p:Int) (ca cb:Addr) (bs cs:List Addr) (rows lx:List (List Int)),vs = [.int p,.ref ca,.ref cb]∧H ca=some (.tup (bs.map V.ref))∧zaB H bs rows∧1≤rows.length∧rows.length≤50∧(∀ r∈rows,1≤r.length∧r.length≤90∧∀ c∈r,0≤c∧c < p)∧H cb=some (.tup (cs.map V.ref))∧zaB H cs lx∧1≤lx.length∧lx.length≤50∧(∀ r∈lx,1≤r.length∧r.length≤90∧∀ c∈r,0≤c∧c < p)∧5≤p∧p≤97 ∧
 ∀ (l:Addr) (us:List Addr) (lh:List (List Int)) (W V':Nat) (H':Hp),H l=none→zC H H'→H' l=some (.tup (us.map V.ref))→zaB H' us lh→lh.length=rows.length+lx.length - 1→(∀ r∈rows,r.length≤W)→(∀ r∈lx,r.length≤V')→(∃ r∈rows,r.length=W)→(∃ r∈lx,r.length=V')→(∀ r∈lh,r.length=W+V' - 1∧∀ c∈r,0≤c∧c < p)→(∀ j x,Cg p (gl (lh.getD j []) x) (cv2 (rwF rows) (rwF lx) j x))→Q (.ref l) H'
theorem z7:FnScope ["p","one","other","wide","lines","j","line","t","second","i","number"] ["p","one","other"] (zh zap):=#[S]
theorem zfS {fd:FuncData} (T:Txt K mg t) (F:Fun K "_law_product" "_law_product" zap t.l_product fd):FnOk P w K mg base CX0 2 t.l_product fd ["p","one","other"] (zfR K):=by
 obtain⟨nV,md,me⟩:=T.f_l_times;have nr:=zem (P:=P) (w:=w) (base:=base) T md;refine F.ok z7 (fun vs H Q E h=>?_) (fun lM A outer s H vs Q E hr h=>?_)
 ·obtain⟨p,ca,cb,bs,cs,rows,lx,rfl,_⟩:=h;rfl
 ·obtain⟨p,ca,cb,bs,cs,rows,lx,rfl,pP,hb,n1,hn,uL,vP,tz,m1,hm,vQ,p5,qb,q⟩:=h;apply zbo; intro zX;refine⟨_,#[zf,#[zo,3,z7.nd,(fv rfl),#[zg,#[za6],#[zg,#[zv],#[zt,#[zbE],T.max_,gB,#[ya,#[zN,(CompSc.of (N':=["line"]) (ix:=[none]) (zh zap) ["p","one","other","wide","lines","j","line","t","second","i","number"] rfl rfl #[N]),#[zS],#[zdf,#[pvx,1]],(fun _ _ _ _=>#[zi,0,(show (["line"]:List Str).Nodup from #[N]),#[A]]),(fun _ _ _ _=>#[zw]),(fun _ _ _ _=>#[zt,#[zar,(K)],T.len_,ck,#[ya,#[pvx,0]]])]]],#[zt,#[zbE],T.max_,gB,#[ya,#[zN,(CompSc.of (N':=["line"]) (ix:=[none]) (zh zap) ["p","one","other","wide","lines","j","line","t","second","i","number"] rfl rfl #[N]),#[zS],#[zdf,#[pvx,2]],(fun _ _ _ _=>#[zi,0,(show (["line"]:List Str).Nodup from #[N]),#[A]]),(fun _ _ _ _=>#[zw]),(fun _ _ _ _=>#[zt,#[zar,(K)],T.len_,ck,#[ya,#[pvx,0]]])]]]],#[ze]]],#[zf,#[zdY,4,z7.nd,#[A],(CompSc.of (N':=["j","wide"]) (ix:=[none,some 3]) (zh zap) ["p","one","other","wide","lines","j","line","t","second","i","number"] rfl rfl #[N]),#[zS],#[zac,T.range_,#[ya,#[zg,#[za6],#[zg,#[zv],#[zt,#[zA],T.len_,ck,#[ya,#[pvx,1]]],#[zt,#[zA],T.len_,ck,#[ya,#[pvx,2]]]],#[ze]]]],(fun _ _ _ _=>#[zi,0,(show (["j","wide"]:List Str).Nodup from #[N]),#[A]]),(fun _ _ _ _=>#[zw]),(fun _ _ _ _=>#[zg,#[zcG],#[zaE,#[ya,#[ze]]],#[pvx,1]])],#[zf,#[zal,bn,#[zb6,T.enumerate_,#[ya,#[pvx,1]]],#[zbJ,#[zm,#[zi,5,z7.nd,#[A]],#[zm,#[zi,6,z7.nd,#[A]],#[zae]]]],#[zj,#[zal,bn,#[zb6,T.enumerate_,#[ya,#[pvx,2]]],#[zbJ,#[zm,#[zi,7,z7.nd,#[A]],#[zm,#[zi,8,z7.nd,#[A]],#[zae]]]],#[zj,#[zal,bn,#[zcR,T.enumerate_,#[ya,#[zk,nr,(hr.mono #[D]),T.m_l_times,md.kp,me,#[zK],#[za,#[pvx,0],#[za,#[zG,#[zaP],T.list_,gL,#[ya,#[pvx,6]]],#[ya,#[zG,#[zaP],T.list_,gL,#[ya,#[pvx,8]]]]]]]]],#[zbJ,#[zm,#[zi,9,z7.nd,#[A]],#[zm,#[zi,10,z7.nd,#[A]],#[zae]]]],#[zj,#[zbK,#[zg,#[zy],#[zg,#[zv],#[zJ,#[zn],#[zJ,#[zn],#[pvx,4],#[zg,#[zv],#[pvx,5],#[pvx,7]]],#[pvx,9]],#[pvx,10]],#[pvx,0]],#[zcF,#[zJ,#[zn],#[pvx,4],#[zg,#[zv],#[pvx,5],#[pvx,7]]],#[pvx,9],set_list]]]]]]]],#[zj,#[zQ,#[zG,#[z8],T.tuple_,c9,#[ya,#[zN,(CompSc.of (N':=["line"]) (ix:=[none]) (zh zap) ["p","one","other","wide","lines","j","line","t","second","i","number"] rfl rfl #[N]),#[zS],#[zaf,#[pvx,4]],(fun _ _ _ _=>#[zi,0,(show (["line"]:List Str).Nodup from #[N]),#[A]]),(fun _ _ _ _=>#[zw]),(fun _ _ _ _=>#[zG,(zax (K:=K) rfl),T.tuple_,c9,#[ya,#[pvx,0]]])]]]]]]]],?_⟩;apply zlh; intro uK qR pO;have og:=bm;have pN:=hb.length;have sR:=tz.length;refine⟨_,rfl,ca,rfl,⟨_,kZ.of pP⟩,zbe (K:=K) (xs:=bs.map V.ref) (fs:=(zF rows).map V.int) (kZ.of pP) (by unfold zF; rw [ab,ab,ab]; lia) (by rw [ab]; lia) ?_ ?_⟩
  ·intro j x y R B hx hy hR;obtain⟨b,rfl,x6⟩:=zH hx;obtain⟨r,lH,mC⟩:=Paired.get hb x6;have qH:y = .int (r.length:Int):=by
    unfold zF at hy;rw [af,af,lH] at hy;exact (bf hy).symm
   subst qH;refine gY ⟨_,rfl,b,_,rfl,.inr (kZ.of mC),?_⟩;rw [ab];exact hR
  intro D hD;have u1:=zb (o:=.lst ((zF rows).map V.int)) hD;refine⟨D,zF rows,rfl,kT.of zc,ziw #[O],fun M_D su tW=>?_⟩;obtain⟨W,rfl,hW,rH,W1,W90⟩:=zgM su tW (fun r hr=>⟨(uL r hr).1,(uL r hr).2.1⟩);generalize kX H D (.lst ((zF rows).map V.int))=H1 at u1 ⊢;have ye:=u1 _ _ vP;have Ct:=tz.same u1;refine⟨_,rfl,cb,rfl,⟨_,kZ.of ye⟩,zbe (K:=K) (xs:=cs.map V.ref) (fs:=(zF lx).map V.int) (kZ.of ye) (by unfold zF; rw [ab,ab,ab]; lia) (by rw [ab]; lia) ?_ ?_⟩
  ·intro j x y R B hx hy hR;obtain⟨b,rfl,x6⟩:=zH hx;obtain⟨r,lH,mC⟩:=Paired.get Ct x6;have qH:y = .int (r.length:Int):=by
    unfold zF at hy;rw [af,af,lH] at hy;exact (bf hy).symm
   subst qH;refine gY ⟨_,rfl,b,_,rfl,.inr (kZ.of mC),?_⟩;rw [ab];exact hR
  intro D2 qV;have u2:=zb (o:=.lst ((zF lx).map V.int)) qV;refine⟨D2,zF lx,rfl,kT.of zc,ziw #[O],fun M_D2 Cu Cv=>?_⟩;obtain⟨V',rfl,hV,Cw,V1,V90⟩:=zgM Cu Cv (fun r hr=>⟨(vQ r hr).1,(vQ r hr).2.1⟩);generalize kX H1 D2 (.lst ((zF lx).map V.int))=H1' at u2 ⊢;have u3:=u1.trans u2;have Ci:((W:Int)+(V':Int) - 1)=((W+V' - 1:Nat):Int):=by lia
  refine⟨_,_,rfl,rfl,_,_,rfl,rfl,?_⟩;show zaK 3 (.int ((W:Int)+(V':Int) - 1)) _ _ _;rw [Ci];obtain⟨Wd,x8⟩:∃ Wd,W+V' - 1=Wd:=⟨_,rfl⟩;rw [x8];obtain⟨N,hN⟩:∃ N,rows.length+lx.length - 1=N:=⟨_,rfl⟩;have eN:((((bs.map V.ref).length:Nat):Int)+(((cs.map V.ref).length:Nat):Int) - 1)=((N:Nat):Int):=by rw [ab,ab,pN,sR]; lia
  refine⟨_,rfl,ca,_,rfl,.inr (kZ.of (u3 _ _ pP)),_,rfl,cb,_,rfl,.inr (kZ.of (u3 _ _ vP)),_,_,rfl,rfl,_,_,rfl,rfl,_,rfl,by rw [eN]; lia,by rw [eN]; lia,?_⟩;show cGo _ _ _ _ (Itr 0 ((((bs.map V.ref).length:Nat):Int)+(((cs.map V.ref).length:Nat):Int) - 1).toNat) _ _;rw [eN];refine zV (n:=N) (fun m ys H'=>zC H1' H'∧∃ ls:List Addr,ys=ls.map V.ref∧LsA H' ls (ar m (ar Wd (0:Int)))∧ls.Nodup∧∀ b∈ls,H b=none) ⟨fun _ _ e=>e,[],rfl,.nil,gA,fun b hb=>by cases hb⟩ (fun m ys H' hm _=>by show m < ((N:Nat):Int).toNat; lia) (fun ys H' _=>by show ((N:Nat):Int).toNat≤N; lia) ?_ ?_
  ·rintro m x ys H2 H3 hm ⟨s2,ls,rfl,lD,nd,fr⟩ ⟨rfl,rfl⟩;have hz:ls.length=m:=by rw [aV lD,aR]
   refine⟨by show 1≤sizeLine; lia,fun z hz=>⟨_,rfl,z,_,[.int 0],rfl,rfl,zc,#[O],#[O],by show 1*(Wd:Int).toNat≤sizeLine; lia,fun y hy=>?_⟩⟩;rw [show (Wd:Int).toNat=Wd by lia,bT];have v1:=(zb (o:=.lst [.int 0]) hz).trans (zb (o:=.lst (ar Wd (V.int 0))) hy);have x9:H3 y=none:=(zb (o:=.lst [.int 0]) hz).free hy;refine⟨by rw [ab]; lia,s2.trans v1,ls++[y],#[M],?_,?_,?_⟩
   ·rw [ji];exact bV (lD.same v1) (by rw [zc,cV])
   ·exact de.mpr ⟨nd,#[M],fun a ha b hb e=>by
     obtain rfl:=aN.mp hb;subst e;exact zd7 lD x9 ha⟩
   ·intro b hb;rcases (aP.mp hb) with hb | hb
    ·exact fr b hb
    ·(rw [aN.mp hb])
     exact (u3.trans s2).free x9
  rintro ys H2 L ⟨s2,ls,rfl,lD,nd,fr⟩ hL;have qP:ls.length=N:=by rw [aV lD,aR]
  have v2:=zb (o:=.lst (ls.map V.ref)) hL;have qc:Lin H (kX H2 L (.lst (ls.map V.ref))) L ls (ar N (ar Wd (0:Int))):=⟨(u3.trans s2).trans v2,zc,lD.same v2,nd,zd7 lD hL,fr⟩;generalize kX H2 L (.lst (ls.map V.ref))=H3 at qc ⊢;have Cj:Gd p N Wd (ar N (ar Wd (0:Int))) (pw W (rwF rows) (rwF lx) lx.length 0 0):=⟨aR,fun r hr=>by
    rw [cH hr];exact⟨aR,fun c hc=>by rw [cH hc]; lia⟩,fun j x hj hx=>by
    rw [zlU,am,bQ,if_pos hj];exact Cg.of_eq (zaS (by rw [dM,bQ,if_pos hx]))⟩
  refine⟨_,rfl,ca,_,rfl,kZ.of (qc.s _ _ pP),zbq (n:=rows.length) (fun j σ H'=>∃ (vv:List (List Int)) (e5 e6 e7 e8 e9 ea:Option V),σ = [some (.int p),some (.ref ca),some (.ref cb),some (.int (Wd:Int)),some (.ref L),e5,e6,e7,e8,e9,ea]∧Lin H H' L ls vv∧Gd p N Wd vv (pw W (rwF rows) (rwF lx) lx.length j 0))
   ⟨_,none,none,none,none,none,none,rfl,qc,Cj⟩ ?_ ?_ ?_ ?_⟩
  ·rintro i σ H4 hi ⟨vv,e5,e6,e7,e8,e9,ea,rfl,mU,pk⟩;exact⟨_,.ref (bs[i]'#[O]),kZ.of (mU.s _ _ pP),by rw [af,ai #[O]]; rfl⟩
  ·rintro σ H4 ⟨vv,e5,e6,e7,e8,e9,ea,rfl,mU,pk⟩;exact⟨_,kZ.of (mU.s _ _ pP),by rw [ab]; lia⟩
  ·rintro zD zT j x σ H4 H5 hj ⟨vv,e5,e6,e7,e8,e9,ea,rfl,mU,pk⟩ ⟨T1,v,Ck,rfl,rfl,hv⟩;obtain⟨lb,rfl,wN⟩:=zH (hv _ (kZ.of (mU.s _ _ pP)));obtain⟨r,lH,mC⟩:=Paired.get hb wN;obtain⟨r1,r90,sk⟩:=uL r (aA lH);have hrW:=hW r (aA lH);have er:rows.getD j []=r:=by rw [am,lH]; rfl
   have tX:=mU.same (zb (o:=.tup [.int (j:Int),.ref lb]) Ck);refine⟨T1,_,rfl,kZ.of zc,rfl,_,_,rfl,_,_,rfl,rfl,?_⟩;generalize kX H4 T1 (.tup [.int (j:Int),.ref lb])=H5 at tX ⊢;refine⟨_,rfl,cb,_,rfl,kZ.of (tX.s _ _ vP),zbq (n:=lx.length) (fun t σ H'=>∃ (vv:List (List Int)) (e7 e8 e9 ea:Option V),σ = [some (.int p),some (.ref ca),some (.ref cb),some (.int (Wd:Int)),some (.ref L),some (.int (j:Int)),some (.ref lb),e7,e8,e9,ea]∧Lin H H' L ls vv∧Gd p N Wd vv (pw W (rwF rows) (rwF lx) lx.length j t))
    ⟨vv,_,_,_,_,rfl,tX,pk⟩ ?_ ?_ ?_ ?_⟩
   ·rintro i σ H6 hi ⟨sv,e7,e8,e9,ea,rfl,nW,qT⟩;exact⟨_,.ref (cs[i]'#[O]),kZ.of (nW.s _ _ vP),by rw [af,ai #[O]]; rfl⟩
   ·rintro σ H6 ⟨sv,e7,e8,e9,ea,rfl,nW,qT⟩;exact⟨_,kZ.of (nW.s _ _ vP),by rw [ab]; lia⟩
   ·rintro Cm Cn t x σ H6 H7 ht ⟨sv,e7,e8,e9,ea,rfl,nW,qT⟩ ⟨T2,v2,tT,rfl,rfl,yb⟩;obtain⟨lc,rfl,hlc⟩:=zH (yb _ (kZ.of (nW.s _ _ vP)));obtain⟨s,lX,Cy⟩:=Paired.get tz hlc;obtain⟨s1,Aw,hss⟩:=vQ s (aA lX);have hsV:=hV s (aA lX);have es:lx.getD t []=s:=by rw [am,lX]; rfl
    have qU:=nW.same (zb (o:=.tup [.int (t:Int),.ref lc]) tT);refine⟨T2,_,rfl,kZ.of zc,rfl,_,_,rfl,_,_,rfl,rfl,?_⟩;generalize kX H6 T2 (.tup [.int (t:Int),.ref lc])=H7 at qU ⊢;refine⟨_,rfl,_,rfl,lb,_,rfl,.inr (kZ.of (qU.s _ _ mC)),fun x1 tf=>?_⟩;have w1:=zb (o:=.lst (r.map V.int)) tf;refine⟨_,rfl,lc,_,rfl,.inr (kZ.of ((qU.same w1).s _ _ Cy)),fun x2 tJ=>?_⟩;have w2:=zb (o:=.lst (s.map V.int)) tJ;refine⟨p,x1,x2,r,s,rfl,w2 _ _ zc,zc,#[O],#[O],#[O],#[O],p5,qb,sk,fun ra rs H8 Co w3 yd o3 Cp rG=>?_⟩;have Av:=((qU.same w1).same w2).same w3;have vN:ra∉ls:=zd7 ((qU.same w1).same w2).a Co;have sx:∀ x,Cg p (gl rs x) (mq 0 W (rwF rows j) (rwF lx t) x):=fun x=>by
     show Cg p _ (mq 0 W (gl (rows.getD j [])) (gl (lx.getD t [])) x);rw [er,es,znc (zgL r) (zgL s) #[O] W hrW];exact rG x
    refine⟨ra,_,rfl,kT.of yd,zbq (n:=rs.length) (fun i σ H'=>∃ (vv:List (List Int)) (e9 ea:Option V),σ = [some (.int p),some (.ref ca),some (.ref cb),some (.int (Wd:Int)),some (.ref L),some (.int (j:Int)),some (.ref lb),some (.int (t:Int)),some (.ref lc),e9,ea]∧H' ra=some (.lst (rs.map V.int))∧Lin H H' L ls vv∧Gd p N Wd vv (fun a x=>pw W (rwF rows) (rwF lx) lx.length j t a x+if a=j+t∧x < i then gl rs x else 0))
     ⟨sv,_,_,rfl,yd,Av,qT.eq fun a x _ _=>Cg.of_eq (by rw [if_neg (show ¬ (a=j+t∧x < 0) by lia),bI])⟩ ?_ ?_ ?_ ?_⟩
    ·rintro i σ H9 hi ⟨sy,e9,ea,rfl,qd,qD,qe⟩;exact⟨_,.int (rs[i]'(hi)),kT.of qd,by rw [af,ai hi]; rfl⟩
    ·rintro σ H9 ⟨sy,e9,ea,rfl,qd,qD,qe⟩;exact⟨_,kT.of qd,by rw [ab]; exact ah _⟩
    ·rintro zD3 zT3 i x σ H9 Ha hi ⟨sy,e9,ea,rfl,qd,qD,qe⟩ ⟨T3,v3,hT3,rfl,rfl,hv3⟩;obtain⟨y,rfl,hy⟩:=zag (hv3 _ (kT.of qd));have yc:gl rs i=y:=zaS hy;have wT:=zb (o:=.tup [.int (i:Int),.int y]) hT3;have sC:=qD.same wT;have vM:=wT _ _ qd;refine⟨T3,_,rfl,kZ.of zc,rfl,_,_,rfl,_,_,rfl,rfl,?_⟩;generalize kX H9 T3 (.tup [.int (i:Int),.int y])=Ha at wT sC vM ⊢;obtain⟨b,nN⟩:∃ b,ls[j+t]? = some b:=⟨ls[j+t]'#[O],ai #[O]⟩;have vO:ra≠b:=fun e=>vN (by rw [e]; exact aA nN)
     obtain⟨row,nq,hB⟩:=Paired.get sC.a nN;have tu:sy.getD (j+t) []=row:=by rw [am,nq]; rfl
     have Cq:=(qe.gw row (aA nq)).1;have uM:i < row.length:=by lia
     have pq:atI (ls.map V.ref) ((j:Int)+(t:Int))=some (.ref b):=zaO (j:=j+t) (by rw [af,nN]; rfl);refine⟨_,rfl,_,rfl,_,rfl,_,_,rfl,rfl,L,_,_,_,rfl,rfl,kT.of sC.l,pq,_,rfl,b,_,_,_,rfl,rfl,kT.of hB,ze8 uM,_,rfl,_,_,rfl,rfl,_,rfl,_,_,rfl,rfl,#[O],?_⟩;refine⟨_,rfl,_,rfl,_,rfl,_,_,rfl,rfl,L,_,_,_,rfl,rfl,kT.of sC.l,pq,_,rfl,b,_,_,i,rfl,rfl,hB,zdD (by rw [ab]; exact uM),?_⟩;have e1:(row.map V.int).set i (.int ((gl row i+y) % p))=(row.set i ((gl row i+y) % p)).map V.int:=by rw [eO]
     rw [e1];have hc:=qe.gc (j+t) i #[O] #[O];rw [tu,if_neg (show ¬ (j+t=j+t∧i < i) by lia),bI] at hc;have hs:=qe.set (G':=fun a x=>pw W (rwF rows) (rwF lx) lx.length j t a x+if a=j+t∧x < i+1 then gl rs x else 0) (j0:=j+t) (i0:=i) (v:=(gl row i+y) % p) #[O] #[O] (aQ _ #[O]) (aB _ #[O]) (by
      rw [if_pos (show j+t=j+t∧i < i+1 by lia),yc];exact (Cg.emod p _).trans (hc.add (Cg.refl p y))) (fun a x wA=>by
      by_cases h1:a=j+t∧x < i
      ·rw [if_pos h1,if_pos (show a=j+t∧x < i+1 by lia)]
      ·rw [if_neg h1,if_neg (show ¬ (a=j+t∧x < i+1) by lia)])
     rw [tu] at hs;exact⟨_,_,_,rfl,by rw [zl vO]; exact vM,sC.set nN,hs⟩
    ·rintro σ H9 ⟨sy,e9,ea,rfl,qd,qD,qe⟩;refine⟨sy,_,_,_,_,rfl,qD,qe.eq fun a x _ _=>?_⟩;rw [zlW];refine (Cg.refl p _).add ?_;by_cases h1:a=j+t
     ·rw [if_pos h1];by_cases h2:x < rs.length
      ·rw [if_pos ⟨h1,h2⟩];exact sx x
      ·rw [if_neg (fun z=>h2 z.2)];have:=sx x;rw [zaw (w:=rs) #[O]] at this;exact this
     ·rw [if_neg h1,if_neg (fun z=>h1 z.1)];exact Cg.refl _ _
   ·rintro σ H6 ⟨sv,e7,e8,e9,ea,rfl,nW,qT⟩;exact⟨sv,_,_,_,_,_,_,rfl,nW,qT.eq fun a x _ _=>Cg.of_eq (zlV _ _ _ _ _ _ _)⟩
  ·rintro σ H4 ⟨vv,e5,e6,e7,e8,e9,ea,rfl,mU,pk⟩;have y8:=pk.gn;have Cr:=aV mU.a;refine⟨_,rfl,L,rfl,⟨_,kT.of mU.l⟩,zV (n:=N) (fun m ys H'=>zC H4 H'∧∃ us:List Addr,ys=us.map V.ref∧zaB H' us (vv.take m)) ⟨fun _ _ e=>e,[],rfl,.nil⟩ ?_ ?_ ?_ ?_⟩
   ·rintro m ys H7 hm ⟨s7,_⟩;exact⟨_,.ref (ls[m]'#[O]),kT.of (s7 _ _ mU.l),by rw [af,ai #[O]]; rfl⟩
   ·rintro ys H7 ⟨s7,_⟩;exact⟨_,kT.of (s7 _ _ mU.l),by rw [ab]; lia⟩
   ·rintro m z ys H7 H8 hm ⟨s7,us,rfl,lu⟩ ⟨rfl,hx⟩;obtain⟨b,rfl,pv⟩:=zH (hx _ (kT.of (s7 _ _ mU.l)));obtain⟨r,hr,oP⟩:=Paired.get mU.a pv;have hz:us.length=m:=by rw [aV lu,aU]; lia
    refine gY ?_;refine⟨_,rfl,b,_,rfl,.inl ⟨kT.of (s7 _ _ oP),fun D hD=>⟨by rw [ab]; lia,s7.trans (zb hD),us++[D],#[M],?_⟩⟩⟩;rw [take_snoc hr];exact bV (lu.same (zb hD)) zc
   ·rintro ys H7 D ⟨s7,us,rfl,lu⟩ hD;rw [aT #[O]] at lu;refine⟨D,_,rfl,.inl ⟨kT.of zc,fun l hl=>?_⟩⟩;have sf:=(mU.s.trans s7).trans (zb (o:=.lst (us.map V.ref)) hD);refine q l us vv W V' _ (sf.free hl) (sf.trans (zb hl)) zc ((lu.same (zb hD)).same (zb hl)) #[O] hW hV rH Cw (by rw [x8]; exact pk.gw) fun j x=>?_
    have he:=znb (zep hW) (fun t ht=>zaY (rows:=rows) ht) (fun t ht=>zaY (rows:=lx) ht) j x;by_cases hj:j < N
    ·by_cases hx:x < Wd
     ·exact (pk.gc j x hj hx).trans (Cg.of_eq he)
     ·rw [zaw (by rw [(pk.gw _ (getD_mem #[O])).1]; lia)];refine Cg.of_eq (zkQ (zep hW) (zep hV) #[O]).symm
    ·rw [zbH #[O]];exact Cg.of_eq (zkR (fun t ht=>zaY (rows:=rows) ht) (fun t ht=>zaY (rows:=lx) ht) #[O]).symm
end
section
variable {P:Program} {w:World} {K:ag} {mg:Str→Option Value} {base:Heap} {t:Adr}
def zgN (K:ag):Sp:=fun vs H Q _=>∃ (a:Addr) (bs:List Addr) (rows:List (List Int)),vs = [.ref a]∧(kT K H a (bs.map V.ref)∨kZ K H a (bs.map V.ref))∧RwA H bs rows∧rows.length≤1000 ∧
 ∀ H',zC H H'→Q (.int (wd rows)) H'
theorem zgO:FnScope ["curve"] ["curve"] (zh zbm):=#[S]
theorem zdx {fd:FuncData} (T:Txt K mg t) (F:Fun K "width_of" "width_of" zbm t.width_of fd):FnOk P w K mg base CX0 1 t.width_of fd ["curve"] (zgN K):=by
 refine F.ok zgO (fun vs H Q E h=>?_) (fun lM A outer s H vs Q E hr h=>?_)
 ·obtain⟨a,bs,rows,rfl,_⟩:=h;rfl
 ·obtain⟨a,bs,rows,rfl,ha,hb,hn,q⟩:=h;refine zbo ?_; intro zX;refine⟨_,#[zj,#[zQ,#[zhe,true,gB,T.max_,#[ze],#[zN,(CompSc.of (N':=["line"]) (ix:=[none]) (zh zbm) ["curve"] rfl rfl #[N]),#[zS],#[zjR,#[pvx,0]],(fun _ _ _ _=>#[zi,0,(show (["line"]:List Str).Nodup from #[N]),#[A]]),(fun _ _ _ _=>#[zw]),(fun _ _ _ _=>#[zt,#[zar,(K)],T.len_,ck,#[ya,#[pvx,0]]])]]]],?_⟩;have kY:=aV hb;have el:∀ (i:Nat) (x y:V),(bs.map V.ref)[i]? = some x→((zF rows).map V.int)[i]? = some y→∃ (b:Addr) (r:List Int),x = .ref b∧y = .int r.length∧(H b=some (.lst (r.map V.int))∨H b=some (.tup (r.map V.int))):=by
   intro i x y hx hy;obtain⟨b,rfl,vR⟩:=zH hx;unfold zF at hy;rw [af,af] at hy;cases e:rows[i]? with
   | none=>rw [e] at hy; simp at hy
   | some r =>
    rw [e] at hy;obtain⟨v,hv,hr⟩:=Paired.get hb vR;rw [e] at hv;cases hv;exact⟨b,r,rfl,by simpa using hy.symm,hr⟩
  have fin:∀ D,H D=none→∃ (p:Addr) (ns:List Int),V.ref D = .ref p∧kT K (kX H D (.lst ((zF rows).map V.int))) p (ns.map V.int)∧∀ M:Int,(ns = []→M=0)→(ns≠[]→M∈ns∧∀ a∈ns,if true=true then a≤M else M≤a)→Q (.int M) (kX H D (.lst ((zF rows).map V.int))):=fun D hD =>
   ⟨D,_,rfl,kT.of zc,fun M h0 h1=>by rw [znO h0 h1]; exact q _ (zb hD)⟩
  rcases ha with ha | ha
  ·refine⟨_,rfl,a,rfl,.inl ⟨⟨_,ha⟩,zbC (fs:=(zF rows).map V.int) ha (by simp [kY,zd8]) (by simp; lia) (fun i x y R B hx hy hR=>?_) fin⟩⟩;obtain⟨b,r,rfl,rfl,hr⟩:=el i x y hx hy;exact⟨_,rfl,b,_,rfl,hr.imp kT.of kZ.of,by rw [ab]; exact hR⟩
  ·refine⟨_,rfl,a,rfl,.inr ⟨⟨_,ha⟩,zbe (fs:=(zF rows).map V.int) ha (by simp [kY,zd8]) (by simp; lia) (fun i x y R B hx hy hR=>?_) fin⟩⟩;obtain⟨b,r,rfl,rfl,hr⟩:=el i x y hx hy;exact⟨_,rfl,b,_,rfl,hr.imp kT.of kZ.of,by rw [ab]; exact hR⟩
def zjn (K:ag):Sp:=fun vs H Q _=>∃ (p b:Int) (a:Addr) (bs:List Addr) (n w:Nat) (c:Nat→Nat→Int),vs = [.int p,.ref a,.int b]∧H a=some (.lst (bs.map V.ref))∧LsA H bs (zu n w c)∧n≤1000∧w≤1000∧5≤p∧p≤97∧0≤b∧b < p∧(∀ j i,j < n→i < w→0≤c j i∧c j i < p) ∧
 ∀ (l:Addr) (ls:List Addr) (H':Hp),H l=none→zC H H'→H' l=some (.lst (ls.map V.ref))→LsA H' ls (zu n w fun j i=>sh b n (fun t=>c t i) j % p)→Q (.ref l) H'
theorem zao (n w:Nat) (g:Nat→Nat→Int):(zu n w g).length=n:=by unfold zu; rw [ab,aW]
theorem zcv:FnScope ["p","lines","by","first","at"] ["p","lines","by"] (zh zcg):=#[S]
theorem ze9 {fd:FuncData} (T:Txt K mg t) (F:Fun K "raised" "raised" zcg t.raised fd):FnOk P w K mg base CX0 1 t.raised fd ["p","lines","by"] (zjn K):=by
 refine F.ok zcv (fun vs H Q E h=>?_) (fun lM A outer s H vs Q E hr h=>?_)
 ·obtain⟨p,b,a,bs,n,w',c,rfl,_⟩:=h;rfl
 ·obtain⟨p,b,a,bs,n,wi,c,rfl,ha,hb,hn,hw,p5,qb,b0,b1,hc,q⟩:=h;refine zbo ?_; intro zX;refine⟨_,#[zf,#[zo,1,zcv.nd,#[A],#[zG,#[zaP],T.list_,gL,#[ya,#[pvx,1]]]],#[zf,#[zal,bn,#[zac,T.range_,#[ya,#[zt,#[zA],T.len_,ck,#[ya,#[pvx,1]]]]],#[zi,3,zcv.nd,#[A]],#[zj,#[zal,bn,(@zlN _ _ _ _ _ _ rfl T.reversed_ #[ya,#[zG,(@zgy _),T.range_,i8,#[za,#[pvx,3],#[ya,#[zg,#[za6],#[zt,#[zA],T.len_,ck,#[ya,#[pvx,1]]],#[ze]]]]]] (by rfl)),#[zi,4,zcv.nd,#[A]],#[zj,#[zbK,#[zN,(CompSc.of (N':=["low","high","by","p"]) (ix:=[none,none,some 2,some 0]) (zh zcg) ["p","lines","by","first","at"] rfl rfl #[N]),#[zdh,#[zaq,#[zaq,#[zck]]]],(@zlj _ _ _ _ _ _ _ _ _ rfl T.zip_ #[za,#[zJ,#[zn],#[pvx,1],#[pvx,4]],#[ya,#[zJ,#[zn],#[pvx,1],#[zg,#[zv],#[pvx,4],#[ze]]]]] (by rfl) (by rfl)),(fun _ _ _ _=>#[zbc,(K),2,#[zm,#[zi,0,(show (["low","high","by","p"]:List Str).Nodup from #[N]),#[A]],#[zm,#[zi,1,(show (["low","high","by","p"]:List Str).Nodup from #[N]),#[A]],#[zae]]]]),(fun _ _ _ _=>#[zw]),(fun _ _ _ _=>#[zg,#[zy],#[zg,#[zv],#[pvx,0],#[zg,#[zam],#[pvx,2],#[pvx,1]]],#[pvx,3]])],#[zcF,#[pvx,1],#[pvx,4],set_list]]]]]],#[zj,#[zQ,#[pvx,1]]]]],?_⟩;refine zjK ?_; intro qR pO;have og:=bm;have hz:∀ {H':Hp} {ls:List Addr} {g:Nat→Nat→Int},LsA H' ls (zu n wi g)→((ls.map V.ref).length:Int)=(n:Int):=fun h=>by rw [ab,aV h,zao]
  refine⟨_,rfl,a,_,rfl,.inl (kT.of ha),fun l hl=>?_⟩;refine⟨_,rfl,l,_,rfl,.inl (kT.of zc),_,rfl,?_⟩;rw [hz hb];refine⟨#[O],#[O],zav (lo:=0) (n:=(n:Int).toNat) (fun f σ H'=>∃ (ls:List Addr) (e3 e4:Option V),σ = [some (.int p),some (.ref l),some (.int b),e3,e4]∧zC H H'∧H' l=some (.lst (ls.map V.ref))∧LsA H' ls (zu n wi (rst p b n c f 0))) ⟨bs,none,none,rfl,zb hl,zc,?_⟩ ?_ ?_⟩
  ·rw [zaM (g':=c) fun j i hj hi=>by rw [zi6 hj]; exact fN (hc j i hj hi).1 (hc j i hj hi).2];exact hb.same (zb hl)
  ·rintro zD zT f σ H1 hf ⟨ls,e3,e4,rfl,s1,sE,lD⟩;have hf:f < n:=by lia
   refine⟨_,rfl,_,rfl,l,_,rfl,.inl (kT.of sE),_,_,rfl,rfl,?_⟩;rw [hz lD];refine⟨0+(f:Int),(n:Int) - 1,rfl,fun r hr=>⟨r,0+(f:Int),(n:Int) - 1,rfl,zc,⟨#[O],#[O],#[O],#[O]⟩,?_⟩⟩;have e0:(0+(f:Int))+((((n:Int) - 1 - (0+(f:Int))).toNat:Nat):Int) - 1=(n:Int) - 2:=by lia
   have e1:((n:Int) - 1 - (0+(f:Int))).toNat=n - 1 - f:=by lia
   rw [e0,e1];have rl:r≠l:=(zI sE hr).symm;refine zg9 (hi:=(n:Int) - 2) (n:=n - 1 - f) (fun idx σ H'=>∃ (ls:List Addr) (e4:Option V),σ = [some (.int p),some (.ref l),some (.int b),some (.int (0+(f:Int))),e4]∧zC H H'∧H' l=some (.lst (ls.map V.ref))∧LsA H' ls (zu n wi (rst p b n c f idx))) ⟨ls,e4,rfl,s1.trans (zb hr),by rw [zl rl.symm]; exact sE,lD.same (zb hr)⟩ ?_ ?_
   ·rintro idx σ H2 hi ⟨ls,e4,rfl,s2,vS,lD⟩;have kY:ls.length=n:=by rw [aV lD,zao]
    obtain⟨b1',nN⟩:∃ b',ls[n - 2 - idx]? = some b':=⟨ls[n - 2 - idx]'#[O],#[M]⟩;obtain⟨b2',rD⟩:∃ b',ls[n - 2 - idx+1]? = some b':=⟨ls[n - 2 - idx+1]'#[O],#[M]⟩;obtain⟨v1,g1,h1⟩:=Paired.get lD nN;obtain⟨v2,g2,h2⟩:=Paired.get lD rD;rw [zaa #[O]] at g1 g2;cases g1;cases g2;have at1:atI (ls.map V.ref) ((n:Int) - 2 - (idx:Int))=some (.ref b1'):=by
     have e:(n:Int) - 2 - (idx:Int)=((n - 2 - idx:Nat):Int):=by lia
     rw [e]; exact zaO (by rw [af,nN]; rfl)
    have at2:atI (ls.map V.ref) ((n:Int) - 2 - (idx:Int)+1)=some (.ref b2'):=by
     have e:(n:Int) - 2 - (idx:Int)+1=((n - 2 - idx+1:Nat):Int):=by lia
     rw [e]; exact zaO (by rw [af,rD]; rfl)
    refine⟨_,rfl,_,rfl,l,_,_,_,rfl,rfl,kT.of vS,at1,_,rfl,_,rfl,_,_,rfl,rfl,l,_,_,_,rfl,rfl,kT.of vS,at2,b1',b2',_,_,rfl,kT.of h1,kT.of h2,ziS (n:=wi) (f:=fun x y=>(x+b*y) % p) h1 h2 #[M] #[M] (.inl #[M]) #[O] ?_ ?_⟩
    ·intro j u w H6 T R B hu hv s6 hT hR;refine gY2 (kZ.of zc) ?_;exact⟨_,rfl,_,rfl,_,rfl,_,_,rfl,rfl,.inl ⟨#[O],#[O]⟩,_,_,rfl,rfl,_,rfl,_,_,rfl,rfl,#[O],hR⟩
    ·intro D H6 s6 hD;rw [zi5];have Cz:=s6 _ _ vS;have dl:D≠l:=(zI Cz hD).symm;have hj:ixN (ls.map V.ref).length ((n:Int) - 2 - (idx:Int))=some (n - 2 - idx):=by
      unfold ixN;rw [ab,kY,if_pos #[O],if_pos #[O]];congr 1;lia
     refine⟨_,rfl,_,rfl,l,_,_,_,rfl,rfl,by rw [zl dl.symm]; exact Cz,hj,ls.set (n - 2 - idx) D,_,rfl,?_,?_,?_⟩
     ·exact zaL ((s2.trans s6).trans (zb hD)) hl
     ·rw [zc,eO]
     ·rw [zaM (g':=fun j i=>if j=n - 2 - idx then (rst p b n c f idx (n - 2 - idx) i+b*rst p b n c f idx (n - 2 - idx+1) i) % p else rst p b n c f idx j i) fun j i hj _=>zks hi hj,← zi4];exact LsA.setAt (lD.same (s6.trans (zb hD))) (by rw [zl dl.symm]; exact Cz) zc dl
   ·rintro σ H2 ⟨ls,e4,rfl,s2,vS,lD⟩;rw [zaM (g':=rst p b n c (f+1) 0) fun j i hj _=>zkr hf hj] at lD;exact⟨ls,_,_,rfl,s2,vS,lD⟩
  ·rintro σ H1 ⟨ls,e3,e4,rfl,s1,sE,lD⟩;have e1:(n:Int).toNat=n:=by lia
   rw [e1,zaM (g':=fun j i=>sh b n (fun t=>c t i) j % p) fun j i hj hi=>zkq hj] at lD;exact⟨_,rfl,q l ls _ hl s1 sE lD⟩
def tnd (rows:List (List Int)) (w:Nat):List (List Int):=(aI w).map fun i=>rows.map fun r=>gl r i
theorem zkS (rows:List (List Int)) (w:Nat):tnd rows (w+1)=tnd rows w++[rows.map fun r=>gl r w]:=by
 unfold tnd;rw [ff,aO];rfl
def zjo (K:ag):Sp:=fun vs H Q _=>∃ (a:Addr) (bs:List Addr) (rows:List (List Int)) (w:Nat),vs = [.ref a,.int (w:Int)]∧H a=some (.lst (bs.map V.ref))∧LsA H bs rows∧(∀ r∈rows,w≤r.length)∧rows.length≤1000∧w≤1000 ∧
 ∀ (l:Addr) (ls:List Addr) (H':Hp),H l=none→zC H H'→H' l=some (.lst (ls.map V.ref))→LsA H' ls (tnd rows w)→Q (.ref l) H'
theorem zjp:FnScope ["lines","width"] ["lines","width"] (zh zcf):=#[S]
theorem zjq {fd:FuncData} (T:Txt K mg t) (F:Fun K "turned" "turned" zcf t.turned fd):FnOk P w K mg base CX0 1 t.turned fd ["lines","width"] (zjo K):=by
 refine F.ok zjp (fun vs H Q E h=>?_) (fun lM A outer s H vs Q E hr h=>?_)
 ·obtain⟨a,bs,rows,wi,rfl,_⟩:=h;rfl
 ·obtain⟨a,bs,rows,wi,rfl,ha,hb,hw,hn,hwn,q⟩:=h;refine zbo ?_; intro zX;refine⟨_,#[zj,#[zQ,#[zN,(CompSc.of (N':=["at","lines"]) (ix:=[none,some 0]) (zh zcf) ["lines","width"] rfl rfl #[N]),#[zS],#[zac,T.range_,#[ya,#[pvx,1]]],(fun _ _ _ _=>#[zi,0,(show (["at","lines"]:List Str).Nodup from #[N]),(fv rfl)]),(fun _ _ _ _=>#[zw]),(fun _ _ _ _=>#[zN,(CompSc.of (N':=["line","at"]) (ix:=[none,some 0]) ({ kind:=.function,names:=[(".0",.local),("at",.cell),("lines",.cell)],isGenerator:=false,isCoroutine:=false }) ["at","lines"] (by with_unfolding_all rfl) rfl #[N]),#[zS],#[zgr,(K),#[pvx,1]],(fun _ _ _ _=>#[zi,0,(show (["line","at"]:List Str).Nodup from #[N]),#[A]]),(fun _ _ _ _=>#[zw]),(fun _ _ _ _=>#[zJ,#[zcS,(K)],#[pvx,0],#[pvx,1]])])]]],?_⟩;have og:=bm;have kY:=aV hb;refine⟨_,rfl,(wi:Int),rfl,#[O],#[O],zV (n:=wi) (fun m ys H'=>zC H H'∧∃ ls:List Addr,ys=ls.map V.ref∧LsA H' ls (tnd rows m)) ⟨fun _ _ e=>e,[],rfl,.nil⟩ (fun m ys H' hm _=>by show m < (wi:Int).toNat; lia) (fun ys H' _=>by show (wi:Int).toNat≤wi; lia) ?_ ?_⟩
  ·rintro i x ys H1 H2 hi ⟨s1,ls,rfl,lD⟩ ⟨rfl,rfl⟩;have hz:ls.length=i:=by rw [aV lD]; unfold tnd; rw [ab,aW]
   have vT:=s1 _ _ ha;have h1b:=hb.same s1;refine⟨_,rfl,a,rfl,⟨_,kT.of vT⟩,zbC (fs:=(rows.map fun r:List Int=>gl r i).map V.int) (kT.of vT) (by simp [kY]) (by simp; lia) (fun j x y R B hx hy hR=>?_) (fun D hD=>?_)⟩
   ·obtain⟨b,rfl,vR⟩:=zH hx;obtain⟨r,hr,oP⟩:=Paired.get h1b vR;rw [af,af,hr] at hy;have hy:V.int (gl r i)=y:=by simpa using hy
    subst hy;have hwr:=hw r (aA hr);have mC:atI (r.map V.int) (0+(i:Int))=some (.int (gl r i)):=by
     rw [dv];refine zaO ?_;rw [af,ai #[O],zaS (ai #[O])];rfl
    exact⟨_,rfl,_,rfl,b,_,_,_,rfl,rfl,kT.of oP,mC,hR⟩
   ·refine⟨by rw [ab]; lia,s1.trans (zb hD),ls++[D],#[M],?_⟩;rw [zkS];exact bV (lD.same (zb hD)) zc
  ·rintro ys H1 D ⟨s1,ls,rfl,lD⟩ hD;exact q D ls _ (s1.free hD) (s1.trans (zb hD)) zc (lD.same (zb hD))
theorem znd {H:Hp} {bs:List Addr} {rows:List (List Int)} (h:zaB H bs rows):RwA H bs rows:=fS (fun _ _ z=>.inr z) h
def zjr (p:Int) (w:Nat) (r:List Int):List Int:=r.map (· % p)++ar (w - r.length) 0
theorem zlX {p:Int} {w:Nat} {r:List Int} (h:r.length≤w):zjr p w r=(aI w).map fun i=>gl r i % p:=by
 unfold zjr;refine cO fun i=>?_
 by_cases h1:i < r.length
 ·rw [bG (by rw [ab]; exact h1),af,af,bv #[O],ai h1];show some (r[i] % p)=some (gl r i % p);rw [zaS (ai h1)]
 ·rw [bP (by rw [ab]; lia),ab,af];by_cases h2:i < w
  ·rw [bv h2,bQ,if_pos #[O]];show some (0:Int)=some (gl r i % p);have:gl r i=0:=by unfold gl; rw [fw,cg.mpr #[O]]; rfl
   rw [this,Int.zero_emod]
  ·rw [cg.mpr (by rw [aR]; lia),cg.mpr (by rw [aW]; lia)];rfl
theorem zkT {p:Int} {w:Nat} {rows:List (List Int)} (h:∀ r∈rows,r.length≤w):rows.map (zjr p w)=zu rows.length w fun j i=>gl (rows.getD j []) i % p:=by
 refine cO fun j=>?_
 by_cases hj:j < rows.length
 ·rw [zaa hj,af,ai hj];show some (zjr p w rows[j])=_;rw [zlX (h _ (dm hj))];have:rows.getD j []=rows[j]:=by simp [fw,hj]
  rw [this]
 ·rw [cg.mpr (by rw [ab]; lia),cg.mpr (by rw [zao]; lia)]
def zjs (K:ag):Sp:=fun vs H Q _=>∃ (p:Int) (a:Addr) (bs:List Addr) (rows:List (List Int)),vs = [.int p,.ref a]∧5≤p∧p≤97∧H a=some (.tup (bs.map V.ref))∧zaB H bs rows∧rows.length≤100∧(∀ r∈rows,r.length≤100) ∧
 ∀ (l:Addr) (ls:List Addr) (H':Hp),H l=none→zC H H'→H' l=some (.lst (ls.map V.ref))→LsA H' ls (zu rows.length (wd rows) fun j i=>gl (rows.getD j []) i % p)→Q (.ref l) H'
theorem zfa:FnScope ["p","curve","width"] ["p","curve"] (zh zce):=#[S]
theorem zfb {fd:FuncData} (T:Txt K mg t) (F:Fun K "filled" "filled" zce t.filled fd):FnOk P w K mg base CX0 2 t.filled fd ["p","curve"] (zjs K):=by
 obtain⟨nI,lO,lP⟩:=T.f_width_of;have mV:=zdx (P:=P) (w:=w) (base:=base) T lO;refine F.ok zfa (fun vs H Q E h=>?_) (fun lM A outer s H vs Q E hr h=>?_)
 ·obtain⟨p,a,bs,rows,rfl,_⟩:=h;rfl
 ·obtain⟨p,a,bs,rows,rfl,p5,qb,ha,hb,hn,hw,q⟩:=h;refine zbo ?_; intro zX;refine⟨_,#[zf,#[zo,2,zfa.nd,(fv rfl),#[zk,mV,(hr.mono #[D]),T.m_width_of,lO.kp,lP,#[zK],#[ya,#[pvx,1]]]],#[zj,#[zQ,#[zN,(CompSc.of (N':=["line","p","width"]) (ix:=[none,some 0,some 2]) (zh zce) ["p","curve","width"] rfl rfl #[N]),#[zS],#[zdf,#[pvx,1]],(fun _ _ _ _=>#[zi,0,(show (["line","p","width"]:List Str).Nodup from #[N]),#[A]]),(fun _ _ _ _=>#[zw]),(fun _ _ _ _=>#[zg,#[zfh],#[zN,(CompSc.of (N':=["number","p"]) (ix:=[none,some 1]) ({ kind:=.function,names:=[(".0",.local),("line",.local),("len",.globalImplicit),("p",.cell),("width",.cell)],isGenerator:=false,isCoroutine:=false }) ["line","p","width"] (by with_unfolding_all rfl) rfl #[N]),#[zS],#[zh8,(K),#[pvx,0]],(fun _ _ _ _=>#[zi,0,(show (["number","p"]:List Str).Nodup from #[N]),#[A]]),(fun _ _ _ _=>#[zw]),(fun _ _ _ _=>#[zg,#[zy],#[pvx,0],#[pvx,1]])],#[zg,#[zcG],#[zaE,#[ya,#[ze]]],#[zg,#[za6],#[pvx,2],#[zt,#[zar,(K)],T.len_,ck,#[ya,#[pvx,0]]]]]])]]]],?_⟩;refine zjJ ?_; intro pO;have og:=bm;have kY:=aV hb;have wdl:wd rows≤100:=by
   by_cases e:rows = []
   ·subst e; exact bp _
   ·obtain⟨r,hr,er⟩:=zdm e;rw [← er]; exact hw r hr
  refine⟨_,rfl,a,bs,rows,rfl,.inr (kZ.of ha),znd hb,#[O],fun H1 s1=>?_⟩;refine⟨_,rfl,a,rfl,⟨_,kZ.of (s1 _ _ ha)⟩,zV (n:=rows.length) (fun m ys H'=>zC H H'∧∃ ls:List Addr,ys=ls.map V.ref∧LsA H' ls ((rows.take m).map (zjr p (wd rows)))) ⟨s1,[],rfl,.nil⟩ ?_ ?_ ?_ ?_⟩
  ·rintro m ys H2 hm ⟨s2,_⟩;exact⟨_,.ref (bs[m]'#[O]),kZ.of (s2 _ _ ha),by rw [af,ai #[O]]; rfl⟩
  ·rintro ys H2 ⟨s2,_⟩;exact⟨_,kZ.of (s2 _ _ ha),by rw [ab]; lia⟩
  ·rintro m x ys H2 H3 hm ⟨s2,ls,rfl,lD⟩ ⟨rfl,hx⟩;obtain⟨b,rfl,pv⟩:=zH (hx _ (kZ.of (s2 _ _ ha)));obtain⟨r,hr,oP⟩:=Paired.get hb pv;have qW:=s2 _ _ oP;have o3:=hw r (aA hr);have uL:=zia (aA hr);refine gY ?_;refine⟨_,rfl,b,rfl,⟨_,kZ.of qW⟩,zbe (fs:=(r.map (· % p)).map V.int) (kZ.of qW) #[M] (by rw [ab]; lia) (fun i x y R B hx hy hR=>?_) (fun D hD=>?_)⟩
   ·obtain⟨c,rfl,hc⟩:=zag hx;rw [af,af,hc] at hy;have hy:V.int (c % p)=y:=by simpa using hy
    subst hy;refine gY ?_;exact⟨_,rfl,_,rfl,_,_,rfl,rfl,#[O],hR⟩
   ·have sD:=zb (o:=.lst ((r.map (· % p)).map V.int)) hD;refine⟨by show 1≤sizeLine; lia,fun Z hZ=>?_⟩;have sZ:=zb (o:=.lst [V.int 0]) hZ;refine⟨_,rfl,_,rfl,b,_,rfl,.inr (kZ.of ((sD.trans sZ) _ _ qW)),_,_,rfl,rfl,?_⟩;have el:(r.map V.int).length=r.length:=ab ..;rw [el];have ek:((wd rows:Int) - (r.length:Int)).toNat=wd rows - r.length:=by lia
    refine⟨Z,_,_,rfl,rfl,zc,#[O],#[O],by rw [ek]; show 1*(wd rows - r.length)≤sizeLine; lia,fun Y hY=>?_⟩;rw [ek,bT];have sY:=zb (o:=.lst (ar (wd rows - r.length) (V.int 0))) hY;refine⟨D,Y,_,_,rfl,rfl,(sZ.trans sY) _ _ zc,zc,by rw [ab,ab,aR]; lia,fun W hW=>?_⟩;have sW:=((sD.trans sZ).trans sY).trans (zb (o:=.lst ((r.map (· % p)).map V.int++ar (wd rows - r.length) (V.int 0))) hW);have qP:ls.length=m:=by rw [aV lD,ab,aU]; lia
    refine⟨by rw [ab]; lia,s2.trans sW,ls++[W],by rw [aO]; rfl,?_⟩;rw [take_snoc hr,aO];refine bV (lD.same sW) ?_;rw [zc];unfold zjr;rw [aO,cV]
  ·rintro ys H2 D ⟨s2,ls,rfl,lD⟩ hD;rw [aT (ah _),zkT fun r hr=>zia hr] at lD;exact q D ls _ (s2.free hD) (s2.trans (zb hD)) zc (lD.same (zb hD))
theorem zgP {X:Cx} {es:List Expr} {k:Nat} {oJ p pos:Pos} {a:Expr} {ta:TA} (hg:Gl X "enumerate") (hm:X.mg "enumerate" = none) (ha:PA X [a] ta) (hs:starEach [a] X.env = [(false,eval a X.env)]:=by rfl) :
  PI X (.Tuple es k oJ) (.Call (.Name "enumerate" p) [a] [] pos) (fun σ H R=>iEn (kT X.K) ta σ H R∨iEn (kZ X.K) ta σ H R):=fun kS s σ H R I h=>h.elim (zcR hg hm ha hs kS s σ H R I) (zb6 hg hm ha hs kS s σ H R I)
theorem zjt {X:Cx} {K:ag} {es:List Expr} {k:Nat} {oJ p pos:Pos} {a:Expr} {ta:TA} (hK:X.K=K) (hg:Gl X "enumerate") (hm:X.mg "enumerate" = none) (ha:PA X [a] ta) (hs:starEach [a] X.env = [(false,eval a X.env)]:=by rfl) :
  PI X (.Tuple es k oJ) (.Call (.Name "enumerate" p) [a] [] pos) (fun σ H R=>iEn (kT K) ta σ H R∨iEn (kZ K) ta σ H R):=by subst hK; exact zgP hg hm ha hs
theorem zdc {rows:List (List Int)} (h:∀ r∈rows,r.length≤100):∀ m,(zW rows m).length≤100*m
 | 0=>by simp [zW]
 | m+1=>by
  have ih:=zdc h m;have hl:(rows.getD m []).length≤100:=by
   cases e:rows[m]? with
   | none=>simp [fw,e]
   | some r=>simp only [fw,e,dM]; exact h r (aA e)
  have h2:=zdL m (rows.getD m []) (rows.getD m []).length;rw [zcn,aF];lia
theorem zdq {rows:List (List Int)} (h:∀ r∈rows,r.length≤1000):∀ m,(zW rows m).length≤1000*m
 | 0=>by simp [zW]
 | m+1=>by
  have ih:=zdq h m;have hl:(rows.getD m []).length≤1000:=by
   cases e:rows[m]? with
   | none=>simp [fw,e]
   | some r=>simp only [fw,e,dM]; exact h r (aA e)
  have h2:=zdL m (rows.getD m []) (rows.getD m []).length;rw [zcn,aF];lia
def zfT (K:ag):Sp:=fun vs H Q _=>∃ (a:Addr) (bs:List Addr) (rows:List (List Int)),vs = [.ref a]∧H a=some (.tup (bs.map V.ref))∧zaB H bs rows∧rows.length≤100∧(∀ r∈rows,r.length≤100) ∧
 ∀ (l:Addr) (ts:List Addr) (H':Hp),H l=none→zC H H'→H' l=some (.lst (ts.map V.ref))→PtB H' ts (zW rows rows.length)→Q (.ref l) H'
def zfU (K:ag):Sp:=fun vs H Q _=>∃ (a:Addr) (bs:List Addr) (rows:List (List Int)),vs = [.ref a]∧H a=some (.lst (bs.map V.ref))∧LsA H bs rows∧rows.length≤100∧(∀ r∈rows,r.length≤1000) ∧
 ∀ (l:Addr) (ts:List Addr) (H':Hp),H l=none→zC H H'→H' l=some (.lst (ts.map V.ref))→PtB H' ts (zW rows rows.length)→Q (.ref l) H'
def zgQ (K:ag):Sp:=fun vs H Q E=>zfT K vs H Q E∨zfU K vs H Q E
theorem zgR:FnScope ["curve"] ["curve"] (zh zbn):=#[S]
theorem zbv {fd:FuncData} (T:Txt K mg t) (F:Fun K "terms_of" "terms_of" zbn t.terms_of fd):FnOk P w K mg base CX0 1 t.terms_of fd ["curve"] (zgQ K):=by
 refine F.ok zgR (fun vs H Q E h=>?_) (fun lM A outer s H vs Q E hr h=>?_)
 ·rcases h with ⟨a,bs,rows,rfl,_⟩ | ⟨a,bs,rows,rfl,_⟩ <;> rfl
 ·skip
  refine zbo ?_; intro zX;refine⟨_,#[zj,#[zQ,(@zlu _ _ _ _ _ _ _ _ _ _ _ _ _ _ _ _ _ _ _ _ _ (CompSc.of (N':=["j","line","i","number"]) (ix:=[none,none,none,none]) (zh zbn) ["curve"] rfl rfl #[N]) rfl (zfl (js:=[0,1]) (zbi (js:=[0,1]) (i:=0) #[D] (zbi (js:=[0,1]) (i:=1) #[D] (zdC (js:=[0,1]))))) (zfl (js:=[2,3]) (zbi (js:=[2,3]) (i:=2) #[D] (zbi (js:=[2,3]) (i:=3) #[D] (zdC (js:=[2,3]))))) #[D] #[D] (zgP rfl T.enumerate_ #[ya,#[pvx,0]]) (fun _ _ _ _=>#[zbc,(K),2,#[zm,#[zi,0,(show (["j","line","i","number"]:List Str).Nodup from #[N]),#[A]],#[zm,#[zi,1,(show (["j","line","i","number"]:List Str).Nodup from #[N]),#[A]],#[zae]]]]) (fun _ _ _ _=>#[zw]) (fun _ _ _ _=>(zjt (K:=K) rfl rfl T.enumerate_ #[ya,#[pvx,1]])) (fun _ _ _ _=>#[zbc,(K),2,#[zm,#[zi,2,(show (["j","line","i","number"]:List Str).Nodup from #[N]),#[A]],#[zm,#[zi,3,(show (["j","line","i","number"]:List Str).Nodup from #[N]),#[A]],#[zae]]]]) (fun _ _ _ _=>#[zdX,#[zau,#[zjC],#[pvx,3],#[ze],(zaD _)]]) (fun _ _ _ _=>#[zbh,#[za,#[pvx,2],#[ya,#[pvx,0]]]]) (by intro _; rfl) (by intros; rfl))]],?_⟩;rcases h with ⟨a,bs,rows,rfl,ha,hb,hn,hw,q⟩ | ⟨a,bs,rows,rfl,ha,hb,hn,hw,q⟩
  ·skip
   have og:=bm;have kY:=aV hb;refine .inr ⟨_,rfl,a,_,rfl,kZ.of ha,ze0 (n:=rows.length) (fun m ys H'=>∃ us:List Addr,ys=us.map V.ref∧zC H H'∧PtB H' us (zW rows m)) ⟨[],rfl,fun _ _ e=>e,.nil⟩ ?_ ?_ ?_ ?_⟩
   ·rintro m ys H1 hm ⟨us,rfl,s1,lu⟩;exact⟨_,.ref (bs[m]'#[O]),kZ.of (s1 _ _ ha),by rw [af,ai #[O]]; rfl⟩
   ·rintro ys H1 ⟨us,rfl,s1,lu⟩;exact⟨_,kZ.of (s1 _ _ ha),by rw [ab]; lia⟩
   ·rintro m y ys H1 H2 hm ⟨us,rfl,s1,lu⟩ ⟨T,v,hT,rfl,rfl,hv⟩;obtain⟨b,rfl,pv⟩:=zH (hv _ (kZ.of (s1 _ _ ha)));obtain⟨r,hr,oP⟩:=Paired.get hb pv;have o3:=hw r (aA hr);have er:rows.getD m []=r:=by simp [fw,hr]
    refine gY2 (kZ.of zc) ?_;have sT:=s1.trans (zb (o:=.tup [.int m,.ref b]) hT);have yf:=lu.same (zb (o:=.tup [.int m,.ref b]) hT);generalize kX H1 T (.tup [.int m,.ref b])=H2 at sT yf ⊢;have qW:=sT _ _ oP;refine .inr ⟨_,rfl,b,_,rfl,kZ.of qW,ze0 (n:=r.length) (fun j ys H'=>∃ us:List Addr,ys=us.map V.ref∧zC H2 H'∧PtB H' us (zW rows m++trm m r j)) ⟨us,rfl,fun _ _ e=>e,by simpa [trm] using yf⟩ ?_ ?_ ?_ ?_⟩
    ·rintro j ys H3 hj ⟨us,rfl,s3,_⟩;exact⟨_,.int (r[j]'hj),kZ.of (s3 _ _ qW),by rw [af,ai hj]; rfl⟩
    ·rintro ys H3 ⟨us,rfl,s3,_⟩;exact⟨_,kZ.of (s3 _ _ qW),by rw [ab]; lia⟩
    ·rintro j z ys H3 H4 hj ⟨us,rfl,s3,oQ⟩ ⟨T',v',yg,rfl,rfl,uB⟩;obtain⟨x,rfl,hx⟩:=zag (uB _ (kZ.of (s3 _ _ qW)));have yh:gl r j=x:=zaS hx;have vU:=s3.trans (zb (o:=.tup [.int j,.int x]) yg);have vV:=oQ.same (zb (o:=.tup [.int j,.int x]) yg);have tY:us.length=(zW rows m++trm m r j).length:=aV oQ;have l1:=zdc hw m;have l2:=zdL m r j;rw [aF] at tY;refine⟨T',_,rfl,kZ.of zc,rfl,_,_,rfl,_,_,rfl,rfl,?_⟩;generalize kX H3 T' (.tup [.int j,.int x])=H4 at vU vV ⊢;refine⟨_,rfl,?_⟩;refine⟨rfl,_,rfl,?_⟩;refine zcH (fun qf=>?_) (fun qf=>?_)
     ·have qf:x≠0:=by simpa using qf
      refine⟨_,rfl,_,rfl,by show 2≤sizeLine; lia,fun D hD=>⟨by rw [ab]; lia,us++[D],by rw [aO]; rfl,vU.trans (zb hD),?_⟩⟩;rw [zc2,if_pos (by rw [yh]; exact qf),← bg];exact bV (vV.same (zb hD)) zc
     ·have qf:x=0:=by simpa using qf
      refine⟨us,rfl,vU,?_⟩;rw [zc2,if_neg (by rw [yh,qf]; simp)];exact vV
    ·rintro ys H3 ⟨us,rfl,s3,oQ⟩;refine⟨us,rfl,sT.trans s3,?_⟩;rw [zcn,er];exact oQ
   ·rintro ys H1 ⟨us,rfl,s1,lu⟩ D hD;exact q D us _ (s1.free hD) (s1.trans (zb hD)) zc (lu.same (zb hD))
  ·skip
   have og:=bm;have kY:=aV hb;refine .inl ⟨_,rfl,a,_,rfl,kT.of ha,ze0 (n:=rows.length) (fun m ys H'=>∃ us:List Addr,ys=us.map V.ref∧zC H H'∧PtB H' us (zW rows m)) ⟨[],rfl,fun _ _ e=>e,.nil⟩ ?_ ?_ ?_ ?_⟩
   ·rintro m ys H1 hm ⟨us,rfl,s1,lu⟩;exact⟨_,.ref (bs[m]'#[O]),kT.of (s1 _ _ ha),by rw [af,ai #[O]]; rfl⟩
   ·rintro ys H1 ⟨us,rfl,s1,lu⟩;exact⟨_,kT.of (s1 _ _ ha),by rw [ab]; lia⟩
   ·rintro m y ys H1 H2 hm ⟨us,rfl,s1,lu⟩ ⟨T,v,hT,rfl,rfl,hv⟩;obtain⟨b,rfl,pv⟩:=zH (hv _ (kT.of (s1 _ _ ha)));obtain⟨r,hr,oP⟩:=Paired.get hb pv;have o3:=hw r (aA hr);have er:rows.getD m []=r:=by simp [fw,hr]
    refine gY2 (kZ.of zc) ?_;have sT:=s1.trans (zb (o:=.tup [.int m,.ref b]) hT);have yf:=lu.same (zb (o:=.tup [.int m,.ref b]) hT);generalize kX H1 T (.tup [.int m,.ref b])=H2 at sT yf ⊢;have qW:=sT _ _ oP;refine .inl ⟨_,rfl,b,_,rfl,kT.of qW,ze0 (n:=r.length) (fun j ys H'=>∃ us:List Addr,ys=us.map V.ref∧zC H2 H'∧PtB H' us (zW rows m++trm m r j)) ⟨us,rfl,fun _ _ e=>e,by simpa [trm] using yf⟩ ?_ ?_ ?_ ?_⟩
    ·rintro j ys H3 hj ⟨us,rfl,s3,_⟩;exact⟨_,.int (r[j]'hj),kT.of (s3 _ _ qW),by rw [af,ai hj]; rfl⟩
    ·rintro ys H3 ⟨us,rfl,s3,_⟩;exact⟨_,kT.of (s3 _ _ qW),by rw [ab]; lia⟩
    ·rintro j z ys H3 H4 hj ⟨us,rfl,s3,oQ⟩ ⟨T',v',yg,rfl,rfl,uB⟩;obtain⟨x,rfl,hx⟩:=zag (uB _ (kT.of (s3 _ _ qW)));have yh:gl r j=x:=zaS hx;have vU:=s3.trans (zb (o:=.tup [.int j,.int x]) yg);have vV:=oQ.same (zb (o:=.tup [.int j,.int x]) yg);have tY:us.length=(zW rows m++trm m r j).length:=aV oQ;have l1:=zdq hw m;have l2:=zdL m r j;rw [aF] at tY;refine⟨T',_,rfl,kZ.of zc,rfl,_,_,rfl,_,_,rfl,rfl,?_⟩;generalize kX H3 T' (.tup [.int j,.int x])=H4 at vU vV ⊢;refine⟨_,rfl,?_⟩;refine⟨rfl,_,rfl,?_⟩;refine zcH (fun qf=>?_) (fun qf=>?_)
     ·have qf:x≠0:=by simpa using qf
      refine⟨_,rfl,_,rfl,by show 2≤sizeLine; lia,fun D hD=>⟨by rw [ab]; lia,us++[D],by rw [aO]; rfl,vU.trans (zb hD),?_⟩⟩;rw [zc2,if_pos (by rw [yh]; exact qf),← bg];exact bV (vV.same (zb hD)) zc
     ·have qf:x=0:=by simpa using qf
      refine⟨us,rfl,vU,?_⟩;rw [zc2,if_neg (by rw [yh,qf]; simp)];exact vV
    ·rintro ys H3 ⟨us,rfl,s3,oQ⟩;refine⟨us,rfl,sT.trans s3,?_⟩;rw [zcn,er];exact oQ
   ·rintro ys H1 ⟨us,rfl,s1,lu⟩ D hD;exact q D us _ (s1.free hD) (s1.trans (zb hD)) zc (lu.same (zb hD))
end
section
variable {P:Program} {w:World} {K:ag} {mg:Str→Option Value} {base:Heap} {t:Adr}
def zhr (K:ag):Sp:=fun vs H Q _=>∃ (k:Int) (a:Addr) (bs:List Addr) (rows:List (List Int)),vs = [.int k,.ref a]∧0≤k∧k≤1000∧H a=some (.tup (bs.map V.ref))∧zaB H bs rows∧rows.length≤100∧(∀ r∈rows,r.length≤100) ∧
 ∀ (M:Int) (H':Hp),zC H H'→(szs k (zW rows rows.length) = []→M=0)→(szs k (zW rows rows.length)≠[]→M∈szs k (zW rows rows.length)∧∀ x∈szs k (zW rows rows.length),x≤M)→Q (.int M) H'
theorem zhs:FnScope ["k","curve"] ["k","curve"] (zh zbG):=#[S]
theorem zht {fd:FuncData} (T:Txt K mg t) (F:Fun K "size_of" "size_of" zbG t.size_of fd):FnOk P w K mg base CX0 2 t.size_of fd ["k","curve"] (zhr K):=by
 obtain⟨lS,k8,lg⟩:=T.f_terms_of;have ly:=zbv (P:=P) (w:=w) (base:=base) T k8;refine F.ok zhs (fun vs H Q E h=>?_) (fun lM A outer s H vs Q E hr h=>?_)
 ·obtain⟨k,a,bs,rows,rfl,_⟩:=h;rfl
 ·obtain⟨k,a,bs,rows,rfl,k0,k1,ha,hb,hn,hw,q⟩:=h;refine zbo ?_; intro zX;refine⟨_,#[zj,#[zQ,#[zhe,true,gB,T.max_,#[ze],#[zN,(CompSc.of (N':=["i","j","k"]) (ix:=[none,none,some 0]) (zh zbG) ["k","curve"] rfl rfl #[N]),#[zdh,#[zaq,#[zaq,#[zck]]]],#[zaf,#[zk,ly,(hr.mono #[D]),T.m_terms_of,k8.kp,lg,#[zK],#[ya,#[pvx,1]]]],(fun _ _ _ _=>#[zbc,(K),2,#[zm,#[zi,0,(show (["i","j","k"]:List Str).Nodup from #[N]),#[A]],#[zm,#[zi,1,(show (["i","j","k"]:List Str).Nodup from #[N]),#[A]],#[zae]]]]),(fun _ _ _ _=>#[zw]),(fun _ _ _ _=>#[zg,#[zv],#[pvx,0],#[zg,#[zam],#[zg,#[za6],#[pvx,2],#[ze]],#[pvx,1]]])]]]],?_⟩;have og:=bm;refine⟨_,rfl,.inl ⟨a,bs,rows,rfl,ha,hb,hn,hw,fun l ts H1 hl s1 sE qE=>?_⟩⟩;have kY:=aV qE;have rR:=zdc hw rows.length;refine⟨l,rfl,⟨_,kT.of sE⟩,zbC (fs:=(szs k (zW rows rows.length)).map V.int) (kT.of sE) (by rw [ab,ab,zlz,kY]) (by rw [ab]; lia) (fun i x y R B hx hy hR=>?_) (fun D hD=>?_)⟩
  ·obtain⟨b,rfl,vR⟩:=zH hx;obtain⟨⟨u,v⟩,hq,hT⟩:=Paired.get qE vR;unfold szs at hy;rw [af,af,hq] at hy;have hy:V.int (u+(k - 1)*v)=y:=by simpa using hy
   subst hy;refine gY2 (kZ.of hT) ?_;exact⟨_,rfl,_,rfl,_,_,rfl,rfl,_,rfl,_,_,rfl,rfl,.inl ⟨#[O],#[O]⟩,_,_,rfl,rfl,hR⟩
  ·exact⟨D,_,rfl,kT.of zc,fun M h0 h1=>q M _ (s1.trans (zb hD)) h0 fun lC=>⟨(h1 lC).1,fun x hx=>by have:=(h1 lC).2 x hx; rwa [if_pos rfl] at this⟩⟩
theorem zgS {n w:Nat} {g:Nat→Nat→Int}:tnd (zu n w g) w=zu w n fun i j=>g j i:=by
 unfold tnd zu;refine cz fun i hi=>?_
 rw [cj];refine cz fun j hj=>?_
 show gl ((aI w).map fun i=>g j i) i=g j i;exact zaS (by rw [af,bv (bd.mp hi)]; rfl)
theorem zbX {n w:Nat} {g:Nat→Nat→Int}:∀ r∈zu n w g,r.length=w:=fun r hr=>by
 unfold zu at hr;obtain⟨j,_,rfl⟩:=az.mp hr;rw [ab,aW]
theorem zlY {n w:Nat} {g:Nat→Nat→Int} (h:n=0→w=0):wd (zu n w g)=w:=by
 by_cases e:zu n w g = []
 ·have:n=0:=by rw [← zao n w g,e]; rfl
  rw [e,h this]; rfl
 ·obtain⟨r,hr,er⟩:=zdm e;rw [← er,zbX r hr]
def cu (rows:List (List Int)) (j i:Nat):Int:=gl (rows.getD j []) i
theorem zne {p x y:Int} {n w:Nat} {c:Nat→Nat→Int} {j i:Nat}:sh x w (fun s=>sh y n (fun t=>c t s % p) j % p) i % p=mv x y n w c j i % p:=by
 refine Cg.mod_eq (zcB (Cg.refl p x) fun s _=>(Cg.emod p _).trans (zcB (Cg.refl p y) fun t _=>Cg.emod p _))
def mvd (p x y:Int) (rows:List (List Int)):List (List Int):=zu rows.length (wd rows) fun j i=>mv x y rows.length (wd rows) (cu rows) j i % p
theorem zkU {rows:List (List Int)} {m:Nat} (h:∀ r∈rows,r.length≤m):wd rows≤m:=by
 by_cases e:rows = []
 ·subst e; exact bp _
 ·obtain⟨r,hr,er⟩:=zdm e;rw [← er]; exact h r hr
theorem znf {H:Hp} {bs:List Addr} {rows:List (List Int)} (h:LsA H bs rows):RwA H bs rows:=fS (fun _ _ z=>.inl z) h
def zkV (K:ag):Sp:=fun vs H Q _=>∃ (p:Int) (a pt:Addr) (x y:Int) (bs:List Addr) (rows:List (List Int)),vs = [.int p,.ref a,.ref pt]∧5≤p∧p≤97∧0≤x∧x < p∧0≤y∧y < p∧H a=some (.tup (bs.map V.ref))∧zaB H bs rows∧H pt=some (.tup [.int x,.int y])∧rows.length≤100∧(∀ r∈rows,r.length≤100) ∧
 ∀ (l:Addr) (ls:List Addr) (H':Hp),H l=none→zC H H'→H' l=some (.tup (ls.map V.ref))→zaB H' ls (mvd p x y rows)→Q (.ref l) H'
theorem zci:FnScope ["p","curve","point","a","b","lines","columns"] ["p","curve","point"] (zh zda):=#[S]
theorem zkW {fd:FuncData} (T:Txt K mg t) (F:Fun K "moved" "moved" zda t.moved fd):FnOk P w K mg base CX0 3 t.moved fd ["p","curve","point"] (zkV K):=by
 obtain⟨oD,mf,mh⟩:=T.f_raised;have m7:=ze9 (P:=P) (w:=w) (base:=base) T mf;obtain⟨oE,mH,mI⟩:=T.f_filled;have nX:=zfb (P:=P) (w:=w) (base:=base) T mH;obtain⟨qX,nY,m8⟩:=T.f_turned;have px:=zjq (P:=P) (w:=w) (base:=base) T nY;obtain⟨nI,lO,lP⟩:=T.f_width_of;have mV:=zdx (P:=P) (w:=w) (base:=base) T lO;refine F.ok zci (fun vs H Q E h=>?_) (fun lM A outer s H vs Q E hr h=>?_)
 ·obtain⟨p,a,pt,x,y,bs,rows,rfl,_⟩:=h;rfl
 ·obtain⟨p,a,pt,x,y,bs,rows,rfl,p5,qb,x0,x1,y0,y1,ha,hb,qE,hn,hw,q⟩:=h;refine zbo ?_; intro zX;refine⟨_,#[zf,#[zbK,#[pvx,2],#[zbJ,#[zm,#[zi,3,zci.nd,#[A]],#[zm,#[zi,4,zci.nd,#[A]],#[zae]]]]],#[zf,#[zo,5,zci.nd,#[A],#[zk,m7,(hr.mono #[D]),T.m_raised,mf.kp,mh,#[zK],#[za,#[pvx,0],#[za,#[zk,nX,(hr.mono #[D]),T.m_filled,mH.kp,mI,#[zK],#[za,#[pvx,0],#[ya,#[pvx,1]]]],#[ya,#[pvx,4]]]]]],#[zf,#[zo,6,zci.nd,#[A],#[zk,m7,(hr.mono #[D]),T.m_raised,mf.kp,mh,#[zK],#[za,#[pvx,0],#[za,#[zk,px,(hr.mono #[D]),T.m_turned,nY.kp,m8,#[zK],#[za,#[pvx,5],#[ya,#[zk,mV,(hr.mono #[D]),T.m_width_of,lO.kp,lP,#[zK],#[ya,#[pvx,5]]]]]],#[ya,#[pvx,3]]]]]],#[zj,#[zQ,#[zG,#[z8],T.tuple_,c9,#[ya,#[zN,(CompSc.of (N':=["line"]) (ix:=[none]) (zh zda) ["p","curve","point","a","b","lines","columns"] rfl rfl #[N]),#[zS],#[zaf,#[zk,px,(hr.mono #[D]),T.m_turned,nY.kp,m8,#[zK],#[za,#[pvx,6],#[ya,#[zt,#[zA],T.len_,ck,#[ya,#[pvx,5]]]]]]],(fun _ _ _ _=>#[zi,0,(show (["line"]:List Str).Nodup from #[N]),#[A]]),(fun _ _ _ _=>#[zw]),(fun _ _ _ _=>#[zG,(zax (K:=K) rfl),T.tuple_,c9,#[ya,#[pvx,0]]])]]]]]]]],?_⟩;refine zlh ?_; intro uK qR pO;have og:=bm;have wdl:=zkU hw;have er:∀ z:Int,0≤z % p∧z % p < p:=fun z=>⟨aQ _ #[O],aB _ #[O]⟩
  refine⟨_,rfl,pt,_,rfl,kZ.of qE,rfl,_,_,rfl,_,_,rfl,rfl,?_⟩;refine⟨_,rfl,_,rfl,_,rfl,p,a,bs,rows,rfl,p5,qb,ha,hb,hn,hw,fun l1 ls1 H1 vk s1 h1 g1=>?_⟩;refine⟨_,rfl,p,y,l1,ls1,rows.length,wd rows,_,rfl,h1,g1,#[O],#[O],p5,qb,y0,y1,fun j i _ _=>er _,fun l2 CA H2 rR s2 h2 g2=>?_⟩;have wz:rows.length=0→wd rows=0:=fun e=>by rw [dU.mp e]; rfl
  refine⟨_,rfl,_,rfl,_,rfl,l2,CA,_,rfl,.inl (kT.of h2),znf g2,by rw [zao]; lia,fun H3 s3=>?_⟩;rw [zlY wz];refine⟨l2,CA,_,wd rows,rfl,s3 _ _ h2,g2.same s3,fun r hr=>by rw [zbX r hr]; exact ah _,by rw [zao]; lia,#[O],fun l4 ls4 H4 mU s4 h4 g4=>?_⟩;rw [zgS] at g4;refine⟨_,rfl,p,x,l4,ls4,wd rows,rows.length,_,rfl,h4,g4,#[O],#[O],p5,qb,x0,x1,fun j i _ _=>er _,fun l5 ls5 H5 tX s5 h5 g5=>?_⟩;have tv:=(s3.trans s4).trans s5;have e2:((CA.map V.ref).length:Int)=(rows.length:Int):=by rw [ab,aV g2,zao]
  refine⟨_,rfl,_,rfl,l2,_,rfl,.inl (kT.of (tv _ _ h2)),?_⟩;rw [e2];refine⟨l5,ls5,_,rows.length,rfl,h5,g5,fun r hr=>by rw [zbX r hr]; exact ah _,by rw [zao]; lia,#[O],fun l6 ls6 H6 nW s6 h6 g6=>?_⟩;have eg:tnd (zu (wd rows) rows.length fun j i=>sh x (wd rows) (fun t=>sh y rows.length (fun t_1=>gl (rows.getD t_1 []) t % p) i % p) j % p) rows.length=mvd p x y rows:=by
   rw [zgS];exact zaM fun j i _ _=>zne
  rw [eg] at g6;have eml:(mvd p x y rows).length=rows.length:=zao _ _ _;have kY:=aV g6;refine⟨l6,rfl,⟨_,kT.of h6⟩,zV (n:=rows.length) (fun m ys H'=>zC H6 H'∧∃ us:List Addr,ys=us.map V.ref∧zaB H' us ((mvd p x y rows).take m)) ⟨fun _ _ e=>e,[],rfl,.nil⟩ ?_ ?_ ?_ ?_⟩
  ·rintro m ys H7 hm ⟨s7,_⟩;exact⟨_,.ref (ls6[m]'#[O]),kT.of (s7 _ _ h6),by rw [af,ai #[O]]; rfl⟩
  ·rintro ys H7 ⟨s7,_⟩;exact⟨_,kT.of (s7 _ _ h6),by rw [ab]; lia⟩
  ·rintro m z ys H7 H8 hm ⟨s7,us,rfl,lu⟩ ⟨rfl,hx⟩;obtain⟨b,rfl,pv⟩:=zH (hx _ (kT.of (s7 _ _ h6)));obtain⟨r,hr,oP⟩:=Paired.get g6 pv;have hz:us.length=m:=by rw [aV lu,aU]; lia
   refine gY ?_;refine⟨_,rfl,b,_,rfl,.inl ⟨kT.of (s7 _ _ oP),fun D hD=>⟨by rw [ab]; lia,s7.trans (zb hD),us++[D],#[M],?_⟩⟩⟩;rw [take_snoc hr];exact bV (lu.same (zb hD)) zc
  ·rintro ys H7 D ⟨s7,us,rfl,lu⟩ hD;rw [aT #[O]] at lu;refine⟨D,_,rfl,.inl ⟨kT.of zc,fun l hl=>?_⟩⟩;have sf:=(((((s1.trans s2).trans tv).trans s6).trans s7).trans (zb (o:=.lst (us.map V.ref)) hD));exact q l us _ (sf.free hl) (sf.trans (zb hl)) zc ((lu.same (zb hD)).same (zb hl))
def wts (ts:List (Int×Int)):List Int:=ts.map fun q=>q.1+q.2
theorem zlZ (ts:List (Int×Int)):(wts ts).length=ts.length:=by simp [wts]
def zfV (K:ag):Sp:=fun vs H Q _=>∃ (p:Int) (a pt:Addr) (x y:Int) (bs:List Addr) (rows:List (List Int)),vs = [.int p,.ref a,.ref pt]∧5≤p∧p≤97∧0≤x∧x < p∧0≤y∧y < p∧H a=some (.tup (bs.map V.ref))∧zaB H bs rows∧H pt=some (.tup [.int x,.int y])∧rows.length≤100∧(∀ r∈rows,r.length≤100) ∧
 ∀ (M:Int) (H':Hp),zC H H'→(wts (zW (mvd p x y rows) rows.length) = []→M=0)→(wts (zW (mvd p x y rows) rows.length)≠[]→M∈wts (zW (mvd p x y rows) rows.length)∧∀ z∈wts (zW (mvd p x y rows) rows.length),M≤z)→Q (.int M) H'
theorem zfW:FnScope ["p","curve","point"] ["p","curve","point"] (zh za3):=#[S]
theorem zfX {fd:FuncData} (T:Txt K mg t) (F:Fun K "weight_at" "weight_at" za3 t.weight_at fd):FnOk P w K mg base CX0 4 t.weight_at fd ["p","curve","point"] (zfV K):=by
 obtain⟨lS,k8,lg⟩:=T.f_terms_of;have ly:=zbv (P:=P) (w:=w) (base:=base) T k8;obtain⟨sF,qF,oR⟩:=T.f_moved;have tZ:=zkW (P:=P) (w:=w) (base:=base) T qF;refine F.ok zfW (fun vs H Q E h=>?_) (fun lM A outer s H vs Q E hr h=>?_)
 ·obtain⟨p,a,pt,x,y,bs,rows,rfl,_⟩:=h;rfl
 ·obtain⟨p,a,pt,x,y,bs,rows,rfl,p5,qb,x0,x1,y0,y1,ha,hb,qE,hn,hw,q⟩:=h;refine zbo ?_; intro zX;refine⟨_,#[zj,#[zQ,#[zhe,false,kf,T.min_,#[ze],#[zN,(CompSc.of (N':=["i","j"]) (ix:=[none,none]) (zh za3) ["p","curve","point"] rfl rfl #[N]),#[zdh,#[zaq,#[zaq,#[zck]]]],#[zaf,#[zk,ly,(hr.mono #[D]),T.m_terms_of,k8.kp,lg,#[zK],#[ya,#[zk,tZ,(hr.mono #[D]),T.m_moved,qF.kp,oR,#[zK],#[za,#[pvx,0],#[za,#[pvx,1],#[ya,#[pvx,2]]]]]]]],(fun _ _ _ _=>#[zbc,(K),2,#[zm,#[zi,0,(show (["i","j"]:List Str).Nodup from #[N]),#[A]],#[zm,#[zi,1,(show (["i","j"]:List Str).Nodup from #[N]),#[A]],#[zae]]]]),(fun _ _ _ _=>#[zw]),(fun _ _ _ _=>#[zg,#[zv],#[pvx,0],#[pvx,1]])]]]],?_⟩;have og:=bm;have el:(mvd p x y rows).length=rows.length:=zao _ _ _;have ew:∀ r∈mvd p x y rows,r.length≤100:=fun r hr=>by rw [zbX r hr]; exact zkU hw
  refine⟨_,rfl,_,rfl,_,rfl,p,a,pt,x,y,bs,rows,rfl,p5,qb,x0,x1,y0,y1,ha,hb,qE,hn,hw,fun l0 ls0 H0 hl0 s0 h0 g0=>?_⟩;refine .inl ⟨l0,ls0,mvd p x y rows,rfl,h0,g0,#[O],ew,fun l ts H1 hl s1 sE qE=>?_⟩;rw [el] at qE;have kY:=aV qE;have rR:=zdc ew rows.length;refine⟨l,rfl,⟨_,kT.of sE⟩,zbC (fs:=(wts (zW (mvd p x y rows) rows.length)).map V.int) (kT.of sE) (by rw [ab,ab,zlZ,kY]) (by rw [ab]; lia) (fun i x y R B hx hy hR=>?_) (fun D hD=>?_)⟩
  ·obtain⟨b,rfl,vR⟩:=zH hx;obtain⟨⟨u,v⟩,hq,hT⟩:=Paired.get qE vR;unfold wts at hy;rw [af,af,hq] at hy;have hy:V.int (u+v)=y:=by simpa using hy
   subst hy;refine gY2 (kZ.of hT) ?_;exact⟨_,rfl,_,rfl,_,_,rfl,rfl,hR⟩
  ·exact⟨D,_,rfl,kT.of zc,fun M h0 h1=>q M _ ((s0.trans s1).trans (zb hD)) h0 fun lC=>⟨(h1 lC).1,fun x hx=>by have:=(h1 lC).2 x hx; rwa [if_neg #[D]] at this⟩⟩
end
theorem zgT {p b c d:Int} (hp:p∈zp) (hb:¬ Cg p b 0) (h:Cg p d (c*b)):Cg p d 0↔Cg p c 0:=by
 constructor
 ·intro hd;rcases zb7 hp (h.symm.trans hd) with z | z
  ·exact z
  ·exact absurd z hb
 ·intro hc;exact h.trans ((hc.mul (Cg.refl p b)).trans (Cg.of_eq (bF b)))
theorem zix {p c1 c2 m b:Int} (hp:p∈zp) (hb:¬ Cg p b 0) {F G:Nat→Nat→Int} (hG:∀ j i,Cg p (G j i) (F j i*b)) (hF:Lea2 p c1 c2 F m):Lea2 p c1 c2 G m:=by
 obtain⟨⟨j,i,h,e⟩,hl⟩:=hF;exact⟨⟨j,i,fun z=>h ((zgT hp hb (hG j i)).mp z),e⟩,fun j i h=>hl j i fun z=>h ((zgT hp hb (hG j i)).mpr z)⟩
theorem zkX (k:Nat) (f:Ps) (b:Int) (l:Ps):∀ t,itq k f t (fun x=>b*l x)=fun x=>b*itq k f t l x
 | 0=>rfl
 | t+1=>by
  show mq 0 k f (itq k f t fun x=>b*l x)=fun x=>b*mq 0 k f (itq k f t l) x
  rw [zkX k f b l t];funext x;rw [za1,za1,← za7];refine zL fun i _=>?_
  rw [zbk,zbk];split
  ·rw [b8,b8]
  ·exact Int.mul_left_comm _ _ _
theorem zn1 {k n:Nat} {f:Ps} {F:Nat→Ps} {b:Int} (x:Nat):AL k f n (fun j i=>F j i*b) x=AL k f n F x*b:=by
 rw [zdn,zdn,eH,← za7];refine zL fun t _=>?_
 have e:(fun i=>F t i*b)=fun i=>b*F t i:=funext fun i=>eH _ _
 rw [show itq k f t (fun i=>F t i*b)=itq k f t (fun i=>b*F t i) by rw [e],zkX]
theorem zl0 {p b:Int} (hp:p∈zp) (hb:¬ Cg p b 0) {k n:Nat} {f:Ps} {F G:Nat→Ps} (hG:∀ j i,Cg p (G j i) (F j i*b)):Zr p (AL k f n G)↔Zr p (AL k f n F):=by
 have h:∀ x,Cg p (AL k f n G x) (AL k f n F x*b):=fun x=>(zgt (fun j i _=>hG j i) x).trans (Cg.of_eq (zn1 x))
 exact⟨fun z i=>(zgT hp hb (h i)).mp (z i),fun z i=>(zgT hp hb (h i)).mpr (z i)⟩
theorem zbI {rows:List (List Int)} {n:Nat} {u:Int×Int}:u∈zW rows n↔∃ j i:Nat,j < n∧gl (rows.getD j []) i≠0∧u=((i:Int),(j:Int)):=by
 unfold zW;rw [kc];constructor
 ·rintro⟨j,hj,hu⟩;unfold trm at hu;obtain⟨i,hi,rfl⟩:=az.mp hu;obtain⟨h1,h2⟩:=cA.mp hi;exact⟨j,i,bd.mp hj,of_decide_eq_true h2,rfl⟩
 ·rintro⟨j,i,hj,hc,rfl⟩;refine⟨j,bd.mpr hj,?_⟩;unfold trm;refine az.mpr ⟨i,cA.mpr ⟨bd.mpr ?_,decide_eq_true hc⟩,rfl⟩;refine aq fun hn=>hc (zaw #[O])
theorem zfY {p:Int} {rows:List (List Int)} (h:∀ r∈rows,∀ c∈r,0≤c∧c < p) (j i:Nat):Cg p (gl (rows.getD j []) i) 0↔gl (rows.getD j []) i=0:=by
 constructor
 ·intro hc;by_cases hi:i < (rows.getD j []).length
  ·by_cases hj:j < rows.length
   ·have hm:rows.getD j []∈rows:=by rw [am,ai hj]; exact dm hj
    have hg:(rows.getD j [])[i]? = some (gl (rows.getD j []) i):=by
     rw [ai hi,zaS (ai hi)]
    obtain⟨h1,h2⟩:=h _ hm _ (aA hg);obtain⟨d,hd⟩:=hc;by_cases hd0:d≤0
    ·have:=gm hd0 (show 0≤p by lia);lia
    ·have:=gm (show 1≤d by lia) (show 0≤p by lia);lia
   ·rw [am,bq #[O]];rfl
  ·exact zaw #[O]
 ·intro e;rw [e];exact Cg.refl _ _
theorem zkY {p k M:Int} {rows:List (List Int)} (h:∀ r∈rows,∀ c∈r,0≤c∧c < p) (h1:M∈szs k (zW rows rows.length)) (h2:∀ x∈szs k (zW rows rows.length),x≤M):Lea2 p (-1) (-(k - 1)) (fun j i=>gl (rows.getD j []) i) (-M):=by
 unfold szs at h1 h2;refine⟨?_,fun j i hc=>?_⟩
 ·obtain⟨u,hu,e⟩:=az.mp h1;obtain⟨j,i,hj,hc,rfl⟩:=zbI.mp hu;refine⟨j,i,fun z=>hc ((zfY h j i).mp z),?_⟩;rw [← e];show -1*(i:Int) + -(k - 1)*(j:Int) = -((i:Int)+(k - 1)*(j:Int));rw [iQ,iQ];lia
 ·have lJ:gl (rows.getD j []) i≠0:=fun z=>hc ((zfY h j i).mpr z)
  have hj:j < rows.length:=aq fun hn=>lJ (by rw [am,bq #[O]]; rfl)
  have:=h2 _ (az.mpr ⟨_,zbI.mpr ⟨j,i,hj,lJ,rfl⟩,rfl⟩);have:(i:Int)+(k - 1)*(j:Int)≤M:=this;rw [iQ,iQ];lia
theorem Lea2.eq {p c1 c2 a b:Int} {F:Nat→Nat→Int} (ha:Lea2 p c1 c2 F a) (hb:Lea2 p c1 c2 F b):a=b:=by
 obtain⟨j,i,h,e⟩:=ha.at';obtain⟨j',i',h',e'⟩:=hb.at';have h1:=hb.le j i h;have h2:=ha.le j' i' h';lia
section
variable {P:Program} {w:World} {K:ag} {mg:Str→Option Value} {base:Heap} {t:Adr}
theorem zl1 {x y:Int} {F:Nat→Nat→Int} {n w N W:Nat} (hF:∀ j i,n≤j∨w≤i→F j i=0) (hN:n≤N) (hW:w≤W) (j i:Nat):mv x y N W F j i=mv x y n w F j i:=by
 unfold mv;have e:(fun s=>sh y N (fun t=>F t s) j)=fun s=>sh y n (fun t=>F t s) j:=funext fun s=>zdM hN fun t h1 _=>hF t s (.inl h1)
 rw [e];refine zdM hW fun s h1 _=>?_
 have e2:(fun t=>F t s)=fun _=>0:=funext fun t=>hF t s (.inr h1)
 rw [e2];exact zim j
theorem zfZ {x y:Int} {F:Nat→Nat→Int} {n w j i:Nat} (h:n≤j∨w≤i):mv x y n w F j i=0:=by
 unfold mv;rcases h with h | h
 ·have e:(fun s=>sh y n (fun t=>F t s) j)=fun _=>0:=funext fun s=>zbt h
  rw [e];exact zim i
 ·exact zbt h
theorem zkZ {p x y:Int} {F G:Nat→Nat→Int} {n w:Nat} (h:∀ j i,Cg p (F j i) (G j i)) (j i:Nat):Cg p (mv x y n w F j i) (mv x y n w G j i):=by
 unfold mv;exact zcB (Cg.refl p x) fun s _=>zcB (Cg.refl p y) fun t _=>h t s
theorem zhu {p x y:Int} {rows:List (List Int)} (j i:Nat):Cg p (gl ((mvd p x y rows).getD j []) i) (mv x y rows.length (wd rows) (cu rows) j i):=by
 unfold mvd;by_cases hj:j < rows.length
 ·have e:(zu rows.length (wd rows) fun j i=>mv x y rows.length (wd rows) (cu rows) j i % p).getD j []=(aI (wd rows)).map fun i=>mv x y rows.length (wd rows) (cu rows) j i % p:=by
   rw [am,zaa hj]; rfl
  rw [e];by_cases hi:i < wd rows
  ·rw [zaS (w:=(aI (wd rows)).map fun i=>mv x y rows.length (wd rows) (cu rows) j i % p) (by rw [af,bv hi]; rfl)];exact Cg.emod p _
  ·rw [zaw (by rw [ab,aW]; lia),zfZ (.inr #[O])];exact Cg.refl _ _
 ·rw [am,bq (by rw [zao]; lia),zfZ (.inl #[O])];exact Cg.refl _ _
theorem ziy {p x y:Int} (hp:5≤p) {rows:List (List Int)}:∀ r∈mvd p x y rows,∀ c∈r,0≤c∧c < p:=fun r hr c hc=>by
 unfold mvd zu at hr;obtain⟨j,_,rfl⟩:=az.mp hr;obtain⟨i,_,rfl⟩:=az.mp hc;exact⟨aQ _ #[O],aB _ #[O]⟩
theorem zk0 {p x y M:Int} (hp:5≤p) {rows:List (List Int)} (h1:M∈wts (zW (mvd p x y rows) rows.length)) (h2:∀ z∈wts (zW (mvd p x y rows) rows.length),M≤z):Lea2 p 1 1 (mv x y rows.length (wd rows) (cu rows)) M:=by
 unfold wts at h1 h2;have hcg:∀ j i,Cg p (mv x y rows.length (wd rows) (cu rows) j i) 0↔gl ((mvd p x y rows).getD j []) i=0:=fun j i=>⟨fun z=>(zfY (ziy hp) j i).mp ((zhu j i).trans z),fun z=>(zhu j i).symm.trans ((zfY (ziy hp) j i).mpr z)⟩
 refine⟨?_,fun j i hc=>?_⟩
 ·obtain⟨u,hu,e⟩:=az.mp h1;obtain⟨j,i,hj,hc,rfl⟩:=zbI.mp hu;refine⟨j,i,fun z=>hc ((hcg j i).mp z),?_⟩;have e:(i:Int)+(j:Int)=M:=e;lia
 ·have lJ:gl ((mvd p x y rows).getD j []) i≠0:=fun z=>hc ((hcg j i).mpr z)
  have hj:j < rows.length:=aq fun hn=>hc (by rw [zfZ (.inl #[O])]; exact Cg.refl _ _)
  have:=h2 _ (az.mpr ⟨_,zbI.mpr ⟨j,i,hj,lJ,rfl⟩,rfl⟩);have:M≤(i:Int)+(j:Int):=this;lia
end
section
variable {P:Program} {w:World} {K:ag} {mg:Str→Option Value} {base:Heap} {t:Adr}
theorem zk1 {xs:List V} {k:Nat} (h:k≤xs.length):zf9 xs (some (k:Int)) none=xs.drop k:=by
 have e1:HT.sIx xs.length 0 (some (k:Int))=k:=by
  unfold HT.sIx;simp;split <;> lia
 have e2:HT.sIx xs.length xs.length none=xs.length:=rfl;unfold zf9;rw [e1,e2];exact aT (by rw [dL]; exact ah _)
def zf0 (K:ag):Sp:=fun vs H Q _=>∃ (a:Addr) (bs:List Addr) (n wi:Nat) (c:Nat→Nat→Int),vs = [.ref a]∧H a=some (.lst (bs.map V.ref))∧LsA H bs (zu n wi c)∧n≤100∧wi≤1000∧(∃ j i,j < n∧i < wi∧c j i≠0) ∧
 ∀ (l:Addr) (ls:List Addr) (e:Nat) (H':Hp),H l=none→zC H H'→H' l=some (.lst (ls.map V.ref))→LsA H' ls (zu n (wi - e) fun j i=>c j (i+e))→Lea n wi c e→Q (.ref l) H'
theorem zdd:FnScope ["lines","least"] ["lines"] (zh zaN):=#[S]
theorem zf1 {fd:FuncData} (T:Txt K mg t) (F:Fun K "without_x" "without_x" zaN t.without_x fd):FnOk P w K mg base CX0 2 t.without_x fd ["lines"] (zf0 K):=by
 obtain⟨lS,k8,lg⟩:=T.f_terms_of;have ly:=zbv (P:=P) (w:=w) (base:=base) T k8;refine F.ok zdd (fun vs H Q E h=>?_) (fun lM A outer s H vs Q E hr h=>?_)
 ·obtain⟨a,bs,n,wi,c,rfl,_⟩:=h;rfl
 ·obtain⟨a,bs,n,wi,c,rfl,ha,hb,hn,hw,qO,q⟩:=h;refine zbo ?_; intro zX;refine⟨_,#[zf,#[zo,1,zdd.nd,(fv rfl),#[zt,(@zi3 _ rfl),T.min_,kf,#[ya,#[zN,(CompSc.of (N':=["i","j"]) (ix:=[none,none]) (zh zaN) ["lines","least"] rfl rfl #[N]),#[zdh,#[zaq,#[zaq,#[zck]]]],#[zaf,#[zk,ly,(hr.mono #[D]),T.m_terms_of,k8.kp,lg,#[zK],#[ya,#[pvx,0]]]],(fun _ _ _ _=>#[zbc,(K),2,#[zm,#[zi,0,(show (["i","j"]:List Str).Nodup from #[N]),#[A]],#[zm,#[zi,1,(show (["i","j"]:List Str).Nodup from #[N]),#[A]],#[zae]]]]),(fun _ _ _ _=>#[zw]),(fun _ _ _ _=>#[pvx,0])]]]],#[zj,#[zQ,#[zN,(CompSc.of (N':=["line","least"]) (ix:=[none,some 1]) (zh zaN) ["lines","least"] rfl rfl #[N]),#[zS],#[zaf,#[pvx,0]],(fun _ _ _ _=>#[zi,0,(show (["line","least"]:List Str).Nodup from #[N]),#[A]]),(fun _ _ _ _=>#[zw]),(fun _ _ _ _=>#[zf8,(zjU (K:=K) rfl),#[pvx,0],#[zhH,#[pvx,1]],#[zhG]])]]]],?_⟩;refine zjJ ?_; intro pO;have og:=bm;have hgl:=zay n wi c;refine⟨_,rfl,.inr ⟨a,bs,zu n wi c,rfl,ha,hb,#[O],fun r lH=>by rw [zec lH]; exact hw,fun l ts H1 hl s1 h1 uN=>?_⟩⟩;rw [hgl] at uN;have wL:=uN.length;have hil:(zW (zu n wi c) n).length≤1000*n:=zdq (fun r lH=>by rw [zec lH]; exact hw) n;refine⟨l,rfl,⟨_,kT.of h1⟩,zV (n:=ts.length) (fun m ys H'=>H'=H1∧ys=(((zW (zu n wi c) n).map (·.1)).take m).map V.int) ⟨rfl,rfl⟩ ?_ ?_ ?_ ?_⟩
  ·rintro m ys H2 hm ⟨rfl,_⟩;exact⟨_,.ref ts[m],kT.of h1,by rw [af,ai hm]; rfl⟩
  ·rintro ys H2 ⟨rfl,_⟩;exact⟨_,kT.of h1,by rw [ab]; exact ah _⟩
  ·rintro m y ys H2 H3 hm ⟨rfl,rfl⟩ ⟨rfl,hy⟩;obtain⟨b,rfl,nR⟩:=zH (hy _ (kT.of h1));obtain⟨q',o2,mC⟩:=Paired.get uN nR;refine gY2 (kZ.of mC) ?_;have tE:((zW (zu n wi c) n).map (·.1))[m]? = some q'.1:=by rw [af,o2]; rfl
   refine⟨_,rfl,by rw [ab,aU,ab]; lia,rfl,?_⟩;rw [take_snoc tE,aO];rfl
  rintro ys H2 D ⟨rfl,rfl⟩ hD;rw [aT (by rw [ab]; lia)];have u2:=zb (o:=.lst (((zW (zu n wi c) n).map (·.1)).map V.int)) hD;obtain⟨j0,i0,nL,qL,lC⟩:=qO;refine⟨D,(zW (zu n wi c) n).map (·.1),rfl,kT.of zc,fun e0=>?_,fun M su tW=>?_⟩
  ·have:(i0:Int)∈(zW (zu n wi c) n).map (·.1):=az.mpr ⟨_,zcq.mpr ⟨i0,j0,rfl,nL,qL,lC⟩,rfl⟩;rw [e0] at this;cases this
  obtain⟨e,rfl,hL⟩:=zm5 su tW;have s2:=s1.trans u2;generalize kX H2 D (.lst (((zW (zu n wi c) n).map (·.1)).map V.int))=H3 at u2 s2 ⊢;have Ax:=s2 _ _ ha;have vy:=hb.same s2;have pN:=hb.length;have BM:e≤wi:=by obtain⟨_,_,h,_⟩:=hL.2; lia
  refine⟨_,rfl,a,rfl,⟨_,kT.of Ax⟩,zV (n:=bs.length) (fun m ys H'=>zC H3 H'∧∃ us:List Addr,ys=us.map V.ref∧LsA H' us ((zu n (wi - e) fun j i=>c j (i+e)).take m)) ⟨fun _ _ e=>e,[],rfl,.nil⟩ ?_ ?_ ?_ ?_⟩
  ·rintro m ys H4 hm ⟨s4,_⟩;exact⟨_,.ref bs[m],kT.of (s4 _ _ Ax),by rw [af,ai hm]; rfl⟩
  ·rintro ys H4 ⟨s4,_⟩;exact⟨_,kT.of (s4 _ _ Ax),by rw [ab]; exact ah _⟩
  ·rintro m y ys H4 H5 hm ⟨s4,us,rfl,lu⟩ ⟨rfl,hy⟩;obtain⟨b,rfl,nR⟩:=zH (hy _ (kT.of (s4 _ _ Ax)));obtain⟨r,lH,mC⟩:=Paired.get vy nR;have t8:m < n:=by lia
   rw [zaa t8] at lH;cases lH;refine gY ⟨_,rfl,_,rfl,_,rfl,b,_,rfl,kT.of (s4 _ _ mC),fun z hz=>?_⟩;have tY:=lu.length;rw [aU,zay] at tY;refine⟨by rw [ab]; lia,s4.trans (zb hz),us++[z],by rw [aO]; rfl,?_⟩;rw [take_snoc (zaa (w:=wi - e) (g:=fun j i=>c j (i+e)) t8)];refine bV (lu.same (zb hz)) ?_;rw [zc,zk1 (by rw [ab,ab,aW]; exact BM),← List.map_drop];congr 3;refine cO fun i=>?_
   rw [fo,af,af];by_cases h:i < wi - e
   ·rw [bv #[O],bv h,Nat.add_comm e i];rfl
   ·rw [bq (by rw [aW]; lia),bq (by rw [aW]; lia)];rfl
  ·rintro ys H4 D2 ⟨s4,us,rfl,lu⟩ qV;rw [aT (by rw [zay]; lia)] at lu;have uO:=s2.trans s4;exact q D2 us e _ (uO.free qV) (uO.trans (zb qV)) zc (lu.same (zb qV)) hL
def zdB (p b:Int) (n wi:Nat) (c:Nat→Nat→Int) (j i:Nat):Int:=if j≤i∧i < j+wi then sh b n (fun t=>c t (i - j)) j % p else 0
def zeD (K:ag):Sp:=fun vs H Q _=>∃ (p b:Int) (a:Addr) (bs:List Addr) (n wi:Nat) (c:Nat→Nat→Int),vs = [.int p,.ref a,.int b]∧H a=some (.lst (bs.map V.ref))∧LsA H bs (zu n wi c)∧1≤n∧n≤100∧wi≤900∧5≤p∧p≤97∧0≤b∧b < p∧(∀ j i,j < n→i < wi→0≤c j i∧c j i < p) ∧
 ∀ (l:Addr) (ls:List Addr) (H':Hp),H l=none→zC H H'→H' l=some (.lst (ls.map V.ref))→LsA H' ls (zu n (wi+(n - 1)) (zdB p b n wi c))→Q (.ref l) H'
theorem ziz (x:V) (k:Nat):(ar k [x]).flatten=ar k x:=bT
theorem zk2 {p b:Int} {n wi m:Nat} {c:Nat→Nat→Int} (hm:m < n):(aI (wi+(n - 1))).map (zdB p b n wi c m)=ar m 0++((aI wi).map fun i=>sh b n (fun t=>c t i) m % p)++ar (n - 1 - m) 0:=by
 refine cO fun i=>?_
 rw [af];by_cases h1:i < m
 ·rw [bG (by rw [aF,aR]; lia),bG (by rw [aR]; exact h1),bQ,if_pos h1,bv #[O]];show some (zdB p b n wi c m i)=some 0;unfold zdB;rw [if_neg #[O]]
 ·by_cases h2:i < m+wi
  ·rw [bG (by rw [aF,aR,ab,aW]; lia),bP (by rw [aR]; lia),aR,af,bv #[O],bv #[O]];show some (zdB p b n wi c m i)=some (sh b n (fun t=>c t (i - m)) m % p);unfold zdB;rw [if_pos #[O]]
  ·rw [bP (by rw [aF,aR,ab,aW]; lia),aF,aR,ab,aW,bQ];by_cases h3:i < wi+(n - 1)
   ·rw [if_pos #[O],bv h3];show some (zdB p b n wi c m i)=some 0;unfold zdB;rw [if_neg #[O]]
   ·rw [if_neg #[O],bq (by rw [aW]; lia)];rfl
theorem zcE:FnScope ["p","lines","number","beyond"] ["p","lines","number"] (zh zaR):=#[S]
theorem zeE {fd:FuncData} (T:Txt K mg t) (F:Fun K "next_curve" "next_curve" zaR t.next_curve fd):FnOk P w K mg base CX0 2 t.next_curve fd ["p","lines","number"] (zeD K):=by
 obtain⟨oD,mf,mh⟩:=T.f_raised;have m7:=ze9 (P:=P) (w:=w) (base:=base) T mf;refine F.ok zcE (fun vs H Q E h=>?_) (fun lM A outer s H vs Q E hr h=>?_)
 ·obtain⟨p,b,a,bs,n,wi,c,rfl,_⟩:=h;rfl
 ·obtain⟨p,b,a,bs,n,wi,c,rfl,ha,hb,n1,hn,hw,p5,qb,b0,b1,hc,q⟩:=h;refine zbo ?_; intro zX;refine⟨_,#[zf,#[zo,3,zcE.nd,(fv rfl),#[zg,#[za6],#[zt,#[zA],T.len_,ck,#[ya,#[pvx,1]]],#[ze]]],#[zj,#[zQ,#[zN,(CompSc.of (N':=["j","line","beyond"]) (ix:=[none,none,some 3]) (zh zaR) ["p","lines","number","beyond"] rfl rfl #[N]),#[zdh,#[zaq,#[zaq,#[zck]]]],#[zcR,T.enumerate_,#[ya,#[zk,m7,(hr.mono #[D]),T.m_raised,mf.kp,mh,#[zK],#[za,#[pvx,0],#[za,#[pvx,1],#[ya,#[pvx,2]]]]]]],(fun _ _ _ _=>#[zbc,(K),2,#[zm,#[zi,0,(show (["j","line","beyond"]:List Str).Nodup from #[N]),#[A]],#[zm,#[zi,1,(show (["j","line","beyond"]:List Str).Nodup from #[N]),#[A]],#[zae]]]]),(fun _ _ _ _=>#[zw]),(fun _ _ _ _=>#[zg,#[zfh],#[zg,#[zfh],#[zg,#[zcG],#[zaE,#[ya,#[ze]]],#[pvx,0]],#[pvx,1]],#[zg,#[zcG],#[zaE,#[ya,#[ze]]],#[zg,#[za6],#[pvx,2],#[pvx,0]]]])]]]],?_⟩;refine zjJ ?_; intro pO;have og:=bm;have pN:=hb.length;rw [zay] at pN;refine⟨_,rfl,a,_,rfl,.inl (kT.of ha),_,_,rfl,rfl,?_⟩;refine⟨_,rfl,_,rfl,_,rfl,p,b,a,bs,n,wi,c,rfl,ha,hb,#[O],#[O],p5,qb,b0,b1,hc,fun l ls H1 hl s1 h1 lD=>?_⟩;have qP:=lD.length;rw [zay] at qP;refine⟨l,_,rfl,kT.of h1,zV (n:=ls.length) (fun m ys H'=>zC H1 H'∧∃ us:List Addr,ys=us.map V.ref∧LsA H' us ((zu n (wi+(n - 1)) (zdB p b n wi c)).take m)) ⟨fun _ _ e=>e,[],rfl,.nil⟩ ?_ ?_ ?_ ?_⟩
  ·rintro m ys H4 hm ⟨s4,_⟩;exact⟨_,.ref ls[m],kT.of (s4 _ _ h1),by rw [af,ai hm]; rfl⟩
  ·rintro ys H4 ⟨s4,_⟩;exact⟨_,kT.of (s4 _ _ h1),by rw [ab]; exact ah _⟩
  ·rintro m y ys H4 H5 hm ⟨s4,us,rfl,lu⟩ ⟨T,v,hT,rfl,rfl,hv⟩;obtain⟨bb,rfl,nR⟩:=zH (hv _ (kT.of (s4 _ _ h1)));obtain⟨r,lH,mC⟩:=Paired.get lD nR;have t8:m < n:=by lia
   rw [zaa t8] at lH;cases lH;have uT:=zb (o:=.tup [.int (m:Int),.ref bb]) hT;refine gY2 (kZ.of zc) ?_;have s5:=s4.trans uT;have yi:=lu.same uT;generalize kX H4 T (.tup [.int (m:Int),.ref bb])=H5 at uT s5 yi ⊢;have yj:((m:Int)).toNat=m:=by lia
   refine⟨by show 1≤sizeLine; lia,fun z1 sU=>⟨_,rfl,z1,_,[.int 0],rfl,rfl,zc,#[O],#[O],by rw [yj]; show 1*m≤sizeLine; lia,fun z2 tF=>?_⟩⟩;rw [yj,ziz];have u6:=(zb (o:=.lst [.int 0]) sU).trans (zb (o:=.lst (ar m (V.int 0))) tF);have f6:kX (kX H5 z1 (.lst [.int 0])) z2 (.lst (ar m (V.int 0))) z2=some (.lst ((ar m (0:Int)).map V.int)):=by rw [zc,cV]
   generalize kX (kX H5 z1 (.lst [.int 0])) z2 (.lst (ar m (V.int 0)))=H6 at u6 f6 ⊢;refine⟨_,rfl,z2,bb,_,_,rfl,rfl,f6,(s5.trans u6) _ _ mC,by rw [ab,ab,aR,ab,aW]; lia,fun z3 hz3=>?_⟩;have u7:=zb (o:=.lst ((ar m (0:Int)).map V.int++((aI wi).map fun i=>sh b n (fun t=>c t i) m % p).map V.int)) hz3;have f7:kX H6 z3 (.lst ((ar m (0:Int)).map V.int++((aI wi).map fun i=>sh b n (fun t=>c t i) m % p).map V.int)) z3=some (.lst ((ar m (0:Int)++(aI wi).map fun i=>sh b n (fun t=>c t i) m % p).map V.int)):=by rw [zc,aO]
   generalize kX H6 z3 (.lst ((ar m (0:Int)).map V.int++((aI wi).map fun i=>sh b n (fun t=>c t i) m % p).map V.int))=H7 at u7 f7 ⊢;have eb:(((bs.map V.ref).length:Nat):Int) - 1 - (m:Int)=((n - 1 - m:Nat):Int):=by rw [ab]; lia
   refine⟨by show 1≤sizeLine; lia,fun z4 hz4=>⟨_,rfl,_,rfl,_,_,rfl,rfl,?_⟩⟩;show zmH (.ref z4) (.int ((((bs.map V.ref).length:Nat):Int) - 1 - (m:Int))) _ _;rw [eb];have yk:(((n - 1 - m:Nat):Int)).toNat=n - 1 - m:=by lia
   refine⟨z4,_,[.int 0],rfl,rfl,zc,#[O],#[O],by rw [yk]; show 1*_≤sizeLine; lia,fun z5 hz5=>?_⟩;rw [yk,ziz];have u8:=(zb (o:=.lst [.int 0]) hz4).trans (zb (o:=.lst (ar (n - 1 - m) (V.int 0))) hz5);have f8:kX (kX H7 z4 (.lst [.int 0])) z5 (.lst (ar (n - 1 - m) (V.int 0))) z5=some (.lst ((ar (n - 1 - m) (0:Int)).map V.int)):=by rw [zc,cV]
   generalize kX (kX H7 z4 (.lst [.int 0])) z5 (.lst (ar (n - 1 - m) (V.int 0)))=H8 at u8 f8 ⊢;refine⟨z3,z5,_,_,rfl,rfl,u8 _ _ f7,f8,by rw [ab,ab,aF,aR,aR,ab,aW]; lia,fun z6 hz6=>?_⟩;have u9:=u6.trans (u7.trans (u8.trans (zb (o:=.lst ((ar m (0:Int)++(aI wi).map fun i=>sh b n (fun t=>c t i) m % p).map V.int++(ar (n - 1 - m) (0:Int)).map V.int)) hz6)));have tY:=lu.length;rw [aU,zay] at tY;refine⟨by rw [ab]; lia,s5.trans u9,us++[z6],by rw [aO]; rfl,?_⟩;rw [take_snoc (zaa (w:=wi+(n - 1)) (g:=zdB p b n wi c) t8)];refine bV (yi.same u9) ?_;rw [zc,← aO];congr 3;exact (zk2 t8).symm
  ·rintro ys H4 D2 ⟨s4,us,rfl,lu⟩ qV;rw [aT (by rw [zay]; lia)] at lu;have uO:=s1.trans s4;exact q D2 us _ (uO.free qV) (uO.trans (zb qV)) zc (lu.same (zb qV))
def RA1 (H:Hp) (n:Nat) (b:Addr) (st:List Int×Nat×(Nat→Nat→Int)):Prop:=∃ ka na ls,H b=some (.tup [.ref ka,.ref na])∧H ka=some (.tup (st.1.map V.int))∧H na=some (.lst (ls.map V.ref))∧LsA H ls (zu n st.2.1 st.2.2)
theorem RA1.same {H H':Hp} {n:Nat} {b:Addr} {st:List Int×Nat×(Nat→Nat→Int)} (s:zC H H') (h:RA1 H n b st):RA1 H' n b st:=by
 obtain⟨ka,na,ls,h1,h2,h3,h4⟩:=h;exact⟨ka,na,ls,s _ _ h1,s _ _ h2,s _ _ h3,h4.same s⟩
def RAs (H:Hp) (n:Nat):List Addr→List (List Int×Nat×(Nat→Nat→Int))→Prop:=Paired (RA1 H n)
theorem RAs.same {H H':Hp} {n:Nat} (s:zC H H') {bs:List Addr} {oo:List (List Int×Nat×(Nat→Nat→Int))} (h:RAs H n bs oo):RAs H' n bs oo:=fS (fun _ _ z=>z.same s) h
def nxs (p:Int) (n e wi:Nat) (c:Nat→Nat→Int) (known:List Int) (L:List Int):List (List Int×Nat×(Nat→Nat→Int)):=L.map fun b=>(known++[b],(wi - e+(n - 1),zez p b n e c))
theorem zk3 {p b:Int} {n wi e:Nat} {c:Nat→Nat→Int} (hd:∀ j i,wi≤i→c j i=0):zu n (wi - e+(n - 1)) (zdB p b n (wi - e) fun j i=>c j (i+e))=zu n (wi - e+(n - 1)) (zez p b n e c):=zaM fun j i hj hi=>by
 unfold zdB zez;by_cases h1:j≤i
 ·rw [if_pos (show j < n∧j≤i from ⟨hj,h1⟩)];by_cases h2:i < j+(wi - e)
  ·rw [if_pos ⟨h1,h2⟩]
  ·rw [if_neg #[O]];have e0:sh b n (fun t=>c t (i - j+e)) j=sh b n (fun _=>0) j:=zca fun t _=>hd t _ #[O]
   have e1:sh b n (fun _=>(0:Int)) j=0:=by
    have:=zby (b:=b) (c:=0) (n:=n) (u:=fun _=>0) (j:=j);simpa using this
   rw [e0,e1];rfl
 ·rw [if_neg #[O],if_neg #[O]]
def zhv (K:ag):Sp:=fun vs H Q _=>∃ (p:Int) (ka a:Addr) (known:List Int) (bs:List Addr) (n wi:Nat) (c:Nat→Nat→Int),vs = [.int p,.ref ka,.ref a]∧H ka=some (.tup (known.map V.int))∧H a=some (.lst (bs.map V.ref))∧LsA H bs (zu n wi c)∧known.length≤100∧1≤n∧n≤100∧wi≤900∧p∈zp∧(∃ j i,j < n∧i < wi∧c j i≠0)∧(∀ j i,wi≤i→c j i=0)∧(∀ j i,0≤c j i∧c j i < p) ∧
 ∀ (l:Addr) (us:List Addr) (e:Nat) (H':Hp),H l=none→zC H H'→H' l=some (.lst (us.map V.ref))→RAs H' n us (nxs p n e wi c known (nums p n e c p.toNat))→Lea n wi c e→Q (.ref l) H'
theorem zcN:FnScope ["p","known","lines","lowest"] ["p","known","lines"] (zh zbf):=#[S]
theorem zhw {fd:FuncData} (T:Txt K mg t) (F:Fun K "further" "further" zbf t.further fd):FnOk P w K mg base CX0 3 t.further fd ["p","known","lines"] (zhv K):=by
 obtain⟨oS,nJ,mJ⟩:=T.f_without_x;have pz:=zf1 (P:=P) (w:=w) (base:=base) T nJ;obtain⟨pA,nZ,mW⟩:=T.f_value_at;have qg:=zgK (P:=P) (w:=w) (base:=base) T nZ;obtain⟨oq,m9,ml⟩:=T.f_next_curve;have oT:=zeE (P:=P) (w:=w) (base:=base) T m9;refine F.ok zcN (fun vs H Q E h=>?_) (fun lM A outer s H vs Q E hr h=>?_)
 ·obtain⟨p,ka,a,known,bs,n,wi,c,rfl,_⟩:=h;rfl
 ·obtain⟨p,ka,a,known,bs,n,wi,c,rfl,CB,ha,hb,xO,n1,hn,hw,hp,qO,hdg,xJ,q⟩:=h;refine zbo ?_; intro zX;refine⟨_,#[zf,#[zo,2,zcN.nd,(fv rfl),#[zk,pz,(hr.mono #[D]),T.m_without_x,nJ.kp,mJ,#[zK],#[ya,#[pvx,2]]]],#[zf,#[zo,3,zcN.nd,(fv rfl),#[zN,(CompSc.of (N':=["line"]) (ix:=[none]) (zh zbf) ["p","known","lines","lowest"] rfl rfl #[N]),#[zS],#[zaf,#[pvx,2]],(fun _ _ _ _=>#[zi,0,(show (["line"]:List Str).Nodup from #[N]),#[A]]),(fun _ _ _ _=>#[zw]),(fun _ _ _ _=>#[zJ,#[zcS,(K)],#[pvx,0],#[ze]])]],#[zj,#[zQ,#[zN,(CompSc.of (N':=["number","known","p","lines","lowest"]) (ix:=[none,some 1,some 0,some 2,some 3]) (zh zbf) ["p","known","lines","lowest"] rfl rfl #[N]),#[zS],#[zac,T.range_,#[ya,#[pvx,0]]],(fun _ _ _ _=>#[zi,0,(show (["number","known","p","lines","lowest"]:List Str).Nodup from #[N]),#[A]]),(fun _ _ _ _=>#[zdX,#[zau,#[zdU],#[zk,qg,(hr.mono #[D]),T.m_value_at,nZ.kp,mW,#[zK],#[za,#[pvx,2],#[za,#[pvx,4],#[ya,#[pvx,0]]]]],#[ze],(zaD _)]]),(fun _ _ _ _=>#[zbh,#[za,#[zg,(@zlw _),#[pvx,1],#[zbh,#[ya,#[pvx,0]]]],#[ya,#[zk,oT,(hr.mono #[D]),T.m_next_curve,m9.kp,ml,#[zK],#[za,#[pvx,2],#[za,#[pvx,3],#[ya,#[pvx,0]]]]]]]])]]]]],?_⟩;refine zjK ?_; intro qR pO;have og:=bm;have rp:=zan hp;refine⟨_,rfl,a,bs,n,wi,c,rfl,ha,hb,hn,#[O],qO,fun l ls e H1 hl s1 h1 lD hL=>?_⟩;have qP:=lD.length;rw [zay] at qP;have BM:e < wi:=by obtain⟨_,_,h,_⟩:=hL.2; exact h
  refine⟨_,rfl,l,rfl,⟨_,kT.of h1⟩,zV (n:=ls.length) (fun m ys H'=>H'=H1∧ys=((zbz n e c).take m).map V.int) ⟨rfl,rfl⟩ ?_ ?_ ?_ ?_⟩
  ·rintro m ys H2 hm ⟨rfl,_⟩;exact⟨_,.ref ls[m],kT.of h1,by rw [af,ai hm]; rfl⟩
  ·rintro ys H2 ⟨rfl,_⟩;exact⟨_,kT.of h1,by rw [ab]; exact ah _⟩
  ·rintro m y ys H2 H3 hm ⟨rfl,rfl⟩ ⟨rfl,hy⟩;obtain⟨b,rfl,nR⟩:=zH (hy _ (kT.of h1));obtain⟨r,lH,mC⟩:=Paired.get lD nR;have t8:m < n:=by lia
   rw [zaa t8] at lH;cases lH;have nP:(zbz n e c)[m]? = some (c m e):=by unfold zbz; rw [af,bv t8]; rfl
   have CC:atI (((aI (wi - e)).map fun i=>c m (i+e)).map V.int) 0=some (.int (c m e)):=zaO (j:=0) (by rw [af,af,bv #[O]]; show some (V.int (c m (0+e)))=_; rw [bE]);refine gY ⟨_,rfl,b,_,_,_,rfl,rfl,kT.of mC,CC,?_⟩;refine⟨by rw [ab,aU,zc4]; lia,rfl,?_⟩;rw [take_snoc nP,aO];rfl
  rintro ys H2 D ⟨rfl,rfl⟩ hD;rw [aT (by rw [zc4]; lia)];have u2:=zb (o:=.lst ((zbz n e c).map V.int)) hD;have f2:kX H2 D (.lst ((zbz n e c).map V.int)) D=some (.lst ((zbz n e c).map V.int)):=zc;have s2:=s1.trans u2;generalize kX H2 D (.lst ((zbz n e c).map V.int))=H3 at u2 f2 s2 ⊢;have h3l:=u2 _ _ h1;have CD:=lD.same u2;have h3k:=s2 _ _ CB;refine⟨_,rfl,_,rfl,#[O],#[O],zV (n:=p.toNat) (fun m ys H'=>zC H3 H'∧∃ us:List Addr,ys=us.map V.ref∧RAs H' n us (nxs p n e wi c known (nums p n e c m))) ⟨fun _ _ e=>e,[],rfl,.nil⟩ (fun m ys H' hm _=>hm) (fun ys H' _=>ah _) ?_ ?_⟩
  ·rintro m xx ys H4 H5 hm ⟨s4,us,rfl,lu⟩ ⟨rfl,rfl⟩;rw [show ((0:Int)+(m:Int))=(m:Int) from dv _];refine⟨_,rfl,_,rfl,_,rfl,p,(m:Int),D,zbz n e c,rfl,.inl (kT.of (s4 _ _ f2)),#[O],#[O],#[O],#[O],rfl,_,rfl,?_⟩;have An:decide (V.int (z9 p (m:Int) (zbz n e c))=V.int 0)=decide (z9 p (m:Int) (zbz n e c)=0):=by simp
   rw [An];have tY:=lu.length;have hnl:(nxs p n e wi c known (nums p n e c m)).length≤m:=by
    unfold nxs nums;rw [ab];refine bi (eJ _ _) ?_;rw [ab,aW];exact ah _
   refine zcH (fun h0=>?_) (fun h0=>?_)
   ·have h0:=of_decide_eq_true h0;refine⟨_,rfl,_,rfl,by show 1≤sizeLine; lia,fun x1 tf=>?_⟩;have w1:=zb (o:=.tup [.int (m:Int)]) tf;refine⟨ka,x1,_,_,rfl,rfl,w1 _ _ (s4 _ _ h3k),zc,by rw [ab]; show _+1≤sizeLine; lia,#[M],fun x2 H6 w2 g2=>?_⟩;have w02:=w1.trans w2;have sH6:=s4.trans w02;refine⟨_,rfl,_,rfl,_,rfl,p,(m:Int),l,ls,n,wi - e,fun j i=>c j (i+e),rfl,sH6 _ _ h3l,CD.same sH6,n1,hn,#[O],#[O],#[O],#[O],#[O],fun j i _ _=>xJ j (i+e),fun l7 ls7 H7 qU w3 g3 yl=>?_⟩;rw [zk3 hdg] at yl;refine⟨by show 2≤sizeLine; lia,fun pr tR=>?_⟩;have w4:=zb (o:=.tup [.ref x2,.ref l7]) tR;have w04:=w02.trans (w3.trans w4);refine⟨by rw [ab]; lia,s4.trans w04,us++[pr],by rw [aO]; rfl,?_⟩;unfold nxs;rw [ze1,if_pos h0,aO];refine bV (lu.same w04) ⟨x2,l7,ls7,zc,?_,w4 _ _ g3,yl.same w4⟩;rw [(w3.trans w4) _ _ g2,aO];rfl
   ·have h0:¬ z9 p (m:Int) (zbz n e c)=0:=fun z=>h0 (decide_eq_true z)
    refine⟨s4,us,rfl,?_⟩;rw [ze1,if_neg h0,cP];exact lu
  ·rintro ys H4 D2 ⟨s4,us,rfl,lu⟩ qV;have uO:=s2.trans s4;exact q D2 us e _ (uO.free qV) (uO.trans (zb qV)) zc (lu.same (zb qV)) hL
def zgU (K:ag):Sp:=fun vs H Q _=>∃ (p:Int) (k:Nat) (a:Addr) (bs:List Addr) (rows:List (List Int)),vs = [.int p,.int (k:Int),.ref a]∧p∈zp∧H a=some (.tup (bs.map V.ref))∧zaB H bs rows∧rows.length≤100∧(∀ r∈rows,r.length≤100)∧1≤k∧k≤5∧rows.length ^ k≤2000000∧(∃ j i,¬ Cg p (gl (rows.getD j []) i) 0) ∧
 ∀ (l:Addr) (us:List Addr) (qs:List (List Int)) (H':Hp),H l=none→zC H H'→H' l=some (.lst (us.map V.ref))→zaB H' us qs→qs.length≤2000000→zfx p k qs→(∀ q,q∈qs↔IsP p k q∧Zr p (AL k (gl q) rows.length fun j i=>gl (rows.getD j []) i))→Q (.ref l) H'
theorem zmo (rows:List (List Int)) (j:Nat):(rows.getD j []).length≤wd rows:=by
 (rw [am])
 cases h:rows[j]? with
 | none=>exact bp _
 | some r=>exact zia (aA h)
theorem ziA {rows:List (List Int)} {m:Nat} (h:∀ r∈rows,r.length≤m):wd rows≤m:=by
 by_cases e:rows = []
 ·subst e;exact bp _
 ·obtain⟨r,hr,e2⟩:=zdm e;rw [← e2];exact h r hr
structure SI (p:Int) (n:Nat) (F0:Nat→Ps) (k s w:Nat) (oo:List (List Int×Nat×(Nat→Nat→Int))):Prop where
 rs:∀ st∈oo,RS p n F0 s st.1 st.2.1 st.2.2∧st.2.1≤w
 nd:(oo.map (·.1)).Nodup
 len:oo.length≤n ^ s
 all:∀ f,IsP p k f→Zr p (AL k (gl f) n F0)→f.take s∈oo.map (·.1)
theorem zl2 {p:Int} {n k:Nat} {rows:List (List Int)} (p0:0 < p) (hn:n=rows.length) (qO:∃ j i,¬ Cg p (gl (rows.getD j []) i) 0):SI p n (fun j i=>gl (rows.getD j []) i % p) k 0 (wd rows) [([],(wd rows,fun j i=>gl (rows.getD j []) i % p))]:=by
 have oO:∀ j i,wd rows≤i→gl (rows.getD j []) i=0:=fun j i hi=>zaw (bi (zmo rows j) hi)
 refine⟨fun st lW=>?_,#[M],#[M],fun f _ _=>by simp⟩;rw [aN.mp lW];refine⟨⟨⟨rfl,fun x hx=>by cases hx⟩,fun j i hi=>?_,fun j i=>⟨aQ _ #[O],aB _ p0⟩,?_,fun m g=>?_⟩,ah _⟩
 ·show gl (rows.getD j []) i % p=0;rw [oO j i hi];rfl
 ·obtain⟨j,i,h⟩:=qO;refine⟨j,i,aq fun hj=>h ?_,aq fun hi=>h ?_,fun e=>h ?_⟩
  ·have:rows.getD j [] = []:=by rw [am,bq #[O]]; rfl
   rw [this];exact Cg.refl _ _
  ·rw [oO j i (j8 hi)];exact Cg.refl _ _
  ·exact (Cg.emod p _).symm.trans (Cg.of_eq e)
 ·have e:apl [] g=g:=by
   funext i;unfold apl;simp
  rw [e,bE]
theorem zng {n s i m:Nat} (h:i≤n ^ s) (hm:m≤i*n):m≤n ^ (s+1):=by
 rw [jH];exact bi hm (jj n h)
theorem za4:FnScope ["p","k","curve","lines","starts","step"] ["p","k","curve"] (zh zaU):=#[S]
theorem zgV {fd:FuncData} (T:Txt K mg t) (F:Fun K "roots_of" "roots_of" zaU t.roots_of fd):FnOk P w K mg base CX0 4 t.roots_of fd ["p","k","curve"] (zgU K):=by
 obtain⟨oE,mH,mI⟩:=T.f_filled;have nX:=zfb (P:=P) (w:=w) (base:=base) T mH;obtain⟨lS,k8,lg⟩:=T.f_terms_of;have ly:=zbv (P:=P) (w:=w) (base:=base) T k8;obtain⟨qh,oF,nu⟩:=T.f_further;have qY:=zhw (P:=P) (w:=w) (base:=base) T oF;refine F.ok za4 (fun vs H Q E h=>?_) (fun lM A outer s H vs Q E hr h=>?_)
 ·obtain⟨p,k,a,bs,rows,rfl,_⟩:=h;rfl
 ·obtain⟨p,k,a,bs,rows,rfl,hp,ha,hb,hn,hw,k1,k5,vW,qO,q⟩:=h;refine zbo ?_; intro zX;refine⟨_,#[zf,#[zo,3,za4.nd,#[A],#[zk,nX,(hr.mono #[D]),T.m_filled,mH.kp,mI,#[zK],#[za,#[pvx,0],#[ya,#[pvx,2]]]]],#[zf,#[zbA,#[zjx,(@zjD _ _ _ #[zk,ly,(hr.mono #[D]),T.m_terms_of,k8.kp,lg,#[zK],#[ya,#[pvx,3]]] (fun _=>rfl))],#[zj,#[zQ,#[zaE,#[zd]]]],#[zaz]],#[zf,#[zo,4,za4.nd,#[A],#[zaE,#[ya,#[zbh,#[za,#[zbh,#[zd]],#[ya,#[pvx,3]]]]]]],#[zf,#[zal,bn,#[zac,T.range_,#[ya,#[pvx,1]]],#[zi,5,za4.nd,#[A]],#[zj,(@zhc _ _ _ _ _ _ _ _ _ _ _ _ _ _ _ _ _ _ _ _ _ (4) _ _ _ za4.nd rfl #[A] (CompSc.of (N':=["known","rest","longer","p"]) (ix:=[none,none,none,some 0]) (zh zaU) ["p","k","curve","lines","starts","step"] rfl rfl #[N]) rfl (zfl (js:=[0,1]) (zbi (js:=[0,1]) (i:=0) #[D] (zbi (js:=[0,1]) (i:=1) #[D] (zdC (js:=[0,1]))))) (zhM (js:=[2]) (i:=2) #[D]) #[D] #[D] #[zaf,#[pvx,4]] (fun _ _ _ _=>#[zbc,(K),2,#[zm,#[zi,0,(show (["known","rest","longer","p"]:List Str).Nodup from #[N]),#[A]],#[zm,#[zi,1,(show (["known","rest","longer","p"]:List Str).Nodup from #[N]),#[A]],#[zae]]]]) (fun _ _ _ _=>#[zw]) (fun _ _ _ _=>#[zgr,(K),#[zk,qY,(hr.mono #[D]),T.m_further,oF.kp,nu,#[zK],#[za,#[pvx,3],#[za,#[pvx,0],#[ya,#[pvx,1]]]]]]) (fun _ _ _ _=>#[zi,2,(show (["known","rest","longer","p"]:List Str).Nodup from #[N]),#[A]]) (fun _ _ _ _=>#[zw]) (fun _ _ _ _=>#[pvx,2]) (by rfl) (by intro _; rfl) (by intros; rfl) (by trivial))]],#[zj,#[zQ,#[zt,(@zfw _),T.sorted_,boot_sorted,#[ya,#[zN,(CompSc.of (N':=["known","rest"]) (ix:=[none,none]) (zh zaU) ["p","k","curve","lines","starts","step"] rfl rfl #[N]),#[zdh,#[zaq,#[zaq,#[zck]]]],#[zaf,#[pvx,4]],(fun _ _ _ _=>#[zbc,(K),2,#[zm,#[zi,0,(show (["known","rest"]:List Str).Nodup from #[N]),#[A]],#[zm,#[zi,1,(show (["known","rest"]:List Str).Nodup from #[N]),#[A]],#[zae]]]]),(fun _ _ _ _=>#[zdX,#[zjx,(@zmu _ _ _ #[zt,(zi9 (K:=K) rfl rfl),T.any_,boot_any,#[ya,#[zJ,#[zcS,(K)],#[pvx,1],#[ze]]]] (by intro _; rfl))]]),(fun _ _ _ _=>#[pvx,0])]]]]]]]]],?_⟩;refine zoh ?_; intro Au uK qR pO;have og:=bm;have rp:=zan hp;have p0:0 < p:=by lia
  have hwd:wd rows≤100:=ziA hw;refine⟨_,rfl,_,rfl,p,a,bs,rows,rfl,#[O],#[O],ha,hb,hn,hw,fun l ls H1 hl s1 h1 lD=>?_⟩;obtain⟨n,en⟩:∃ n,rows.length=n:=⟨_,rfl⟩;have hI0:=zl2 (k:=k) p0 en.symm qO;rw [en] at hn lD vW;have ym:=(hI0.rs _ aL).1;have qK:1≤n:=by obtain⟨j,_,hj,_⟩:=ym.nz; lia
  refine⟨_,rfl,.inr ⟨l,ls,_,rfl,h1,lD,by rw [zay]; exact hn,fun r lH=>by rw [zec lH]; lia,fun l2 ts H2 rR s2 h2 uN=>?_⟩⟩;rw [zay] at uN;have wL:=uN.length;have hte:ts≠[]:=fun e0=>by
   obtain⟨j0,i0,nL,qL,lC⟩:=ym.nz;have:=zcq.mpr ⟨i0,j0,rfl,nL,qL,lC⟩;rw [e0] at wL;rw [dU.mp wL.symm] at this;cases this
  refine⟨true,.inl ⟨_,kT.of h2,?_⟩,zmJ ?_⟩
  ·cases ts with
   | nil=>exact absurd rfl hte
   | cons x xs=>rfl
  have vS:=s2 _ _ h1;have pB:=lD.same s2;refine⟨by show 0≤sizeLine; lia,fun ka CB=>?_⟩;have u3:=zb (o:=.tup []) CB;have f3:kX H2 ka (.tup []) ka=some (.tup (([]:List Int).map V.int)):=zc;generalize kX H2 ka (.tup [])=H3 at u3 f3 ⊢;refine⟨_,rfl,by show 2≤sizeLine; lia,fun b nR=>?_⟩;have u4:=zb (o:=.tup [.ref ka,.ref l]) nR;have f4:kX H3 b (.tup [.ref ka,.ref l]) b=some (.tup [.ref ka,.ref l]):=zc;generalize kX H3 b (.tup [.ref ka,.ref l])=H4 at u4 f4 ⊢;refine⟨by show 1≤sizeLine; lia,fun sa hsa=>?_⟩;have u5:=zb (o:=.lst [.ref b]) hsa;have f5:kX H4 sa (.lst [.ref b]) sa=some (.lst ([b].map V.ref)):=zc;generalize kX H4 sa (.lst [.ref b])=H5 at u5 f5 ⊢;have tv:=u3.trans (u4.trans u5);have s05:=s1.trans (s2.trans tv);have hR0:RAs H5 n [b] [([],(wd rows,fun j i=>gl (rows.getD j []) i % p))]:=.cons ⟨ka,l,ls,u5 _ _ f4,(u4.trans u5) _ _ f3,tv _ _ vS,pB.same tv⟩ .nil;refine⟨_,rfl,_,rfl,#[O],#[O],zav (lo:=0) (n:=((k:Nat):Int).toNat) (fun s σ H'=>∃ (sa:Addr) (bs:List Addr) (oo:List (List Int×Nat×(Nat→Nat→Int))) (e5:Option V),σ = [some (.int p),some (.int (k:Int)),some (.ref a),some (.ref l),some (.ref sa),e5]∧zC H H'∧H' sa=some (.lst (bs.map V.ref))∧RAs H' n bs oo∧SI p n (fun j i=>gl (rows.getD j []) i % p) k s (wd rows+s*n) oo)
   ⟨sa,[b],_,none,rfl,s05,f5,hR0,by rw [Nat.zero_mul,c7]; exact hI0⟩ ?_ ?_⟩
  ·rintro zD zT s σ H6 hs ⟨sa,bs,oo,e5,rfl,s6,t9,yn,rJ⟩;have hsk:s < k:=by lia
   have pN:=yn.length;have qQ:n ^ (s+1)≤2000000:=bi (jk qK #[O]) vW;have hwb:wd rows+s*n≤600:=by
    have:s*n≤4*100:=Nat.mul_le_mul #[O] hn;lia
   refine⟨_,rfl,sa,rfl,⟨_,kT.of t9⟩,ze0 (n:=bs.length) (fun i ys H'=>∃ (us:List Addr) (out:List (List Int×Nat×(Nat→Nat→Int))),ys=us.map V.ref∧zC H6 H'∧RAs H' n us out∧(∀ st∈out,RS p n (fun j i=>gl (rows.getD j []) i % p) (s+1) st.1 st.2.1 st.2.2∧st.2.1≤wd rows+(s+1)*n)∧(out.map (·.1)).Nodup∧(∀ o∈out,o.1.dropLast∈(oo.take i).map (·.1))∧out.length≤i*n∧∀ f,IsP p k f→Zr p (AL k (gl f) n fun j i=>gl (rows.getD j []) i % p)→f.take s∈(oo.take i).map (·.1)→f.take (s+1)∈out.map (·.1))
    ⟨[],[],rfl,fun _ _ e=>e,.nil,fun st h=>(by cases h),gA,fun o h=>(by cases h),bp _,fun f _ _ h=>(by simp at h)⟩ ?_ ?_ ?_ ?_⟩
   ·rintro i ys H7 hi ⟨us,out,rfl,s7,_⟩;exact⟨_,.ref bs[i],kT.of (s7 _ _ t9),by rw [af,ai hi]; rfl⟩
   ·rintro ys H7 ⟨us,out,rfl,s7,_⟩;exact⟨_,kT.of (s7 _ _ t9),by rw [ab]; exact ah _⟩
   ·rintro i y ys H7 H8 hi ⟨us,out,rfl,s7,lu,CF,uC,uI,Ar,yo⟩ ⟨rfl,hy⟩;obtain⟨sb,rfl,pT⟩:=zH (hy _ (kT.of (s7 _ _ t9)));obtain⟨⟨known,wi,c⟩,lW,ka,na,rK,z1,z2,z3,z4⟩:=Paired.get (yn.same s7) pT;obtain⟨R,hwi⟩:=rJ.rs _ (aA lW);dsimp only at R hwi z2 z4;have xO:known.length=s:=R.kn.1;refine gY2 (kZ.of z1) ?_;refine⟨_,rfl,_,rfl,_,rfl,p,ka,na,known,rK,n,wi,c,rfl,z2,z3,z4,#[O],qK,hn,#[O],hp,R.nz,R.dg,R.rg,fun fl vs e H9 uG s9 h9 As hL=>?_⟩;have hnl:=zkx hp (m:=p.toNat) #[O] R.rg hL;have y8:=As.length;have xE:(nxs p n e wi c known (nums p n e c p.toNat)).length=(nums p n e c p.toNat).length:=by unfold nxs; rw [ab]
    have tY:=lu.length;have hiN:(i+1)*n≤2000000:=by
     have h1:(i+1)*n≤n ^ (s+1):=by rw [jH]; exact jj n (by have:=rJ.len; lia)
     exact bi h1 qQ
    rw [h8] at hiN;refine⟨fl,rfl,⟨_,kT.of h9⟩,ze0 (n:=vs.length) (fun r ys H'=>H'=H9∧ys=(us++vs.take r).map V.ref) ⟨rfl,by rw [iZ,cP]⟩ ?_ ?_ ?_ ?_⟩
    ·rintro r ys Ha lH ⟨rfl,_⟩;exact⟨_,.ref vs[r],kT.of h9,by rw [af,ai lH]; rfl⟩
    ·rintro ys Ha ⟨rfl,_⟩;exact⟨_,kT.of h9,by rw [ab]; exact ah _⟩
    ·rintro r y2 ys Ha Hb lH ⟨rfl,rfl⟩ ⟨rfl,Aj⟩;obtain⟨v,rfl,hv⟩:=zH (Aj _ (kT.of h9));refine gY ⟨_,rfl,by rw [ab,aF,aU]; lia,rfl,?_⟩;rw [take_snoc hv,← bg,aO (l₁:=us++vs.take r)];rfl
    rintro ys Ha ⟨rfl,rfl⟩;rw [iz];have Ag:known∉(oo.take i).map (·.1):=fun hm=>by
     obtain⟨s',lX,e0⟩:=az.mp hm;obtain⟨i',mj⟩:=List.getElem?_of_mem lX;rw [jE] at mj;split at mj
     ·next k9 =>
      have h1:(oo.map (·.1))[i']? = some s'.1:=by rw [af,mj]; rfl
      have h2:(oo.map (·.1))[i]? = some known:=by rw [af,lW]; rfl
      have:=(List.getElem?_inj (j:=i) (bw.mp h1).1 rJ.nd).mp (by rw [h1,h2,e0]);lia
     ·cases mj
    have uP:=zhh (fun b=>(wi - e+(n - 1),zez p b n e c)) uC uI Ag (zed p n e c p.toNat);refine⟨us++vs,out++nxs p n e wi c known (nums p n e c p.toNat),rfl,s7.trans s9,zcA (lu.same s9) As,fun st lX=>?_,uP.1,?_,?_,fun f hf hz ht=>?_⟩
    ·rcases aP.mp lX with h | h
     ·exact CF st h
     ·obtain⟨b,CG,rfl⟩:=az.mp h;have hbr:=(zc5.mp CG).1;refine⟨zlE hp R hL ⟨hbr.1,#[O]⟩,?_⟩;show wi - e+(n - 1)≤wd rows+(s+1)*n;rw [h8];lia
    ·rw [take_snoc lW,aO];exact uP.2
    ·rw [aF,xE,h8];lia
    ·rw [take_snoc lW,aO,aP] at ht;rw [aO,aP];rcases ht with ht | ht
     ·exact .inl (yo f hf hz ht)
     ·right;have oC:known=f.take s:=(aN.mp ht).symm;obtain⟨m,em⟩:∃ m,k=s+(m+1):=⟨k - s - 1,#[O]⟩;have tF:=zlF (m:=m+1) R (by rw [hf.1,em]) oC (by rw [← em]; exact hz);have CI:=zm2 hL tF;have hfs:s < f.length:=by rw [hf.1]; exact hsk
      have hfg:=zb9 hfs;obtain⟨b0,b1⟩:=hf.2 _ (aA hfg);refine az.mpr ⟨_,az.mpr ⟨gl f s,zc5.mpr ⟨⟨b0,#[O]⟩,?_⟩,rfl⟩,?_⟩
      ·exact Cg.eq (zkw.trans CI) (zcT p0 _) (zcU p0 _) (bC 0) p0
      ·show known++[gl f s]=f.take (s+1);rw [take_snoc hfg,oC]
   ·rintro ys H7 ⟨us,out,rfl,s7,lu,CF,uC,uI,Ar,yo⟩ D hD;rw [pN,iz] at yo;refine⟨D,us,out,_,rfl,(s6.trans s7).trans (zb hD),zc,lu.same (zb hD),CF,uC,zng rJ.len (by rw [← pN]; exact Ar),fun f hf hz=>yo f hf hz (rJ.all f hf hz)⟩
  ·rintro σ H6 ⟨sa,bs,oo,e5,rfl,s6,t9,yn,rJ⟩;have ek:((k:Nat):Int).toNat=k:=by lia
   rw [ek] at rJ;have pN:=yn.length;have CJ:=bi rJ.len vW;obtain⟨n',rfl⟩:∃ n',n=n'+1:=⟨n - 1,#[O]⟩;have hzero:∀ st∈oo,(Zr p (AL k (gl st.1) (n'+1) fun j i=>gl (rows.getD j []) i % p)↔((aI st.2.1).map fun i=>st.2.2 0 i).any (· != 0)=false):=fun st lW=>by
    rw [zm3 hp (rJ.rs st lW).1,List.any_map];constructor
    ·intro h;rw [jX];intro i hi;simpa using h i (bd.mp hi)
    ·intro h i hi;have:=jX.mp h i (bd.mpr hi);simpa using this
   refine⟨_,rfl,sa,rfl,⟨_,kT.of t9⟩,zV (n:=bs.length) (fun m ys H'=>H'=H6∧∃ ps:List (Addr×List Int),ys=ps.map (fun q=>V.ref q.1)∧(∀ q∈ps,H6 q.1=some (.tup (q.2.map V.int)))∧ps.map (·.2)=((oo.take m).filter fun st=>!((aI st.2.1).map fun i=>st.2.2 0 i).any (· != 0)).map (·.1)) ⟨rfl,[],rfl,fun q h=>(by cases h),rfl⟩ ?_ ?_ ?_ ?_⟩
   ·rintro m ys H7 hm ⟨rfl,_⟩;exact⟨_,.ref bs[m],kT.of t9,by rw [af,ai hm]; rfl⟩
   ·rintro ys H7 ⟨rfl,_⟩;exact⟨_,kT.of t9,by rw [ab]; exact ah _⟩
   ·rintro m y ys H7 H8 hm ⟨rfl,ps,rfl,qQ,uQ⟩ ⟨rfl,hy⟩;obtain⟨sb,rfl,pT⟩:=zH (hy _ (kT.of t9));obtain⟨⟨known,wi,c⟩,lW,ka,na,rK,z1,z2,z3,z4⟩:=Paired.get yn pT;dsimp only at z2 z4;have qP:=z4.length;rw [zay] at qP;have wN:rK[0]? = some (rK[0]'#[O]):=ai _;obtain⟨r,lH,CK⟩:=Paired.get z4 wN;rw [zaa #[O]] at lH;cases lH;refine⟨sb,_,rfl,kZ.of z1,rfl,_,_,rfl,_,_,rfl,rfl,?_⟩;refine⟨_,rfl,na,_,_,_,rfl,rfl,kT.of z3,zaO (j:=0) (by rw [af,wN]; rfl),_,_,rfl,kT.of CK,_,rfl,?_⟩;have nO:ps.length≤m:=by
     have:=congrArg gC uQ;rw [ab,ab] at this;rw [this];exact bi (eJ _ _) (by rw [aU]; lia)
    have vw:(oo.take (m+1)).filter (fun st=>!((aI st.2.1).map fun i=>st.2.2 0 i).any (· != 0))=(oo.take m).filter (fun st=>!((aI st.2.1).map fun i=>st.2.2 0 i).any (· != 0))++[(known,wi,c)].filter (fun st=>!((aI st.2.1).map fun i=>st.2.2 0 i).any (· != 0)):=by rw [take_snoc lW,gJ]
    refine zcH (fun h=>⟨_,rfl,by rw [ab]; lia,rfl,ps++[(ka,known)],by rw [aO]; rfl,fun q hq=>?_,?_⟩) (fun h=>⟨rfl,ps,rfl,qQ,?_⟩)
    ·rcases (aP.mp hq) with hq | hq
     ·exact qQ q hq
     ·(rw [aN.mp hq])
      exact z2
    ·rw [vw,List.filter_cons_of_pos (p:=fun st:List Int×Nat×(Nat→Nat→Int)=>!((aI st.2.1).map fun i=>st.2.2 0 i).any (· != 0)) h,aO,aO,uQ];rfl
    ·rw [vw,List.filter_cons_of_neg (p:=fun st:List Int×Nat×(Nat→Nat→Int)=>!((aI st.2.1).map fun i=>st.2.2 0 i).any (· != 0)) h,kv,cP];exact uQ
   rintro ys H7 D ⟨rfl,ps,rfl,qQ,uQ⟩ hD;rw [pN,iz] at uQ;have u7:=zb (o:=.lst (ps.map fun q=>V.ref q.1)) hD;have mG:∀ x,x∈ps.map (·.2)↔IsP p k x∧Zr p (AL k (gl x) (n'+1) fun j i=>gl (rows.getD j []) i % p):=fun x=>by
    rw [uQ];constructor
    ·intro h;obtain⟨st,lW,rfl⟩:=az.mp h;obtain⟨h1,h2⟩:=cA.mp lW;exact⟨(rJ.rs st h1).1.kn,(hzero st h1).mpr (by simpa using h2)⟩
    ·rintro⟨h1,h2⟩;have h3:=rJ.all x h1 h2;rw [aT (by rw [h1.1]; exact ah _)] at h3;obtain⟨st,lW,rfl⟩:=az.mp h3;exact az.mpr ⟨st,cA.mpr ⟨lW,by rw [(hzero st lW).mp h2]; rfl⟩,rfl⟩
   have hNd:(ps.map (·.2)).Nodup:=by
    rw [uQ];exact (List.filter_sublist.map _).nodup rJ.nd
   refine⟨D,k,p,ps,rfl,kT.of zc,fun q hq=>?_,k1,#[O],fun l9 lN qD qB xP=>?_⟩
   ·have hm:=(mG q.2).mp (az.mpr ⟨q,hq,rfl⟩);exact⟨u7 _ _ (qQ q hq),hm.1.1,hm.1.2⟩
   have u9:=zb (o:=.lst (lN.map fun q=>V.ref q.1)) qD;have s07:=s6.trans u7;have oU:=qB.map (·.2);refine q l9 (lN.map (·.1)) (lN.map (·.2)) _ (s07.free qD) (s07.trans u9) (by rw [zc,cj]; rfl) (zaB.of fun q hq=>u9 _ _ (u7 _ _ (qQ q (qB.mem_iff.mp hq)))) (by
    rw [oU.length_eq,uQ,ab];exact bi (eJ _ _) CJ) (zh6 #[O] (fun x hx=>((mG x).mp (oU.mem_iff.mp hx)).1) (oU.nodup_iff.mpr hNd) (db.mpr xP)) fun x=>?_
   rw [oU.mem_iff,mG x,en];have hc:∀ i,Cg p (AL k (gl x) (n'+1) (fun j i=>gl (rows.getD j []) i % p) i) (AL k (gl x) (n'+1) (fun j i=>gl (rows.getD j []) i) i):=fun i=>zgt (fun j i _=>Cg.emod p _) i
   rw [zku hc]
end
section
variable {P:Program} {w:World} {K:ag} {mg:Str→Option Value} {base:Heap} {t:Adr}
theorem ziB {p:Int} {rows:List (List Int)} (hz:∃ j i,¬ Cg p (gl (rows.getD j []) i) 0):zW rows rows.length≠[]:=by
 obtain⟨j,i,h⟩:=hz;have hc:gl (rows.getD j []) i≠0:=fun z=>h (by rw [z]; exact Cg.refl _ _)
 have hj:j < rows.length:=aq fun hn=>hc (by rw [am,bq #[O]]; rfl)
 have hm:=(zbI (rows:=rows) (n:=rows.length)).mpr ⟨j,i,hj,hc,rfl⟩;exact jO hm
theorem zdr {p k M:Int} {rows:List (List Int)} (h:∀ r∈rows,∀ c∈r,0≤c∧c < p) (hz:∃ j i,¬ Cg p (gl (rows.getD j []) i) 0) (hM:szs k (zW rows rows.length)≠[]→M∈szs k (zW rows rows.length)∧∀ x∈szs k (zW rows rows.length),x≤M):Lea2 p (-1) (-(k - 1)) (fun j i=>gl (rows.getD j []) i) (-M):=by
 obtain⟨h1,h2⟩:=hM (by unfold szs; exact fun e=>ziB hz (gr.mp e));exact zkY h h1 h2
theorem zeq {rows:List (List Int)} {j i:Nat} (h:rows.length≤j∨wd rows≤i):cu rows j i=0:=by
 unfold cu;rcases h with h | h
 ·rw [am,bq #[O]]; rfl
 ·exact zaw (bi (zmo rows j) h)
theorem zer {p x y M:Int} (hp:5≤p) {rows:List (List Int)} {N W:Nat} (hN:rows.length≤N) (hW:wd rows≤W) (hz:∃ j i,¬ Cg p (gl (rows.getD j []) i) 0) (hM:wts (zW (mvd p x y rows) rows.length)≠[]→M∈wts (zW (mvd p x y rows) rows.length)∧∀ z∈wts (zW (mvd p x y rows) rows.length),M≤z):Lea2 p 1 1 (mv x y N W (cu rows)) M:=by
 have e:mv x y N W (cu rows)=mv x y rows.length (wd rows) (cu rows):=funext fun j=>funext fun i=>zl1 (fun j i h=>zeq h) hN hW j i
 rw [e];have lC:wts (zW (mvd p x y rows) rows.length)≠[]:=by
  obtain⟨j,i,h⟩:=hz;have hj:j < rows.length:=aq fun hn=>h (Cg.of_eq (zeq (.inl #[O])))
  have hi:i < wd rows:=aq fun hn=>h (Cg.of_eq (zeq (.inr #[O])))
  obtain⟨t,s,ht,hs,uN⟩:=znQ (a:=x) (b:=y) (c:=cu rows) hj hi h;have hc:gl ((mvd p x y rows).getD t []) s≠0:=fun z=>uN ((zhu t s).symm.trans (Cg.of_eq z))
  unfold wts;exact fun e=>jO (zbI.mpr ⟨t,s,ht,hc,rfl⟩) (gr.mp e)
 obtain⟨h1,h2⟩:=hM lC;exact zk0 hp h1 h2
theorem zl3 {p k M M1 M2:Int} (hp:p∈zp) {F G P:Nat→Nat→Int} (hP:∀ j i,Cg p (P j i) (cv2 F G j i)) (h1:Lea2 p (-1) (-(k - 1)) F (-M1)) (h2:Lea2 p (-1) (-(k - 1)) G (-M2)) (h:Lea2 p (-1) (-(k - 1)) P (-M)):M=M1+M2:=by
 have:=(zdo hp #[O] hP h1 h2).eq h;lia
theorem zl4 {p x y M M1 M2:Int} (hp:p∈zp) {r1 r2 r3:List (List Int)} {N W:Nat} (hN:r1.length+r2.length≤N) (hW:wd r1+wd r2≤W) (hP:∀ j i,Cg p (cu r3 j i) (cv2 (cu r1) (cu r2) j i)) (h1:Lea2 p 1 1 (mv x y N W (cu r1)) M1) (h2:Lea2 p 1 1 (mv x y N W (cu r2)) M2) (h:Lea2 p 1 1 (mv x y N W (cu r3)) M):M=M1+M2:=by
 refine h.eq (zdo hp #[O] (fun j i=>?_) h1 h2);exact (zkZ hP j i).trans (Cg.of_eq (zlL (fun j i h=>zeq h) (fun j i h=>zeq h) hN hW j i))
theorem zl5 {p:Int} (hp:p∈zp) {F G P:Nat→Nat→Int} {a b:Int} (hP:∀ j i,Cg p (P j i) (cv2 F G j i)) (h1:Lea2 p (-1) (-(2 - 1)) F a) (h2:Lea2 p (-1) (-(2 - 1)) G b):∃ j i,¬ Cg p (P j i) 0:=by
 obtain⟨j,i,h,_⟩:=(zdo hp #[O] hP h1 h2).at';exact⟨j,i,h⟩
theorem zn2 {x y b:Int} {n w:Nat} {F:Nat→Nat→Int} (j i:Nat):mv x y n w (fun j i=>F j i*b) j i=mv x y n w F j i*b:=by
 unfold mv;have e:(fun s=>sh y n (fun t=>F t s*b) j)=fun s=>b*sh y n (fun t=>F t s) j:=funext fun s=>by
  rw [← zby];exact zca fun t _=>eH _ _
 rw [e,zby,eH]
end
section
variable {P:Program} {w:World} {K:ag} {mg:Str→Option Value} {base:Heap} {t:Adr}
def zbd (p:Int) (wide:Nat) (r:List Int):Prop:=1≤r.length∧r.length≤wide∧∀ v∈r,0≤v∧v < p
theorem zbd.set {p:Int} {wide:Nat} {r:List Int} (h:zbd p wide r) {v:Int} (h0:0≤v) (h1:v < p) (i:Nat):zbd p wide (r.set i v):=by
 refine⟨by rw [cZ]; exact h.1,by rw [cZ]; exact h.2.1,fun z hz=>?_⟩;rcases dG hz with hz | rfl
 ·exact h.2.2 z hz
 ·exact⟨h0,h1⟩
def Mxs (ms:List Int) (rows:List (List Int)):Prop:=Paired (fun m r=>m∈r∧∀ a∈r,a≤m) ms rows
def zhx (K:ag):Sp:=fun vs H Q _=>∃ (a:Addr) (ns:List Int) (tw p:Int) (high wide:Nat),vs = [.ref a,.int tw,.int p,.int (high:Int),.int (wide:Int)]∧kT K H a (ns.map V.int)∧ns.length≤63∧0≤tw∧tw≤900∧5≤p∧p≤97∧1≤high∧high≤50∧1≤wide∧wide≤100 ∧
 ∀ (l:Addr) (ls:List Addr) (rows:List (List Int)) (H':Hp),H l=none→zC H H'→H' l=some (.tup (ls.map V.ref))→zaB H' ls rows→1≤rows.length→rows.length≤high→(∀ r∈rows,zbd p wide r)→(∃ r∈rows,∃ v∈r,v≠0)→Q (.ref l) H'
theorem zaI:FnScope ["script","at","p","high","wide","plan","draws","lines","j","many","i"] ["script","at","p","high","wide"] (zh zbg):=#[S]
theorem zhy {fd:FuncData} (T:Txt K mg t) (F:Fun K "_law_curve" "_law_curve" zbg t.l_curve fd):FnOk P w K mg base CX0 3 t.l_curve fd ["script","at","p","high","wide"] (zhx K):=by
 obtain⟨mT,lq,lA⟩:=T.f_l_draws;have lK:=zcM (P:=P) (w:=w) (base:=base) T lq;refine F.ok zaI (fun vs H Q E h=>?_) (fun lM A outer s H vs Q E hr h=>?_)
 ·obtain⟨a,ns,tw,p,high,wide,rfl,_⟩:=h;rfl
 ·obtain⟨a,ns,tw,p,high,wide,rfl,hS,kY,a0,a1,p5,qb,Al,wG,xG,vG,q⟩:=h;refine zbo ?_; intro zX;refine⟨_,#[zf,#[zo,5,zaI.nd,#[A],#[zk,lK,(hr.mono #[D]),T.m_l_draws,lq.kp,lA,#[zK],#[za,#[pvx,0],by exact #[za,#[pvx,1],#[za,#[ze],#[ya,#[ze]]]]]]],#[zf,#[zo,6,zaI.nd,#[A],#[zk,lK,(hr.mono #[D]),T.m_l_draws,lq.kp,lA,#[zK],#[za,#[pvx,0],by exact #[za,#[zg,#[zv],#[pvx,1],#[ze]],#[za,#[ze],#[ya,#[ze]]]]]]],#[zf,#[zo,7,zaI.nd,#[A],#[zaE,#[zd]]],#[zf,#[zal,bn,#[zac,T.range_,#[ya,#[zg,#[zv],#[ze],#[zg,#[zy],#[zJ,#[zn],#[pvx,5],#[ze]],#[pvx,3]]]]],#[zi,8,zaI.nd,#[A]],#[zf,#[zo,9,zaI.nd,#[A],#[zg,#[zv],#[ze],#[zg,#[zy],#[zJ,#[zn],#[pvx,6],#[pvx,8]],#[pvx,4]]]],#[zf,#[zhB,#[zjE,fH,iu,iw,#[zeQ],#[pvx,7],#[ya,#[zg,#[zcG],#[zaE,#[ya,#[ze]]],#[pvx,9]]]]],#[zj,#[zal,bn,#[zac,T.range_,#[ya,#[pvx,9]]],#[zi,10,zaI.nd,#[A]],#[zj,#[zbA,#[zau,#[zl9],#[zg,#[zy],#[zJ,#[zn],#[pvx,6],#[zg,#[zy],#[zg,#[zv],#[zg,#[zv],#[ze],#[zg,#[zam],#[ze],#[pvx,8]]],#[pvx,10]],#[ze]]],#[ze]],#[ze],(zaD _)],#[zj,#[zbK,#[zg,#[zy],#[zJ,#[zn],#[pvx,6],#[zg,#[zy],#[zg,#[zv],#[zg,#[zv],#[ze],#[zg,#[zam],#[ze],#[pvx,8]]],#[pvx,10]],#[ze]]],#[pvx,2]],#[zcF,#[zJ,#[zn],#[pvx,7],#[zjA,zgY,#[ze]]],#[pvx,10],set_list]]],#[zaz]]]]]]]],#[zf,(zhd #[zbA,#[zau,#[zdU],#[zt,#[zbE],T.max_,gB,#[ya,#[zN,(CompSc.of (N':=["line"]) (ix:=[none]) (zh zbg) ["script","at","p","high","wide","plan","draws","lines","j","many","i"] rfl rfl #[N]),#[zS],#[zaf,#[pvx,7]],(fun _ _ _ _=>#[zi,0,(show (["line"]:List Str).Nodup from #[N]),#[A]]),(fun _ _ _ _=>#[zw]),(fun _ _ _ _=>#[zt,(zhf (K:=K) rfl rfl),T.max_,gB,#[ya,#[pvx,0]]])]]],#[ze],(zaD _)],#[zj,#[zbK,#[ze],#[zcF,#[zJ,#[zn],#[pvx,7],#[zjA,zgY,#[ze]]],#[zjA,zgY,#[ze]],set_list]]],#[zaz]]),#[zj,#[zQ,#[zG,#[z8],T.tuple_,c9,#[ya,#[zN,(CompSc.of (N':=["line"]) (ix:=[none]) (zh zbg) ["script","at","p","high","wide","plan","draws","lines","j","many","i"] rfl rfl #[N]),#[zS],#[zaf,#[pvx,7]],(fun _ _ _ _=>#[zi,0,(show (["line"]:List Str).Nodup from #[N]),#[A]]),(fun _ _ _ _=>#[zw]),(fun _ _ _ _=>#[zG,(zax (K:=K) rfl),T.tuple_,c9,#[ya,#[pvx,0]]])]]]]]]]]]],?_⟩;refine zoi ?_; intro B9 Au uK qR pO;have og:=bm;refine⟨_,rfl,_,rfl,a,ns,tw,4,27720,rfl,hS,kY,#[O],#[O],#[D],#[D],#[D],#[D],fun l1 d1 H1 vk s1 ok1 h1=>?_⟩;refine⟨_,rfl,_,rfl,_,_,rfl,rfl,a,ns,tw+1,60,27720,rfl,s1.seq hS,kY,#[O],#[O],#[D],#[D],#[D],#[D],fun l2 d2 H2 rR s2 CL h2=>?_⟩;have h1:=s2 _ _ h1;have Ay:=s1.trans s2;refine⟨bp _,fun L hL=>?_⟩;have LH:=hL;have sL:=zb (o:=.lst []) hL;obtain⟨d,hd,d0,d9⟩:=zbs (i:=0) ok1 #[D] #[D];have dm0:=aQ d (show (high:Int)≠0 by lia);have dm1:=aB d (show 0 < (high:Int) by lia);refine⟨_,rfl,l1,_,_,_,rfl,rfl,kT.of (sL _ _ h1),hd,_,rfl,_,_,rfl,rfl,#[O],_,_,rfl,rfl,_,rfl,#[O],#[O],?_⟩;generalize hN:(1+d % (high:Int)).toNat=N;have N1:1≤N:=by lia
  have N2:N≤high:=by lia
  refine zav (lo:=0) (n:=N) (fun j σ H'=>∃ (e8 e9 pQ:Option V),σ = [some (.ref a),some (.int tw),some (.int p),some (.int (high:Int)),some (.int (wide:Int)),some (.ref l1),some (.ref l2),some (.ref L),e8,e9,pQ]∧zC H2 H'∧∃ (ls:List Addr) (rows:List (List Int)),H' L=some (.lst (ls.map V.ref))∧LsA H' ls rows∧(ls.Nodup∧∀ b∈ls,H2 b=none)∧rows.length=j∧∀ r∈rows,zbd p wide r) ⟨none,none,none,rfl,sL,[],[],zc,.nil,⟨.nil,fun _ z=>nomatch z⟩,rfl,fun _ z=>nomatch z⟩ ?_ ?_
  ·rintro zD zT j σ H3 hj ⟨e8,e9,pQ,rfl,s3,ls,rows,tx,lD,⟨nd,n2⟩,tV,hg⟩;rw [show ((0:Int)+(j:Int))=(j:Int) from dv _];obtain⟨u,hu,u0,u9⟩:=zbs (i:=(j:Int)) CL #[O] (by show (j:Int) < 60; lia);have um0:=aQ u (show (wide:Int)≠0 by lia);have um1:=aB u (show 0 < (wide:Int) by lia);refine⟨_,rfl,_,rfl,l2,_,_,_,rfl,rfl,kT.of (s3 _ _ h2),hu,_,rfl,_,_,rfl,rfl,#[O],_,_,rfl,rfl,?_⟩;obtain⟨mn,emn⟩:∃ m:Nat,1+u % (wide:Int)=m:=⟨(1+u % (wide:Int)).toNat,#[O]⟩;show zaK 9 (.int (1+u % (wide:Int))) _ _ _;rw [emn];have mn1:1≤mn:=by lia
   have mn2:mn≤wide:=by lia
   refine⟨_,rfl,.inl ⟨rfl,_,kT.of tx⟩,by show 1≤sizeLine; lia,fun Z hZ=>?_⟩;have sZ:=zb (o:=.lst [V.int 0]) hZ;have yj:((mn:Int)).toNat=mn:=by lia
   refine⟨_,rfl,Z,_,_,rfl,rfl,zc,#[O],#[O],by rw [yj]; show 1*mn≤sizeLine; lia,fun D hD=>?_⟩;rw [yj,bT];have CM:H3 D=none:=sZ.free hD;have s4:=sZ.trans (zb (o:=.lst (ar mn (V.int 0))) hD);have h4D:kX (kX H3 Z (.lst [V.int 0])) D (.lst (ar mn (V.int 0))) D=some (.lst ((ar mn (0:Int)).map V.int)):=by rw [zc,cV]
   generalize kX (kX H3 Z (.lst [V.int 0])) D (.lst (ar mn (V.int 0)))=H4 at s4 h4D ⊢;have rL:=s4 _ _ tx;have LD:L≠D:=zI tx CM;refine⟨L,_,_,rfl,rfl,rL,by rw [ab,aV lD]; lia,?_⟩;have k5:∀ b o,b≠L→H4 b=some o→kX H4 L (.lst (ls.map V.ref++[V.ref D])) b=some o:=fun b o hb e=>by rw [zl hb]; exact e
   have CN:kX H4 L (.lst (ls.map V.ref++[V.ref D])) L=some (.lst ((ls++[D]).map V.ref)):=by rw [zc,aO]; rfl
   have tv:zC H2 (kX H4 L (.lst (ls.map V.ref++[V.ref D]))):=zaL (s3.trans s4) hL;have yp:LsA (kX H4 L (.lst (ls.map V.ref++[V.ref D]))) ls rows:=zfz (D:=L) (fun hm=>by
    obtain⟨i,hi⟩:=bN.mp hm;exact lD.off tx i L hi rfl) k5 (lD.same s4)
   have h5D:=k5 D _ (cD LD) h4D;generalize kX H4 L (.lst (ls.map V.ref++[V.ref D]))=H5 at CN tv yp h5D ⊢;have Dls:D∉ls:=zd7 lD CM;have D2:H2 D=none:=s3.free CM;refine⟨_,rfl,_,rfl,#[O],#[O],zav (lo:=0) (n:=((mn:Int)).toNat) (fun i σ H'=>∃ (pQ:Option V),σ = [some (.ref a),some (.int tw),some (.int p),some (.int (high:Int)),some (.int (wide:Int)),some (.ref l1),some (.ref l2),some (.ref L),some (.int (j:Int)),some (.int (mn:Int)),pQ]∧(∀ b o,b≠D→H5 b=some o→H' b=some o)∧∃ r:List Int,H' D=some (.lst (r.map V.int))∧r.length=mn∧zbd p wide r) ⟨pQ,rfl,fun _ _ _ e=>e,_,h5D,aR,⟨by rw [aR]; exact mn1,by rw [aR]; exact mn2,fun v hv=>by rw [cH hv]; lia⟩⟩ ?_ ?_⟩
   ·rintro zD zT i σ H6 hi ⟨pQ,rfl,k6,r,Az,o3,uR⟩;rw [show ((0:Int)+(i:Int))=(i:Int) from dv _];have hi:i < mn:=by lia
    have l2D:l2≠D:=fun e=>by rw [e,D2] at h2; cases h2
    have yq:=k6 _ _ l2D (tv _ _ h2);have h6L:=k6 _ _ LD CN;have x10:=aQ (23+5*(j:Int)+(i:Int)) (show (60:Int)≠0 by decide);have x11:=aB (23+5*(j:Int)+(i:Int)) (show 0 < (60:Int) by decide);have x20:=aQ (9+7*(j:Int)+(i:Int)) (show (60:Int)≠0 by decide);have x21:=aB (9+7*(j:Int)+(i:Int)) (show 0 < (60:Int) by decide);obtain⟨u1,Aq,CP,yr⟩:=zbs CL x10 x11;obtain⟨u2,hu2,AA,u29⟩:=zbs CL x20 x21;have v0:=aQ u2 (show p≠0 by lia);have v1:=aB u2 (show 0 < p by lia);refine⟨_,rfl,_,rfl,_,_,rfl,rfl,.inl ⟨#[D],#[D]⟩,_,_,rfl,rfl,_,rfl,_,_,rfl,rfl,_,_,rfl,rfl,#[O],l2,_,_,_,rfl,rfl,kT.of yq,Aq,_,_,rfl,rfl,#[O],_,_,rfl,rfl,_,rfl,?_⟩;refine zcH (fun _=>?_) (fun _=>⟨_,rfl,k6,r,Az,o3,uR⟩);refine⟨_,rfl,_,rfl,_,_,rfl,rfl,.inl ⟨#[D],#[D]⟩,_,_,rfl,rfl,_,rfl,_,_,rfl,rfl,_,_,rfl,rfl,#[O],l2,_,_,_,rfl,rfl,kT.of yq,hu2,_,rfl,_,_,rfl,rfl,#[O],?_⟩;have mC:atI ((ls++[D]).map V.ref) (-1)=some (.ref D):=by rw [aO]; exact zib
    refine⟨_,rfl,_,rfl,L,_,_,_,rfl,rfl,kT.of h6L,mC,_,rfl,D,_,_,i,rfl,rfl,Az,?_,?_⟩
    ·rw [ab,o3];unfold ixN;rw [if_pos #[O],if_pos #[O]];simp
    ·refine⟨_,rfl,fun b o hb e=>by rw [zl hb]; exact k6 b o hb e,r.set i (u2 % p),by rw [zc,eO],by rw [cZ]; exact o3,uR.set v0 v1 i⟩
   ·rintro σ H6 ⟨pQ,rfl,k6,r,Az,o3,uR⟩;refine⟨_,_,_,rfl,fun b o e=>k6 b o (fun z=>by rw [z,D2] at e; cases e) (tv b o e),ls++[D],rows++[r],k6 _ _ LD CN,bV (zfz Dls k6 yp) Az,?_,by simp [tV],?_⟩
    ·refine⟨?_,fun b hb=>(aP.mp hb).elim (n2 b) fun e=>by rw [aN.mp e]; exact D2⟩;rw [de];exact⟨nd,#[M],fun x hx y hy=>by rw [aN.mp hy]; exact fun e=>Dls (by rw [← e]; exact hx)⟩
    ·intro r' lH;rcases aP.mp lH with h | h
     ·exact hg r' h
     ·rw [aN.mp h]; exact uR
  ·rintro σ H3 ⟨e8,e9,pQ,rfl,s3,ls,rows,tx,lD,⟨nd,n2⟩,tV,hg⟩;have kY:=aV lD;refine⟨fun σ H4=>∃ (e8 e9 pQ:Option V) (lh:List (List Int)),σ = [some (.ref a),some (.int tw),some (.int p),some (.int (high:Int)),some (.int (wide:Int)),some (.ref l1),some (.ref l2),some (.ref L),e8,e9,pQ]∧zC H2 H4∧H4 L=some (.lst (ls.map V.ref))∧LsA H4 ls lh∧lh.length=N∧(∀ r∈lh,zbd p wide r)∧∃ r∈lh,∃ v∈r,v≠0,?_,?_⟩;rotate_left
   ·rintro σ H4 ⟨e8,e9,pQ,lh,rfl,s4,rL,yt,sQ,vH,lC⟩;have hlen':=aV yt;refine⟨_,rfl,L,rfl,⟨_,kT.of rL⟩,zV (n:=N) (fun m ys H'=>zC H4 H'∧∃ us:List Addr,ys=us.map V.ref∧zaB H' us (lh.take m)) ⟨fun _ _ e=>e,[],rfl,.nil⟩ ?_ ?_ ?_ ?_⟩
    ·rintro m ys H7 hm ⟨s7,_⟩;exact⟨_,.ref (ls[m]'#[O]),kT.of (s7 _ _ rL),by rw [af,ai #[O]]; rfl⟩
    ·rintro ys H7 ⟨s7,_⟩;exact⟨_,kT.of (s7 _ _ rL),by rw [ab]; lia⟩
    ·rintro m z ys H7 H8 hm ⟨s7,us,rfl,lu⟩ ⟨rfl,hx⟩;obtain⟨b,rfl,pv⟩:=zH (hx _ (kT.of (s7 _ _ rL)));obtain⟨r,hr,oP⟩:=Paired.get yt pv;have hz:us.length=m:=by rw [aV lu,aU]; lia
     refine gY ?_;refine⟨_,rfl,b,_,rfl,.inl ⟨kT.of (s7 _ _ oP),fun D hD=>⟨by rw [ab]; lia,s7.trans (zb hD),us++[D],#[M],?_⟩⟩⟩;rw [take_snoc hr];exact bV (lu.same (zb hD)) zc
    ·rintro ys H7 D ⟨s7,us,rfl,lu⟩ hD;rw [aT #[O]] at lu;refine⟨D,_,rfl,.inl ⟨kT.of zc,fun l hl=>?_⟩⟩;have sf:=((Ay.trans s4).trans s7).trans (zb (o:=.lst (us.map V.ref)) hD);exact q l us lh _ (sf.free hl) (sf.trans (zb hl)) zc ((lu.same (zb hD)).same (zb hl)) #[O] #[O] vH lC
   refine⟨_,rfl,L,rfl,⟨_,kT.of tx⟩,zV (n:=N) (fun m ys H'=>H'=H3∧∃ ms:List Int,ys=ms.map V.int∧Mxs ms (rows.take m)) ⟨rfl,[],rfl,.nil⟩ ?_ ?_ ?_ ?_⟩
   ·rintro m ys H4 hm ⟨rfl,_⟩;exact⟨_,.ref (ls[m]'#[O]),kT.of tx,by rw [af,ai #[O]]; rfl⟩
   ·rintro ys H4 ⟨rfl,_⟩;exact⟨_,kT.of tx,by rw [ab]; lia⟩
   ·rintro m z ys H4 H5 hm ⟨rfl,ms,rfl,tL⟩ ⟨rfl,hx⟩;obtain⟨b,rfl,pv⟩:=zH (hx _ (kT.of tx));obtain⟨r,hr,oP⟩:=Paired.get lD pv;have hz:ms.length=m:=by rw [aV tL,aU]; lia
    refine gY ?_;refine⟨_,rfl,b,r,rfl,kT.of oP,fun e=>?_,fun M hM hM'=>⟨by rw [ab]; lia,rfl,ms++[M],#[M],?_⟩⟩
    ·have:=(hg r (aA hr)).1;rw [e] at this;simp at this
    ·rw [take_snoc hr];exact bV tL ⟨hM,hM'⟩
   ·rintro ys H4 D ⟨rfl,ms,rfl,tL⟩ hD;rw [aT #[O]] at tL;have hml:=aV tL;refine⟨D,ms,rfl,kT.of zc,fun e=>by rw [e] at hml; simp at hml; lia,fun M hM hM'=>?_⟩;have sD:=zb (o:=.lst (ms.map V.int)) hD;have ua:=lD.same sD;have rL:=sD _ _ tx;have s4:=s3.trans sD;generalize kX H4 D (.lst (ms.map V.int))=H5 at sD ua rL s4 ⊢;refine⟨rfl,_,rfl,?_⟩;refine zcH (fun _=>?_) (fun hM0=>?_)
    ·obtain⟨rK,b,els⟩:∃ rK b,ls=rK++[b]:=⟨_,_,(eM (l:=ls) (fun e=>by rw [e] at kY; simp at kY; lia)).symm⟩;obtain⟨lh,r,tu⟩:∃ lh r,rows=lh++[r]:=⟨_,_,(eM (l:=rows) (fun e=>by rw [e] at tV; simp at tV; lia)).symm⟩;subst els;subst tu;have sQ:rK.length=lh.length:=by simpa using kY
     obtain⟨hA,hB⟩:LsA H5 rK lh∧H5 b=some (.lst (r.map V.int)):=zdw ua;have uR:=hg r #[M];have nb:b∉rK:=by
      rw [de] at nd;exact fun z=>nd.2.2 b z b #[M] rfl
     have bL:b≠L:=ua.off rL rK.length b #[M];have mC:atI ((rK++[b]).map V.ref) (-1)=some (.ref b):=by rw [aO]; exact zib
     refine⟨_,rfl,_,rfl,L,_,_,_,rfl,rfl,kT.of rL,mC,_,rfl,b,_,_,r.length - 1,rfl,rfl,hB,?_,?_⟩
     ·rw [ab];unfold ixN;have:=uR.1;rw [if_neg #[D],if_pos #[O]];congr 1;lia
     ·refine⟨_,_,_,lh++[r.set (r.length - 1) 1],rfl,zaL s4 ?_,by rw [zl bL.symm]; exact rL,bV (zfz nb (fun c o hc e=>by rw [zl hc]; exact e) hA) (by rw [zc,eO]),?_,?_,?_⟩
      ·exact n2 b #[M]
      ·simpa using tV
      ·intro r' lH;rcases aP.mp lH with h | h
       ·exact hg r' (by simp [h])
       ·rw [aN.mp h]; exact uR.set #[D] #[O] _
      ·have:=uR.1;exact⟨_,aE _ (aN.mpr rfl),1,bN.mpr ⟨r.length - 1,by rw [eA #[O]]⟩,#[D]⟩
    ·refine⟨_,_,_,rows,rfl,s4,rL,ua,tV,hg,?_⟩;obtain⟨i,hi⟩:=bN.mp hM;obtain⟨r,hr,Bt,_⟩:=Paired.get tL hi;exact⟨r,aA hr,M,Bt,by simpa using hM0⟩
end
theorem zk4 {p:Int} {k:Nat} (hp:1≤p) {ps lN:List (Addr×List Int)} {qs:List (List Int)} (hP:∀ q∈lN,IsP p k q.2) (nd:(lN.map (·.2)).Nodup) (h3:lN.Pairwise fun a b=>Srt.num p a.2≤Srt.num p b.2) (hk:∀ t,t∈lN.map (·.2)↔t∈ps.map (·.2)) (hR:zfx p k qs) (hm:∀ t,t∈qs↔t∈ps.map (·.2)):lN.map (·.2)=qs:=by
 refine zfy (zh6 hp (fun q hq=>?_) nd ?_) hR fun q=>(hk q).trans (hm q).symm
 ·obtain⟨x,hx,rfl⟩:=az.mp hq;exact hP x hx
 ·exact db.mpr h3
section
variable {P:Program} {w:World} {K:ag} {mg:Str→Option Value} {base:Heap} {t:Adr}
structure Cv10 (p:Int) (n w:Nat) (rows:List (List Int)):Prop where
 l1:1≤rows.length
 l2:rows.length≤n
 w:∀ r∈rows,1≤r.length∧r.length≤w∧∀ c∈r,0≤c∧c < p
 nz:∃ j i,¬ Cg p (gl (rows.getD j []) i) 0
theorem zcw {p:Int} {rows:List (List Int)} (h1:1≤rows.length) (h4:rows.length≤4) (hg:∀ r∈rows,zbd p 8 r) (qO:∃ r∈rows,∃ v∈r,v≠0):Cv10 p 5 10 rows:=by
 refine⟨h1,#[O],fun r hr=>⟨(hg r hr).1,by have:=(hg r hr).2.1; lia,(hg r hr).2.2⟩,?_⟩;obtain⟨r,hr,v,hv,h0⟩:=qO;obtain⟨t,ht⟩:=bN.mp hr;obtain⟨i,hi⟩:=bN.mp hv;refine⟨t,i,fun hc=>h0 ?_⟩;have e:gl (rows.getD t []) i=v:=by rw [am,ht]; exact zaS hi
 rw [e] at hc;obtain⟨v0,v1⟩:=(hg r hr).2.2 v hv;exact hc.eq v0 v1 (bC _) #[O]
theorem zfc {p:Int} {k W:Nat} {rws pC:List (List Int)} {f:List Int} (k1:1≤k) (k3:k≤3) (h1:1≤rws.length) (h4:rws.length≤4) (hg:∀ r∈rws,zbd p 8 r) (qO:∃ j i,¬ Cg p (gl (rws.getD j []) i) 0) (hl:pC.length=rws.length+1) (rH:∃ r∈rws,r.length=W) (hw:∀ r∈pC,r.length=W+k - 1∧∀ c∈r,0≤c∧c < p)
  (hc:∀ t x,Cg p (gl (pC.getD t []) x) (wr k (gl f) (fun t i=>gl (rws.getD t []) i) t x)):Cv10 p 5 10 pC:=by
 obtain⟨r0,Bs,er0⟩:=rH;obtain⟨a1,a2,_⟩:=hg r0 Bs;refine⟨#[O],#[O],fun r hr=>?_,?_⟩
 ·obtain⟨b1,b2⟩:=hw r hr;exact⟨#[O],#[O],b2⟩
 ·obtain⟨t,i,h⟩:=znW (k:=k) (f:=gl f) (fun t ht=>zaY (rows:=rws) ht) qO;exact⟨t,i,fun h'=>h ((hc t i).symm.trans h')⟩
theorem zk5:∀ {l:List Int},l≠[]→∃ M,M∈l∧∀ x∈l,x≤M
 | [],h=>absurd rfl h
 | [a],_=>⟨a,aN.mpr rfl,fun x hx=>by rw [aN.mp hx]; exact bC _⟩
 | a :: b :: l,_=>by
  obtain⟨M,h1,h2⟩:=zk5 (l:=b :: l) #[M];by_cases h:a≤M
  ·exact⟨M,aw _ h1,fun x hx=>(aH.mp hx).elim (fun e=>by rw [e]; exact h) (h2 x)⟩
  ·refine⟨a,aL ..,fun x hx=>(aH.mp hx).elim (fun e=>by rw [e]; exact bC _) fun hx=>?_⟩;have:=h2 x hx;lia
theorem Cv10.lea {p:Int} {n w:Nat} {rows:List (List Int)} (C:Cv10 p n w rows):∃ M,Lea2 p (-1) (-(2 - 1)) (rwF rows) M:=by
 obtain⟨M,h⟩:=zk5 (l:=szs 2 (zW rows rows.length)) (by unfold szs; exact fun e=>ziB C.nz (gr.mp e));exact⟨_,zdr (fun r hr=>(C.w r hr).2.2) C.nz fun _=>h⟩
theorem zju {p:Int} (hp:p∈zp) {r1 r2 r3:List (List Int)} {W V':Nat} (C1:Cv10 p 5 10 r1) (C2:Cv10 p 5 10 r2) (hl:r3.length=r1.length+r2.length - 1) (hW:∃ r∈r1,r.length=W) (hV:∃ r∈r2,r.length=V') (hw:∀ r∈r3,r.length=W+V' - 1∧∀ c∈r,0≤c∧c < p) (hc:∀ j x,Cg p (gl (r3.getD j []) x) (cv2 (rwF r1) (rwF r2) j x)):Cv10 p 9 19 r3:=by
 obtain⟨a,ha,ea⟩:=hW;obtain⟨b,hb,eb⟩:=hV;have wa:=C1.w a ha;have wb:=C2.w b hb;have:=C1.l1;have:=C1.l2;have:=C2.l1;have:=C2.l2;refine⟨#[O],#[O],fun r hr=>?_,?_⟩
 ·obtain⟨b1,b2⟩:=hw r hr;exact⟨#[O],#[O],b2⟩
 ·obtain⟨_,l1⟩:=C1.lea;obtain⟨_,l2⟩:=C2.lea;exact zl5 hp hc l1 l2
theorem Cv10.pw {p:Int} {n w k:Nat} {rows:List (List Int)} (C:Cv10 p n w rows) (hn:n≤9) (hk:k≤5):rows.length ^ k≤2000000:=by
 have:=C.l2;exact bi (Nat.pow_le_pow_left (show rows.length≤9 by lia) k) (bi (jk #[D] hk) #[D])
theorem Cv10.few {p:Int} {n w k:Nat} {rows qs:List (List Int)} (hp:p∈zp) (C:Cv10 p n w rows) (hR:zfx p k qs) (hm:∀ q,q∈qs↔IsP p k q∧Zr p (AL k (gl q) rows.length fun j i=>gl (rows.getD j []) i)):qs.length < rows.length:=by
 refine zeg hp rows.length (fun t i=>gl (rows.getD t []) i) qs (hR.2.imp fun {a b} h e=>by rw [e] at h; lia) (fun f hf=>(hm f).mp hf) ?_;obtain⟨t,i,h⟩:=C.nz;refine⟨t,aq fun hn=>h ?_,i,h⟩;rw [zbH #[O]];exact Cg.refl _ _
theorem znh {p:Int} (hp:p∈zp) {r1 r2 r3:List (List Int)} {k:Nat} {f:Ps} (C1:Cv10 p 5 10 r1) (C2:Cv10 p 5 10 r2) (k1:1≤k) (hl:r3.length=r1.length+r2.length - 1) (hc:∀ j x,Cg p (gl (r3.getD j []) x) (cv2 (rwF r1) (rwF r2) j x)):Zr p (AL k f r3.length (rwF r3))↔Zr p (AL k f r1.length (rwF r1))∨Zr p (AL k f r2.length (rwF r2)):=by
 have:=C1.l1;have e:AL k f (r1.length+r2.length) (rwF r3)=AL k f r3.length (rwF r3):=zm7 #[O] fun t ht=>zaY ht
 rw [← e];exact zi8 hp (zep fun r hr=>(C1.w r hr).2.1) (fun a ha=>zaY ha) (fun b hb=>zaY hb) (ah _) (znX k1 (fun t _=>zep (fun r hr=>(C2.w r hr).2.1) t) fun t ht=>zaY ht) hc
def byR (p b:Int) (r:List Int):List Int:=r.map fun c=>c*b % p
theorem zf2 {p b:Int} {rows:List (List Int)} (j i:Nat):Cg p (gl ((rows.map (byR p b)).getD j []) i) (gl (rows.getD j []) i*b):=by
 (rw [am,am,af])
 cases hj:rows[j]? with
 | none=>exact Cg.of_eq (by show (0:Int)=0*b; lia)
 | some r =>
  show Cg p (gl (r.map fun c=>c*b % p) i) (gl r i*b);by_cases hi:i < r.length
  ·have h1:=zb9 hi;rw [show gl (r.map fun c=>c*b % p) i=gl r i*b % p from zaS (by rw [af,h1]; rfl)];exact Cg.emod _ _
  ·rw [zaw (by rw [ab]; lia),zaw #[O]];exact Cg.of_eq #[O]
theorem ziC {p b:Int} (h1:1≤b) (h2:b < p):¬ Cg p b 0:=fun h=>by
 have:=h.eq #[O] h2 (bC _) #[O];lia
theorem zl6 {p b:Int} {n w:Nat} (hp:p∈zp) (h1:1≤b) (h2:b < p) {rows:List (List Int)} (C:Cv10 p n w rows):Cv10 p n w (rows.map (byR p b)):=by
 refine⟨by rw [ab]; exact C.l1,by rw [ab]; exact C.l2,fun r hr=>?_,?_⟩
 ·obtain⟨r',lH,rfl⟩:=az.mp hr;obtain⟨a1,a2,_⟩:=C.w r' lH;refine⟨by unfold byR; rw [ab]; exact a1,by unfold byR; rw [ab]; exact a2,fun c hc=>?_⟩;obtain⟨c',_,rfl⟩:=az.mp hc;exact⟨aQ _ #[O],aB _ #[O]⟩
 ·obtain⟨j,i,h⟩:=C.nz;exact⟨j,i,fun z=>h ((zgT hp (ziC h1 h2) (zf2 j i)).mp z)⟩
theorem zjv {p b:Int} (hp:p∈zp) (h1:1≤b) (h2:b < p) {rows:List (List Int)} {k:Nat} {f:Ps}:Zr p (AL k f (rows.map (byR p b)).length fun j i=>gl ((rows.map (byR p b)).getD j []) i)↔Zr p (AL k f rows.length fun j i=>gl (rows.getD j []) i):=by
 rw [ab];exact zl0 hp (ziC h1 h2) fun j i=>zf2 j i
theorem zde {p:Int} {n w:Nat} {rows:List (List Int)} (C:Cv10 p n w rows):wd rows≤w:=ziA fun r hr=>(C.w r hr).2.1
theorem zou {p k M M' b:Int} (hp:p∈zp) (h1:1≤b) (h2:b < p) {rows:List (List Int)} (h:Lea2 p (-1) (-(k - 1)) (fun j i=>gl (rows.getD j []) i) (-M)) (h':Lea2 p (-1) (-(k - 1)) (fun j i=>gl ((rows.map (byR p b)).getD j []) i) (-M')):M'=M:=by
 have:=h'.eq (zix hp (ziC h1 h2) (fun j i=>zf2 j i) h);lia
theorem zov {p x y M M' b:Int} (hp:p∈zp) (h1:1≤b) (h2:b < p) {rows:List (List Int)} {N W:Nat} (h:Lea2 p 1 1 (mv x y N W (cu rows)) M) (h':Lea2 p 1 1 (mv x y N W (cu (rows.map (byR p b)))) M'):M'=M :=
 h'.eq (zix hp (ziC h1 h2) (fun j i=>(zkZ (fun j i=>zf2 j i) j i).trans (Cg.of_eq (zn2 j i))) h)
end
section
variable {P:Program} {w:World} {K:ag} {mg:Str→Option Value} {base:Heap} {t:Adr}
theorem zfd {H:Hp} {Q:VK} {a b:Addr} {xs ys:List V} (ha:kT K H a xs) (hb:kT K H b ys) (hl:xs.length=ys.length) (he:∀ (j:Nat) x y,xs[j]? = some x→ys[j]? = some y→EqD K H 8 x y true) (q:Q (.bl false) H):znJ K true (.ref a) (.ref b) H Q:=by
 refine⟨a,b,_,_,rfl,rfl,.inl ⟨ha,hb⟩,.inr ⟨hl,fun _=>true,he,?_⟩⟩;have:(aI xs.length).all (fun _=>true)=true:=by simp
 rw [this];exact q
theorem zni (xs:List V) (j:Nat):zf9 xs none (some (j:Int))=xs.take j:=by
 unfold zf9;rw [HT.sIx_nat,HT.sIx_none];by_cases h:j≤xs.length
 ·rw [iH h];simp
 ·rw [Nat.min_eq_right #[O]];simp;exact (aT #[O]).symm
theorem zhz {H:Hp}:∀ {rs:List Addr} {qs:List (List Int)},zaB H rs qs→(rs.zip qs).map (·.1)=rs∧(rs.zip qs).map (·.2)=qs∧∀ x∈rs.zip qs,H x.1=some (.tup (x.2.map V.int))
 | _,_,.nil=>⟨rfl,rfl,fun q hq=>by cases hq⟩
 | _,_,.cons h t=>by
  obtain⟨e1,e2,e3⟩:=zhz t;refine⟨by simp [e1],by simp [e2],fun q hq=>?_⟩;rcases (aH.mp hq) with rfl | hq
  ·exact h
  ·exact e3 q hq
theorem zes {ps:List (Addr×List Int)} {rs:List Addr} (h:ps.map (·.1)=rs):(ps.map fun q=>V.ref q.1)=rs.map V.ref:=by
 rw [← h,cj];rfl
theorem zat:FnScope ["script","p","unused","places","plan","one","other","polynomial","both","k","x","y","by","more","point"] ["script"] (zh zb0):=#[S]
theorem znj {fd:FuncData} (T:Txt K mg t) (F:Fun K "law" "law" zb0 t.law fd):FnOk P w K mg base CX0 5 t.law fd ["script"] (zfr K):=by
 obtain⟨qZ,pD,n0⟩:=T.f_l_code;have sG:=zjm (P:=P) (w:=w) (base:=base) T pD;obtain⟨mT,lq,lA⟩:=T.f_l_draws;have lK:=zcM (P:=P) (w:=w) (base:=base) T lq;obtain⟨qi,nv,mO⟩:=T.f_l_curve;have oG:=zhy (P:=P) (w:=w) (base:=base) T nv;obtain⟨n5,lU,lG⟩:=T.f_l_with_root;have mQ:=zeo (P:=P) (w:=w) (base:=base) T lU;obtain⟨oV,nK,mK⟩:=T.f_l_product;have pE:=zfS (P:=P) (w:=w) (base:=base) T nK;obtain⟨qj,lL,lE⟩:=T.f_size_of;have mi:=zht (P:=P) (w:=w) (base:=base) T lL;obtain⟨qk,oH,nA⟩:=T.f_l_value;have rd:=zhp (P:=P) (w:=w) (base:=base) T oH;obtain⟨oW,lB,lj⟩:=T.f_weight_at;have lI:=zfX (P:=P) (w:=w) (base:=base) T lB;obtain⟨pF,lF,lz⟩:=T.f_roots_of;have lQ:=zgV (P:=P) (w:=w) (base:=base) T lF;refine F.ok zat (fun vs H Q E h=>?_) (fun lM A outer s H vs Q E hr h=>?_)
 ·obtain⟨a,ns,rfl,_⟩:=h;rfl
 ·obtain⟨a,ns,rfl,hS,kY,q⟩:=h;have hu:(A.deeper (envOfC (bY "law") (zh zb0) s.heap.objs.size t.law lM)).units+20 < cLine:=by have:=hr.units; lia
  apply zbo; intro zX;refine⟨_,#[zf,#[zbK,#[zk,sG,(hr.mono #[D]),T.m_l_code,pD.kp,n0,#[zK],#[za,#[pvx,0],by exact #[za,#[ze],#[za,#[ze],#[ya,#[ze]]]]]],#[zbJ,#[zm,#[zi,1,zat.nd,(fv rfl)],#[zm,#[zi,2,zat.nd,#[A]],#[zm,#[zi,3,zat.nd,#[A]],#[zae]]]]]],#[zf,#[zo,4,zat.nd,#[A],#[zk,lK,(hr.mono #[D]),T.m_l_draws,lq.kp,lA,#[zK],#[za,#[pvx,0],by exact #[za,#[ze],#[za,#[ze],#[ya,#[ze]]]]]]],#[zf,#[zo,5,zat.nd,#[A],#[zk,oG,(hr.mono #[D]),T.m_l_curve,nv.kp,mO,#[zK],#[za,#[pvx,0],by exact #[zd0,#[za,#[pvx,1],#[za,#[ze],#[ya,#[ze]]]]]]]],#[zf,#[zo,6,zat.nd,#[A],#[zk,oG,(hr.mono #[D]),T.m_l_curve,nv.kp,mO,#[zK],#[za,#[pvx,0],by exact #[zd0,#[za,#[pvx,1],#[za,#[ze],#[ya,#[ze]]]]]]]],#[zf,#[zo,7,zat.nd,#[A],#[zG,#[z8],T.tuple_,c9,#[ya,#[zN,(CompSc.of (N':=["draw","p"]) (ix:=[none,some 1]) (zh zb0) ["script","p","unused","places","plan","one","other","polynomial","both","k","x","y","by","more","point"] rfl rfl #[N]),#[zS],#[zaf,#[zf8,zhK,#[pvx,4],#[zhG],#[zhH,#[zg,#[zv],#[ze],#[zg,#[zy],#[zJ,#[zn],#[pvx,4],#[ze]],#[ze]]]]]],(fun _ _ _ _=>#[zi,0,(show (["draw","p"]:List Str).Nodup from #[N]),#[A]]),(fun _ _ _ _=>#[zw]),(fun _ _ _ _=>#[zg,#[zy],#[pvx,0],#[pvx,1]])]]]],#[zf,(zhd #[zbA,#[zau,#[zdU],#[zg,#[zy],#[zJ,#[zn],#[pvx,4],#[ze]],#[ze]],#[ze],(zaD _)],#[zj,#[zo,5,zat.nd,#[A],#[zk,mQ,(hr.mono #[D]),T.m_l_with_root,lU.kp,lG,#[zK],#[za,#[pvx,1],#[za,#[pvx,5],#[ya,#[pvx,7]]]]]]],#[zaz]]),#[zf,(zhd #[zbA,#[zau,#[zdU],#[zg,#[zy],#[zJ,#[zn],#[pvx,4],#[ze]],#[ze]],#[ze],(zaD _)],#[zj,#[zo,6,zat.nd,#[A],#[zk,mQ,(hr.mono #[D]),T.m_l_with_root,lU.kp,lG,#[zK],#[za,#[pvx,1],#[za,#[pvx,6],#[ya,#[pvx,7]]]]]]],#[zaz]]),#[zf,#[zo,8,zat.nd,#[A],#[zk,pE,(hr.mono #[D]),T.m_l_product,nK.kp,mK,#[zK],#[za,#[pvx,1],#[za,#[pvx,5],#[ya,#[pvx,6]]]]]],#[zf,#[zal,bn,(@ziE _ _ _ _ _ _ _ rfl T.range_ #[za,#[ze],#[ya,#[ze]]] (by rfl) (by rfl)),#[zi,9,zat.nd,#[A]],#[zj,#[zbA,#[zau,#[zjC],#[zk,mi,(hr.mono #[D]),T.m_size_of,lL.kp,lE,#[zK],#[za,#[pvx,9],#[ya,#[pvx,8]]]],#[zg,#[zv],#[zk,mi,(hr.mono #[D]),T.m_size_of,lL.kp,lE,#[zK],#[za,#[pvx,9],#[ya,#[pvx,5]]]],#[zk,mi,(hr.mono #[D]),T.m_size_of,lL.kp,lE,#[zK],#[za,#[pvx,9],#[ya,#[pvx,6]]]]],(zaD _)],#[zj,#[zQ,#[zhA]]],#[zaz]]]],#[zf,#[zal,bn,#[zaf,#[zaE,#[za,#[ze],#[za,#[zg,#[zy],#[zJ,#[zn],#[pvx,4],#[ze]],#[pvx,1]],#[ya,#[zg,#[zy],#[zJ,#[zn],#[pvx,4],#[ze]],#[pvx,1]]]]]]],#[zi,10,zat.nd,#[A]],#[zj,#[zal,bn,#[zaf,#[zaE,#[za,#[zk,rd,(hr.mono #[D]),T.m_l_value,oH.kp,nA,#[zK],#[za,#[pvx,1],#[za,#[pvx,7],#[ya,#[pvx,10]]]]],#[ya,#[zg,#[zy],#[zJ,#[zn],#[pvx,4],#[ze]],#[pvx,1]]]]]],#[zi,11,zat.nd,#[A]],#[zj,#[zbA,#[zau,#[zjC],#[zk,lI,(hr.mono #[D]),T.m_weight_at,lB.kp,lj,#[zK],#[za,#[pvx,1],#[za,#[pvx,8],#[ya,#[zbh,#[za,#[pvx,10],#[ya,#[pvx,11]]]]]]]],#[zg,#[zv],#[zk,lI,(hr.mono #[D]),T.m_weight_at,lB.kp,lj,#[zK],#[za,#[pvx,1],#[za,#[pvx,5],#[ya,#[zbh,#[za,#[pvx,10],#[ya,#[pvx,11]]]]]]]],#[zk,lI,(hr.mono #[D]),T.m_weight_at,lB.kp,lj,#[zK],#[za,#[pvx,1],#[za,#[pvx,6],#[ya,#[zbh,#[za,#[pvx,10],#[ya,#[pvx,11]]]]]]]]],(zaD _)],#[zj,#[zQ,#[zhA]]],#[zaz]]]]]],#[zf,#[zo,12,zat.nd,(fv rfl),#[zg,#[zv],#[ze],#[zg,#[zy],#[zJ,#[zn],#[pvx,4],#[ze]],#[zg,#[za6],#[pvx,1],#[ze]]]]],#[zf,#[zo,13,zat.nd,#[A],#[zG,#[z8],T.tuple_,c9,#[ya,#[zN,(CompSc.of (N':=["line","by","p"]) (ix:=[none,some 12,some 1]) (zh zb0) ["script","p","unused","places","plan","one","other","polynomial","both","k","x","y","by","more","point"] rfl rfl #[N]),#[zS],#[zdf,#[pvx,5]],(fun _ _ _ _=>#[zi,0,(show (["line","by","p"]:List Str).Nodup from #[N]),#[A]]),(fun _ _ _ _=>#[zw]),(fun _ _ _ _=>#[zG,(zax (K:=K) rfl),T.tuple_,c9,#[ya,#[zN,(CompSc.of (N':=["number","by","p"]) (ix:=[none,some 1,some 2]) ({ kind:=.function,names:=[(".0",.local),("line",.local),("tuple",.globalImplicit),("by",.cell),("p",.cell)],isGenerator:=false,isCoroutine:=false }) ["line","by","p"] (by with_unfolding_all rfl) rfl #[N]),#[zS],#[zh8,(K),#[pvx,0]],(fun _ _ _ _=>#[zi,0,(show (["number","by","p"]:List Str).Nodup from #[N]),#[A]]),(fun _ _ _ _=>#[zw]),(fun _ _ _ _=>#[zg,#[zy],#[zg,#[zam],#[pvx,0],#[pvx,1]],#[pvx,2]])]]])]]]],#[zf,#[zal,bn,#[zaf,#[zaE,#[za,#[zg,#[zv],#[ze],#[zg,#[zy],#[zJ,#[zn],#[pvx,4],#[ze]],#[ze]]],#[ya,#[zg,#[zv],#[ze],#[zg,#[zy],#[zJ,#[zn],#[pvx,4],#[ze]],#[ze]]]]]]],#[zi,9,zat.nd,#[A]],#[zf,#[zbA,#[zau,#[zjQ,hu],#[zk,lQ,(hr.mono #[D]),T.m_roots_of,lF.kp,lz,#[zK],#[za,#[pvx,1],#[za,#[pvx,9],#[ya,#[pvx,8]]]]],(zeC rfl (jD (Nat.add_le_add_left (show 16≤20 by decide) _) hu) rfl T.sorted_ rfl T.set_ #[ya,#[zg,#[zfh],#[zk,lQ,(hr.mono #[D]),T.m_roots_of,lF.kp,lz,#[zK],#[za,#[pvx,1],#[za,#[pvx,9],#[ya,#[pvx,5]]]]],#[zk,lQ,(hr.mono #[D]),T.m_roots_of,lF.kp,lz,#[zK],#[za,#[pvx,1],#[za,#[pvx,9],#[ya,#[pvx,6]]]]]]]),(zaD _)],#[zj,#[zQ,#[zhA]]],#[zaz]],#[zj,#[zbA,#[zau,#[zjQ,hu],#[zk,lQ,(hr.mono #[D]),T.m_roots_of,lF.kp,lz,#[zK],#[za,#[pvx,1],#[za,#[pvx,9],#[ya,#[pvx,13]]]]],#[zk,lQ,(hr.mono #[D]),T.m_roots_of,lF.kp,lz,#[zK],#[za,#[pvx,1],#[za,#[pvx,9],#[ya,#[pvx,5]]]]],(zaD _)],#[zj,#[zQ,#[zhA]]],#[zaz]]]]],#[zf,#[zo,14,zat.nd,#[A],#[zbh,#[za,#[zg,#[zy],#[zJ,#[zn],#[pvx,4],#[ze]],#[pvx,1]],#[ya,#[ze]]]]],#[zj,#[zQ,(@zmw _ _ _ _ _ _ _ #[zhF,#[zdU],#[zk,mi,(hr.mono #[D]),T.m_size_of,lL.kp,lE,#[zK],#[za,#[ze],#[ya,#[pvx,13]]]],#[zk,mi,(hr.mono #[D]),T.m_size_of,lL.kp,lE,#[zK],#[za,#[ze],#[ya,#[pvx,5]]]],(zaD _)] (@zmv _ _ _ _ _ #[zhF,#[zdU],#[zk,lI,(hr.mono #[D]),T.m_weight_at,lB.kp,lj,#[zK],#[za,#[pvx,1],#[za,#[pvx,13],#[ya,#[pvx,14]]]]],#[zk,lI,(hr.mono #[D]),T.m_weight_at,lB.kp,lj,#[zK],#[za,#[pvx,1],#[za,#[pvx,5],#[ya,#[pvx,14]]]]],(zaD _)]))]]]]]]]]]]]]]]]],?_⟩;apply znI; intro zN15 zN14 zN13 zN12 zN11 zN10 zN9 zN8 zN7 B9 Au uK qR pO;have og:=bm;refine⟨_,rfl,a,ns,0,5,16,rfl,hS,kY,#[O],#[O],#[D],#[D],#[D],#[D],fun c tt p kI pl H1 hc1 s1 co h1c h1t=>?_⟩;have rp:=zan co.pr;have p0:0 < p:=by lia
  have hp:=co.pr;refine⟨c,_,rfl,kZ.of h1c,rfl,_,_,rfl,_,_,rfl,_,_,rfl,rfl,?_⟩;refine⟨_,rfl,a,ns,1,16,27720,rfl,s1.seq hS,kY,#[O],#[O],#[D],#[D],#[D],#[D],fun pa ds H2 hpa s2 rM h2p=>?_⟩;have Ay:=s1.trans s2;refine⟨_,rfl,_,rfl,a,ns,2,p,4,8,rfl,Ay.seq hS,kY,#[O],#[O],#[O],#[O],#[D],#[D],#[D],#[D],fun ca ls r1 H3 pP s3 h3c rf n1 n4 p8 sU=>?_⟩;have s03:=Ay.trans s3;refine⟨_,rfl,_,rfl,a,ns,4,p,4,8,rfl,s03.seq hS,kY,#[O],#[O],#[O],#[O],#[D],#[D],#[D],#[D],fun cb ms r2 H4 vP s4 h4c pB m1 m4 pZ tF=>?_⟩;have CQ:=s4 _ _ (s3 _ _ h2p);have h4a:=s4 _ _ h3c;have rf:=rf.same s4;obtain⟨d5,ed5,d50,d51⟩:=zbs rM (i:=5) #[D] #[D];refine⟨_,rfl,_,rfl,pa,_,_,_,rfl,rfl,kT.of CQ,ed5,_,_,rfl,rfl,#[O],_,_,rfl,rfl,_,rfl,pa,_,rfl,kT.of CQ,fun z hz=>?_⟩;obtain⟨m,em,m1',m3⟩:∃ m:Nat,1+d5 % 3=(m:Int)∧1≤m∧m≤3:=⟨(1+d5 % 3).toNat,#[O],#[O],#[O]⟩;rw [em,zni,← List.map_take];have yu:(ds.take m).length=m:=by rw [aU,rM.1]; lia
  have CS:∀ c∈ds.take m,0≤c:=fun c hc=>(rM.2 c (eX hc)).1
  generalize ds.take m=os at yu CS ⊢;have w1:=zb (o:=.lst (os.map V.int)) hz;refine⟨z,rfl,⟨_,kT.of zc⟩,zbC (fs:=(os.map fun c=>c % p).map V.int) (kT.of zc) #[M] (by rw [ab]; lia) (fun i x y R B hx hy hR=>?_) (fun D hD=>?_)⟩
  ·obtain⟨c,rfl,hc⟩:=zag hx;rw [af,af,hc] at hy;have hy:V.int (c % p)=y:=by simpa using hy
   subst hy;exact⟨_,rfl,_,rfl,_,_,rfl,rfl,#[O],hR⟩
  have CT:IsP p m (os.map fun c=>c % p):=⟨by rw [ab]; exact yu,fun c hc=>by
   obtain⟨c',_,rfl⟩:=az.mp hc;exact⟨aQ _ #[O],aB _ p0⟩⟩
  generalize (os.map fun c=>c % p)=f at CT hD ⊢;refine⟨D,_,rfl,.inl ⟨kT.of zc,fun fa wM=>?_⟩⟩;have w2:=(w1.trans (zb (o:=.lst (f.map V.int)) hD)).trans (zb (o:=.tup (f.map V.int)) wM);have CU:kX (kX (kX H4 z (.lst (os.map V.int))) D (.lst (f.map V.int))) fa (.tup (f.map V.int)) fa=some (.tup (f.map V.int)):=zc;generalize kX (kX (kX H4 z (.lst (os.map V.int))) D (.lst (f.map V.int))) fa (.tup (f.map V.int))=H5 at w2 CU ⊢;have h5p:=w2 _ _ CQ;have h5a:=w2 _ _ h4a;have h5b:=w2 _ _ h4c;have rf:=rf.same w2;have pB:=pB.same w2;obtain⟨d6,ed6,_,_⟩:=zbs rM (i:=6) #[D] #[D];obtain⟨d7,ed7,_,_⟩:=zbs rM (i:=7) #[D] #[D];refine⟨fun σ H'=>∃ (cw:Addr) (bs:List Addr) (rws:List (List Int)),σ = [some (.ref a),some (.int p),some (.int kI),some (.ref tt),some (.ref pa),some (.ref cw),some (.ref cb),some (.ref fa),none,none,none,none,none,none,none]∧zC H5 H'∧H' cw=some (.tup (bs.map V.ref))∧zaB H' bs rws∧Cv10 p 5 10 rws,?_,?_⟩
  ·refine⟨_,rfl,pa,_,_,_,rfl,rfl,kT.of h5p,ed6,_,_,rfl,rfl,#[O],rfl,_,rfl,zcH (fun _=>?_) (fun _=>⟨ca,ls,r1,rfl,fun _ _ e=>e,h5a,rf,zcw n1 n4 p8 sU⟩)⟩;refine⟨_,rfl,_,rfl,_,rfl,p,m,ca,fa,ls,r1,f,rfl,h5a,rf,n1,#[O],fun r hr=>⟨(p8 r hr).1,by have:=(p8 r hr).2.1; lia,(p8 r hr).2.2⟩,CU,CT,#[O],#[O],#[O],#[O],fun l us pC W H6 hl s6 h6 lu sQ hW rH CV lJ=>?_⟩;exact⟨l,us,pC,rfl,s6,h6,lu,zfc m1' m3 n1 n4 p8 (zcw n1 n4 p8 sU).nz sQ rH CV lJ⟩
  rintro σ H6 ⟨rh,as,pG,rfl,s6,h6a,h6A,C1⟩;have h6p:=s6 _ _ h5p;have h6b:=s6 _ _ h5b;have h6f:=s6 _ _ CU;have pB:=pB.same s6;refine⟨fun σ H'=>∃ (cw:Addr) (bs:List Addr) (rws:List (List Int)),σ = [some (.ref a),some (.int p),some (.int kI),some (.ref tt),some (.ref pa),some (.ref rh),some (.ref cw),some (.ref fa),none,none,none,none,none,none,none]∧zC H6 H'∧H' cw=some (.tup (bs.map V.ref))∧zaB H' bs rws∧Cv10 p 5 10 rws,?_,?_⟩
  ·refine⟨_,rfl,pa,_,_,_,rfl,rfl,kT.of h6p,ed7,_,_,rfl,rfl,#[O],rfl,_,rfl,zcH (fun _=>?_) (fun _=>⟨cb,ms,r2,rfl,fun _ _ e=>e,h6b,pB,zcw m1 m4 pZ tF⟩)⟩;refine⟨_,rfl,_,rfl,_,rfl,p,m,cb,fa,ms,r2,f,rfl,h6b,pB,m1,#[O],fun r hr=>⟨(pZ r hr).1,by have:=(pZ r hr).2.1; lia,(pZ r hr).2.2⟩,h6f,CT,#[O],#[O],#[O],#[O],fun l us pC W H6 hl s6 h6 lu sQ hW rH CV lJ=>?_⟩;exact⟨l,us,pC,rfl,s6,h6,lu,zfc m1' m3 m1 m4 pZ (zcw m1 m4 pZ tF).nz sQ rH CV lJ⟩
  rintro σ H7 ⟨uS,bs,vX,rfl,s7,h7b,h7B,C2⟩;have hW1:∀ r∈pG,1≤r.length∧r.length≤90∧∀ c∈r,0≤c∧c < p:=fun r hr=>⟨(C1.w r hr).1,by have:=(C1.w r hr).2.1; lia,(C1.w r hr).2.2⟩
  have hW2:∀ r∈vX,1≤r.length∧r.length≤90∧∀ c∈r,0≤c∧c < p:=fun r hr=>⟨(C2.w r hr).1,by have:=(C2.w r hr).2.1; lia,(C2.w r hr).2.2⟩
  have l1:=C1.l1;have l2:=C1.l2;have l3:=C2.l1;have l4:=C2.l2;refine⟨_,rfl,_,rfl,_,rfl,p,rh,uS,as,bs,pG,vX,rfl,s7 _ _ h6a,h6A.same s7,l1,#[O],hW1,h7b,h7B,l3,#[O],hW2,#[O],#[O],fun ct cs r3 W V' H8 hct s8 CW CY BG hW hV rH Cw hw3 AB=>?_⟩;have C3:=zju hp C1 C2 BG rH Cw hw3 AB;have vY:=s8 _ _ (s7 _ _ h6a);have vZ:=(h6A.same s7).same s8;have CZ:=s8 _ _ h7b;have C0:=h7B.same s8;have yw:=s8 _ _ (s7 _ _ h6p);have h8f:=s8 _ _ (s7 _ _ h6f);have l5:=C3.l2;have v1:∀ r∈pG,r.length≤100:=fun r hr=>by have:=(C1.w r hr).2.1; lia
  have v2:∀ r∈vX,r.length≤100:=fun r hr=>by have:=(C2.w r hr).2.1; lia
  have v3:∀ r∈r3,r.length≤100:=fun r hr=>by have:=(C3.w r hr).2.1; lia
  refine⟨2,6,rfl,⟨#[D],#[D],#[D],#[D]⟩,zav (lo:=2) (n:=4) (fun i σ H'=>∃ e9:Option V,σ = [some (.ref a),some (.int p),some (.int kI),some (.ref tt),some (.ref pa),some (.ref rh),some (.ref uS),some (.ref fa),some (.ref ct),e9,none,none,none,none,none]∧zC H8 H') ⟨none,rfl,fun _ _ e=>e⟩ ?_ ?_⟩
  ·rintro zD zT k0 σ H9 hk ⟨e9,rfl,s9⟩;refine⟨_,rfl,_,rfl,_,ct,cs,r3,rfl,#[O],#[O],s9 _ _ CW,CY.same s9,#[O],v3,fun M H10 AD _ hM=>?_⟩;have Aw:=s9.trans AD;refine⟨_,rfl,_,rfl,_,rh,as,pG,rfl,#[O],#[O],Aw _ _ vY,vZ.same Aw,#[O],v1,fun M1 yx wO _ su=>?_⟩;have C5:=Aw.trans wO;refine⟨_,rfl,_,rfl,_,uS,bs,vX,rfl,#[O],#[O],C5 _ _ CZ,C0.same C5,#[O],v2,fun M2 wQ v5 _ tW=>?_⟩;have e:=zl3 hp AB (zdr (fun r hr=>(C1.w r hr).2.2) C1.nz su) (zdr (fun r hr=>(C2.w r hr).2.2) C2.nz tW) (zdr (fun r hr=>(C3.w r hr).2.2) C3.nz hM);subst e;exact⟨_,_,rfl,rfl,rfl,_,rfl,zcH (fun h=>absurd h #[M]) (fun _=>⟨_,rfl,C5.trans v5⟩)⟩
  rintro σ H9 ⟨e9,rfl,s9⟩;have h9p:=s9 _ _ yw;obtain⟨d8,ed8,_,_⟩:=zbs rM (i:=8) #[D] #[D];obtain⟨d9,ed9,_,_⟩:=zbs rM (i:=9) #[D] #[D];obtain⟨wR,C6,_,_⟩:=zbs rM (i:=10) #[D] #[D];refine⟨_,rfl,pa,_,_,_,rfl,rfl,kT.of h9p,ed8,_,rfl,_,_,rfl,rfl,#[O],_,rfl,pa,_,_,_,rfl,rfl,kT.of h9p,ed9,_,rfl,_,_,rfl,rfl,#[O],by show 3≤sizeLine; lia,fun L1 hL1=>?_⟩;have CP:=zb (o:=.lst [.int 0,.int (d8 % p),.int (d9 % p)]) hL1;have AE:kX H9 L1 (.lst [.int 0,.int (d8 % p),.int (d9 % p)]) L1=some (.lst ([0,d8 % p,d9 % p].map V.int)):=zc;have hxs:∀ x∈[0,d8 % p,d9 % p],0≤x∧x < p:=fun x hx=>by
   have:=aQ d8 (show p≠0 by lia);have:=aB d8 p0;have:=aQ d9 (show p≠0 by lia);have:=aB d9 p0;rcases (aH.mp hx) with rfl | hx
   ·lia
   rcases (aH.mp hx) with rfl | hx
   ·lia
   rw [aN.mp hx];lia
  generalize [0,d8 % p,d9 % p]=xs at AE hxs;generalize kX H9 L1 (.lst [.int 0,.int (d8 % p),.int (d9 % p)])=H10 at CP AE ⊢;have AD:=s9.trans CP;refine⟨L1,rfl,⟨_,kT.of AE⟩,zcj (K:=K) (a:=L1) (xs:=xs.map V.int) (fun i σ H'=>∃ pQ uU:Option V,σ = [some (.ref a),some (.int p),some (.int kI),some (.ref tt),some (.ref pa),some (.ref rh),some (.ref uS),some (.ref fa),some (.ref ct),e9,pQ,uU,none,none,none]∧zC H10 H') ⟨none,none,rfl,fun _ _ e=>e⟩ (fun i σ H' _ ⟨_,_,_,s'⟩=>kT.of (s' _ _ AE)) ?_ ?_⟩
  ·rintro zD zT i0 x0 σ yx hx ⟨pQ,uU,rfl,wO⟩;obtain⟨x,rfl,sS⟩:=zag hx;obtain⟨x0,x1⟩:=hxs x (aA sS);have s1:=AD.trans wO;have yy:=s1 _ _ yw;have h1f:=s1 _ _ h8f;refine⟨_,rfl,_,rfl,_,rfl,p,x,fa,f,rfl,.inr (kZ.of h1f),p0,#[O],x0,x1,_,rfl,pa,_,_,_,rfl,rfl,kT.of yy,C6,_,rfl,_,_,rfl,rfl,#[O],by show 2≤sizeLine; lia,fun L2 hL2=>?_⟩;have C7:=zb (o:=.lst [.int (z9 p x f),.int (wR % p)]) hL2;have AF:kX yx L2 (.lst [.int (z9 p x f),.int (wR % p)]) L2=some (.lst ([z9 p x f,wR % p].map V.int)):=zc;have hys:∀ y∈[z9 p x f,wR % p],0≤y∧y < p:=fun y hy=>by
    rcases (aH.mp hy) with rfl | hy
    ·exact⟨zcT p0 f,zcU p0 f⟩
    rw [aN.mp hy];exact⟨aQ _ #[O],aB _ p0⟩
   generalize [z9 p x f,wR % p]=ys at AF hys;generalize kX yx L2 (.lst [.int (z9 p x f),.int (wR % p)])=wQ at C7 AF ⊢;refine⟨L2,rfl,⟨_,kT.of AF⟩,zcj (K:=K) (a:=L2) (xs:=ys.map V.int) (fun i σ H'=>∃ uU:Option V,σ = [some (.ref a),some (.int p),some (.int kI),some (.ref tt),some (.ref pa),some (.ref rh),some (.ref uS),some (.ref fa),some (.ref ct),e9,some (.int x),uU,none,none,none]∧zC wQ H') ⟨uU,rfl,fun _ _ e=>e⟩ (fun i σ H' _ ⟨_,_,s'⟩=>kT.of (s' _ _ AF)) ?_ ?_⟩
   ·rintro Cm Cn i1 y σ yz hy ⟨uU,rfl,uV⟩;obtain⟨y,rfl,qH⟩:=zag hy;obtain⟨y0,y1⟩:=hys y (aA qH);have t1:=s1.trans (C7.trans uV);refine⟨_,rfl,_,rfl,_,rfl,_,rfl,by show 2≤sizeLine; lia,fun pt qE=>?_⟩;have v7:=zb (o:=.tup [.int x,.int y]) qE;have t2:=t1.trans v7;refine⟨p,ct,pt,x,y,cs,r3,rfl,#[O],#[O],x0,x1,y0,y1,t2 _ _ CW,CY.same t2,zc,#[O],v3,fun M yA uW _ hM=>?_⟩;have t3:=t2.trans uW;refine⟨_,rfl,_,rfl,_,rfl,_,rfl,by show 2≤sizeLine; lia,fun pt2 yB=>?_⟩;have t4:=t3.trans (zb (o:=.tup [.int x,.int y]) yB);refine⟨p,rh,pt2,x,y,as,pG,rfl,#[O],#[O],x0,x1,y0,y1,t4 _ _ vY,vZ.same t4,zc,#[O],v1,fun M1 C8 yC _ su=>?_⟩;have t5:=t4.trans yC;refine⟨_,rfl,_,rfl,_,rfl,_,rfl,by show 2≤sizeLine; lia,fun pt3 yD=>?_⟩;have t6:=t5.trans (zb (o:=.tup [.int x,.int y]) yD);refine⟨p,uS,pt3,x,y,bs,vX,rfl,#[O],#[O],x0,x1,y0,y1,t6 _ _ CZ,C0.same t6,zc,#[O],v2,fun M2 H17 ub _ tW=>?_⟩;have w1:=zde C1;have w2:=zde C2;have w3:=zde C3;have e:=zl4 hp (N:=20) (W:=40) (show pG.length+vX.length≤20 by lia) #[O] AB (zer #[O] #[O] #[O] C1.nz su) (zer #[O] #[O] #[O] C2.nz tW) (zer #[O] #[O] #[O] C3.nz hM);subst e;exact⟨_,_,rfl,rfl,rfl,_,rfl,zcH (fun h=>absurd h #[M]) (fun _=>⟨_,rfl,fun b o e=>ub _ _ (zb yD _ _ (yC _ _ (zb yB _ _ (uW _ _ (v7 _ _ (uV _ _ e))))))⟩)⟩
   rintro σ yz ⟨e11',rfl,uV⟩;exact⟨_,_,rfl,wO.trans (C7.trans uV)⟩
  rintro σ yx ⟨pQ,uU,rfl,wO⟩;have s1:=AD.trans wO;have yy:=s1 _ _ yw;obtain⟨wU,C9,_,_⟩:=zbs rM (i:=11) #[D] #[D];refine⟨_,rfl,pa,_,_,_,rfl,rfl,kT.of yy,C9,_,rfl,_,_,rfl,rfl,_,_,rfl,rfl,#[O],_,_,rfl,rfl,?_⟩;have b1:1≤1+wU % (p - 1):=by have:=aQ wU (show p - 1≠0 by lia); lia
  have b2:1+wU % (p - 1) < p:=by have:=aB wU (show 0 < p - 1 by lia); lia
  show zaK 12 (V.int (1+wU % (p - 1))) _ _ _;generalize 1+wU % (p - 1)=b at b1 b2 ⊢;have vT:=s1 _ _ vY;have h1A:=vZ.same s1;have yo:=h1A.length;refine⟨_,rfl,rh,rfl,⟨_,kZ.of vT⟩,zV (n:=pG.length) (fun m ys H'=>zC yx H'∧∃ us:List Addr,ys=us.map V.ref∧zaB H' us ((pG.map (byR p b)).take m)) ⟨fun _ _ e=>e,[],rfl,.nil⟩ ?_ ?_ ?_ ?_⟩
  ·rintro m ys H7 hm ⟨s7,_⟩;exact⟨_,.ref (as[m]'#[O]),kZ.of (s7 _ _ vT),by rw [af,ai #[O]]; rfl⟩
  ·rintro ys H7 ⟨s7,_⟩;exact⟨_,kZ.of (s7 _ _ vT),by rw [ab]; lia⟩
  ·rintro m z ys wQ yz hm ⟨v5,us,rfl,lu⟩ ⟨rfl,hx⟩;obtain⟨ra,rfl,pv⟩:=zH (hx _ (kZ.of (v5 _ _ vT)));obtain⟨r,hr,oP⟩:=Paired.get h1A pv;have hz:us.length=m:=by rw [aV lu,aU,ab]; lia
   have uL:=C1.w r (aA hr);have yE:=v5 _ _ oP;refine gY ?_;refine⟨_,rfl,ra,rfl,⟨_,kZ.of yE⟩,zbe (K:=K) (fs:=(byR p b r).map V.int) (kZ.of yE) (by unfold byR; simp) (by rw [ab]; lia) (fun i x y R B hx hy hR=>?_) (fun D hD=>?_)⟩
   ·obtain⟨c,rfl,hc⟩:=zag hx;unfold byR at hy;rw [af,af,hc] at hy;have hy:V.int (c*b % p)=y:=by simpa using hy
    subst hy;exact⟨_,rfl,_,rfl,_,_,rfl,rfl,.inr ⟨#[O],#[O]⟩,_,rfl,_,_,rfl,rfl,#[O],hR⟩
   refine⟨D,_,rfl,.inl ⟨kT.of zc,fun l hl=>?_⟩⟩;have v:=(zb (o:=.lst ((byR p b r).map V.int)) hD).trans (zb (o:=.tup ((byR p b r).map V.int)) hl);refine⟨by rw [ab]; lia,v5.trans v,us++[l],by rw [aO]; rfl,?_⟩;rw [take_snoc (show (pG.map (byR p b))[m]? = some (byR p b r) by rw [af,hr]; rfl)];exact bV (lu.same v) zc
  rintro ys wQ D ⟨v5,us,rfl,lu⟩ hD;rw [aT (by rw [ab]; lia)] at lu;refine⟨D,_,rfl,.inl ⟨kT.of zc,fun ce hce=>?_⟩⟩;have C':=(zb (o:=.lst (us.map V.ref)) hD).trans (zb (o:=.tup (us.map V.ref)) hce);have yF:kX (kX wQ D (.lst (us.map V.ref))) ce (.tup (us.map V.ref)) ce=some (.tup (us.map V.ref)):=zc;have yG:=lu.same C';have uV:=s1.trans (v5.trans C');generalize kX (kX wQ D (.lst (us.map V.ref))) ce (.tup (us.map V.ref))=yz at C' yF yG uV ⊢;have C4:=zl6 hp b1 b2 C1;have l6:=C4.l1;have l7:=C4.l2;have v4:∀ r∈pG.map (byR p b),r.length≤100:=fun r hr=>by have:=(C4.w r hr).2.1; lia
  have yH:=uV _ _ yw;obtain⟨uc,Dc,_,_⟩:=zbs rM (i:=12) #[D] #[D];obtain⟨ud,Dd,_,_⟩:=zbs rM (i:=13) #[D] #[D];refine⟨_,rfl,pa,_,_,_,rfl,rfl,kT.of yH,Dc,_,_,rfl,rfl,#[O],_,_,rfl,rfl,_,rfl,pa,_,_,_,rfl,rfl,kT.of yH,Dd,_,_,rfl,rfl,#[O],_,_,rfl,rfl,by show 2≤sizeLine; lia,fun L3 hL3=>?_⟩;have v7:=zb (o:=.lst [.int (1+uc % 5),.int (1+ud % 3)]) hL3;have De:kX yz L3 (.lst [.int (1+uc % 5),.int (1+ud % 3)]) L3=some (.lst ([(1+uc % 5).toNat,(1+ud % 3).toNat].map fun k:Nat=>V.int (k:Int))):=by
   rw [zc];show some (HO.lst [_,_])=some (HO.lst [V.int (((1+uc % 5).toNat:Nat):Int),V.int (((1+ud % 3).toNat:Nat):Int)]);rw [show (((1+uc % 5).toNat:Nat):Int)=1+uc % 5 by lia,show (((1+ud % 3).toNat:Nat):Int)=1+ud % 3 by lia]
  have wC:∀ k∈[(1+uc % 5).toNat,(1+ud % 3).toNat],1≤k∧k≤5:=fun k hk=>by
   rcases aH.mp hk with rfl | hk
   ·lia
   rw [aN.mp hk];lia
  generalize [(1+uc % 5).toNat,(1+ud % 3).toNat]=ks at De wC;have Df:=uV.trans v7;have ue:=yG.same v7;have uf:=v7 _ _ yF;refine⟨L3,rfl,⟨_,kT.of zc⟩,?_⟩;generalize kX yz L3 (.lst [.int (1+uc % 5),.int (1+ud % 3)])=Dh at v7 De Df ue uf ⊢;refine zcj (K:=K) (a:=L3) (xs:=ks.map fun k:Nat=>V.int (k:Int)) (fun i σ H'=>∃ e9:Option V,σ = [some (.ref a),some (.int p),some (.int kI),some (.ref tt),some (.ref pa),some (.ref rh),some (.ref uS),some (.ref fa),some (.ref ct),e9,pQ,uU,some (.int b),some (.ref ce),none]∧zC Dh H') ⟨e9,rfl,fun _ _ e=>e⟩ (fun i σ H' _ ⟨_,_,s'⟩=>kT.of (s' _ _ De)) ?_ ?_
  ·rintro zD zT i0 x0 σ yA hx ⟨e9,rfl,uW⟩;obtain⟨k,rfl,hk⟩:∃ k:Nat,x0=V.int (k:Int)∧ks[i0]? = some k:=by
    rw [af] at hx;cases h:ks[i0]? with
    | none=>rw [h] at hx; cases hx
    | some k=>rw [h] at hx; exact⟨k,(bf hx).symm,rfl⟩
   obtain⟨k1,k5⟩:=wC k (aA hk);show zT (zD i0) _ yA;apply zjJ; intro zK2;have t0:=Df.trans uW;refine⟨_,rfl,_,rfl,_,rfl,p,k,ct,cs,r3,rfl,hp,t0 _ _ CW,CY.same t0,#[O],v3,k1,k5,C3.pw #[D] k5,C3.nz,fun l3 u3 q3 C8 hl3' yC yI Di _ xF xD=>?_⟩;have t1:=t0.trans yC;refine⟨_,rfl,_,rfl,_,rfl,p,k,rh,as,pG,rfl,hp,t1 _ _ vY,vZ.same t1,#[O],v1,k1,k5,C1.pw #[D] k5,C1.nz,fun l4 u1 q1 H17 mU ub h17 Dj _ uA pW=>?_⟩;have t2:=t1.trans ub;refine⟨_,rfl,_,rfl,_,rfl,p,k,uS,bs,vX,rfl,hp,t2 _ _ CZ,C0.same t2,#[O],v2,k1,k5,C2.pw #[D] k5,C2.nz,fun l5 u2 q2 Dk tX wc AG yJ _ qN qw=>?_⟩;have f1:=C1.few hp uA pW;have f2:=C2.few hp qN qw;have yK:=Dj.same wc;have n1:=yK.length;have n2:=yJ.length;refine⟨l4,l5,u1.map V.ref,u2.map V.ref,rfl,rfl,wc _ _ h17,AG,by rw [ab,ab]; lia,fun z hz=>?_⟩;have yr:=zb (o:=.lst (u1.map V.ref++u2.map V.ref)) hz;have g19:kX Dk z (.lst (u1.map V.ref++u2.map V.ref)) z=some (.lst (u1.map V.ref++u2.map V.ref)):=zc;generalize kX Dk z (.lst (u1.map V.ref++u2.map V.ref))=yL at yr g19 ⊢;obtain⟨z1,z2,z3⟩:=zhz (yK.same yr);obtain⟨y1,y2,y3⟩:=zhz (yJ.same yr);have qQ:((u1.zip q1++u2.zip q2).map fun q=>V.ref q.1)=u1.map V.ref++u2.map V.ref:=by rw [aO,zes z1,zes y1]
   have wI:(u1.zip q1++u2.zip q2).map (·.2)=q1++q2:=by rw [aO,z2,y2]
   have nO:(u1.zip q1++u2.zip q2).length≤17:=by
    have e:=congrArg gC wI;simp only [ab,aF] at e ⊢;lia
   have yM:∀ q∈u1.zip q1++u2.zip q2,yL q.1=some (.tup (q.2.map V.int))∧IsP p k q.2:=fun q hq=>by
    rcases (aP.mp hq) with hq | hq
    ·exact⟨z3 q hq,((pW q.2).mp (z2 ▸ az.mpr ⟨q,hq,rfl⟩)).1⟩
    ·exact⟨y3 q hq,((qw q.2).mp (y2 ▸ az.mpr ⟨q,hq,rfl⟩)).1⟩
   generalize u1.zip q1++u2.zip q2=ps at qQ wI nO yM;refine⟨z,k,p,ps,rfl,by rw [qQ]; exact g19,fun q hq=>⟨(yM q hq).1,(yM q hq).2⟩,k1,#[O],nO,fun l6 lN nW oK uC mG xP=>?_⟩;have hq3:lN.map (·.2)=q3:=by
    refine zk4 #[O] (fun q hq=>(yM q (oK q hq)).2) uC xP mG xF fun f=>?_
    rw [wI,aP,xD,pW,qw];have R:=znh (f:=gl f) hp C1 C2 k1 BG AB;exact⟨fun h=>(R.mp h.2).elim (fun z=>.inl ⟨h.1,z⟩) fun z=>.inr ⟨h.1,z⟩,fun h=>h.elim (fun z=>⟨z.1,R.mpr (.inl z.2)⟩) fun z=>⟨z.1,R.mpr (.inr z.2)⟩⟩
   have hT:zaB yL (lN.map (·.1)) q3:=hq3 ▸ zaB.of fun q hq=>(yM q (oK q hq)).1
   rw [zes (ps:=lN) rfl];have AA:=zb (o:=.lst ((lN.map (·.1)).map V.ref)) nW;have g20:kX yL l6 (.lst ((lN.map (·.1)).map V.ref)) l6=some (.lst ((lN.map (·.1)).map V.ref)):=zc;generalize kX yL l6 (.lst ((lN.map (·.1)).map V.ref))=Dl at AA g20 ⊢;have AH:=ub.trans (wc.trans (yr.trans AA));have h20:=AH _ _ yI;have yN:=Di.same AH;have yO:=hT.same AA;refine zfd (kT.of h20) (kT.of g20) (by rw [ab,ab,yN.length,yO.length]) (zh9 yN yO) ⟨_,rfl,zmJ ?_⟩;have t3:=t1.trans AH;have t4:zC Dh Dl:=uW.trans (yC.trans AH);refine⟨_,rfl,_,rfl,_,rfl,p,k,ce,us,pG.map (byR p b),rfl,hp,t4 _ _ uf,ue.same t4,#[O],v4,k1,k5,C4.pw #[D] k5,C4.nz,fun l7 u7 q7 H21 qU s21 h21 yP _ hR7 hm7=>?_⟩;have t5:=t3.trans s21;refine⟨_,rfl,_,rfl,_,rfl,p,k,rh,as,pG,rfl,hp,t5 _ _ vY,vZ.same t5,#[O],v1,k1,k5,C1.pw #[D] k5,C1.nz,fun l8 u8 q8 H22 Av Dm h22 yQ _ hR8 hm8=>?_⟩;have e78:q7=q8:=zfy hR7 hR8 fun q=>by rw [hm7,hm8,zjv hp b1 b2]
   subst e78;refine zfd (kT.of (Dm _ _ h21)) (kT.of h22) (by rw [ab,ab,yP.length,yQ.length]) (zh9 (yP.same Dm) yQ) ⟨_,rfl,zmJ ?_⟩;exact⟨_,rfl,t4.trans (s21.trans Dm)⟩
  rintro σ yA ⟨e9',rfl,uW⟩;have t1:=Df.trans uW;have yy:=t1 _ _ yw;obtain⟨we,Dp,_,_⟩:=zbs rM (i:=14) #[D] #[D];refine⟨_,rfl,pa,_,_,_,rfl,rfl,kT.of yy,Dp,_,rfl,_,_,rfl,rfl,#[O],by show 2≤sizeLine; lia,fun pt qE=>?_⟩;have Dq:=zb (o:=.tup [.int (we % p),.int 0]) qE;have yI:kX yA pt (.tup [.int (we % p),.int 0]) pt=some (.tup [.int (we % p),.int 0]):=zc;have x0:=aQ we (show p≠0 by lia);have x1:=aB we p0;show zaK 14 _ _ _ _;generalize kX yA pt (.tup [.int (we % p),.int 0])=C8 at Dq yI ⊢;generalize we % p=x at x0 x1 yI;have t2:zC Dh C8:=uW.trans Dq;have t3:=t1.trans Dq;refine⟨_,rfl,2,ce,us,pG.map (byR p b),rfl,#[O],#[O],t2 _ _ uf,ue.same t2,#[O],v4,fun M H17 ub _ hM=>?_⟩;have t4:=t3.trans ub;refine⟨_,rfl,2,rh,as,pG,rfl,#[O],#[O],t4 _ _ vY,vZ.same t4,#[O],v1,fun M1 Dk wc _ su=>?_⟩;have e:=zou hp b1 b2 (zdr (k:=2) (fun r hr=>(C1.w r hr).2.2) C1.nz su) (zdr (k:=2) (fun r hr=>(C4.w r hr).2.2) C4.nz hM);subst e;have t5:=t2.trans (ub.trans wc);have t6:=t3.trans (ub.trans wc);have AG:=(ub.trans wc) _ _ yI;refine⟨rfl,_,rfl,zcH (fun _=>?_) (fun h=>absurd (decide_eq_true rfl) h)⟩;refine⟨_,rfl,_,rfl,_,rfl,p,ce,pt,x,0,us,pG.map (byR p b),rfl,#[O],#[O],x0,x1,#[O],#[O],t5 _ _ uf,ue.same t5,AG,#[O],v4,fun M3 yL s19 _ Cu=>?_⟩;have t7:=t6.trans s19;refine⟨_,rfl,_,rfl,_,rfl,p,rh,pt,x,0,as,pG,rfl,#[O],#[O],x0,x1,#[O],#[O],t7 _ _ vY,vZ.same t7,s19 _ _ AG,#[O],v1,fun M4 Dl s20 _ Cv=>?_⟩;have w1:=zde C1;have w4:=zde C4;have e:=zov hp b1 b2 (N:=20) (W:=40) (zer #[O] #[O] #[O] C1.nz Cv) (zer #[O] #[O] #[O] C4.nz Cu);subst e;refine⟨rfl,?_⟩;show Q (.bl (decide (V.int M3=V.int M3))) Dl;rw [decide_eq_true rfl];exact q _
end
structure Dn (K:ag) (x:Str) (st:Stmt) (f:Addr) (fd:FuncData):Prop where
 a:b9 K mainGlobals x=some (some (.ref f))
 f:Fun K x x st f fd
theorem zaF {K:ag} {x:Str} {st:Stmt} {f:Addr} {od an:Option Addr} {sl:Array (Option Value)} {oc kV dc pm cd ct:Value} (a:b9 K mainGlobals x=some (some (.ref f))) (l:K.lookup f=some ⟨oc,od,.func (cY x x (zbp st) (zbb st) (zh st) .none kV dc pm an cd ct),sl⟩) (c:fA K cd x=true) (k:fz K (.ref f)=true):Dn K x st f (cY x x (zbp st) (zbb st) (zh st) .none kV dc pm an cd ct):=⟨a,zjI l c k⟩
theorem znk {l:iF} {w:World} {K:ag} {h:Heap} {mg:Str→Option Value} {fa fl:Addr} (X:K.In h) (G:h.Ns mainGlobals mg) (wM:mg "law" = some (.ref fa))
  {od an:Option Addr} {sl:Array (Option Value)} {oc kV dc pm cd ct:Value} (ql:∃ f fd,Dn K "value_at" zbV f fd) (qm:∃ f fd,Dn K "width_of" zbm f fd) (sH:∃ f fd,Dn K "filled" zce f fd) (qp:∃ f fd,Dn K "terms_of" zbn f fd) (sI:∃ f fd,Dn K "turned" zcf f fd) (sJ:∃ f fd,Dn K "raised" zcg f fd) (rj:∃ f fd,Dn K "size_of" zbG f fd) (ug:∃ f fd,Dn K "moved" zda f fd) (pH:∃ f fd,Dn K "weight_at" za3 f fd) (pI:∃ f fd,Dn K "without_x" zaN f fd) (oX:∃ f fd,Dn K "next_curve" zaR f fd) (rk:∃ f fd,Dn K "further" zbf f fd) (qq:∃ f fd,Dn K "roots_of" zaU f fd) (sM:∃ f fd,Dn K "_law_cell" zdb f fd) (rm:∃ f fd,Dn K "_law_draws" zcs f fd) (sN:∃ f fd,Dn K "_law_code" zch f fd) (rn:∃ f fd,Dn K "_law_value" zct f fd) (rq:∃ f fd,Dn K "_law_curve" zbg f fd) (rz:∃ f fd,Dn K "_law_times" zcu f fd) (ou:∃ f fd,Dn K "_law_with_root" zah f fd) (pJ:∃ f fd,Dn K "_law_product" zap f fd)
  (al:b9 K mainGlobals "law" = some (some (.ref fl))) (ll:K.lookup fl=some ⟨oc,od,.func (cY "law" "law" (zbp zb0) (zbb zb0) (zh zb0) .none kV dc pm an cd ct),sl⟩) (cl:fA K cd "law" = true) (kl:fz K (.ref fl)=true) (yR:b9 K mainGlobals "len" = some none) (uh:b9 K mainGlobals "range" = some none) (wg:b9 K mainGlobals "list" = some none) (ui:b9 K mainGlobals "tuple" = some none) (yS:b9 K mainGlobals "min" = some none) (yT:b9 K mainGlobals "max" = some none) (yU:b9 K mainGlobals "zip" = some none) (pK:b9 K mainGlobals "enumerate" = some none) (qr:b9 K mainGlobals "reversed" = some none) (sO:b9 K mainGlobals "sorted" = some none) (yV:b9 K mainGlobals "any" = some none) (yW:b9 K mainGlobals "set" = some none) :
  ∃ fd:FuncData,(∀ (s:Shared) (v:Value),BindsTo s fd ⟨[v],[]⟩ [("script",v)])∧∀ base:Heap,K.In base→base.Ns mainGlobals mg→FnOk l.prog w K mg base CX0 5 fa fd ["script"] (zfr K):=by
 cases wM.symm.trans (bu X G al);obtain⟨f_value_at,pA,mX⟩:=ql;have mW:=mX.f.binds (ps:=["p","polynomial","x"]) fun _ _ _ _ _ _ us hl=>match us,hl with | [_,_,_],_=>rfl
 obtain⟨f_width_of,nI,mY⟩:=qm;have lP:=mY.f.binds (ps:=["curve"]) fun _ _ _ _ _ _ us hl=>match us,hl with | [_],_=>rfl
 obtain⟨f_filled,oE,n6⟩:=sH;have mI:=n6.f.binds (ps:=["p","curve"]) fun _ _ _ _ _ _ us hl=>match us,hl with | [_,_],_=>rfl
 obtain⟨f_terms_of,lS,mZ⟩:=qp;have lg:=mZ.f.binds (ps:=["curve"]) fun _ _ _ _ _ _ us hl=>match us,hl with | [_],_=>rfl
 obtain⟨f_turned,qX,n8⟩:=sI;have m8:=n8.f.binds (ps:=["lines","width"]) fun _ _ _ _ _ _ us hl=>match us,hl with | [_,_],_=>rfl
 obtain⟨f_raised,oD,n9⟩:=sJ;have mh:=n9.f.binds (ps:=["p","lines","by"]) fun _ _ _ _ _ _ us hl=>match us,hl with | [_,_,_],_=>rfl
 obtain⟨f_size_of,qj,nB⟩:=rj;have lE:=nB.f.binds (ps:=["k","curve"]) fun _ _ _ _ _ _ us hl=>match us,hl with | [_,_],_=>rfl
 obtain⟨f_moved,sF,oY⟩:=ug;have oR:=oY.f.binds (ps:=["p","curve","point"]) fun _ _ _ _ _ _ us hl=>match us,hl with | [_,_,_],_=>rfl
 obtain⟨f_weight_at,oW,mL⟩:=pH;have lj:=mL.f.binds (ps:=["p","curve","point"]) fun _ _ _ _ _ _ us hl=>match us,hl with | [_,_,_],_=>rfl
 obtain⟨f_without_x,oS,mM⟩:=pI;have mJ:=mM.f.binds (ps:=["lines"]) fun _ _ _ _ _ _ us hl=>match us,hl with | [_],_=>rfl
 obtain⟨f_next_curve,oq,mo⟩:=oX;have ml:=mo.f.binds (ps:=["p","lines","number"]) fun _ _ _ _ _ _ us hl=>match us,hl with | [_,_,_],_=>rfl
 obtain⟨f_further,qh,nC⟩:=rk;have nu:=nC.f.binds (ps:=["p","known","lines"]) fun _ _ _ _ _ _ us hl=>match us,hl with | [_,_,_],_=>rfl
 obtain⟨f_roots_of,pF,m5⟩:=qq;have lz:=m5.f.binds (ps:=["p","k","curve"]) fun _ _ _ _ _ _ us hl=>match us,hl with | [_,_,_],_=>rfl
 obtain⟨f_l_cell,qS,oa⟩:=sM;have nU:=oa.f.binds (ps:=["script","k"]) fun _ _ _ _ _ _ us hl=>match us,hl with | [_,_],_=>rfl
 obtain⟨f_l_draws,mT,nD⟩:=rm;have lA:=nD.f.binds (ps:=["script","k","many","base"]) fun _ _ _ _ _ _ us hl=>match us,hl with | [_,_,_,_],_=>rfl
 obtain⟨f_l_code,qZ,oe⟩:=sN;have n0:=oe.f.binds (ps:=["script","at","most_k","most_n"]) fun _ _ _ _ _ _ us hl=>match us,hl with | [_,_,_,_],_=>rfl
 obtain⟨f_l_value,qk,nE⟩:=rn;have nA:=nE.f.binds (ps:=["p","polynomial","x"]) fun _ _ _ _ _ _ us hl=>match us,hl with | [_,_,_],_=>rfl
 obtain⟨f_l_curve,qi,nF⟩:=rq;have mO:=nF.f.binds (ps:=["script","at","p","high","wide"]) fun _ _ _ _ _ _ us hl=>match us,hl with | [_,_,_,_,_],_=>rfl
 obtain⟨f_l_times,nV,nG⟩:=rz;have me:=nG.f.binds (ps:=["p","one","other"]) fun _ _ _ _ _ _ us hl=>match us,hl with | [_,_,_],_=>rfl
 obtain⟨f_l_with_root,n5,lV⟩:=ou;have lG:=lV.f.binds (ps:=["p","curve","polynomial"]) fun _ _ _ _ _ _ us hl=>match us,hl with | [_,_,_],_=>rfl
 obtain⟨f_l_product,oV,mN⟩:=pJ;have mK:=mN.f.binds (ps:=["p","one","other"]) fun _ _ _ _ _ _ us hl=>match us,hl with | [_,_,_],_=>rfl
 have T:Txt K mg ⟨f_value_at,f_width_of,f_filled,f_terms_of,f_turned,f_raised,f_size_of,f_moved,f_weight_at,f_without_x,f_next_curve,f_further,f_roots_of,f_l_cell,f_l_draws,f_l_code,f_l_value,f_l_curve,f_l_times,f_l_with_root,f_l_product,fa⟩:=⟨bJ X G yR,bJ X G uh,bJ X G wg,bJ X G ui,bJ X G yS,bJ X G yT,bJ X G yU,bJ X G pK,bJ X G qr,bJ X G sO,bJ X G yV,bJ X G yW,bu X G mX.a,bu X G mY.a,bu X G n6.a,bu X G mZ.a,bu X G n8.a,bu X G n9.a,bu X G nB.a,bu X G oY.a,bu X G mL.a,bu X G mM.a,bu X G mo.a,bu X G nC.a,bu X G m5.a,bu X G oa.a,bu X G nD.a,bu X G oe.a,bu X G nE.a,bu X G nF.a,bu X G nG.a,bu X G lV.a,bu X G mN.a,⟨_,mX.f,mW⟩,⟨_,mY.f,lP⟩,⟨_,n6.f,mI⟩,⟨_,mZ.f,lg⟩,⟨_,n8.f,m8⟩,⟨_,n9.f,mh⟩,⟨_,nB.f,lE⟩,⟨_,oY.f,oR⟩,⟨_,mL.f,lj⟩,⟨_,mM.f,mJ⟩,⟨_,mo.f,ml⟩,⟨_,nC.f,nu⟩,⟨_,m5.f,lz⟩,⟨_,oa.f,nU⟩,⟨_,nD.f,lA⟩,⟨_,oe.f,n0⟩,⟨_,nE.f,nA⟩,⟨_,nF.f,mO⟩,⟨_,nG.f,me⟩,⟨_,lV.f,lG⟩,⟨_,mN.f,mK⟩⟩;have FL:=zjI (st:=zb0) ll cl kl;exact⟨cY "law" "law" (zbp zb0) (zbb zb0) (zh zb0) .none kV dc pm an cd ct,fun s v=>.of_eq rfl,fun base _ _=>znj T FL⟩
theorem walk {l:iF} {q:Program} {loose:List Str} {XP:(Str→Option Value)→Heap→Prop} {YP:World→Heap→Prop} {d:DefRec} {K:Params→ag} (hn:l.most=some 63) (xb:d.params.defaults = []) (hY:∀ (w:World) (h:Heap),YP w h→(K w.params).In h)
  (F:∀ (w:World) (mg:Str→Option Value) (fa:Addr) (h:Heap),(K w.params).In h→h.Ns mainGlobals mg→mg d.name=some (.ref fa)→∃ fd:FuncData,(∀ (s:Shared) (u:Value),BindsTo s fd ⟨[u],[]⟩ [("script",u)])∧∀ base:Heap,(K w.params).In base→base.Ns mainGlobals mg→FnOk l.prog w (K w.params) mg base CX0 5 fa fd ["script"] (zfr (K w.params))):kE q loose XP YP l.row.toRowW d [] (fun f vs=>kq f vs) :=
 L2.zlg (n:=63) (k:=5) (x:="script") (CX:=fun _=>CX0) (sp:=fun w=>zfr (K w.params)) hn #[D] xb ⟨rfl,#[D],#[D]⟩ hY F (fun _ _ a ns hl _ hS=>⟨a,ns,rfl,hS,hl,fun _=>rfl⟩) fun _ _ _ _ _ z=>z
end My
namespace PySem.W.Fast
def tw7339094745618872200:Unit:=()
def tw16093704397769256435:Unit:=()
def tw8905695771501450445:Unit:=()
def tw11030188326867726024:Unit:=()
def tw14539157047248815729:Unit:=()
def tw5360024634487784286:Unit:=()
def tw2259977583309467322:Unit:=()
def tw13968422032994502714:Unit:=()
def tw15397400261434882877:Unit:=()
def tw2398917126068044349:Unit:=()
def tw14854757951998077363:Unit:=()
def tw11778623374323569003:Unit:=()
def tw11207978575694045316:Unit:=()
def tw5487381921660124411:Unit:=()
def tw1244630840037239650:Unit:=()
def tw14956292803321976423:Unit:=()
def tw13055181590746518720:Unit:=()
def tw6685996071498402142:Unit:=()
def tw16219624031962933439:Unit:=()
def tw15840508699226155518:Unit:=()
def tw4658917536962049696:Unit:=()
def tw9859336475785737400:Unit:=()
def tw17319229659496989862:Unit:=()
def tw17138897202038325499:Unit:=()
def tw4440663471872916916:Unit:=()
def tw11067129955595597684:Unit:=()
def tw10895737061212171966:Unit:=()
def tw17792977578978311219:Unit:=()
def tw594105789999327404:Unit:=()
def tw16486733566008959556:Unit:=()
def tw3120386508304083044:Unit:=()
def tw4476862307011190217:Unit:=()
def tw16552540000776545131:Unit:=()
def tw18106261981369908870:Unit:=()
def tw5649088297593491077:Unit:=()
def tw8689201410495409020:Unit:=()
def tw15293835393062447380:Unit:=()
def tw12450725861392712683:Unit:=()
def tw1375469840873872729:Unit:=()
def tw3099734928193851045:Unit:=()
def tw3392795516029504575:Unit:=()
def tw4500735744612808465:Unit:=()
def tw4666674023336182968:Unit:=()
def tw17101736089971772097:Unit:=()
def tw3280097801802973188:Unit:=()
def tw12752308368628703990:Unit:=()
def tw10554223540844677893:Unit:=()
def tw18269354331921478315:Unit:=()
def tw2928212746252699703:Unit:=()
def tw18264830580382770730:Unit:=()
def tw16904724711379006891:Unit:=()
def tw13840449462374398112:Unit:=()
def tw7115194078746567259:Unit:=()
def tw9283030970235785925:Unit:=()
def tw17639328256466980422:Unit:=()
def tw7837404010662906519:Unit:=()
def tw11812903733035441845:Unit:=()
def tw12484666817334760820:Unit:=()
def tw10326433765341640463:Unit:=()
def tw4482571419990378968:Unit:=()
end PySem.W.Fast
open PySem PySem.W
open PyProof.Rows
set_option maxHeartbeats 0 in
theorem PySem.Challenge.cw_slipcurve_k10_whole_curves_multiplied_holds : PySem.Challenge.rw_slipcurve_k10_whole_curves_multiplied.Holds := by
 w_on; o_law; k_head; (case hw=>w_witness2)
 k_fill
 refine My.walk (l:=PySem.Challenge.rw_slipcurve_k10_whole_curves_multiplied) rfl rfl (fun w h Y=>PySem.W.kIn_of Y) ?F
 case F =>
  intro w mg fa h KX G hmg;refine' My.znk KX G hmg ⟨_,_,My.zaF ?a_value_at ?l_value_at ?c_value_at ?k_value_at⟩ ⟨_,_,My.zaF ?a_width_of ?l_width_of ?c_width_of ?k_width_of⟩ ⟨_,_,My.zaF ?a_filled ?l_filled ?c_filled ?k_filled⟩ ⟨_,_,My.zaF ?a_terms_of ?l_terms_of ?c_terms_of ?k_terms_of⟩ ⟨_,_,My.zaF ?a_turned ?l_turned ?c_turned ?k_turned⟩ ⟨_,_,My.zaF ?a_raised ?l_raised ?c_raised ?k_raised⟩ ⟨_,_,My.zaF ?a_size_of ?l_size_of ?c_size_of ?k_size_of⟩ ⟨_,_,My.zaF ?a_moved ?l_moved ?c_moved ?k_moved⟩ ⟨_,_,My.zaF ?a_weight_at ?l_weight_at ?c_weight_at ?k_weight_at⟩ ⟨_,_,My.zaF ?a_without_x ?l_without_x ?c_without_x ?k_without_x⟩ ⟨_,_,My.zaF ?a_next_curve ?l_next_curve ?c_next_curve ?k_next_curve⟩ ⟨_,_,My.zaF ?a_further ?l_further ?c_further ?k_further⟩ ⟨_,_,My.zaF ?a_roots_of ?l_roots_of ?c_roots_of ?k_roots_of⟩ ⟨_,_,My.zaF ?a_l_cell ?l_l_cell ?c_l_cell ?k_l_cell⟩ ⟨_,_,My.zaF ?a_l_draws ?l_l_draws ?c_l_draws ?k_l_draws⟩ ⟨_,_,My.zaF ?a_l_code ?l_l_code ?c_l_code ?k_l_code⟩ ⟨_,_,My.zaF ?a_l_value ?l_l_value ?c_l_value ?k_l_value⟩ ⟨_,_,My.zaF ?a_l_curve ?l_l_curve ?c_l_curve ?k_l_curve⟩ ⟨_,_,My.zaF ?a_l_times ?l_l_times ?c_l_times ?k_l_times⟩ ⟨_,_,My.zaF ?a_l_with_root ?l_l_with_root ?c_l_with_root ?k_l_with_root⟩ ⟨_,_,My.zaF ?a_l_product ?l_l_product ?c_l_product ?k_l_product⟩ ?al ?ll ?cl ?kl ?z_len ?z_range ?z_list ?z_tuple ?z_min ?z_max ?z_zip ?z_enumerate ?z_reversed ?z_sorted ?z_any ?z_set
  (case a_value_at=>k_is); (case l_value_at=>k_is); (case c_value_at=>k_is); (case k_value_at=>k_is)
  (case a_width_of=>k_is); (case l_width_of=>k_is); (case c_width_of=>k_is); (case k_width_of=>k_is)
  (case a_filled=>k_is); (case l_filled=>k_is); (case c_filled=>k_is); (case k_filled=>k_is)
  (case a_terms_of=>k_is); (case l_terms_of=>k_is); (case c_terms_of=>k_is); (case k_terms_of=>k_is)
  (case a_turned=>k_is); (case l_turned=>k_is); (case c_turned=>k_is); (case k_turned=>k_is)
  (case a_raised=>k_is); (case l_raised=>k_is); (case c_raised=>k_is); (case k_raised=>k_is)
  (case a_size_of=>k_is); (case l_size_of=>k_is); (case c_size_of=>k_is); (case k_size_of=>k_is)
  (case a_moved=>k_is); (case l_moved=>k_is); (case c_moved=>k_is); (case k_moved=>k_is)
  (case a_weight_at=>k_is); (case l_weight_at=>k_is); (case c_weight_at=>k_is); (case k_weight_at=>k_is)
  (case a_without_x=>k_is); (case l_without_x=>k_is); (case c_without_x=>k_is); (case k_without_x=>k_is)
  (case a_next_curve=>k_is); (case l_next_curve=>k_is); (case c_next_curve=>k_is); (case k_next_curve=>k_is)
  (case a_further=>k_is); (case l_further=>k_is); (case c_further=>k_is); (case k_further=>k_is)
  (case a_roots_of=>k_is); (case l_roots_of=>k_is); (case c_roots_of=>k_is); (case k_roots_of=>k_is)
  (case a_l_cell=>k_is); (case l_l_cell=>k_is); (case c_l_cell=>k_is); (case k_l_cell=>k_is)
  (case a_l_draws=>k_is); (case l_l_draws=>k_is); (case c_l_draws=>k_is); (case k_l_draws=>k_is)
  (case a_l_code=>k_is); (case l_l_code=>k_is); (case c_l_code=>k_is); (case k_l_code=>k_is)
  (case a_l_value=>k_is); (case l_l_value=>k_is); (case c_l_value=>k_is); (case k_l_value=>k_is)
  (case a_l_curve=>k_is); (case l_l_curve=>k_is); (case c_l_curve=>k_is); (case k_l_curve=>k_is)
  (case a_l_times=>k_is); (case l_l_times=>k_is); (case c_l_times=>k_is); (case k_l_times=>k_is)
  (case a_l_with_root=>k_is); (case l_l_with_root=>k_is); (case c_l_with_root=>k_is); (case k_l_with_root=>k_is)
  (case a_l_product=>k_is); (case l_l_product=>k_is); (case c_l_product=>k_is); (case k_l_product=>k_is)
  (case al=>k_is); (case ll=>k_is); (case cl=>k_is); (case kl=>k_is)
  (case z_len=>k_is); (case z_range=>k_is); (case z_list=>k_is); (case z_tuple=>k_is); (case z_min=>k_is); (case z_max=>k_is); (case z_zip=>k_is); (case z_enumerate=>k_is); (case z_reversed=>k_is); (case z_sorted=>k_is); (case z_any=>k_is); (case z_set=>k_is)
#print axioms PySem.Challenge.cw_slipcurve_k10_whole_curves_multiplied_holds
end