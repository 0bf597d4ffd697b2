import PyProof.Rows.All
import Wide.All
import OpenK.AllK
import Wide.FinOn
import Lean
import PyProof.EqAt
import PyProof.EqKinds
import PyProof.SetRoads
import PyProof.IsRules
import PyProof.TupleKey
import PyProof.Rows.SetFrom
import KE.KDictOf
import PyProof.AttrMissHeap
import PyProof.Rows.MinMaxN
import PyProof.ListMulRoad
import KE.KUnpackStar
import KE.KIntText
import PyProof.CallStr
import KE.KDictSum
import KE.KSortTup
import PyProof.Walk
import PyProof.Rows.SortRuns
import PyProof.Rows.ChunkEnd
import PyProof.Rows.Range3
import PyProof.Rows.SeqGen
import PyProof.ConsumeWalk
import PyProof.ListRange
import PyProof.NeKinds
import PyProof.TupleCall
import PySem.Challenge.RW_slipcurve_k13_whole_roots
set_option maxHeartbeats 3999000
open List renaming length_map→ab,getElem?_map→ah,size_toArray→ai,getElem?_eq_getElem→ak,replicate→ap,getD_eq_getElem?_getD→au,mem_cons_of_mem→av,map_append→aw,mem_of_getElem?→az,length_append→aA,mem_append_right→aB,range→aD,length_replicate→aH,mem_cons_self→aI,mem_map→aJ,length_take→aL,mem_cons→aN,take_of_length_le→aQ,mem_singleton→aS,mem_append→aT,length_range→aU,mem_append_left→aY,getElem?_eq_some_iff→bg,mem_range→bi,append_assoc→bm,lookup_cons→bq,getElem?_range→bw,getElem?_eq_none→bz,flatten_replicate_singleton→bC,getElem?_append_right→bG,getElem?_append_left→bI,length_cons→bM,getElem?_replicate→bO,mem_filter→bS,getElem?_eq_none_iff→bX,mem_iff_getElem?→bY,append_nil→ci,nodup_cons→cj,map_replicate→cr,eq_of_mem_replicate→cu,pairwise_map→cF,ext_getElem?→cG,length_set→cH,filterMap_cons→cI,length_drop→cM,length_filter_le→cN,take_append_drop→cO,extract_eq_take_drop→cP,mem_or_eq_of_mem_set→cQ,replicate_succ→c6,take_length→c7,getElem_mem→c9,drop_eq_nil_of_le→da,nodup_append→di,drop_eq_getElem_cons→dr,pairwise_iff_getElem→du,not_mem_nil→dC,map_map→dD,getElem_of_mem→dJ,getElem?_cons_succ→dL,filter_append→dO,range_succ→dQ,getElem?_set_self→dR,zipWith→dY,drop_zero→d6,dropLast_concat_getLast→d7,map_set→eB,getElem?_set_ne→eD,all_eq_true→eE,mem_of_mem_take→eG,map_cons→eK,length_take_le→eO,map_congr_left→eP,getElem?_take_of_lt→eW,filterMap_map→eY,getElem?_drop→eZ,pairwise_cons→fb,length_eq_zero_iff→fu,flatten_cons→fA,range_succ_eq_map→fH,length_singleton→fR,concat_eq_append→fT,mem_of_mem_drop→fZ,length_pos_iff→gb,mem_filterMap→gj,getElem?_take→gq,nodup_iff_pairwise_ne→gA,any_eq_false→gC,take_sublist→gE,take_add_one→gH,getElem_take→gI,flatMap_cons→gJ,nodup_range→gX,mem_flatMap→g8,set_eq_of_length_le→hU,getElem?_cons_zero→ie,append_cancel_left→ig,of_mem_zip→ik,filter_nil→ip,getD→ir,length→iA,drop_of_length_le→iE,pairwise_lt_range→iG,drop_drop→iM,take_zero→iN,eq_nil_or_concat→iO,nodup_nil→iS,pairwise_append→iZ,dropLast_concat→i4,mem_iff_getElem→i7,getElem?_of_mem→i8,any_cons→jf,flatMap_append→jn,filter_sublist→jo,map_nil→jw,map_filterMap→jE,drop_sublist→jK,getElem?_set→jN,getElem?_inj→jP,filter_cons→jY,drop_length→j1,foldl→j8,foldl_cons→j9,nil_append→kb,forIn_cons→kd,length_nil→kf,take_nil→kB,map_drop→kF,map_take→kG
open PySem renaming wpAny_bind→ae,wpAny_pure→aj,sizeLine_eq→br,wpAny_holding→bK,wpAny_newObj_type→bN,boot_len→bP,wpAny_of_eq→b7,wpAny_callSpecial?_slot→cb,wpAny_call_entry→cn,wpAny_field→cz,wpAny_mono→cA,wpAny_rule→cB,codeAny_builtin→cX,wpAny_Call_Name_kw→db,isSubtype_type→dw,wpAny_seqItems→dz,mem_of_lookup→dI,plainId_quiet→dM,wpAny_setState_of→dS,builtinLookup_eq_fast→dX,wpAny_tryCatch→ed,wpAny_standAt→eJ,wpAny_passesOwn→eQ,wpAny_specialOf→eS,wpAny_pyIter_tuple→eV,call_meets→fh,wpAny_setField→fi,wpAny_truthy_bool→fw,wpAny_pyIter_list→fz,wpAny_pyIter_enum→fC,wpAny_pyIter_rangeiter→fF,wpAny_attempt→fJ,codeAny_mono→fV,codeAny_of_tree→fX,typeLookup_type→fY,seqIndex_of→gh,intItems_at→gi,wpAny_letOwnedTupleGo_enum→gz,noFill_tuple_add→gR,wpAny_typeOf→gS,wpAny_comprehension_free→gU,wpAny_isInstance→gV,numAt_eq→hJ,wpAny_forIn_list→h7,wpAny_execs_nil→ij,wpAny_loadPart'→im,wpAny_updateSeq→io,wpAny_pyNext_range_end→iw,wpAny_letGo→iF,wpAny_eqIsQuiet_tuple→iQ,wpAny_pyIter_revIter→iV,codeAny_call_builtin→i3,seq_tuple_add→jc,nums_intItems→je,concat_meets→jt,seqIndex_neg→jx,list_append→jI,wpAny_Name→j3,wpAny_call→j5,typeIs_int→j7,call→kc,Within→kH
open PySem.W renaming Frag→af,mg_none_of→bu,mg_of→bx,nsIn→bH,kia_one→bZ,fnOf→cS,keepIn→ff,codeIn→fg,methodObj→gB,instObj→ii,OpenLaw→il,cellsFrom_some→iz,lookIn→iI,kitx_list→jG,kitx_dict→jH,plainGet→jT,findIn→kh,kitOne→ki,WalkO→kv
open Nat renaming le_refl→ag,ne_of_lt→a8,le_trans→bd,lt_of_lt_of_le→bh,zero_le→bj,zero_add→bE,lt_irrefl→bQ,add_sub_cancel→b9,add_zero→cV,lt_succ_of_lt→cZ,min_eq_left→dP,succ_mul→dW,sub_zero→d8,mul_le_mul→eC,pow_le_pow_right→eI,sub_self→fc,mod_lt→fm,lt_succ_self→fL,mul_succ→f',succ_pos→ga,le_of_succ_le→gF,le_of_lt_succ→gL,le_of_lt→gQ,succ_ne_self→gT,pow_succ→hV,strongRecOn→iq,le_succ→iC,mul_le_mul_right→i9,ne_of_gt→jr,lt_of_le_of_lt→jD,le_of_not_lt→jW,le_add_right→jZ
open PySem.Heap renaming get?_push_of_some→am,lt_size→aE,get?_push_size→aK,size_push→bJ,get?_update_other→bW,get?_update_self→cm,SameBut→dU,get?_update_ne→jm
open PyProof.Rows renaming wpS_bind→ao,wpS_pure→ar,callWith_type1→bD,wpS_forRange→cq,slot_tuple_getitem→cR,zipApart_new→cU,wpS_mono→c8,wpS_modify→eF,boot_tuple→eH,wpS_get→fj,boot_list→fU,callWith_builtin1→fW,wpS_lift→gf,boot_max→gg,pairsOf_size→g6,subscriptTail_builtinR→iB,mirror_perm→iD,pairsOf_toList→iP,listUpdate_at→jd,entry_tuple_getitem→ji,getElem?_mirror_all→jl,args_tuple_getitem→jv,seqEpoch_at→jR,boot_sorted→jS,boot_range→j4
open Or renaming inl→aF,inr→eA
open Array renaming length_toList→aG,getElem?_toList→be,toList_append→bv,toList_extract→cC,getElem?_eq_some_iff→cL,mem_toList_iff→dm,getElem?_eq_getElem→dv,perm_iff_toList_perm→eM,toList_reverse→f9,size_setIfInBounds→gZ,toList_map→g5,getElem?_eq_none→iH,getD→i6,size_extract→jA,forIn_toList→jF,toList_push→jO,size_map→km,toList→kJ
open Bool renaming false_eq_true→aO,false_ne_true→aR,or_eq_true→bA,and_eq_true→cc,eq_iff_iff→cg,not_true→eL,and_false→gd,not_false→ko,and_true→kx
open Int renaming emod_lt_of_pos→aP,emod_nonneg→aV,le_refl→bF,le_trans→bU,add_zero→bV,mul_le_mul_of_nonneg_right→cW,toNat_natCast→cY,zero_mul→dE,mul_zero→dF,le_of_lt→dZ,zero_add→et,emod_eq_of_lt→fE,ediv_one→ju,pow_succ→jB,mul_comm→jC,lt_trichotomy→jL
open Classical renaming byContradiction→aW,propDecidable→fv,axiomOfChoice→ic,em→jz
open PySem.Value renaming ref→aZ,none→dj,int→fQ,type→iT,isInt→jQ,bool→j2,str→kt,builtin→kC
open PySem.Builtin.Range renaming rangeFitsLong→ba,rangeSize→bo
open Option.some renaming inj→bf,injEq→jM
open PySem.Paired renaming length→bn,snoc→b8,mono→fI
open PySem.PassesOwn renaming never→bp
open PySem.NameKind renaming free→bR,cell→cK
open PySem.Str renaming ofString→bT
open PySem.Around renaming in1_units→ce,under_plainId→cD
open PySem.Heap.SameBut renaming update→cf
open ForInStep renaming yield→ck,done→fk
open PySem.F renaming plainAttrs_list→cE,slot_tuple_iterator_next→dh,slot_list_append→dG,type_list_append→dH,args_tuple_add_2→eX,entry_tuple_add→fo,slot_tuple_add→fG,entry_max_loop→fM,plain_max_loop→fN,entry_min_loop→fO,plain_min_loop→fP,args_tuple_iterator_next_1→ge,entry_tuple_iterator_next→gm,typeCall_reversed_1→iJ,slot_enumerate_next→iK,plain_set_new→iR,args_list_append_2→iU,newCall_reversed_1→iW,args_object_init_2→iX,entry_reversed_new→iY,plain_reversed_new→i5,entry_list_append→jj,slot_list_append→jy
open Ne renaming symm→cJ
open PySem.Obj renaming mapSeq→cT,data_mapFields→dN,isFreed_of_fields→fS,putSet→gN,cls_mapFields→jJ
open PySem.Builtin.Builtins renaming bindParams→de
open PyProof.Rows.F renaming plain_set_update_loop→df,entry_set_update_loop→fe
open False renaming elim→dk
open PySem.Builtin.Slice renaming slicePlaces→dn,sliceAdjust→eR,sliceApplied→gu
open PySem.Builtin.SmallTypes renaming nextOf→dq,newRecord→kj
open PySem.Builtin.Tuple renaming tupleExact→dA,tupleItemsOf→gv
open PySem.Builtin.List renaming listTooLong→dB
open List.Perm renaming trans→eU
open List.Pairwise renaming nil→fB,imp→gK,imp_of_mem→g7,sublist→iL
open Option renaming getD_some→fK,getD_none→jU,toList→kz,none→kL
open PySem.Calls renaming spliced_cons→gk,Name_function_global→gr,spliced_nil→gD
open PySem.SeqAt.EqAt renaming of_refs→gp,int_str→jp,str_int→jq,same→j6
open PySem.SeqAt.RcAt renaming tuples→gG,lists_lengths→gW,lists→jX
open True renaming intro→gM
open Sum renaming inl→gO,inr→gP
open PySem.Data renaming fields→iu
open PySem.SetTable renaming fits→jg,fill→jh,grown→kq
open PySem.SeqAt.RcNeAt renaming tuples→jk
open PySem.IsL renaming update→jV
open PyProof.Rows.SortSt renaming mk'→ke
open PySem.Walks renaming list→kg
open PySem.Builtin.Frozenset renaming updateFrom→kr,newClass→kD
open PyProof.Rows.IsTup renaming new→ku
open Function renaming comp→kA
open PySem.Shared renaming TypeIs→kE
open Prod renaming ext→kK
open PySem.W.KatTups renaming cons→kM
local macro_rules | `(tactic| trivial)=>`(tactic| first | exact .inl rfl | exact .inr rfl | assumption)
local macro_rules|`(#[$xs,*])=>do
 let a:=xs.getElems
 if h:a.size=0 then Lean.Macro.throwUnsupported else
 let s:=a[0].raw.getId.eraseMacroScopes.toString
 if s=="O" then `(by lia) else if s=="D" then `(by decide) else if s=="N" then `(by decide +kernel) else if s=="S" then `(⟨rfl,rfl,rfl,by decide +kernel,rfl,by decide +kernel,by decide +kernel⟩) else if s=="A" then `(Or.inl rfl) else if s=="M" then `(by simp) else
 match [("_____eb","zf"),("________eee","za1 zg"),("________eeee","zJ"),("_","zgF zm zq zan zd5 zu z8 zB zak ziy zd zf9 zd6 zbT za8 zam zE zaA zc4 zat zeD zbF zkO zc1 zbt zcR"),("_e__f","pvx"),("_________ereeeddrr","zl zO"),("___er","ya"),("___e","zj zbG zbS"),("____e","zQ zac zeJ zcH zao zeB zdk"),("_______eeeu","zI"),("____","ze zd1"),("__e____efeert","zp"),("_____e","zbl"),("______b","zfs"),("_____eer","za zy"),("________________eefeeeneedrr","zF"),("________efeeei","zaj"),("______feer","zR"),("__e_efet","zi"),("____er","zcj"),("____________eeeeeerrrrr","zed"),("_f","zd7 zbZ"),("_____________efeeeeei","zS"),("__f","z7"),("_ef","zdt zas"),("______eerrr","zbB"),("___fe","zaJ"),("_e___e_fferr","zbq"),("_______eeei","zcb"),("________feer","zbH zfq"),("__________eeee","zbE"),("___ei","zf2"),("______ee","zfh"),("______ferr","zcG"),("_____________e___efeefeeeeerit","zdr"),("_______ee","zdl"),("__e__feefdd","zgB"),("_e","zeM")].find? fun q=>(q.2.splitOn " ").contains s with
 |none=>Lean.Macro.throwUnsupported
 |some (p,_)=>do
  let mut r:=#[]
  let mut i:=1
  for c in p.toList do
   if c=='e' then
    r:=r.push (a[i]!)
    i:=i+1
   else if c=='b' then
    r:=r.push (←`((by exact $(a[i]!))))
    i:=i+1
   else r:=r.push (←match c with|'_'=>`(_)|'r'=>`((by rfl))|'d'=>`((by decide))|'f'=>`(rfl)|'t'=>`((by trivial))|'i'=>`((by intro _; rfl))|'u'=>`((fun _ _=>rfl))|'n'=>`(.nil)|'l'=>`(Or.inl rfl)|'o'=>`(Or.inr rfl)|_=>`(nomark _))
  return Lean.Syntax.mkApp (←`(@$(⟨a[0].raw⟩):ident)) r
set_option Elab.async false
set_option linter.all false
set_option maxRecDepth 100000
namespace L2
open PySem PySem.Spec PyProof.Rows
abbrev Key:=Sum Int Str
def zkM:Key→Value→Bool
 | .inl k,v=>jQ k v
 | .inr x,v=>Value.isStrOf x v
def zmw (w:World):Key→Int
 | .inl k=>hashInt k
 | .inr x=>hashStr w x
theorem zab:∀ {k:Key} {v:Value},zkM k v=true→(∃ i t,k=gO i∧v=fQ i t)∨(∃ x t,k=gP x∧v=kt x t)
 | .inl i,v,h=>by
  obtain⟨t,e⟩:=Value.isInt_shape (k:=i) (v:=v) h;exact .inl ⟨i,t,rfl,e⟩
 | .inr x,v,h=>by
  obtain⟨t,e⟩:=Value.isStrOf_shape (x:=x) (v:=v) h;exact .inr ⟨x,t,rfl,e⟩
theorem zk2 (a b:Int):decide ((gO a:Key)=gO b)=(a == b):=by
 by_cases e:a=b
 ·subst e; simp
 ·have h:¬ (gO a:Key)=gO b:=fun q=>e (Sum.inl.inj q)
  rw [decide_eq_false h];exact (beq_eq_false_iff_ne.mpr e).symm
theorem zk3 (a b:Str):decide ((gP a:Key)=gP b)=decide (a=b):=by
 by_cases e:a=b
 ·subst e; simp
 ·have h:¬ (gP a:Key)=gP b:=fun q=>e (Sum.inr.inj q)
  rw [decide_eq_false h,decide_eq_false e]
theorem zk4 (a:Int) (b:Str):decide ((gO a:Key)=gP b)=false:=decide_eq_false (fun q=>nomatch q)
theorem zk5 (a:Str) (b:Int):decide ((gP a:Key)=gO b)=false:=decide_eq_false (fun q=>nomatch q)
def zez (prog:Program) (w:World):PySem.KeyKind prog w Key where
 is:=zkM
 hash:=zmw w
 inj:=fun v a b ha hb=>by
  rcases zab ha with ⟨i,t,rfl,rfl⟩ | ⟨x,t,rfl,rfl⟩
  ·rcases zab hb with ⟨j,u,rfl,e⟩ | ⟨y,u,rfl,e⟩
   ·injection e with e1 _; rw [e1]
   ·exact nomatch e
  ·rcases zab hb with ⟨j,u,rfl,e⟩ | ⟨y,u,rfl,e⟩
   ·exact nomatch e
   ·injection e with e1 _; rw [e1]
 byValue:=fun k v h=>by
  rcases zab h with ⟨i,t,rfl,rfl⟩ | ⟨x,t,rfl,rfl⟩ <;> rfl
 pyHash:=fun hv h=>by
  rcases zab hv with ⟨i,t,rfl,rfl⟩ | ⟨x,t,rfl,rfl⟩
  ·exact wpAny_pyHash_int h
  ·exact wpAny_pyHash_str h
 eqBool:=fun hu hv h=>by
  rcases zab hu with ⟨i,t,rfl,rfl⟩ | ⟨x,t,rfl,rfl⟩
  ·rcases zab hv with ⟨j,u,rfl,rfl⟩ | ⟨y,u,rfl,rfl⟩
   ·rw [zk2] at h; exact wpAny_eqBool_int h
   ·rw [zk4] at h; exact jp i t y u _ _ _ _ h
  ·rcases zab hv with ⟨j,u,rfl,rfl⟩ | ⟨y,u,rfl,rfl⟩
   ·rw [zk5] at h; exact jq x t j u _ _ _ _ h
   ·rw [zk3] at h; exact wpAny_eqBool_str h
 «strs»:=fun k x t v h=>by
  rcases zab h with ⟨i,u,rfl,e⟩ | ⟨y,u,rfl,e⟩
  ·exact nomatch e
  ·injection e with e1 _
   subst e1;cases v <;> rfl
inductive V where
 | non | bl (b:Bool) | int (i:Int) | str (x:Str) | byt (b:Array UInt8) | flt (b:UInt64) | ref (a:Addr) | ty (n:String)
 deriving DecidableEq
def RelV:V→Value→Prop
 | .non,u=>u=dj
 | .bl b,u=>u=j2 b
 | .int i,u=>∃ t,u=fQ i t
 | .str x,u=>∃ t,u=kt x t
 | .byt b,u=>∃ t,u=Value.bytes b t
 | .flt b,u=>∃ t,u=Value.float b t
 | .ref a,u=>u=aZ a
 | .ty n,u=>u=iT n
abbrev zw:List V→List Value→Prop:=Paired RelV
theorem zw.length {xs:List V} {us:List Value} (r:zw xs us):xs.length=us.length:=bn r
theorem zw.get:∀ {xs:List V} {us:List Value} {i:Nat} {x:V},zw xs us→xs[i]? = some x→∃ u,us[i]? = some u∧RelV x u
 | _,_,_,_,.nil,e=>by simp at e
 | _,_,0,_,.cons r _,e=>by simp at e; subst e; exact⟨_,rfl,r⟩
 | _,_,i+1,x,.cons _ t,e=>by
  obtain⟨u,h1,h2⟩:=zw.get (i:=i) (x:=x) t (by simpa using e);exact⟨u,by simpa using h1,h2⟩
theorem zw.set {x:V} {u:Value} (r:RelV x u):∀ {xs:List V} {us:List Value} (i:Nat),zw xs us→zw (xs.set i x) (us.set i u)
 | _,_,_,.nil=>.nil
 | _,_,0,.cons _ t=>.cons r t
 | _,_,i+1,.cons q t=>.cons q (zw.set r i t)
theorem zw.append:∀ {xs ys:List V} {us ws:List Value},zw xs us→zw ys ws→zw (xs++ys) (us++ws)
 | _,_,_,_,.nil,s=>s
 | _,_,_,_,.cons r t,s=>.cons r (zw.append t s)
theorem zw.take:∀ {xs:List V} {us:List Value} (n:Nat),zw xs us→zw (xs.take n) (us.take n)
 | _,_,0,_=>.nil
 | _,_,_+1,.nil=>.nil
 | _,_,n+1,.cons r t=>.cons r (zw.take n t)
theorem zw.drop:∀ {xs:List V} {us:List Value} (n:Nat),zw xs us→zw (xs.drop n) (us.drop n)
 | _,_,0,r=>r
 | _,_,_+1,.nil=>.nil
 | _,_,n+1,.cons _ t=>zw.drop n t
def zk6:Option V→Option Value→Prop
 | some v,some u=>RelV v u
 | none,none=>True
 | _,_=>False
def KV {κ:Type}:List (κ×V)→List (κ×Value)→Prop:=Paired fun (p:κ×V) (q:κ×Value)=>p.1=q.1∧RelV p.2 q.2
def kV:Key→V
 | .inl i=>.int i
 | .inr x=>.str x
inductive HO where
 | lst (xs:List V)
 | tup (xs:List V)
 | dK (lK:List (Key×V)) | dT (lK:List (List Key×V))
 | set (S:Int→Bool) (n:Nat)
 | ins (C dx:Addr) (fs:List (Str×V))
 | own (x:Addr)
 | xd (fs:List (Str×V))
 | met (f x:Addr)
 | rng (lo hi:Int)
 | frz (o:Obj) (u:HO)
 | tbl (ps:Array Value)
 | ext (φ:Heap→Prop)
abbrev Hp:=Addr→Option HO
def kR (H:Hp) (a:Addr) (o:HO):Hp:=fun b=>if b=a then some o else H b
theorem zb {H:Hp} {a:Addr} {o:HO}:kR H a o a=some o:=by unfold kR; rw [if_pos rfl]
theorem zk {H:Hp} {a b:Addr} {o:HO} (h:b≠a):kR H a o b=H b:=by unfold kR; rw [if_neg h]
theorem zA {H:Hp} {a b:Addr} {o:HO} (h:H a=some o) (h':H b=none):a≠b:=by
 intro e; subst e; rw [h] at h'; cases h'
section
variable (P:Program) (w:World)
def zai (H:Hp) (h:Heap) (a:Addr):HO→Prop
 | .lst xs=>xs.length≤sizeLine∧∃ (kO:List Value) (n:Nat),zw xs kO∧h.get? a=some { cls:=.type "list",data:=.seq kO.toArray n }
 | .tup xs=>xs.length≤sizeLine∧∃ kO:List Value,zw xs kO∧IsTup h a kO.toArray
 | .dK lK=>lK.length≤sizeLine∧(a == sysModules)=false∧∃ vs,KV lK vs∧h.DictOf (zez P w) a vs
 | .dT lK=>lK.length≤sizeLine∧(a == sysModules)=false∧∃ xs:List (List Key×Addr×Value),
   Paired (fun (p:List Key×V) (q:List Key×Addr×Value)=>p.1=q.1∧H q.2.1=some (.tup (p.1.map kV))∧RelV p.2 q.2.2) lK xs ∧
   ∃ o es ep,h.get? a=some o∧o.ExactDict∧o.data = .dict es ep∧es.toList=xs.map (entryOfKey (tupleKind (zez P w)))∧(xs.map (·.1)).Nodup
 | .set S n=>h.SetOf (intKind P w) a S n
 | .ins C dx fs=>H dx=some (.own a)∧fs.length≤1000∧dx≠a∧h.get? a=some (ii C dx) ∧
   ∃ mA,h.Ns1 dx mA∧(∀ f,zk6 (fs.lookup f) (mA f))∧kH mA (fs.map (·.1))
 | .own _=>∃ o,h.get? a=some o
 | .xd fs=>∃ mA,h.Ns1 a mA∧∀ f,zk6 (fs.lookup f) (mA f)
 | .rng lo hi=>∃ t u v,h.get? a=some { cls:=.type "range",data:=.fields #[.int lo t,.int hi u,.int 1 v] }
 | .frz o u=>h.get? a=some o∧zai H h a u
 | .tbl ps=>h.get? a=some { cls:=.none,data:=.fields ps }
 | .met f x=>h.get? a=some (gB (.ref f) (.ref x))
 | .ext φ=>φ h∧(∃ o,h.get? a=some o)∧∀ h1 h2:Heap,φ h1→(∀ o,h1.get? a=some o→h2.get? a=some o)→φ h2
def HOk (H:Hp) (h:Heap):Prop:=∀ a o,H a=some o→zai P w H h a o
end
section
variable {P:Program} {w:World} {H H':Hp} {h h':Heap} {a:Addr} {o:HO}
theorem zai.lt (x:zai P w H h a o):a < h.objs.size:=by
 cases o with
 | lst xs=>obtain⟨_,_,_,_,e⟩:=x; exact aE e
 | tup xs=>obtain⟨_,_,_,p⟩:=x; exact p.lt
 | dK lK=>obtain⟨_,_,_,_,o,_,_,e,_⟩:=x; exact aE e
 | dT lK=>obtain⟨_,_,_,_,o,_,_,e,_⟩:=x; exact aE e
 | set S n=>obtain⟨o,_,_,_,e,_⟩:=x; exact aE e
 | ins C dx fs=>obtain⟨_,_,_,e,_⟩:=x; exact aE e
 | own y=>obtain⟨_,e⟩:=x; exact aE e
 | xd fs=>obtain⟨_,⟨_,_,_,e,_⟩,_⟩:=x; exact aE e
 | rng lo hi=>obtain⟨_,_,_,e⟩:=x; exact aE e
 | frz ob u=>obtain⟨e,_⟩:=x; exact aE e
 | tbl ps=>exact aE (show h.get? a=some _ from x)
 | met f y=>exact aE (show h.get? a=some _ from x)
 | ext φ=>obtain⟨_,⟨_,e⟩,_⟩:=x; exact aE e
theorem Paired.mapP {α β:Type} {F G:α→β→Prop}:∀ {l₁:List α} {l₂:List β},Paired F l₁ l₂→(∀ a b,F a b→G a b)→Paired G l₁ l₂
 | _,_,.nil,_=>.nil
 | _,_,.cons r t,f=>.cons (f _ _ r) (Paired.mapP t f)
theorem zai.stay (x:zai P w H h a o) (k:∀ b u,(b=a∨H b=some (.own a))→h.get? b=some u→h'.get? b=some u)
  (ho:∀ b,H b=some (.own a)→H' b=some (.own a)) (ht:∀ b xs,H b=some (.tup xs)→H' b=some (.tup xs)):zai P w H' h' a o:=by
 induction o with
 | lst xs=>obtain⟨z,kO,n,r,e⟩:=x; exact⟨z,kO,n,r,k _ _ (.inl rfl) e⟩
 | tup xs=>obtain⟨z,kO,r,ob,e,c⟩:=x; exact⟨z,kO,r,ob,k _ _ (.inl rfl) e,c⟩
 | dK lK=>obtain⟨z,y,vs,r,ob,es,ep,e,c⟩:=x; exact⟨z,y,vs,r,ob,es,ep,k _ _ (.inl rfl) e,c⟩
 | dT lK =>
  obtain⟨z,y,xs,r,ob,es,ep,e,c⟩:=x;exact⟨z,y,xs,Paired.mapP r fun p q z=>⟨z.1,ht _ _ z.2.1,z.2.2⟩,ob,es,ep,k _ _ (.inl rfl) e,c⟩
 | set S n=>obtain⟨ob,es,ep,t,e,c⟩:=x; exact⟨ob,es,ep,t,k _ _ (.inl rfl) e,c⟩
 | ins C dx fs =>
  obtain⟨d,z,ne,e,mA,⟨od,es,ep,e2,c⟩,r⟩:=x;exact⟨ho _ d,z,ne,k _ _ (.inl rfl) e,mA,⟨od,es,ep,k _ _ (.inr d) e2,c⟩,r⟩
 | own y=>obtain⟨ob,e⟩:=x; exact⟨ob,k _ _ (.inl rfl) e⟩
 | xd fs=>obtain⟨mA,⟨od,es,ep,e,c⟩,r⟩:=x; exact⟨mA,⟨od,es,ep,k _ _ (.inl rfl) e,c⟩,r⟩
 | rng lo hi=>obtain⟨t,u,v,e⟩:=x; exact⟨t,u,v,k _ _ (.inl rfl) e⟩
 | frz ob u ih=>obtain⟨e,q⟩:=x; exact⟨k _ _ (.inl rfl) e,ih q⟩
 | tbl ps =>
  have e:h.get? a=some { cls:=.none,data:=.fields ps }:=x;show h'.get? a=some { cls:=.none,data:=.fields ps };exact k a _ (.inl rfl) e
 | met f y =>
  have e:h.get? a=some (gB (.ref f) (.ref y)):=x;show h'.get? a=some (gB (.ref f) (.ref y));exact k a _ (.inl rfl) e
 | ext φ=>obtain⟨p,⟨o,e⟩,st⟩:=x; exact⟨st _ _ p fun o q=>k _ _ (.inl rfl) q,⟨o,k _ _ (.inl rfl) e⟩,st⟩
theorem HOk.lt (x:HOk P w H h) (e:H a=some o):a < h.objs.size:=(x a o e).lt
theorem HOk.fresh (x:HOk P w H h) (e:h.objs.size≤a):H a=none:=by
 cases q:H a with
 | none=>rfl
 | some u=>exact absurd (bh (x.lt q) e) (bQ _)
theorem HOk.kept (x:HOk P w H h) (k:∀ b u,h.get? b=some u→h'.get? b=some u):HOk P w H h':=fun a o e =>
 (x a o e).stay (fun b u _ q=>k b u q) (fun _ q=>q) fun _ _ q=>q
theorem HOk.laid (x:HOk P w H h) (k:∀ b u,h.get? b=some u→h'.get? b=some u) (hp:h.objs.size≤a) (new:zai P w (kR H a o) h' a o):HOk P w (kR H a o) h':=fun b u e=>by
 have hn:=x.fresh hp;by_cases hb:b=a
 ·subst hb; rw [zb] at e; cases e; exact new
 ·rw [zk hb] at e;exact (x b u e).stay (fun c v _ q=>k c v q) (fun c q=>by rw [zk (zA q hn)]; exact q) fun c xs q=>by rw [zk (zA q hn)]; exact q
end
def Rd (H:Hp) (a:Addr) (u:HO):Prop:=H a=some u∨∃ o,H a=some (.frz o u)
theorem Rd.ok {P:Program} {w:World} {H:Hp} {h:Heap} {a:Addr} {u:HO} (r:Rd H a u) (x:HOk P w H h):zai P w H h a u:=by
 rcases r with r | ⟨o,r⟩
 ·exact x a u r
 ·obtain⟨_,q⟩:=x a _ r;exact q
def Mut:Option HO→Prop
 | some (.lst _)=>True
 | some (.dK _)=>True
 | some (.dT _)=>True
 | some (.set _ _)=>True
 | some (.ins _ _ _)=>True
 | some (.ext _)=>True
 | _=>False
section
variable {P:Program} {w:World} {H:Hp} {h h':Heap} {x e:Addr} {o':HO}
theorem HOk.write (ok:HOk P w H h) (mu:Mut (H x)) (he:e=x∨H e=some (.own x)) (k:∀ b u,b≠e→h.get? b=some u→h'.get? b=some u) (ve:∃ u,h'.get? e=some u)
  (new:zai P w (kR H x o') h' x o'):HOk P w (kR H x o') h':=fun b u q=>by
 have vL:∀ c y,H c=some (.own y)→c≠x:=fun c y r z=>by subst z; rw [r] at mu; exact mu
 have yH:∀ c xs,H c=some (.tup xs)→c≠x:=fun c xs r z=>by subst z; rw [r] at mu; exact mu
 by_cases hb:b=x
 ·subst hb; rw [zb] at q; cases q; exact new
 ·rw [zk hb] at q;by_cases t6:b=e
  ·have q':H b=some (.own x):=by
    rcases he with z | z
    ·exact absurd (t6.trans z) hb
    ·rw [t6]; exact z
   rw [q] at q'; cases q';obtain⟨v,hv⟩:=ve;exact⟨v,by rw [t6]; exact hv⟩
  ·refine (ok b u q).stay (fun c v hc r=>k c v ?_ r) (fun c r=>by rw [zk (vL c b r)]; exact r) fun c xs r=>by rw [zk (yH c xs r)]; exact r
   rcases hc with rfl | hc
   ·exact t6
   ·rintro rfl;rcases he with z | z
    ·exact vL c b hc z
    ·rw [hc] at z; cases z; exact hb rfl
end
structure Un (fs ex:List Addr) (H H':Hp) (h h':Heap):Prop where
 keep:∀ b o,h.get? b=some o→H b=none→b∉fs→b∉ex→h'.get? b=some o
 slot:∀ b o,h.get? b=some o→H b=none→b∈fs→b∉ex→∃ sl,h'.get? b=some { o with slots:=sl }
 free:∀ b o,h.get? b=some o→H b=none→b∉ex→H' b=none
 there:∀ b o,h.get? b=some o→b∉ex→∃ o',h'.get? b=some o'
 tups:∀ b xs,H b=some (.tup xs)→H' b=some (.tup xs)
 frzs:∀ b o u,H b=some (.frz o u)→H' b=some (.frz o u)
 tbls:∀ b ps,H b=some (.tbl ps)→∃ more,H' b=some (.tbl (ps++more))
section
variable {fs fs' ex ex':List Addr} {H H1 H2:Hp} {h h1 h2 h':Heap} {a x e:Addr} {o:HO}
theorem Un.any (u:Un fs ex H H1 h h1) {b:Addr} {ob:Obj} (q:h.get? b=some ob) (n:H b=none) (hx:b∉ex):∃ sl,h1.get? b=some { ob with slots:=sl }:=by
 by_cases hb:b∈fs
 ·exact u.slot b ob q n hb hx
 ·exact⟨ob.slots,u.keep b ob q n hb hx⟩
theorem Un.kept (k:∀ b u,h.get? b=some u→h'.get? b=some u):Un fs ex H H h h' :=
 ⟨fun b ob q _ _ _=>k b ob q,fun b ob q _ _ _=>⟨ob.slots,k b ob q⟩,fun _ _ _ n _=>n,fun b ob q _=>⟨ob,k b ob q⟩,fun _ _ q=>q,fun _ _ _ q=>q,fun _ ps q=>⟨#[],by rw [q]; simp⟩⟩
theorem Un.refl:Un fs ex H H h h:=Un.kept fun _ _ q=>q
theorem Un.laid (k:∀ b u,h.get? b=some u→h'.get? b=some u) (hp:h.objs.size≤a) (hn:H a=none):Un fs ex H (kR H a o) h h' where
 keep:=fun b u q _ _ _=>k b u q
 slot:=fun b u q _ _ _=>⟨u.slots,k b u q⟩
 free:=fun b u q n _=>by rw [zk (a8 (bh (aE q) hp))]; exact n
 there:=fun b u q _=>⟨u,k b u q⟩
 tups:=fun b xs q=>by rw [zk (zA q hn)]; exact q
 frzs:=fun b u xs q=>by rw [zk (zA q hn)]; exact q
 tbls:=fun b ps q=>⟨#[],by rw [zk (zA q hn),q]; simp⟩
theorem Un.write (mu:Mut (H x)) (he:e=x∨H e=some (.own x)) (k:∀ b u,b≠e→h.get? b=some u→h'.get? b=some u) (ve:∃ u,h'.get? e=some u):Un fs ex H (kR H x o) h h':=by
 have hx:∀ b,H b=none→b≠x:=fun b n z=>by subst z; rw [n] at mu; exact mu
 have hb:∀ b,H b=none→b≠e:=fun b n z=>by
  subst z;rcases he with r | r
  ·exact hx b n r
  ·rw [n] at r; cases r
 have hm:∀ b u,H b=some u→¬ Mut (some u)→b≠x:=fun b u q nm z=>by subst z; rw [q] at mu; exact nm mu
 refine⟨fun b u q n _ _=>k b u (hb b n) q,fun b u q n _ _=>⟨u.slots,k b u (hb b n) q⟩,fun b u q n _=>by rw [zk (hx b n)]; exact n,fun b u q _=>?_,
  fun b xs q=>by rw [zk (hm b _ q fun z=>z)]; exact q,fun b u xs q=>by rw [zk (hm b _ q fun z=>z)]; exact q,fun b ps q=>⟨#[],by rw [zk (hm b _ q fun z=>z),q]; simp⟩⟩
 by_cases t6:b=e
 ·subst t6; exact ve
 ·exact⟨u,k b u t6 q⟩
end
def trk (h:Heap) (H:Hp):List Addr:=(aD h.objs.size).filter fun a=>(H a).isSome
def zeA (h:Heap) (H:Hp):Heap:=PySem.W.hideAll h (trk h H)
theorem zhs (h:Heap) (H:Hp):(zeA h H).objs.size=h.objs.size:=PySem.W.hideAll_size _ _
theorem zit {h:Heap} {H:Hp} {b:Addr} {o:Obj} (e:h.get? b=some o) (n:H b=none):(zeA h H).get? b=some o :=
 PySem.W.hideAll_get _ e fun hm=>by
  have q:(H b).isSome=true:=(bS.mp hm).2;rw [n] at q; simp at q
theorem zjU {h:Heap} {H:Hp} {b:Addr} {o:Obj} (e:(zeA h H).get? b=some o):h.get? b=some o∧H b=none:=by
 have e':h.get? b=some o:=PySem.W.of_hideAll (trk h H) e;refine⟨e',?_⟩;cases q:H b with
 | none=>rfl
 | some x =>
  have hm:b∈trk h H:=bS.mpr ⟨bi.mpr (aE e'),by simp [q]⟩;have z:(zeA h H).get? b=none:=PySem.W.hideAll_none (trk h H) hm;rw [z] at e; cases e
structure Mod (K:af) (mg:Str→Option Value) (base:Heap):Prop where
 kin:K.In base
 glob:base.Ns mainGlobals mg
 blt:∃ mb,base.Ns builtinsNs mb∧∀ x:Str,x≠"__name__"→mb x=bootBuiltins x
 nolimit:base.NoLimit
structure Cx where
 prog:Program
 w:World
 K:af
 mg:Str→Option Value
 base:Heap
 A:Around
 N:List Str
 s₀:Shared
 H₀:Hp
 env:Env
 outer:List Env
 stack:List Env
 ex:List Addr
 fn:Str→Bool
 calm:Bool
 pn:List (Addr×Obj)
 xe:Value→Shared→Prop
def frs (l:List Env):List Addr:=l.filterMap (·.frame)
abbrev Cx.fs (X:Cx):List Addr:=frs X.outer
def Vis (sc:Scope) (x:Str):Prop:=sc.names.lookup x=some .local∨sc.names.lookup x=some .cell∨sc.names.lookup x=some .free
def Loc (sc:Scope) (x:Str):Prop:=sc.names.lookup x=some .local∨sc.names.lookup x=some .cell
def Look (env:Env) (h:Heap) (m:Str→Option Value) (x:Str) (u:Value):Prop :=
 (env.kindOf x=some .local∧m x=some u)∨((env.kindOf x=some .cell∨env.kindOf x=some .free)∧∃ c,env.cells.lookup x=some c∧h.IsCell c (some u))
structure Cx.Ok (X:Cx):Prop where
 mod:Mod X.K X.mg X.base
 kind:X.env.scope.kind = .function
 glob:X.env.globals=mainGlobals
 blt:X.env.builtins=builtinsNs
 above:X.s₀.heap.objs.size≤X.env.locals
 inj:∀ x y c,X.env.cells.lookup x=some c→X.env.cells.lookup y=some c→x=y
 has:∀ x,(X.env.kindOf x=some .cell∨X.env.kindOf x=some .free)→∃ c,X.env.cells.lookup x=some c
 cab:∀ x c,X.fn x=true→X.env.cells.lookup x=some c→X.s₀.heap.objs.size≤c
 hd:X.calm=true→X.A.handled=none
 frames:X.A.frames=some X.stack
 stk:X.stack=X.outer∨(X.stack=X.env :: X.outer∧X.env.frame=some X.env.locals)
 exf:∀ b∈X.ex,b≠X.env.locals∧∀ x c,X.env.cells.lookup x=some c→c≠b
 bs:∀ b o,X.base.get? b=some o→X.s₀.heap.get? b=some o∧X.H₀ b=none
 bsz:X.base.objs.size≤X.s₀.heap.objs.size
 noex:∀ b o,X.base.get? b=some o→b∉X.ex
 exfs:∀ b∈X.ex,b∉X.fs
 funs:X.s₀.heap.FunFrames X.base X.outer
 frf:∀ b∈X.fs,X.H₀ b=none
structure Inv (X:Cx) (kN:List (Addr×Obj)) (σ:List (Option V)) (H:Hp) (s:Shared):Prop where
 ok:X.Ok
 os:s.os=X.s₀.os
 bare:AllBare s.gens
 base:Un X.fs X.ex X.H₀ H X.s₀.heap s.heap
 loc:∃ m,s.heap.Ns X.env.locals m∧∀ (i:Nat) (x:Str) (v:V),X.N[i]? = some x→σ[i]? = some (some v)→Vis X.env.scope x→∃ u,RelV v u∧Look X.env s.heap m x u
 cell:∀ x c,X.env.cells.lookup x=some c→∃ v,s.heap.IsCell c v
 free:H X.env.locals=none
 freeC:∀ x c,X.env.cells.lookup x=some c→H c=none
 pin:∀ p∈X.pn++kN,s.heap.get? p.1=some p.2∧H p.1=none∧p.1≠X.env.locals∧p.1∉X.fs∧∀ v,p.2.data≠.cell v
 hok:HOk X.prog X.w H s.heap
 len:σ.length=X.N.length
section
variable {X:Cx} {kN:List (Addr×Obj)} {σ:List (Option V)} {H H':Hp} {s:Shared} {h':Heap}
theorem Cx.Ok.nofr (ok:X.Ok) {b:Addr} {o:Obj} (e:X.base.get? b=some o):b∉X.fs:=fun hb=>by
 have:=(ok.funs.mem hb).1;rw [e] at this; cases this
theorem Inv.bs (I:Inv X kN σ H s):∀ b o,X.base.get? b=some o→s.heap.get? b=some o∧H b=none:=fun b o e =>
 ⟨I.base.keep b o (I.ok.bs b o e).1 (I.ok.bs b o e).2 (I.ok.nofr e) (I.ok.noex b o e),I.base.free b o (I.ok.bs b o e).1 (I.ok.bs b o e).2 (I.ok.noex b o e)⟩
theorem Inv.bk (I:Inv X kN σ H s):∀ b o,X.base.get? b=some o→s.heap.get? b=some o:=fun b o e=>(I.bs b o e).1
theorem Inv.mod (I:Inv X kN σ H s):Mod X.K X.mg X.base:=I.ok.mod
theorem Inv.kIn (I:Inv X kN σ H s):X.K.In s.heap:=I.ok.mod.kin.keeps I.bk
theorem Inv.lt (I:Inv X kN σ H s):X.env.locals < s.heap.objs.size:=let ⟨_,hn,_⟩:=I.loc; hn.lt
theorem Inv.sz (I:Inv X kN σ H s):X.s₀.heap.objs.size≤s.heap.objs.size:=bd I.ok.above (gQ I.lt)
theorem Inv.nofs (I:Inv X kN σ H s) {a:Addr} (h:s.heap.objs.size≤a):a∉X.fs:=fun hb=>by
 obtain⟨_,o,ho,_⟩:=I.ok.funs.mem hb;exact absurd (bh (aE ho) (bd I.sz h)) (bQ _)
theorem Inv.cne (I:Inv X kN σ H s):∀ x c,X.env.cells.lookup x=some c→c≠X.env.locals:=fun x c e z=>by
 obtain⟨v,o,ho,hd⟩:=I.cell x c e;obtain⟨m,⟨o',es,ep,nZ,rA,_⟩,_⟩:=I.loc;rw [z,nZ] at ho; cases ho; rw [rA] at hd; cases hd
theorem Inv.funs (I:Inv X kN σ H s):s.heap.FunFrames X.base X.outer:=by
 have all:∀ (l:List Env),(∀ b∈frs l,b∈X.fs)→X.s₀.heap.FunFrames X.base l→s.heap.FunFrames X.base l:=by
  intro l;induction l with
  | nil=>intro _ _; trivial
  | cons env r ih =>
   intro hs hl;obtain⟨hk,⟨L,o,hf,hn,ho,hd⟩,hr⟩:=hl;have hL:L∈X.fs:=hs L (by unfold frs; rw [cI,hf]; exact aI);obtain⟨sl,e⟩:=I.base.slot L o ho (I.ok.frf L hL) hL fun z=>I.ok.exfs L z hL
   exact⟨hk,⟨L,_,hf,hn,e,hd⟩,ih (fun b hb=>hs b (by unfold frs; rw [cI,hf]; exact av _ hb)) hr⟩
 exact all X.outer (fun _ hb=>hb) I.ok.funs
theorem Inv.stack (I:Inv X kN σ H s):s.heap.FunFrames X.base X.stack:=by
 rcases I.ok.stk with e | ⟨e,hf⟩
 ·rw [e]; exact I.funs
 ·rw [e];obtain⟨m,hn,_⟩:=I.loc;refine .cons (by rw [I.ok.kind]; decide) hf hn ?_ I.funs;exact Heap.get?_none_of_le (bd I.ok.bsz I.ok.above)
theorem Inv.stkSub (I:Inv X kN σ H s):∀ b∈frs X.stack,b∈X.env.locals :: X.fs:=fun b hb=>by
 rcases I.ok.stk with e | ⟨e,hf⟩
 ·rw [e] at hb; exact av _ hb
 ·rw [e] at hb;unfold frs at hb;rw [cI,hf] at hb;exact hb
theorem Inv.stkFree (I:Inv X kN σ H s):∀ b∈frs X.stack,H b=none:=fun b hb=>by
 rcases aN.mp (I.stkSub b hb) with e | hb
 ·rw [e]; exact I.free
 ·obtain⟨_,o,ho,_⟩:=I.ok.funs.mem hb;exact I.base.free b o ho (I.ok.frf b hb) fun z=>I.ok.exfs b z hb
theorem Inv.step {g':Array GenState} {t':Nat} {d':Drawn} {ch:List Addr} (I:Inv X kN σ H s)
  (rB:∀ b∈ch,(b∈X.ex∨X.s₀.heap.objs.size≤b)∧b≠X.env.locals∧(∀ x c,X.env.cells.lookup x=some c→c≠b)∧∀ p∈X.pn++kN,p.1≠b)
  (keep:∀ b o,b≠X.env.locals→b∉X.fs→b∉ch→s.heap.get? b=some o→H b=none→h'.get? b=some o)
  (slot:∀ b o,b≠X.env.locals→b∈X.fs→b∉ch→s.heap.get? b=some o→H b=none→∃ sl,h'.get? b=some { o with slots:=sl }) (free:∀ b o,b∉ch→s.heap.get? b=some o→H b=none→H' b=none)
  (there:∀ b o,b∉ch→s.heap.get? b=some o→∃ o',h'.get? b=some o')
  (tups:∀ b xs,H b=some (.tup xs)→H' b=some (.tup xs)) (frzs:∀ b o u,H b=some (.frz o u)→H' b=some (.frz o u)) (tbls:∀ b ps,H b=some (.tbl ps)→∃ more,H' b=some (.tbl (ps++more)))
  (ns:∀ m,s.heap.Ns X.env.locals m→h'.Ns X.env.locals m) (hok:HOk X.prog X.w H' h') (hg:AllBare g') :
  Inv X kN σ H' { s with heap:=h',gens:=g',drawn:=d',toks:=t' }:=by
 have neL:∀ b o,X.s₀.heap.get? b=some o→b≠X.env.locals:=fun b o e=>a8 (bh (aE e) I.ok.above)
 have xT:∀ b o,X.s₀.heap.get? b=some o→b∉X.ex→b∉ch:=fun b o e hx hb=>by
  rcases (rB b hb).1 with z | z
  ·exact hx z
  ·exact absurd (bh (aE e) z) (bQ _)
 have cellK:∀ x c,X.env.cells.lookup x=some c→∀ v,s.heap.IsCell c v→h'.IsCell c v:=fun x c e v ⟨o,ho,hd⟩=>by
  have vM:c∉ch:=fun z=>(rB c z).2.2.1 x c e rfl
  by_cases hc:c∈X.fs
  ·obtain⟨sl,q⟩:=slot c o (I.cne x c e) hc vM ho (I.freeC x c e);exact⟨_,q,hd⟩
  ·exact⟨o,keep c o (I.cne x c e) hc vM ho (I.freeC x c e),hd⟩
 refine⟨I.ok,I.os,hg,⟨fun b o e n hb hx=>?_,fun b o e n hb hx=>?_,fun b o e n hx=>?_,fun b o e hx=>?_,fun b xs e=>tups b xs (I.base.tups b xs e),fun b o xs e=>frzs b o xs (I.base.frzs b o xs e),fun b ps e=>?_⟩,?_,fun x c e=>?_,?_,fun x c e=>?_,fun p hp=>?_,hok,I.len⟩
 ·exact keep b o (neL b o e) hb (xT b o e hx) (I.base.keep b o e n hb hx) (I.base.free b o e n hx)
 ·obtain⟨sl,e1⟩:=I.base.slot b o e n hb hx;obtain⟨sl',e2⟩:=slot b _ (neL b o e) hb (xT b o e hx) e1 (I.base.free b o e n hx);exact⟨sl',e2⟩
 ·obtain⟨o',e1⟩:=I.base.there b o e hx;exact free b o' (xT b o e hx) e1 (I.base.free b o e n hx)
 ·obtain⟨o',e1⟩:=I.base.there b o e hx;exact there b o' (xT b o e hx) e1
 ·obtain⟨m1,e1⟩:=I.base.tbls b ps e;obtain⟨m2,e2⟩:=tbls b _ e1;exact⟨m1++m2,by rw [e2,Array.append_assoc]⟩
 ·obtain⟨m,hn,hl⟩:=I.loc;refine⟨m,ns m hn,fun i x v e1 e2 e3=>?_⟩;obtain⟨u,r,l⟩:=hl i x v e1 e2 e3;refine⟨u,r,?_⟩;rcases l with l | ⟨k,c,e,z⟩
  ·exact .inl l
  ·exact .inr ⟨k,c,e,cellK x c e _ z⟩
 ·obtain⟨v,z⟩:=I.cell x c e;exact⟨v,cellK x c e v z⟩
 ·obtain⟨m,⟨o,_,_,ho,_⟩,_⟩:=I.loc;exact free _ o (fun z=>(rB _ z).2.1 rfl) ho I.free
 ·obtain⟨v,o,ho,hd⟩:=I.cell x c e;exact free c o (fun z=>(rB c z).2.2.1 x c e rfl) ho (I.freeC x c e)
 ·obtain⟨e,n,ne,nf,d⟩:=I.pin p hp;have vM:p.1∉ch:=fun z=>(rB p.1 z).2.2.2 p hp rfl
  exact⟨keep p.1 p.2 ne nf vM e n,free p.1 p.2 vM e n,ne,nf,d⟩
theorem Inv.un {t':Nat} (I:Inv X kN σ H s) (u:Un X.fs [] H H' s.heap h') (hok:HOk X.prog X.w H' h'):Inv X kN σ H' { s with heap:=h',toks:=t' }:=by
 obtain⟨m,⟨o,es,ep,ho,r⟩,_⟩:=id I.loc;obtain⟨sl,hL⟩:=u.any ho I.free #[M];exact I.step (g':=s.gens) (d':=s.drawn) (ch:=[]) (fun _ z=>nomatch z) (fun b o _ hb _ e n=>u.keep b o e n hb #[M]) (fun b o _ hb _ e n=>u.slot b o e n hb #[M]) (fun b o _ e n=>u.free b o e n #[M]) (fun b o _ e=>u.there b o e #[M]) u.tups u.frzs u.tbls (fun m' hm=>by
  obtain⟨o',es',yI,nZ,r'⟩:=hm;rw [ho] at nZ; cases nZ;exact⟨_,es',yI,hL,r'⟩) hok I.bare
theorem Inv.call {g':Array GenState} {t':Nat} {d':Drawn} {ch:List Addr} (I:Inv X kN σ H s) (u:Un (frs X.stack) ch H H' s.heap h') (hok:HOk X.prog X.w H' h') (hg:AllBare g')
  (rB:∀ b∈ch,(b∈X.ex∨X.s₀.heap.objs.size≤b)∧b≠X.env.locals∧(∀ x c,X.env.cells.lookup x=some c→c≠b)∧∀ p∈X.pn++kN,p.1≠b) :
  Inv X kN σ H' { s with heap:=h',gens:=g',drawn:=d',toks:=t' }:=by
 obtain⟨m,⟨o,es,ep,ho,r⟩,_⟩:=id I.loc;obtain⟨sl,hL⟩:=u.any ho I.free fun z=>(rB _ z).2.1 rfl
 exact I.step (ch:=ch) rB (fun b o hL hb hc e n=>u.keep b o e n (fun z=>(aN.mp (I.stkSub b z)).elim hL hb) hc) (fun b o _ _ hc e n=>u.any e n hc) (fun b o hc e n=>u.free b o e n hc) (fun b o hc e=>u.there b o e hc) u.tups u.frzs u.tbls (fun m' hm=>by
  obtain⟨o',es',yI,nZ,r'⟩:=hm;rw [ho] at nZ; cases nZ;exact⟨_,es',yI,hL,r'⟩) hok hg
theorem Inv.turned {t':Nat} {it:Addr} (I:Inv X kN σ H s) (k:∀ b o,b≠it→s.heap.get? b=some o→h'.get? b=some o) (hn:H it=none) (hL:it≠X.env.locals)
  (h1:it∈X.ex∨X.s₀.heap.objs.size≤it) (h2:∀ x c,X.env.cells.lookup x=some c→c≠it) (h3:∀ p∈X.pn++kN,p.1≠it):Inv X kN σ H { s with heap:=h',toks:=t' }:=by
 have sS:∀ b u,H b=some u→b≠it:=fun b u e z=>by rw [z,hn] at e; cases e
 refine I.step (g':=s.gens) (d':=s.drawn) (ch:=[it]) (fun b hb=>?_) (fun b o _ _ hc e _=>k b o (fun z=>hc (by simp [z])) e) (fun b o _ _ hc e _=>⟨o.slots,k b o (fun z=>hc (by simp [z])) e⟩) (fun _ _ _ _ n=>n)
  (fun b o hc e=>⟨o,k b o (fun z=>hc (by simp [z])) e⟩) (fun _ _ e=>e) (fun _ _ _ e=>e) (fun b ps e=>⟨#[],by rw [e]; simp⟩) (fun m hm=>?_) (fun b u e=>?_) I.bare
 ·have e:b=it:=by simpa using hb
  subst e;exact⟨h1,hL,h2,h3⟩
 ·obtain⟨o,es,ep,ho,r⟩:=hm;exact⟨o,es,ep,k _ o (cJ hL) ho,r⟩
 ·refine (I.hok b u e).stay (fun c v hc q=>k c v ?_ q) (fun _ q=>q) fun _ _ q=>q
  rcases hc with z | z
  ·rw [z]; exact sS b u e
  ·exact sS c _ z
theorem Inv.tok (I:Inv X kN σ H s) (t:Nat):Inv X kN σ H { s with toks:=t }:=I.un (h':=s.heap) (t':=t) Un.refl I.hok
theorem Inv.kept {t':Nat} (I:Inv X kN σ H s) (k:∀ b u,s.heap.get? b=some u→h'.get? b=some u):Inv X kN σ H { s with heap:=h',toks:=t' }:=I.un (Un.kept k) (I.hok.kept k)
theorem Inv.laid {a:Addr} {o:HO} {t':Nat} (I:Inv X kN σ H s) (k:∀ b u,s.heap.get? b=some u→h'.get? b=some u) (hp:s.heap.objs.size≤a) (new:zai X.prog X.w (kR H a o) h' a o) :
  Inv X kN σ (kR H a o) { s with heap:=h',toks:=t' }:=I.un (Un.laid k hp (I.hok.fresh hp)) (I.hok.laid k hp new)
theorem Inv.write {x e:Addr} {o:HO} {t':Nat} (I:Inv X kN σ H s) (mu:Mut (H x)) (he:e=x∨H e=some (.own x)) (k:∀ b u,b≠e→s.heap.get? b=some u→h'.get? b=some u) (ve:∃ u,h'.get? e=some u)
  (new:zai X.prog X.w (kR H x o) h' x o):Inv X kN σ (kR H x o) { s with heap:=h',toks:=t' }:=I.un (Un.write mu he k ve) (I.hok.write mu he k ve new)
theorem Inv.weak {σ':List (Option V)} (I:Inv X kN σ H s) (hl:σ'.length=σ.length) (w:∀ (i:Nat) v,σ'[i]? = some (some v)→σ[i]? = some (some v)):Inv X kN σ' H s :=
 ⟨I.ok,I.os,I.bare,I.base,let ⟨m,hn,sU⟩:=I.loc; ⟨m,hn,fun i x v e1 e2 e3=>sU i x v e1 (w i v e2) e3⟩,I.cell,I.free,I.freeC,I.pin,I.hok,hl.trans I.len⟩
theorem Inv.pins_of {mN:List (Addr×Obj)} (I:Inv X kN σ H s) (h:∀ p∈mN,s.heap.get? p.1=some p.2∧H p.1=none∧p.1≠X.env.locals∧p.1∉X.fs∧∀ v,p.2.data≠.cell v):Inv X mN σ H s :=
 ⟨I.ok,I.os,I.bare,I.base,I.loc,I.cell,I.free,I.freeC,fun p hp=>(aT.mp hp).elim (fun z=>I.pin p (aY _ z)) (h p),I.hok,I.len⟩
theorem zfe {N:List Str} (hN:N.Nodup) {i j:Nat} {x:Str} (a:N[i]? = some x) (b:N[j]? = some x):i=j:=by
 obtain⟨h1,e1⟩:=bg.mp a;obtain⟨h2,e2⟩:=bg.mp b;exact (List.getElem_inj hN).mp (e1.trans e2.symm)
theorem zd0 {M:Model} {A:Around} {E:Value→Shared→Prop} {i:Nat} {x:Str} {v:V} {u:Value} {Q:Unit→Shared→Prop} (I:Inv X kN σ H s) (hN:X.N.Nodup) (hi:X.N[i]? = some x) (hx:Loc X.env.scope x) (r:RelV v u)
  (h:∀ s',Inv X kN (σ.set i (some v)) H s'→(∃ a,dU a s.heap s'.heap∧(a=X.env.locals∨X.env.cells.lookup x=some a))→Q () s') (hf:X.fn x=true∨X.env.scope.names.lookup x=some .local:=by first | exact .inl rfl | exact .inr rfl | assumption):wpAny M A (storeName X.env x u) Q E s:=by
 obtain⟨m,hn,hl⟩:=id I.loc;have yJ:(X.env.scope.kind == .class || (X.env.scope.kind == .module && X.env.locals != X.env.globals))=false:=by rw [I.ok.kind]; rfl
 have hiσ:i < σ.length:=by rw [I.len]; exact (bg.mp hi).1
 have cne:=I.cne;have tracked:∀ {a:Addr} {h':Heap},(∃ o,s.heap.get? a=some o∧H a=none)→dU a s.heap h'→HOk X.prog X.w H h':=fun {a h'} ha hs b ob e=>by
  obtain⟨_,_,sV⟩:=ha;refine (I.hok b ob e).stay (fun c w' hc q=>(hs.2 c ?_).trans q) (fun _ q=>q) fun _ _ q=>q
  rintro rfl;rcases hc with rfl | hc
  ·rw [sV] at e; cases e
  ·rw [sV] at hc; cases hc
 rcases hx with hk | hk
 ·refine wpAny_storeName_local hk hn (fun h' hn' hs=>?_) yJ;obtain⟨oL,_,_,vN,_⟩:=id hn;refine h _ ⟨I.ok,I.os,I.bare,⟨fun b o e n hb hx=>?_,fun b o e n hb hx=>?_,I.base.free,fun b o e hx=>?_,I.base.tups,I.base.frzs,I.base.tbls⟩,⟨_,hn',fun j y v' e1 e2 e3=>?_⟩,fun y c e=>?_,I.free,I.freeC,fun p hp=>?_,tracked ⟨oL,vN,I.free⟩ hs,by simpa using I.len⟩ ⟨_,hs,.inl rfl⟩
  ·exact (hs.2 b (a8 (bh (aE e) I.ok.above))).trans (I.base.keep b o e n hb hx)
  ·obtain⟨sl,e1⟩:=I.base.slot b o e n hb hx;exact⟨sl,(hs.2 b (a8 (bh (aE e) I.ok.above))).trans e1⟩
  ·obtain⟨o',e1⟩:=I.base.there b o e hx;exact⟨o',(hs.2 b (a8 (bh (aE e) I.ok.above))).trans e1⟩
  ·by_cases hj:j=i
   ·subst hj;rw [hi] at e1; cases e1;rw [dR hiσ] at e2;cases e2;exact⟨u,r,.inl ⟨hk,#[M]⟩⟩
   ·rw [eD (cJ hj)] at e2;obtain⟨u',r',q⟩:=hl j y v' e1 e2 e3;refine⟨u',r',?_⟩;rcases q with ⟨k,e⟩ | ⟨k,c,e,z⟩
    ·refine .inl ⟨k,?_⟩;have:y≠x:=fun e=>hj (zfe hN e1 (e ▸ hi))
     simp [this,e]
    ·exact .inr ⟨k,c,e,z.sameBut hs (cne y c e)⟩
  ·obtain⟨w',z⟩:=I.cell y c e;exact⟨w',z.sameBut hs (cne y c e)⟩
  ·obtain⟨e,n,ne,nf,d⟩:=I.pin p hp;exact⟨(hs.2 p.1 ne).trans e,n,ne,nf,d⟩
 ·have vO:X.fn x=true:=by
   rcases hf with z | z
   ·exact z
   ·rw [z] at hk; cases hk
  obtain⟨c,hc⟩:=I.ok.has x (.inl hk);obtain⟨w',z⟩:=I.cell x c hc;refine wpAny_storeName_cell I.ok.kind hk hc z (fun h' lF hs=>?_);obtain⟨oc,hoc,yK⟩:=id z;refine h { s with heap:=h' } ⟨I.ok,I.os,I.bare,⟨fun b o e n hb hx=>?_,fun b o e n hb hx=>?_,I.base.free,fun b o e hx=>?_,I.base.tups,I.base.frzs,I.base.tbls⟩,⟨m,hn.sameBut hs (cJ (cne x c hc)),fun j y v' e1 e2 e3=>?_⟩,fun y c' e=>?_,I.free,I.freeC,fun p hp=>?_,tracked ⟨oc,hoc,I.freeC x c hc⟩ hs,by simpa using I.len⟩ ⟨c,hs,.inr hc⟩
  ·exact (hs.2 b (a8 (bh (aE e) (I.ok.cab x c vO hc)))).trans (I.base.keep b o e n hb hx)
  ·obtain⟨sl,e1⟩:=I.base.slot b o e n hb hx;exact⟨sl,(hs.2 b (a8 (bh (aE e) (I.ok.cab x c vO hc)))).trans e1⟩
  ·obtain⟨o',e1⟩:=I.base.there b o e hx;exact⟨o',(hs.2 b (a8 (bh (aE e) (I.ok.cab x c vO hc)))).trans e1⟩
  ·by_cases hj:j=i
   ·subst hj;rw [hi] at e1; cases e1;rw [dR hiσ] at e2;cases e2;exact⟨u,r,.inr ⟨.inl hk,c,hc,lF⟩⟩
   ·rw [eD (cJ hj)] at e2;obtain⟨u',r',q⟩:=hl j y v' e1 e2 e3;refine⟨u',r',?_⟩;rcases q with q | ⟨k,c',e,z'⟩
    ·exact .inl q
    ·refine .inr ⟨k,c',e,z'.sameBut hs ?_⟩;rintro rfl;exact hj (zfe hN e1 (I.ok.inj _ _ _ e hc ▸ hi))
  ·by_cases nD:c'=c
   ·subst nD; exact⟨_,lF⟩
   ·obtain⟨w2,z2⟩:=I.cell y c' e;exact⟨w2,z2.sameBut hs nD⟩
  ·obtain⟨e,n,ne,nf,d⟩:=I.pin p hp;refine⟨(hs.2 p.1 ?_).trans e,n,ne,nf,d⟩;intro q;rw [q,hoc] at e;have q':oc=p.2:=bf e;exact d w' (by rw [← q']; exact yK)
theorem zff {M:Model} {A:Around} {E:Value→Shared→Prop} {i:Nat} {x:Str} {v:V} {u:Value} {Q:Unit→Shared→Prop} (I:Inv X kN σ H s) (hN:X.N.Nodup) (hi:X.N[i]? = some x) (hx:Loc X.env.scope x) (r:RelV v u)
  (h:∀ s',Inv X kN (σ.set i (some v)) H s'→Q () s') (hf:X.fn x=true∨X.env.scope.names.lookup x=some .local:=by first | exact .inl rfl | exact .inr rfl | assumption):wpAny M A (storeName X.env x u) Q E s :=
 zd0 I hN hi hx r (fun s' I' _=>h s' I') hf
theorem Inv.call' {s':Shared} {ch:List Addr} (I:Inv X kN σ H s) (ho:s'.os=s.os) (u:Un (frs X.stack) ch H H' s.heap s'.heap) (hok:HOk X.prog X.w H' s'.heap) (hg:AllBare s'.gens)
  (rB:∀ b∈ch,(b∈X.ex∨X.s₀.heap.objs.size≤b)∧b≠X.env.locals∧(∀ x c,X.env.cells.lookup x=some c→c≠b)∧∀ p∈X.pn++kN,p.1≠b):Inv X kN σ H' s':=by
 obtain⟨h',g',d',t',o'⟩:=s';have e:o'=s.os:=ho;subst e;exact I.call (g':=g') (t':=t') (d':=d') u hok hg rB
end
abbrev XK:=Value→Option Addr→Hp→Prop
abbrev St:=List (Option V)
abbrev VK:=V→Hp→Prop
abbrev TE:=St→Hp→VK→Prop
abbrev TT:=St→Hp→(Bool→Hp→Prop)→Prop
abbrev TA:=St→Hp→(List V→Hp→Prop)→Prop
structure Ends where
 nx:St→Hp→Prop
 rt:VK
 bk:St→Hp→Prop:=fun _ _=>False
 ct:St→Hp→Prop:=fun _ _=>False
abbrev TS:=Ends→St→Hp→Prop
def EP (X:Cx) (kN:List (Addr×Obj)) (σ:St) (Q:VK) (u:Value) (s':Shared):Prop:=∃ v H',Inv X kN σ H' s'∧RelV v u∧Q v H'
def TP (X:Cx) (kN:List (Addr×Obj)) (σ:St) (Q:Bool→Hp→Prop) (b:Bool) (s':Shared):Prop:=∃ H',Inv X kN σ H' s'∧Q b H'
def AP (X:Cx) (kN:List (Addr×Obj)) (σ:St) (Q:List V→Hp→Prop) (us:List Value) (s':Shared):Prop:=∃ vs H',Inv X kN σ H' s'∧zw vs us∧Q vs H'
def SP (X:Cx) (kN:List (Addr×Obj)) (D:Ends) (f:Flow) (s':Shared):Prop :=
 match f with
 | .next=>∃ σ' H',Inv X kN σ' H' s'∧D.nx σ' H'
 | .brk=>∃ σ' H',Inv X kN σ' H' s'∧D.bk σ' H'
 | .cont=>∃ σ' H',Inv X kN σ' H' s'∧D.ct σ' H'
 | .ret u=>∃ v σ' H',Inv X kN σ' H' s'∧RelV v u∧D.rt v H'
def PE (X:Cx) (e:Expr) (t:TE):Prop :=
 ∀ (kN:List (Addr×Obj)) (s:Shared) (σ:St) (H:Hp) (Q:VK),Inv X kN σ H s→t σ H Q→wpAny (model X.prog X.w) X.A (eval e X.env) (EP X kN σ Q) X.xe s
def PT (X:Cx) (e:Expr) (t:TT):Prop :=
 ∀ (kN:List (Addr×Obj)) (s:Shared) (σ:St) (H:Hp) (Q:Bool→Hp→Prop),Inv X kN σ H s→t σ H Q→wpAny (model X.prog X.w) X.A (isTrue e X.env (eval e X.env)) (TP X kN σ Q) X.xe s
def PW (X:Cx) (e:Expr) (t:TT):Prop :=
 ∀ (whole:Sem Value) (kN:List (Addr×Obj)) (s:Shared) (σ:St) (H:Hp) (Q:Bool→Hp→Prop),Inv X kN σ H s→t σ H Q→wpAny (model X.prog X.w) X.A (isTrue e X.env whole) (TP X kN σ Q) X.xe s
theorem PW.pt {X:Cx} {e:Expr} {t:TT} (h:PW X e t):PT X e t:=h _
def PA (X:Cx) (es:List Expr) (t:TA):Prop :=
 ∀ (pos:Pos) (kN:List (Addr×Obj)) (s:Shared) (σ:St) (H:Hp) (Q:List V→Hp→Prop),Inv X kN σ H s→t σ H Q→wpAny (model X.prog X.w) X.A (spliced (backTo pos (starEach es X.env))) (AP X kN σ Q) X.xe s
def PS (X:Cx) (st:Stmt) (t:TS):Prop :=
 ∀ (kN:List (Addr×Obj)) (s:Shared) (σ:St) (H:Hp) (D:Ends),Inv X kN σ H s→t D σ H→wpAny (model X.prog X.w) X.A (exec st X.env) (SP X kN D) X.xe s
def PSs (X:Cx) (st:List Stmt) (t:TS):Prop :=
 ∀ (kN:List (Addr×Obj)) (s:Shared) (σ:St) (H:Hp) (D:Ends),Inv X kN σ H s→t D σ H→wpAny (model X.prog X.w) X.A (execs st X.env) (SP X kN D) X.xe s
theorem thn {α:Type} {t:Sem α} {Q Q':α→Shared→Prop} {M:Model} {A:Around} {E:Value→Shared→Prop} {s:Shared} (h:wpAny M A t Q E s) (hQ:∀ a s,Q a s→Q' a s):wpAny M A t Q' E s:=cA h hQ fun _ _ x=>x
section
variable {X:Cx}
def zl0 (i:Nat):TE:=fun σ H Q=>∃ v,σ[i]? = some (some v)∧Q v H
def tC (v:V):TE:=fun _ H Q=>Q v H
theorem zk7 {i:Nat} {x:Str} {pos:Pos} (hN:X.N[i]? = some x) (hv:Vis X.env.scope x) (hd:(x == ("__debug__" : Str))=false:=by decide) (qr:(x == ("__classdict__" : Str))=false:=by decide):PE X (.Name x pos) (zl0 i):=by
 intro kN s σ H Q I h;obtain⟨v,e,h⟩:=h;obtain⟨m,hn,hl⟩:=I.loc;obtain⟨u,r,l⟩:=hl i x v hN e hv;have fin:EP X kN σ Q u s:=⟨v,H,I,r,h⟩;rcases l with ⟨hk,hm⟩ | ⟨hk,c,hc,nE⟩
 ·exact j3 (wpAny_loadName_local I.ok.kind hk hn hm fin) hd
 ·rcases hk with hk | hk
  ·exact j3 (wpAny_loadName_cell I.ok.kind hk hc nE fin) hd
  ·exact j3 (wpAny_loadName_free I.ok.kind hk hc nE fin qr) hd
theorem ze {i j pos}:PE X (.Constant (.int i) j pos) (tC (.int i)):=fun _ _ _ H _ I h=>wpAny_Constant_int ⟨.int i,H,I.tok _,⟨_,rfl⟩,h⟩
theorem zd1 {b j pos}:PE X (.Constant (.bool b) j pos) (tC (.bl b)):=fun _ _ _ H _ I h=>Constant_bool ⟨.bl b,H,I,rfl,h⟩
def Gl (X:Cx) (x:Str):Prop:=X.env.kindOf x=some .globalImplicit
theorem zjV {E:Value→Shared→Prop} {kN:List (Addr×Obj)} {s:Shared} {σ:St} {H:Hp} {x:Str} {u:Value} {pos:Pos} {Q:Value→Shared→Prop} (I:Inv X kN σ H s) (hg:Gl X x) (hm:X.mg x=some u) (h:Q u s)
  (hd:(x == ("__debug__" : Str))=false:=by decide):wpAny (model X.prog X.w) X.A (eval (.Name x pos) X.env) Q E s :=
 gr I.ok.kind hg (Calls.loadGlobal_global (by rw [I.ok.glob]; exact I.mod.glob.keeps I.bk) hm h) hd
theorem zaP {E:Value→Shared→Prop} {kN:List (Addr×Obj)} {s:Shared} {σ:St} {H:Hp} {x:Str} {u:Value} {pos:Pos} {Q:Value→Shared→Prop} (I:Inv X kN σ H s) (hg:Gl X x) (hm:X.mg x=none) (hv:bootBuiltins x=some u) (h:Q u s)
  (hn:x≠"__name__":=by decide) (hd:(x == ("__debug__" : Str))=false:=by decide):wpAny (model X.prog X.w) X.A (eval (.Name x pos) X.env) Q E s:=by
 obtain⟨mb,h1,h2⟩:=I.mod.blt;exact gr I.ok.kind hg (Calls.loadGlobal_builtin (by rw [I.ok.glob]; exact I.mod.glob.keeps I.bk) hm (by rw [I.ok.blt]; exact h1.keeps I.bk) ((h2 x hn).trans hv) h) hd
theorem zgB {x:Str} {v:V} {u:Value} {pos:Pos} (hg:Gl X x) (hm:X.mg x=none) (hv:bootBuiltins x=some u) (r:RelV v u) (hn:x≠"__name__":=by decide) (hd:(x == ("__debug__" : Str))=false:=by decide):PE X (.Name x pos) (tC v) :=
 fun _ _ _ H _ I h=>zaP I hg hm hv ⟨v,H,I,r,h⟩ hn hd
variable {a b:Expr} {ta tb:TE} {pos:Pos}
def tB (t:TE):TT:=fun σ H Q=>t σ H fun x H1=>∃ c,x = .bl c∧Q c H1
theorem zf2 {e:Expr} {t:TE} (h:PE X e t) (he:∀ whole,isTrue e X.env whole=(do let v ← whole; standAt e.pos; holding [v] (truthy v)):=by intro _; rfl):PT X e (tB t):=by
 intro kN s σ H Q I hw;refine isTrue_plain (thn (h kN s σ H _ I hw) fun v s1 ⟨x,H1,I1,r1,q1⟩=>?_) (he _);obtain⟨d,rfl,q⟩:=q1;cases r1;exact fw ⟨H1,I1,q⟩
variable {tA xU:TT} {rest:List Expr}
def zmx (t u:TT):TT:=fun σ H Q=>t σ H fun c H1=>if c=true then u σ H1 Q else Q false H1
def tOr (t u:TT):TT:=fun σ H Q=>t σ H fun c H1=>if c=true then Q true H1 else u σ H1 Q
def zmy (t:TT):TT:=fun σ H Q=>t σ H fun c H1=>Q (!c) H1
theorem zjW (ha:PT X a tA):PW X (.BoolOp .And [a] pos) tA:=by
 intro wh kN s σ H Q I h;refine isTrue_and (thn (ha kN s σ H Q I h) fun c s1 e=>?_);cases c with
 | true=>exact isTrue_and_nil e
 | false=>exact e
theorem zdk (ha:PT X a tA):PW X (.BoolOp .Or [a] pos) tA:=by
 intro wh kN s σ H Q I h;refine isTrue_or (thn (ha kN s σ H Q I h) fun c s1 e=>?_);cases c with
 | false=>exact isTrue_or_nil e
 | true=>exact e
theorem zk8 (ha:PT X a tA) (hb:PW X (.BoolOp .And (b :: rest) pos) xU):PW X (.BoolOp .And (a :: b :: rest) pos) (zmx tA xU):=by
 intro wh kN s σ H Q I h;refine isTrue_and (thn (ha kN s σ H _ I h) fun c s1 ⟨H1,I1,q1⟩=>?_);cases c with
 | true=>exact hb wh kN s1 σ H1 Q I1 q1
 | false=>exact⟨H1,I1,q1⟩
theorem zdl (ha:PT X a tA) (hb:PW X (.BoolOp .Or (b :: rest) pos) xU):PW X (.BoolOp .Or (a :: b :: rest) pos) (tOr tA xU):=by
 intro wh kN s σ H Q I h;refine isTrue_or (thn (ha kN s σ H _ I h) fun c s1 ⟨H1,I1,q1⟩=>?_);cases c with
 | true=>exact⟨H1,I1,q1⟩
 | false=>exact hb wh kN s1 σ H1 Q I1 q1
theorem zeB (ha:PT X a tA):PT X (.UnaryOp .Not a pos) (zmy tA):=by
 intro kN s σ H Q I h;exact isTrue_not (ha kN s σ H (fun c H1=>Q (!c) H1) I h)
def tIf (t:TT) (ta tb:TE):TE:=fun σ H Q=>t σ H fun c H1=>if c=true then ta σ H1 Q else tb σ H1 Q
theorem ziu {c:Expr} (hc:PT X c tA) (ha:PE X a ta) (hb:PE X b tb):PE X (.IfExp c a b pos) (tIf tA ta tb):=by
 intro kN s σ H Q I h;refine wpAny_IfExp (thn (hc kN s σ H _ I h) fun d s1 ⟨H1,I1,q1⟩=>?_);cases d with
 | true=>exact ha kN s1 σ H1 Q I1 q1
 | false=>exact hb kN s1 σ H1 Q I1 q1
end
def kP (K:af) (H:Hp) (a:Addr) (xs:List V):Prop :=
 Rd H a (.lst xs) ∨
  ∃ (o:Obj) (kO:Array Value) (n:Nat),K.lookup a=some o∧o.cls = .type "list"∧o.dict=none∧o.data = .seq kO n∧kO.size≤sizeLine∧zw xs kO.toList
def kT (K:af) (H:Hp) (a:Addr) (xs:List V):Prop :=
 Rd H a (.tup xs) ∨
  ∃ (o:Obj) (kO:Array Value) (n:Nat),K.lookup a=some o∧o.cls = .type "tuple"∧o.data = .seq kO n∧kO.size≤sizeLine∧zw xs kO.toList
def zmz:Value→Option V
 | .none=>some .non
 | .bool b=>some (.bl b)
 | .int i _=>some (.int i)
 | .str x _=>some (.str x)
 | .bytes b _=>some (.byt b)
 | .float b _=>some (.flt b)
 | .ref a=>some (.ref a)
 | .type n=>some (.ty n)
 | _=>none
theorem RelV.abs {x:V} {u:Value} (r:RelV x u):zmz u=some x:=by
 cases x with
 | non=>cases r; rfl
 | bl _=>cases r; rfl
 | int _=>obtain⟨t,rfl⟩:=r; rfl
 | str _=>obtain⟨t,rfl⟩:=r; rfl
 | byt _=>obtain⟨t,rfl⟩:=r; rfl
 | flt _=>obtain⟨t,rfl⟩:=r; rfl
 | ref _=>cases r; rfl
 | ty _=>cases r; rfl
theorem RelV.inj {x y:V} {u:Value} (r:RelV x u) (q:RelV y u):x=y:=bf (r.abs.symm.trans q.abs)
theorem zw.inj:∀ {xs ys:List V} {us:List Value},zw xs us→zw ys us→xs=ys
 | _,_,_,.nil,.nil=>rfl
 | _,_,_,.cons r t,.cons r' t'=>by rw [r.inj r',zw.inj t t']
section
variable {X:Cx} {kN:List (Addr×Obj)} {σ:St} {H:Hp} {s:Shared} {a:Addr} {xs ys:List V}
theorem kP.of {K:af} (h:H a=some (.lst xs)):kP K H a xs:=.inl (.inl h)
theorem kT.of {K:af} (h:H a=some (.tup xs)):kT K H a xs:=.inl (.inl h)
theorem Inv.list (I:Inv X kN σ H s) (h:kP X.K H a xs):∃ kO:List Value,zw xs kO∧PlainL s.heap a kO.toArray∧xs.length≤sizeLine:=by
 rcases h with h | ⟨o,kO,n,hk,hc,hd,hs,hz,r⟩
 ·obtain⟨z,kO,n,r,e⟩:=h.ok I.hok;exact⟨kO,r,⟨_,n,e,rfl,rfl,rfl⟩,z⟩
 ·refine⟨kO.toList,r,⟨o,n,I.kIn a o hk,hc,hd,by simpa using hs⟩,?_⟩;have e:=r.length;simp only [aG] at e;lia
theorem Inv.tuple (I:Inv X kN σ H s) (h:kT X.K H a xs):∃ kO:List Value,zw xs kO∧IsTup s.heap a kO.toArray∧xs.length≤sizeLine:=by
 rcases h with h | ⟨o,kO,n,hk,hc,hs,hz,r⟩
 ·obtain⟨z,kO,r,p⟩:=h.ok I.hok;exact⟨kO,r,p,z⟩
 ·refine⟨kO.toList,r,⟨o,I.kIn a o hk,hc,n,by simpa using hs⟩,?_⟩;have e:=r.length;simp only [aG] at e;lia
theorem Inv.list_inj (I:Inv X kN σ H s) (h:kP X.K H a xs) (h':kP X.K H a ys):xs=ys:=by
 obtain⟨kO,r,⟨o,n,e,_,_,d⟩,_⟩:=I.list h;obtain⟨its',r',⟨o',n',e',_,_,d'⟩,_⟩:=I.list h';rw [e] at e'; cases e';rw [d] at d';injection d' with d1 _
 have:kO=its':=by simpa using congrArg kJ d1
 subst this;exact r.inj r'
theorem Inv.tuple_inj (I:Inv X kN σ H s) (h:kT X.K H a xs) (h':kT X.K H a ys):xs=ys:=by
 obtain⟨kO,r,⟨o,e,_,n,d⟩,_⟩:=I.tuple h;obtain⟨its',r',⟨o',e',_,n',d'⟩,_⟩:=I.tuple h';rw [e] at e'; cases e';rw [d] at d';injection d' with d1 _
 have:kO=its':=by simpa using congrArg kJ d1
 subst this;exact r.inj r'
end
abbrev Cx.wish (X:Cx) (E:Value→Shared→Prop):Cx:={ X with xe:=E }
abbrev Cx.nox (X:Cx):Cx:=X.wish fun _ _=>False
theorem Cx.Ok.wish {X:Cx} (ok:X.Ok) (E:Value→Shared→Prop):(X.wish E).Ok :=
 ⟨ok.mod,ok.kind,ok.glob,ok.blt,ok.above,ok.inj,ok.has,ok.cab,ok.hd,ok.frames,ok.stk,ok.exf,ok.bs,ok.bsz,ok.noex,ok.exfs,ok.funs,ok.frf⟩
theorem Cx.Ok.unwish {X:Cx} {E:Value→Shared→Prop} (ok:(X.wish E).Ok):X.Ok :=
 ⟨ok.mod,ok.kind,ok.glob,ok.blt,ok.above,ok.inj,ok.has,ok.cab,ok.hd,ok.frames,ok.stk,ok.exf,ok.bs,ok.bsz,ok.noex,ok.exfs,ok.funs,ok.frf⟩
section
variable {X:Cx} {kN:List (Addr×Obj)} {σ:St} {H:Hp} {s:Shared} {E:Value→Shared→Prop}
theorem Inv.wish (I:Inv X kN σ H s) (E:Value→Shared→Prop):Inv (X.wish E) kN σ H s:=⟨I.ok.wish E,I.os,I.bare,I.base,I.loc,I.cell,I.free,I.freeC,I.pin,I.hok,I.len⟩
theorem Inv.unwish (I:Inv (X.wish E) kN σ H s):Inv X kN σ H s:=⟨I.ok.unwish,I.os,I.bare,I.base,I.loc,I.cell,I.free,I.freeC,I.pin,I.hok,I.len⟩
theorem SP.unwish {D:Ends} {f:Flow} {s':Shared} (h:SP (X.wish E) kN D f s'):SP X kN D f s':=by
 cases f with
 | next=>obtain⟨σ',H',I,q⟩:=h; exact⟨σ',H',I.unwish,q⟩
 | brk=>obtain⟨σ',H',I,q⟩:=h; exact⟨σ',H',I.unwish,q⟩
 | cont=>obtain⟨σ',H',I,q⟩:=h; exact⟨σ',H',I.unwish,q⟩
 | ret u=>obtain⟨v,σ',H',I,r,q⟩:=h; exact⟨v,σ',H',I.unwish,r,q⟩
theorem PSs.nox {st:List Stmt} {t:TS} (h:PSs X.nox st t):PSs X st t:=fun kN s σ H D I hw =>
 cA (h kN s σ H D (I.wish _) hw) (fun _ _ q=>q.unwish) fun _ _ z=>dk z
end
section
variable {X:Cx} {st:Stmt} {rest:List Stmt} {t u:TS} {e:Expr} {te:TE} {pos:Pos}
def zl1:TS:=fun D σ H=>D.nx σ H
def zaq (t u:TS):TS:=fun D σ H=>t { D with nx:=u D } σ H
theorem zan:PSs X [] zl1:=fun _ _ σ H _ I h=>ij ⟨σ,H,I,h⟩
theorem zf (h1:PS X st t) (h2:PSs X rest u):PSs X (st :: rest) (zaq t u):=by
 intro kN s σ H D I h;refine wpAny_execs_cons (thn (h1 kN s σ H { D with nx:=u D } I h) fun f s1 q=>?_);cases f with
 | next =>
  obtain⟨σ',H',I',q⟩:=q;exact h2 kN s1 σ' H' D I' q
 | ret v=>exact q
 | brk=>exact q
 | cont=>exact q
theorem zj (h1:PS X st t):PSs X [st] t:=by
 intro kN s σ H D I h;refine wpAny_execs_cons (thn (h1 kN s σ H D I h) fun f s1 q=>?_);cases f with
 | next=>exact ij q
 | ret v=>exact q
 | brk=>exact q
 | cont=>exact q
theorem Inv.quiet {kN:List (Addr×Obj)} {σ:St} {H:Hp} {s:Shared} (I:Inv X kN σ H s):interactive X.env=false:=by simp [interactive,I.ok.kind]
def zl2 (te:TE):TS:=fun D σ H=>te σ H fun _ H1=>D.nx σ H1
theorem zcj (he:PE X e te) (hs:swapsWith e none pos.line X.env=pure false:=by rfl):PS X (.Expr e pos) (zl2 te):=by
 intro kN s σ H D I h;exact wpAny_Expr_any (thn (he kN s σ H _ I h) fun v s1 ⟨x,H1,I1,r1,q1⟩=>⟨σ,H1,I1,q1⟩) I.quiet hs
def zmA (te:TE):TS:=fun D σ H=>te σ H D.rt
theorem zQ (he:PE X e te):PS X (.Return (some e) pos) (zmA te):=by
 intro kN s σ H D I h;exact wpAny_Return_some (thn (he kN s σ H _ I h) fun v s1 ⟨x,H1,I1,r1,q1⟩=>⟨x,σ,H1,I1,r1,q1⟩)
def zmB (c:TT) (t u:TS):TS:=fun D σ H=>c σ H fun b H1=>if b=true then t D σ H1 else u D σ H1
theorem za1 {c:Expr} {a b:List Stmt} {tc:TT} (hc:PT X c tc) (ha:PSs X a t) (hb:PSs X b u):PS X (.If c a b pos) (zmB tc t u):=by
 intro kN s σ H D I h;refine wpAny_If (thn (hc kN s σ H _ I h) fun d s1 ⟨H1,I1,q1⟩=>?_);cases d with
 | true=>exact ha kN s1 σ H1 D I1 q1
 | false=>exact hb kN s1 σ H1 D I1 q1
end
abbrev TG:=V→St→Hp→(St→Hp→Prop)→Prop
abbrev TGs:=List V→St→Hp→(St→Hp→Prop)→Prop
def PG (X:Cx) (target:Expr) (t:TG):Prop :=
 ∀ (kN:List (Addr×Obj)) (s:Shared) (σ:St) (H:Hp) (v:V) (u:Value) (Q:St→Hp→Prop),Inv X kN σ H s→RelV v u→t v σ H Q →
  wpAny (model X.prog X.w) X.A (assign target X.env u) (fun _ s'=>∃ σ' H',Inv X kN σ' H' s'∧Q σ' H') X.xe s
def PGs (X:Cx) (ts:List Expr) (t:TGs):Prop :=
 ∀ (kN:List (Addr×Obj)) (s:Shared) (σ:St) (H:Hp) (vs:List V) (us:List Value) (Q:St→Hp→Prop),Inv X kN σ H s→zw vs us→t vs σ H Q →
  wpAny (model X.prog X.w) X.A (assignInOrder ((assignEach ts X.env).map (·.2)) us) (fun _ s'=>∃ σ' H',Inv X kN σ' H' s'∧Q σ' H') X.xe s
abbrev zk9:=V→V→V→Hp→(Hp→Prop)→Prop
def zl3 (X:Cx) (t:zk9):Prop :=
 ∀ (kN:List (Addr×Obj)) (s:Shared) (σ:St) (H:Hp) (o i v:V) (ov iv u:Value) (Q:Hp→Prop),Inv X kN σ H s→RelV o ov→RelV i iv→RelV v u→t o i v H Q →
  wpAny (model X.prog X.w) X.A (setItem ov iv u) (fun _ s'=>∃ H',Inv X kN σ H' s'∧Q H') X.xe s
section
variable {X:Cx} {pos:Pos}
def zaI (i:Nat):TG:=fun v σ H Q=>Q (σ.set i (some v)) H
theorem zi {i:Nat} {x:Str} (hN:X.N.Nodup) (hi:X.N[i]? = some x) (hx:Loc X.env.scope x) (hf:X.fn x=true∨X.env.scope.names.lookup x=some .local:=by first | exact .inl rfl | exact .inr rfl | assumption):PG X (.Name x pos) (zaI i):=by
 intro kN s σ H v u Q I r h;exact wpAny_assign_Name (zff I hN hi hx r (fun s' I'=>⟨_,H,I',h⟩) hf)
def zjX:TGs:=fun vs σ H Q=>vs = []∧Q σ H
def zfg (t:TG) (u:TGs):TGs:=fun vs σ H Q=>∃ v r,vs=v :: r∧t v σ H fun σ' H'=>u r σ' H' Q
theorem zat:PGs X [] zjX:=by
 intro kN s σ H vs us Q I r h;obtain⟨e,h⟩:=h;subst e;cases r;exact assignInOrder_nil ⟨σ,H,I,h⟩
theorem zy {e:Expr} {es:List Expr} {t:TG} {u:TGs} (h1:PG X e t) (h2:PGs X es u)
  (hs:(assignEach (e :: es) X.env).map (·.2)=assign e X.env :: (assignEach es X.env).map (·.2):=by rfl):PGs X (e :: es) (zfg t u):=by
 intro kN s σ H vs us Q I r h;obtain⟨v,vr,e1,h⟩:=h;subst e1;cases r with
 | cons r rr =>
  rw [hs];refine assignInOrder_cons (thn (h1 kN s σ H _ _ _ I r h) fun _ s1 ⟨σ1,H1,I1,q1⟩=>?_);exact h2 kN s1 σ1 H1 _ _ Q I1 rr q1
def ziv (K:af) (n:Nat) (t:TGs):TG:=fun v σ H Q=>∃ a xs,v = .ref a∧kT K H a xs∧xs.length=n∧t xs σ H Q
theorem zcG {es:List Expr} {k:Nat} {t:TGs} {n:Nat} (hc:X.calm=true) (h:PGs X es t)
  (hn:(assignEach es X.env).length=n:=by rfl) (lG:(assignEach es X.env).findIdx? (·.1)=none:=by rfl):PG X (.Tuple es k pos) (ziv X.K n t):=by
 intro kN s σ H v u Q I r hw;obtain⟨a,xs,e1,hq,hl,hw⟩:=hw;subst e1;cases r;obtain⟨kO,rv,ht,hz⟩:=I.tuple hq;refine assign_Tuple_tuple (I.ok.hd hc) ht (by simp [hn,← hl,rv.length]) lG fun h' hx=>?_
 have I1:Inv X kN σ H { s with heap:=h' }:=I.kept (t':=s.toks) fun b o e=>hx b o (a8 (aE e)) e
 exact h kN _ σ H xs _ Q I1 (by simpa using rv) hw
def zmC (to ti:TE) (t:zk9):TG:=fun v σ H Q=>to σ H fun o H1=>ti σ H1 fun i H2=>t o i v H2 fun H3=>Q σ H3
theorem zcb {o i:Expr} {to ti:TE} {t:zk9} (ho:PE X o to) (hi:PE X i ti) (hs:zl3 X t)
  (ha:∀ v,assign (.Subscript o i pos) X.env v=(do
   let ov ← holding [v] (eval o X.env)
   let iv ← holding [v,ov] (eval i X.env)
   standAt pos
   holding [v,ov,iv] (setItem ov iv v)
   release [v,ov,iv] []):=by intro _; rfl):PG X (.Subscript o i pos) (zmC to ti t):=by
 intro kN s σ H v u Q I r h;rw [ha];refine ae (bK (thn (ho kN s σ H _ I h) fun ov s1 ⟨x,H1,I1,r1,q1⟩=>?_));refine ae (bK (thn (hi kN s1 σ H1 _ I1 q1) fun iv s2 ⟨y,H2,I2,r2,q2⟩=>?_));refine ae (eJ (ae (bK (thn (hs kN s2 σ H2 x y v ov iv u _ I2 r1 r2 r q2) fun _ s3 ⟨H3,I3,q3⟩=>?_))));exact wpAny_release ⟨σ,H3,I3,q3⟩
def zf3 (te:TE) (g:TG):TS:=fun D σ H=>te σ H fun x H1=>g x σ H1 D.nx
theorem zbB {tg e:Expr} {te:TE} {g:TG} (he:PE X e te) (hg:PG X tg g) (hs:swapsWithSole [tg] e pos.line X.env=pure false:=by rfl) (hw:swappedStores [tg] e X.env=pure none:=by rfl)
  (h1:(assignEach [tg] X.env).map (·.2) = [assign tg X.env]:=by rfl):PS X (.Assign [tg] e pos) (zf3 te g):=by
 intro kN s σ H D I h;refine wpAny_Assign_stores (thn (he kN s σ H _ I h) fun v s1 ⟨x,H1,I1,r1,q1⟩=>?_) hs hw;rw [h1];exact thn (hg kN s1 σ H1 x v _ I1 r1 q1) fun _ s2 q=>q
theorem zp {i:Nat} {x:Str} {e:Expr} {te:TE} {pos':Pos} (hN:X.N.Nodup) (hi:X.N[i]? = some x) (hx:Loc X.env.scope x) (he:PE X e te) (hs:swapsWith e (some (.Name x pos')) pos.line X.env=pure false:=by rfl) (hf:X.fn x=true∨X.env.scope.names.lookup x=some .local:=by first | exact .inl rfl | exact .inr rfl | assumption) :
  PS X (.Assign [.Name x pos'] e pos) (zf3 te (zaI i)):=by
 intro kN s σ H D I h;refine wpAny_Assign_Name (thn (he kN s σ H _ I h) fun v s1 ⟨y,H1,I1,r1,q1⟩=>?_) hs;exact zff I1 hN hi hx r1 (fun s2 I2=>⟨_,H1,I2,q1⟩) hf
end
structure It where
 go:Nat→Hp→Prop
 yld:Nat→Hp→V→Hp→Prop
 stop:Nat→Hp→Prop
def zbC (X:Cx) (kN:List (Addr×Obj)) (H:Hp) (b:Addr):Prop :=
 H b=none∧b≠X.env.locals∧b∉X.fs∧(b∈X.ex∨X.s₀.heap.objs.size≤b)∧(∀ x c,X.env.cells.lookup x=some c→c≠b)∧∀ p∈X.pn++kN,p.1≠b
theorem Inv.fpOk {X:Cx} {kN:List (Addr×Obj)} {σ:St} {H H':Hp} {s:Shared} {b:Addr} (I:Inv X kN σ H s) (hb:s.heap.objs.size≤b) (hn:H' b=none):zbC X kN H' b:=by
 refine⟨hn,jr (bh I.lt hb),I.nofs hb,.inr (bd I.sz hb),fun x c e z=>?_,fun p hp z=>?_⟩
 ·obtain⟨v,q⟩:=I.cell x c e;exact absurd (bh q.lt (by rw [z]; exact hb)) (bQ _)
 ·exact absurd (bh (aE (I.pin p hp).1) (by rw [z]; exact hb)) (bQ _)
structure Turn (P:Program) (w:World) (K:af) (tg:Expr) (J:It) (fp:List Addr) (it:Addr) (tn:Nat→Heap→Prop):Prop where
 mem:it∈fp
 obj:∀ i h,tn i h→∀ b∈fp,∃ o,h.get? b=some o∧∀ v,o.data≠.cell v
 keep:∀ i h h',tn i h→(∀ b∈fp,∀ o,h.get? b=some o→h'.get? b=some o)→tn i h'
 item:∀ (X:Cx),X.prog=P→X.w=w→X.K=K→X.calm=true→∀ (i:Nat) (kN:List (Addr×Obj)) (s:Shared) (σ:St) (H:Hp) (E:Value→Shared→Prop),Inv X kN σ H s→(∀ b∈fp,zbC X kN H b)→tn i s.heap→J.go i H →
  wpAny (model P w) X.A (pyNext (.ref it)) (fun r s1=>∃ u,r=some u ∧
   wpAny (model P w) X.A (letOwnedTupleGo tg (.ref it) u) (fun _ s2=>∃ x H',Inv X kN σ H' s2∧RelV x u∧J.yld i H x H'∧tn (i+1) s2.heap∧∀ b∈fp,H' b=none) E s1) E s
 done:∀ (X:Cx),X.prog=P→X.w=w→X.K=K→X.calm=true→∀ (i:Nat) (kN:List (Addr×Obj)) (s:Shared) (σ:St) (H:Hp) (E:Value→Shared→Prop),Inv X kN σ H s→(∀ b∈fp,zbC X kN H b)→tn i s.heap→J.stop i H →
  wpAny (model P w) X.A (pyNext (.ref it)) (fun r s1=>r=none∧Inv X kN σ H s1) E s
 self:∀ (A:Around) (i:Nat) (s:Shared) (Q:Value→Shared→Prop) (E:Value→Shared→Prop),tn i s.heap→Q (.ref it) s→wpAny (model P w) A (pyIter (.ref it)) Q E s
abbrev TI:=St→Hp→(It→Hp→Prop)→Prop
def PIE (X:Cx) (kN:List (Addr×Obj)) (σ:St) (tg:Expr) (R:It→Hp→Prop) (t7:Value) (s2:Shared):Prop :=
 ∃ (it:Addr) (fp:List Addr) (tn:Nat→Heap→Prop) (J:It) (H':Hp),t7 = .ref it∧Inv X kN σ H' s2∧Turn X.prog X.w X.K tg J fp it tn∧tn 0 s2.heap∧(∀ b∈fp,zbC X kN H' b)∧R J H'
def PI (X:Cx) (tg iter:Expr) (wi:TI):Prop :=
 ∀ (kN:List (Addr×Obj)) (s:Shared) (σ:St) (H:Hp) (R:It→Hp→Prop),Inv X kN σ H s→wi σ H R →
  wpAny (model X.prog X.w) X.A (eval iter X.env) (fun v s1=>wpAny (model X.prog X.w) X.A (pyIter v) (PIE X kN σ tg R) X.xe s1) X.xe s
theorem zd2 {M:Model} {A:Around} {E:Value→Shared→Prop} {s:Shared} {tg:Expr} {it:Addr} {u:Value} {o:Obj} {n:String} {vs:Array Value} {Q:Unit→Shared→Prop} (ho:s.heap.get? it=some o) (hc:o.cls = .type n) (hd:o.data = .fields vs)
  (hn:["enumerate","zip","dict_itemiterator","dict_reverseitemiterator","odict_iterator","itertools.zip_longest","itertools.pairwise"].contains n=false) (hQ:Q () s):wpAny M A (letOwnedTupleGo tg (.ref it) u) Q E s:=by
 unfold letOwnedTupleGo;cases tg <;> first
  | exact aj hQ
  | (cases u <;> first
    | exact aj hQ
    | (refine ae (wpAny_load ho ?_)
       rw [hc,hd];show wpAny M A (if (["enumerate","zip","dict_itemiterator","dict_reverseitemiterator","odict_iterator","itertools.zip_longest","itertools.pairwise"].contains n && vs[0]? == some (rawInt _))=true then _ else _) Q E s;rw [if_neg (by intro h; rw [hn,Bool.false_and] at h; cases h)];exact aj hQ))
def Itl (K:af) (a:Addr):It :=
 ⟨fun i H=>∃ xs x,kP K H a xs∧xs[i]? = some x,fun i H x H'=>H'=H∧∀ xs,kP K H a xs→xs[i]? = some x,fun i H=>∃ xs,kP K H a xs∧xs.length≤i⟩
def Itt (K:af) (a:Addr):It :=
 ⟨fun i H=>∃ xs x,kT K H a xs∧xs[i]? = some x,fun i H x H'=>H'=H∧∀ xs,kT K H a xs→xs[i]? = some x,fun i H=>∃ xs,kT K H a xs∧xs.length≤i⟩
def Itr (lo:Int) (n:Nat):It:=⟨fun i _=>i < n,fun i H x H'=>H'=H∧x = .int (lo+i),fun i _=>n≤i⟩
theorem zd3 {P:Program} {w:World} {K:af} {tg:Expr} (a it:Addr):Turn P w K tg (Itl K a) [it] it (fun i h=>h.IsListIter it a i) where
 mem:=by simp
 obj:=fun i h st b hb=>by
  have e:b=it:=by simpa using hb
  subst e;obtain⟨o,e,c,d⟩:=st;exact⟨o,e,fun v z=>by rw [d] at z; cases z⟩
 keep:=fun i h h' st k=>st.at fun o e=>k it #[M] o e
 item:=by
  intro X hP hw hK hc i kN s σ H E I hf st hg;subst hP hw hK;obtain⟨xs,x,hq,hx⟩:=hg;obtain⟨kO,rv,p,hz⟩:=I.list hq;obtain⟨u,hu,ru⟩:=rv.get hx;obtain⟨f0,f1,f2,f3,f4,f5⟩:=hf it #[M];refine wpAny_pyNext_list_item st p.isList (x:=u) (by simpa using hu) fun h' kQ sb=>?_
  have I1:Inv X kN σ H { s with heap:=h' }:=I.turned (t':=s.toks) (fun b o hb e=>(sb.2 b hb).trans e) f0 f1 f3 f4 f5;obtain⟨o,e,c,d⟩:=id kQ;exact⟨u,rfl,zd2 (s:={ s with heap:=h' }) e c d #[D] ⟨x,H,I1,ru,⟨rfl,fun ys hy=>by rw [I.list_inj hy hq]; exact hx⟩,kQ,fun b hb=>(hf b hb).1⟩⟩
 done:=by
  intro X hP hw hK hc i kN s σ H E I hf st hg;subst hP hw hK;obtain⟨xs,hq,hx⟩:=hg;obtain⟨kO,rv,p,hz⟩:=I.list hq;obtain⟨f0,f1,f2,f3,f4,f5⟩:=hf it #[M];have hl:=rv.length;exact wpAny_pyNext_list_end (I.ok.hd hc) st p.isList (by simp; lia) fun h' eb=>⟨rfl,I.turned (t':=s.toks) (fun b o hb e=>eb b o hb e) f0 f1 f3 f4 f5⟩
 self:=fun _ _ _ _ _ st h=>wpAny_pyIter_listiter st h
theorem zdm {P:Program} {w:World} {K:af} {tg:Expr} (a it:Addr):Turn P w K tg (Itt K a) [it] it (fun i h=>h.IsTupleIter it a i) where
 mem:=by simp
 obj:=fun i h st b hb=>by
  have e:b=it:=by simpa using hb
  subst e;obtain⟨o,e,c,d⟩:=st;exact⟨o,e,fun v z=>by rw [d] at z; cases z⟩
 keep:=fun i h h' st k=>st.at fun o e=>k it #[M] o e
 item:=by
  intro X hP hw hK hc i kN s σ H E I hf st hg;subst hP hw hK;obtain⟨xs,x,hq,hx⟩:=hg;obtain⟨kO,rv,p,hz⟩:=I.tuple hq;obtain⟨u,hu,ru⟩:=rv.get hx;obtain⟨f0,f1,f2,f3,f4,f5⟩:=hf it #[M];refine wpAny_pyNext_tuple_item st (show s.heap.IsTuple a kO.toArray from p) (x:=u) (by simpa using hu) fun h' kQ sb=>?_
  have I1:Inv X kN σ H { s with heap:=h' }:=I.turned (t':=s.toks) (fun b o hb e=>(sb.2 b hb).trans e) f0 f1 f3 f4 f5;obtain⟨o,e,c,d⟩:=id kQ;exact⟨u,rfl,zd2 (s:={ s with heap:=h' }) e c d #[D] ⟨x,H,I1,ru,⟨rfl,fun ys hy=>by rw [I.tuple_inj hy hq]; exact hx⟩,kQ,fun b hb=>(hf b hb).1⟩⟩
 done:=by
  intro X hP hw hK hc i kN s σ H E I hf st hg;subst hP hw hK;obtain⟨xs,hq,hx⟩:=hg;obtain⟨kO,rv,p,hz⟩:=I.tuple hq;obtain⟨f0,f1,f2,f3,f4,f5⟩:=hf it #[M];have hl:=rv.length;exact wpAny_pyNext_tuple_end (I.ok.hd hc) st (show s.heap.IsTuple a kO.toArray from p) (by simp; lia) fun h' eb=>⟨rfl,I.turned (t':=s.toks) (fun b o hb e=>eb b o hb e) f0 f1 f3 f4 f5⟩
 self:=fun _ _ _ _ _ st h=>wpAny_pyIter_tupleiter st h
theorem zf4 {P:Program} {w:World} {K:af} {tg:Expr} (it:Addr) (lo:Int) (n:Nat):Turn P w K tg (Itr lo n) [it] it (fun i h=>IsRangeIter h it (lo+(i:Nat)*1) ((n:Int) - (i:Nat)) 1) where
 mem:=by simp
 obj:=fun i h st b hb=>by
  have e:b=it:=by simpa using hb
  subst e;exact⟨_,st,fun v z=>by
   have z':iu _=Data.cell v:=z;cases z'⟩
 keep:=fun i h h' st k=>k it #[M] _ st
 item:=by
  intro X hP hw hK hc i kN s σ H E I hf st hg;subst hP hw hK;obtain⟨f0,f1,f2,f3,f4,f5⟩:=hf it #[M];have W:=Walks.range (prog:=X.prog) (w:=X.w) (I.ok.hd hc) it lo 1 n;refine W.item i s _ _ hg st fun v h' tk hv kQ kk=>?_
  obtain⟨t,rfl⟩:=hv;have I1:Inv X kN σ H { s with heap:=h',toks:=tk }:=I.turned (fun b o hb e=>kk b o (by simpa using hb) e) f0 f1 f3 f4 f5;refine⟨_,rfl,zd2 (s:={ s with heap:=h',toks:=tk }) (n:="range_iterator") kQ rfl rfl #[D] ⟨.int (lo+i),H,I1,⟨t,?_⟩,⟨rfl,rfl⟩,kQ,fun b hb=>(hf b hb).1⟩⟩;rw [Int.mul_one]
 done:=by
  intro X hP hw hK hc i kN s σ H E I hf st hg;subst hP hw hK;obtain⟨f0,f1,f2,f3,f4,f5⟩:=hf it #[M];exact iw (I.ok.hd hc) st (by have:n≤i:=hg; lia) fun h' eb=>⟨rfl,I.turned (t':=s.toks) (fun b o hb e=>eb b o hb e) f0 f1 f3 f4 f5⟩
 self:=fun _ _ _ _ _ st h=>fF st h
section
variable {X:Cx} {tg:Expr}
def zkN (K:af) (tl:TE):TI:=fun σ H R=>tl σ H fun x H1=>∃ a,x = .ref a∧(∃ xs,kP K H1 a xs)∧R (Itl K a) H1
def zl4 (K:af) (tl:TE):TI:=fun σ H R=>tl σ H fun x H1=>∃ a,x = .ref a∧(∃ xs,kT K H1 a xs)∧R (Itt K a) H1
theorem zao {l:Expr} {tl:TE} (hl:PE X l tl):PI X tg l (zkN X.K tl):=by
 intro kN s σ H R I h;refine thn (hl kN s σ H _ I h) fun v s1 ⟨x,H1,I1,r1,q1⟩=>?_
 obtain⟨a,e,⟨xs,hq⟩,q⟩:=q1;subst e;cases r1;obtain⟨kO,rv,p,hz⟩:=I1.list hq;refine fz p.isList ?_;refine⟨s1.heap.objs.size,[s1.heap.objs.size],_,_,H1,rfl,I1.kept (t':=s1.toks) fun b o e=>am _ e,zd3 a _,⟨_,aK _ rfl,rfl,rfl⟩,fun b hb=>?_,q⟩;have e:b=s1.heap.objs.size:=by simpa using hb
 subst e;exact I1.fpOk (ag _) (I1.hok.fresh (ag _))
theorem zcH {l:Expr} {tl:TE} (hl:PE X l tl):PI X tg l (zl4 X.K tl):=by
 intro kN s σ H R I h;refine thn (hl kN s σ H _ I h) fun v s1 ⟨x,H1,I1,r1,q1⟩=>?_
 obtain⟨a,e,⟨xs,hq⟩,q⟩:=q1;subst e;cases r1;obtain⟨kO,rv,p,hz⟩:=I1.tuple hq;refine eV (show s1.heap.IsTuple a kO.toArray from p) ?_;refine⟨s1.heap.objs.size,[s1.heap.objs.size],_,_,H1,rfl,I1.kept (t':=s1.toks) fun b o e=>am _ e,zdm a _,⟨_,aK _ rfl,rfl,rfl⟩,fun b hb=>?_,q⟩;have e:b=s1.heap.objs.size:=by simpa using hb
 subst e;exact I1.fpOk (ag _) (I1.hok.fresh (ag _))
theorem ziw {kN:List (Addr×Obj)} {σ:St} {H:Hp} {s:Shared} {R:It→Hp→Prop} {E:Value→Shared→Prop} {lo hi:Int} {t u v:Tok} {tk:Nat} (I:Inv X kN σ H s) (h1:-(2 ^ 62)≤lo) (h2:lo < 2 ^ 62) (h3:-(2 ^ 62)≤hi) (h4:hi < 2 ^ 62)
  (q:R (Itr lo (hi - lo).toNat) H):wpAny (model X.prog X.w) X.A (pyIter (.ref s.heap.objs.size)) (PIE X kN σ tg R) E { s with heap:=s.heap.push { cls:=.type "range",data:=.fields #[.int lo t,.int hi u,.int 1 v] },toks:=tk }:=by
 refine wpAny_pyIter_range (IsRange.new ..) (small_one h1 h2 h3 h4) ?_;have I1:Inv X kN σ H { s with heap:=s.heap.push { cls:=.type "range",data:=.fields #[.int lo t,.int hi u,.int 1 v] },toks:=tk }:=I.kept fun b o e=>am _ e
 refine⟨(s.heap.push { cls:=.type "range",data:=.fields #[.int lo t,.int hi u,.int 1 v] }).objs.size,[(s.heap.push { cls:=.type "range",data:=.fields #[.int lo t,.int hi u,.int 1 v] }).objs.size],_,_,H,rfl,
  I1.kept (t':=tk) fun b o e=>am _ e,zf4 _ lo (hi - lo).toNat,?_,fun b hb=>?_,q⟩
 ·have e1:lo+((0:Nat):Int)*1=lo:=by simp
  have e2:(((hi - lo).toNat:Nat):Int) - ((0:Nat):Int)=bo lo hi 1:=by rw [rangeSize_one]; split <;> lia
  show IsRangeIter _ _ (lo+((0:Nat):Int)*1) ((((hi - lo).toNat:Nat):Int) - ((0:Nat):Int)) 1;rw [e1,e2];exact aK _ rfl
 ·have e:b=(s.heap.push { cls:=.type "range",data:=.fields #[.int lo t,.int hi u,.int 1 v] }).objs.size:=by simpa using hb
  subst e;exact I1.fpOk (ag _) (I1.hok.fresh (ag _))
def zl5 (ta:TA):TI:=fun σ H R=>ta σ H fun vs H1=>∃ j:Int,vs = [.int j]∧-(2 ^ 62)≤j∧j < 2 ^ 62∧R (Itr 0 j.toNat) H1
theorem zR {a:Expr} {ta:TA} {p pos:Pos} (hg:Gl X "range") (hm:X.mg "range" = none) (ha:PA X [a] ta) (hs:starEach [a] X.env = [(false,eval a X.env)]:=by rfl):PI X tg (.Call (.Name "range" p) [a] [] pos) (zl5 ta):=by
 intro kN s σ H R I h;refine Call_ (zaP I hg hm j4 (bD (thn (ha pos kN s σ H _ I h) fun us s1 ⟨vs,H1,I1,r1,q1⟩=>?_) hs rfl));obtain⟨j,e,q1,q2,q⟩:=q1;subst e;cases r1 with
 | cons r rr =>
  cases rr;obtain⟨t,rfl⟩:=r;exact call_range_1 (ziw I1 #[O] #[O] q1 q2 (by simpa using q))
def zmD (wi:TI) (g:TG) (tb:TS):TS:=fun D σ H=>wi σ H fun J H1=>∃ W:Nat→Nat→St→Hp→Prop,(∃ m,W 0 m σ H1)∧∀ i m σ H,W i m σ H →
 (J.stop i H∧D.nx σ H)∨(J.go i H∧∃ N:St→Hp→Prop,(∀ σ' H',N σ' H'→∃ m',m' < m∧W (i+1) m' σ' H')∧∀ x H',J.yld i H x H'→g x σ H' fun σ2 H2=>tb { D with nx:=N,ct:=N,bk:=D.nx } σ2 H2)
def zbD (fp:List Addr) (h:Heap):List (Addr×Obj):=fp.filterMap fun b=>(h.get? b).map fun o=>(b,o)
theorem zbk {fp:List Addr} {h:Heap} {b:Addr} {o:Obj} (hb:b∈fp) (e:h.get? b=some o):(b,o)∈zbD fp h:=gj.mpr ⟨b,hb,by rw [e]; rfl⟩
theorem zd4 {fp:List Addr} {h:Heap} {p:Addr×Obj} (hp:p∈zbD fp h):p.1∈fp∧h.get? p.1=some p.2:=by
 obtain⟨b,hb,e⟩:=gj.mp hp;cases q:h.get? b with
 | none=>rw [q] at e; cases e
 | some o =>
  rw [q] at e;have e':(b,o)=p:=bf e;subst e';exact⟨hb,q⟩
theorem Inv.pinned {kN:List (Addr×Obj)} {σ:St} {H:Hp} {s:Shared} {fp:List Addr} (I:Inv X kN σ H s) (hf:∀ b∈fp,zbC X kN H b) (ho:∀ b∈fp,∃ o,s.heap.get? b=some o∧∀ v,o.data≠.cell v):Inv X (kN++zbD fp s.heap) σ H s :=
 I.pins_of fun p hp=>(aT.mp hp).elim (fun z=>I.pin p (aB _ z)) fun z=>by
  obtain⟨hb,e⟩:=zd4 z;obtain⟨f0,f1,f2,_⟩:=hf p.1 hb;obtain⟨o,e',d⟩:=ho p.1 hb;rw [e] at e'; cases e';exact⟨e,f0,f1,f2,d⟩
theorem Inv.unpinned {kN pl:List (Addr×Obj)} {σ:St} {H:Hp} {s:Shared} (I:Inv X (kN++pl) σ H s):Inv X kN σ H s:=I.pins_of fun p hp=>I.pin p (aB _ (aY _ hp))
theorem zaj {iter:Expr} {body:List Stmt} {wi:TI} {g:TG} {tb:TS} {pos:Pos} (hp:PassesOwn (model X.prog X.w) X.A X.env X.xe) (hc:X.calm=true) (hi:PI X tg iter wi) (hg:PG X tg g) (hb:PSs X body tb)
  (hs:∀ x,foldedSetIterable iter X.env x=pure x:=by intro _; rfl):PS X (.For tg iter body [] pos) (zmD wi g tb):=by
 intro kN s σ H D I h;refine wpAny_For (thn (hi kN s σ H _ I h) fun v s1 h1=>thn h1 fun t7 s2 h2=>?_) hs;obtain⟨it,fp,tn,J,H2,e,I2,T,lR,f2,W,⟨m0,w0⟩,turn⟩:=h2;subst e;have t8:∀ {H':Hp},(∀ b∈fp,H' b=none)→∀ b∈fp,zbC X kN H' b:=fun hn b hb=>⟨hn b hb,(f2 b hb).2⟩
 refine codeAny_forLoop_any (fun n s'=>∃ i σ' H',Inv X kN σ' H' s'∧tn i s'.heap∧(∀ b∈fp,H' b=none)∧W i n σ' H') ?_ m0 ⟨0,σ,H2,I2,lR,fun b hb=>(f2 b hb).1,w0⟩;rintro n s3 ⟨i,σ3,H3,I3,xV,fr3,w3⟩;rcases turn i n σ3 H3 w3 with ⟨stop,qn⟩ | ⟨go,N,hN,step⟩
 ·refine eQ hp (thn (T.done X rfl rfl rfl hc i kN s3 σ3 H3 X.xe I3 (t8 fr3) xV stop) fun r s4 ⟨hr,I4⟩=>?_);subst hr;exact ij ⟨σ3,H3,I4,qn⟩
 ·refine eQ hp (thn (T.item X rfl rfl rfl hc i kN s3 σ3 H3 X.xe I3 (t8 fr3) xV go) fun r s4 ⟨u,hr,h4⟩=>?_);subst hr;refine eQ hp (thn h4 fun _ s5 ⟨x,H5,I5,r5,y5,vf,fr5⟩=>?_);have I5':=I5.pinned (t8 fr5) (T.obj _ _ vf);refine eQ hp (thn (hg _ s5 σ3 H5 x u _ I5' r5 (step x H5 y5)) fun _ s6 ⟨σ6,H6,I6,q6⟩=>?_);refine eQ hp (thn (hb _ s6 σ6 H6 _ I6 q6) fun f s7 q7=>?_);have again:∀ {σ7:St} {H7:Hp},Inv X (kN++zbD fp s5.heap) σ7 H7 s7→N σ7 H7→∃ m,m < n∧∃ i σ' H',Inv X kN σ' H' s7∧tn i s7.heap∧(∀ b∈fp,H' b=none)∧W i m σ' H':=fun {σ7 H7} I7 n7=>by
   obtain⟨m',hm,w7⟩:=hN σ7 H7 n7;refine⟨m',hm,i+1,σ7,H7,I7.unpinned,T.keep _ _ _ vf fun b hb o e=>(I7.pin (b,o) (aB _ (aB _ (zbk hb e)))).1,fun b hb=>?_,w7⟩;obtain⟨o,e,d⟩:=T.obj _ _ vf b hb;exact (I7.pin (b,o) (aB _ (aB _ (zbk hb e)))).2.1
  cases f with
  | next=>obtain⟨σ7,H7,I7,n7⟩:=q7; exact again I7 n7
  | cont=>obtain⟨σ7,H7,I7,n7⟩:=q7; exact again I7 n7
  | brk=>obtain⟨σ7,H7,I7,q7⟩:=q7; exact⟨σ7,H7,I7.unpinned,q7⟩
  | ret v=>obtain⟨x7,σ7,H7,I7,r7,q7⟩:=q7; exact⟨x7,σ7,H7,I7.unpinned,r7,q7⟩
end
theorem zix {K:af} {a:Addr} {xs:List V} {g:TG} {tb:TS} {D:Ends} {σ:St} {H:Hp} (Pv:Nat→St→Hp→Prop) (h0:Pv 0 σ H) (hl:∀ i σ H,i≤xs.length→Pv i σ H→kP K H a xs)
  (hs:∀ i x σ H,xs[i]? = some x→Pv i σ H→g x σ H fun σ2 H2=>tb { D with nx:=Pv (i+1),ct:=Pv (i+1),bk:=D.nx } σ2 H2) (hd:∀ σ H,Pv xs.length σ H→D.nx σ H) :
  ∃ W:Nat→Nat→St→Hp→Prop,(∃ m,W 0 m σ H)∧∀ i m σ H,W i m σ H →
   ((Itl K a).stop i H∧D.nx σ H)∨((Itl K a).go i H∧∃ N:St→Hp→Prop,(∀ σ' H',N σ' H'→∃ m',m' < m∧W (i+1) m' σ' H')∧∀ x H',(Itl K a).yld i H x H'→g x σ H' fun σ2 H2=>tb { D with nx:=N,ct:=N,bk:=D.nx } σ2 H2):=by
 refine⟨fun i m σ H=>m=xs.length - i∧i≤xs.length∧Pv i σ H,⟨xs.length,#[M],bj _,h0⟩,?_⟩;rintro i m σ H ⟨rfl,hi,p⟩;have q:=hl i σ H hi p;by_cases kX:i < xs.length
 ·refine .inr ⟨⟨xs,xs[i],q,by simp [kX]⟩,Pv (i+1),fun σ' H' p'=>⟨xs.length - (i+1),#[O],rfl,kX,p'⟩,fun x H' y=>?_⟩;obtain⟨e,y⟩:=y;subst e;exact hs i x σ _ (y xs q) p
 ·have e:i=xs.length:=by lia
  subst e;exact .inl ⟨⟨xs,q,ag _⟩,hd σ H p⟩
theorem zjY {K:af} {a:Addr} {xs:List V} {g:TG} {tb:TS} {D:Ends} {σ:St} {H:Hp} (Pv:Nat→St→Hp→Prop) (h0:Pv 0 σ H) (hl:∀ i σ H,i≤xs.length→Pv i σ H→kT K H a xs)
  (hs:∀ i x σ H,xs[i]? = some x→Pv i σ H→g x σ H fun σ2 H2=>tb { D with nx:=Pv (i+1),ct:=Pv (i+1),bk:=D.nx } σ2 H2) (hd:∀ σ H,Pv xs.length σ H→D.nx σ H) :
  ∃ W:Nat→Nat→St→Hp→Prop,(∃ m,W 0 m σ H)∧∀ i m σ H,W i m σ H →
   ((Itt K a).stop i H∧D.nx σ H)∨((Itt K a).go i H∧∃ N:St→Hp→Prop,(∀ σ' H',N σ' H'→∃ m',m' < m∧W (i+1) m' σ' H')∧∀ x H',(Itt K a).yld i H x H'→g x σ H' fun σ2 H2=>tb { D with nx:=N,ct:=N,bk:=D.nx } σ2 H2):=by
 refine⟨fun i m σ H=>m=xs.length - i∧i≤xs.length∧Pv i σ H,⟨xs.length,#[M],bj _,h0⟩,?_⟩;rintro i m σ H ⟨rfl,hi,p⟩;have q:=hl i σ H hi p;by_cases kX:i < xs.length
 ·refine .inr ⟨⟨xs,xs[i],q,by simp [kX]⟩,Pv (i+1),fun σ' H' p'=>⟨xs.length - (i+1),#[O],rfl,kX,p'⟩,fun x H' y=>?_⟩;obtain⟨e,y⟩:=y;subst e;exact hs i x σ _ (y xs q) p
 ·have e:i=xs.length:=by lia
  subst e;exact .inl ⟨⟨xs,q,ag _⟩,hd σ H p⟩
theorem zht {lo:Int} {n:Nat} {g:TG} {tb:TS} {D:Ends} {σ:St} {H:Hp} (Pv:Nat→St→Hp→Prop) (h0:Pv 0 σ H)
  (hs:∀ i σ H,i < n→Pv i σ H→g (.int (lo+i)) σ H fun σ2 H2=>tb { D with nx:=Pv (i+1),ct:=Pv (i+1),bk:=D.nx } σ2 H2) (hd:∀ σ H,Pv n σ H→D.nx σ H) :
  ∃ W:Nat→Nat→St→Hp→Prop,(∃ m,W 0 m σ H)∧∀ i m σ H,W i m σ H →
   ((Itr lo n).stop i H∧D.nx σ H)∨((Itr lo n).go i H∧∃ N:St→Hp→Prop,(∀ σ' H',N σ' H'→∃ m',m' < m∧W (i+1) m' σ' H')∧∀ x H',(Itr lo n).yld i H x H'→g x σ H' fun σ2 H2=>tb { D with nx:=N,ct:=N,bk:=D.nx } σ2 H2):=by
 refine⟨fun i m σ H=>m=n - i∧i≤n∧Pv i σ H,⟨n,#[M],bj _,h0⟩,?_⟩;rintro i m σ H ⟨rfl,hi,p⟩;by_cases kX:i < n
 ·refine .inr ⟨kX,Pv (i+1),fun σ' H' p'=>⟨n - (i+1),#[O],rfl,kX,p'⟩,fun x H' y=>?_⟩;obtain⟨e,y⟩:=y;subst e y;exact hs i σ _ kX p
 ·have e:i=n:=by lia
  subst e;exact .inl ⟨ag _,hd σ H p⟩
abbrev R2:=V→V→Hp→VK→Prop
def OpR (X:Cx) (f:Value→Value→Sem Value) (r:R2):Prop :=
 ∀ (kN:List (Addr×Obj)) (s:Shared) (σ:St) (H:Hp) (x y:V) (v u:Value) (Q:VK),Inv X kN σ H s→RelV x v→RelV y u→r x y H Q →
  wpAny (model X.prog X.w) X.A (f v u) (EP X kN σ Q) X.xe s
def UnR (X:Cx) (f:Value→Sem Value) (r:V→Hp→VK→Prop):Prop :=
 ∀ (kN:List (Addr×Obj)) (s:Shared) (σ:St) (H:Hp) (x:V) (v:Value) (Q:VK),Inv X kN σ H s→RelV x v→r x H Q →
  wpAny (model X.prog X.w) X.A (f v) (EP X kN σ Q) X.xe s
def zaD (X:Cx) (f:Value) (r:List V→Hp→VK→Prop):Prop :=
 ∀ (kN:List (Addr×Obj)) (s:Shared) (σ:St) (H:Hp) (xs:List V) (us:List Value) (Q:VK),Inv X kN σ H s→zw xs us→r xs H Q →
  wpAny (model X.prog X.w) X.A (call f us) (EP X kN σ Q) X.xe s
def zmE (X:Cx) (r:V→Hp→(Bool→Hp→Prop)→Prop):Prop :=
 ∀ (kN:List (Addr×Obj)) (s:Shared) (σ:St) (H:Hp) (x:V) (v:Value) (Q:Bool→Hp→Prop),Inv X kN σ H s→RelV x v→r x H Q →
  wpAny (model X.prog X.w) X.A (truthy v) (TP X kN σ Q) X.xe s
def tOp (r:R2) (ta tb:TE):TE:=fun σ H Q=>ta σ H fun x H1=>tb σ H1 fun y H2=>r x y H2 Q
def tUn (r:V→Hp→VK→Prop) (ta:TE):TE:=fun σ H Q=>ta σ H fun x H1=>r x H1 Q
def rI (C:Int→Int→Prop) (g:Int→Int→V):R2:=fun x y H Q=>∃ i j,x = .int i∧y = .int j∧C i j∧Q (g i j) H
def rI0 (g:Int→Int→V):R2:=fun x y H Q=>∃ i j,x = .int i∧y = .int j∧Q (g i j) H
def rU (g:Int→V):V→Hp→VK→Prop:=fun x H Q=>∃ i,x = .int i∧Q (g i) H
section
variable {X:Cx} {a b c:Expr} {ta tb tc:TE} {pos:Pos}
theorem zla (ha:PE X a ta) (hb:PE X b tb) {kN:List (Addr×Obj)} {s:Shared} {σ:St} {H:Hp} {R:V→V→Hp→Prop} (I:Inv X kN σ H s)
  (h:ta σ H fun x H1=>tb σ H1 fun y H2=>R x y H2) {Q:Value→Shared→Prop} {f:Value→Value→Sem Value}
  (hf:∀ v u s2 x y H2,Inv X kN σ H2 s2→RelV x v→RelV y u→R x y H2→wpAny (model X.prog X.w) X.A (f v u) Q X.xe s2) :
  wpAny (model X.prog X.w) X.A (eval a X.env) (fun v s₁=>wpAny (model X.prog X.w) X.A (eval b X.env) (fun u s₂=>wpAny (model X.prog X.w) X.A (f v u) Q X.xe s₂) X.xe s₁) X.xe s:=by
 refine thn (ha kN s σ H _ I h) fun v s1 ⟨x,H1,I1,r1,q1⟩=>?_
 refine thn (hb kN s1 σ H1 _ I1 q1) fun u s2 ⟨y,H2,I2,r2,q2⟩=>?_
 exact hf v u s2 x y H2 I2 r1 r2 q2
theorem zg {op:Operator} {r:R2} (ho:OpR X (binaryOp op) r) (ha:PE X a ta) (hb:PE X b tb):PE X (.BinOp a op b pos) (tOp r ta tb):=by
 intro kN s σ H Q I h;exact wpAny_BinOp (zla ha hb I h fun v u s2 x y H2 I2 rx ry q=>ho kN s2 σ H2 x y v u Q I2 rx ry q)
theorem zfh {op:UnaryOp} {r:V→Hp→VK→Prop} (ho:UnR X (unaryOp op) r) (ha:PE X a ta):PE X (.UnaryOp op a pos) (tUn r ta):=by
 intro kN s σ H Q I h;exact UnaryOp_ (thn (ha kN s σ H _ I h) fun v s1 ⟨x,H1,I1,r1,q1⟩=>ho kN s1 σ H1 x v Q I1 r1 q1)
theorem opI {f:Value→Value→Sem Value} {C:Int→Int→Prop} {g:Int→Int→Int}
  (rule:∀ (i j:Int) (t u:Tok) (s:Shared) (Q:Value→Shared→Prop) (E:Value→Shared→Prop),C i j→Q (.int (g i j) s.toks) { s with toks:=s.toks+1 }→wpAny (model X.prog X.w) X.A (f (.int i t) (.int j u)) Q E s) :
  OpR X f (rI C fun i j=>.int (g i j)):=by
 intro kN s σ H x y v u Q I rx ry h;obtain⟨i,j,rfl,rfl,hc,q⟩:=h;obtain⟨t,rfl⟩:=rx;obtain⟨t',rfl⟩:=ry;exact rule i j t t' s _ _ hc ⟨.int (g i j),H,I.tok _,⟨_,rfl⟩,q⟩
theorem zl6 {f:Value→Value→Sem Value} {g:Int→Int→Int}
  (rule:∀ (i j:Int) (t u:Tok) (s:Shared) (Q:Value→Shared→Prop) (E:Value→Shared→Prop),Q (.int (g i j) s.toks) { s with toks:=s.toks+1 }→wpAny (model X.prog X.w) X.A (f (.int i t) (.int j u)) Q E s) :
  OpR X f (rI0 fun i j=>.int (g i j)):=by
 intro kN s σ H x y v u Q I rx ry h;obtain⟨i,j,rfl,rfl,q⟩:=h;obtain⟨t,rfl⟩:=rx;obtain⟨t',rfl⟩:=ry;exact rule i j t t' s _ _ ⟨.int (g i j),H,I.tok _,⟨_,rfl⟩,q⟩
theorem zlb {f:Value→Value→Sem Value} {g:Int→Int→Bool}
  (rule:∀ (i j:Int) (t u:Tok) (s:Shared) (Q:Value→Shared→Prop) (E:Value→Shared→Prop),Q (.bool (g i j)) s→wpAny (model X.prog X.w) X.A (f (.int i t) (.int j u)) Q E s) :
  OpR X f (rI0 fun i j=>.bl (g i j)):=by
 intro kN s σ H x y v u Q I rx ry h;obtain⟨i,j,rfl,rfl,q⟩:=h;obtain⟨t,rfl⟩:=rx;obtain⟨t',rfl⟩:=ry;exact rule i j t t' s _ _ ⟨.bl (g i j),H,I,rfl,q⟩
def zmF (i j:Int):Prop:=0 < j∧j < 1073741824
def zmG (i j:Int):Prop:=0≤j∧j≤1000000∧i.natAbs < 2 ^ 64
def zlc (i j:Int):Prop:=(-(2 ^ 64) < i∧i < 2 ^ 64)∨(-(2 ^ 64) < j∧j < 2 ^ 64)
theorem zlc.ok {i j:Int} (h:zlc i j):IntMulOk i j:=by
 rcases h with ⟨h1,h2⟩ | ⟨h1,h2⟩
 ·exact .of_left (intBits_le_64 h1 h2)
 ·exact .of_right (intBits_le_64 h1 h2)
theorem zu:OpR X (binaryOp .Add) (rI0 fun i j=>.int (i+j)):=zl6 fun _ _ _ _ _ _ _ q=>add_int q
theorem za8:OpR X (binaryOp .Sub) (rI0 fun i j=>.int (i - j)):=zl6 fun _ _ _ _ _ _ _ q=>sub_int q
theorem z8:OpR X (binaryOp .Mult) (rI zlc fun i j=>.int (i*j)):=opI fun _ _ _ _ _ _ _ hc q=>mul_int q hc.ok
theorem zjZ:OpR X (binaryOp .FloorDiv) (rI zmF fun i j=>.int (i / j)):=opI fun i j _ _ _ _ _ hc q=>by
 have h1:(0:Int) < j:=hc.1;have h2:j < 1073741824:=hc.2;exact floordiv_int #[O] (by rw [Int.fdiv_eq_ediv_of_nonneg i #[O]]; exact q) (.inl (PyProof.noPylong_small #[O]))
theorem zB:OpR X (binaryOp .Mod) (rI (fun _ j=>0 < j) fun i j=>.int (i % j)):=opI fun i j _ _ _ _ _ hc q=>by
 have h1:(0:Int) < j:=hc;exact mod_int' #[O] (by rw [Int.fmod_eq_emod_of_nonneg i #[O]]; exact q)
theorem ziy:OpR X (binaryOp .Pow) (rI zmG fun i j=>.int (i ^ j.toNat)):=opI fun _ _ _ _ _ _ _ hc q=>pow_int_small hc.1 hc.2.1 hc.2.2 q
theorem unI {f:Value→Sem Value} {g:Int→Int}
  (rule:∀ (i:Int) (t:Tok) (s:Shared) (Q:Value→Shared→Prop) (E:Value→Shared→Prop),Q (.int (g i) s.toks) { s with toks:=s.toks+1 }→wpAny (model X.prog X.w) X.A (f (.int i t)) Q E s) :
  UnR X f (rU fun i=>.int (g i)):=by
 intro kN s σ H x v Q I rx h;obtain⟨i,rfl,q⟩:=h;obtain⟨t,rfl⟩:=rx;exact rule i t s _ _ ⟨.int (g i),H,I.tok _,⟨_,rfl⟩,q⟩
theorem zdn:UnR X (unaryOp .USub) (rU fun i=>.int (-i)):=unI fun _ _ _ _ _ q=>neg_int q
end
def zl7:V→V→Bool
 | .non,.non=>true | .non,.int _=>true | .int _,.non=>true | .non,.bl _=>true | .bl _,.non=>true | .non,.str _=>true | .str _,.non=>true
 | .int _,.int _=>true | .bl _,.bl _=>true | .str _,.str _=>true | .byt _,.byt _=>true
 | .int _,.str _=>true | .str _,.int _=>true | .bl _,.str _=>true | .str _,.bl _=>true
 | _,_=>false
def rEq:R2:=fun x y H Q=>zl7 x y=true∧Q (.bl (decide (x=y))) H
def rNe:R2:=fun x y H Q=>zl7 x y=true∧Q (.bl (!decide (x=y))) H
theorem zgC {i j:Int}:decide (V.int i=V.int j)=(i == j):=by
 rw [cg];simp
theorem ziz {i j:Bool}:decide (V.bl i=V.bl j)=(i == j):=by
 rw [cg];simp
theorem zgD {i j:Str}:decide (V.str i=V.str j)=(i == j):=by
 rw [cg];simp
theorem zgE {i j:Array UInt8}:decide (V.byt i=V.byt j)=(i.toList == j.toList):=by
 rw [cg];cases i;cases j;simp
section
variable {X:Cx} {a b c:Expr} {ta tb tc:TE} {pos:Pos}
theorem zL {kN:List (Addr×Obj)} {σ:St} {H:Hp} {s:Shared} {Q:VK} {k k':Bool} (I:Inv X kN σ H s) (q:Q (.bl k) H) (e:k=k'):EP X kN σ Q (.bool k') s:=by
 subst e;exact⟨.bl k,H,I,rfl,q⟩
theorem zd5:OpR X (compareOp .Eq) rEq:=by
 intro kN s σ H x y v u Q I rx ry h;obtain⟨hs,q⟩:=h;cases x with
 | non =>
  cases rx;cases y with
  | non=>cases ry; exact PySem.EqNone.eq_none_none (zL I q #[M])
  | bl j=>cases ry; exact PySem.EqNone.eq_none_bool (zL I q #[M])
  | int j=>obtain⟨t',rfl⟩:=ry; exact PySem.EqNone.eq_none_int (zL I q #[M])
  | str j=>obtain⟨t',rfl⟩:=ry; exact PySem.EqNone.eq_none_str (zL I q #[M])
  | _=>exact absurd (show false=true from hs) aR
 | bl i =>
  cases rx;cases y with
  | non=>cases ry; exact PySem.EqNone.eq_bool_none (zL I q #[M])
  | bl j=>cases ry; exact eq_bool (zL I q ziz)
  | str j=>obtain⟨t',rfl⟩:=ry; exact PySem.EqMixed.eq_bool_str (zL I q #[M])
  | _=>exact absurd (show false=true from hs) aR
 | int i =>
  obtain⟨t,rfl⟩:=rx;cases y with
  | non=>cases ry; exact PySem.EqNone.eq_int_none (zL I q #[M])
  | int j=>obtain⟨t',rfl⟩:=ry; exact eq_int (zL I q zgC)
  | str j=>obtain⟨t',rfl⟩:=ry; exact PySem.EqMixed.eq_int_str (zL I q #[M])
  | _=>exact absurd (show false=true from hs) aR
 | str i =>
  obtain⟨t,rfl⟩:=rx;cases y with
  | non=>cases ry; exact PySem.EqNone.eq_str_none (zL I q #[M])
  | bl j=>cases ry; exact PySem.EqMixed.eq_str_bool (zL I q #[M])
  | int j=>obtain⟨t',rfl⟩:=ry; exact PySem.EqMixed.eq_str_int (zL I q #[M])
  | str j=>obtain⟨t',rfl⟩:=ry; exact eq_str (zL I q zgD)
  | _=>exact absurd (show false=true from hs) aR
 | byt i =>
  obtain⟨t,rfl⟩:=rx;cases y with
  | byt j=>obtain⟨t',rfl⟩:=ry; exact PySem.W.eq_bytes (zL I q zgE)
  | _=>exact absurd (show false=true from hs) aR
 | _=>cases y <;> exact absurd (show false=true from hs) aR
theorem zkO:OpR X (compareOp .NotEq) rNe:=by
 intro kN s σ H x y v u Q I rx ry h;obtain⟨hs,q⟩:=h;cases x with
 | non =>
  cases rx;cases y with
  | non=>cases ry; exact PySem.EqNone.ne_none_none (zL I q #[M])
  | bl j=>cases ry; exact PySem.EqNone.ne_none_bool (zL I q #[M])
  | int j=>obtain⟨t',rfl⟩:=ry; exact PySem.EqNone.ne_none_int (zL I q #[M])
  | str j=>obtain⟨t',rfl⟩:=ry; exact PySem.EqNone.ne_none_str (zL I q #[M])
  | _=>exact absurd (show false=true from hs) aR
 | bl i =>
  cases rx;cases y with
  | non=>cases ry; exact PySem.EqNone.ne_bool_none (zL I q #[M])
  | bl j=>cases ry; exact ne_bool (zL I q (congrArg not ziz))
  | str j=>obtain⟨t',rfl⟩:=ry; exact PySem.EqMixed.ne_bool_str (zL I q #[M])
  | _=>exact absurd (show false=true from hs) aR
 | int i =>
  obtain⟨t,rfl⟩:=rx;cases y with
  | non=>cases ry; exact PySem.EqNone.ne_int_none (zL I q #[M])
  | int j=>obtain⟨t',rfl⟩:=ry; exact ne_int (zL I q (congrArg not zgC))
  | str j=>obtain⟨t',rfl⟩:=ry; exact PySem.EqMixed.ne_int_str (zL I q #[M])
  | _=>exact absurd (show false=true from hs) aR
 | str i =>
  obtain⟨t,rfl⟩:=rx;cases y with
  | non=>cases ry; exact PySem.EqNone.ne_str_none (zL I q #[M])
  | bl j=>cases ry; exact PySem.EqMixed.ne_str_bool (zL I q #[M])
  | int j=>obtain⟨t',rfl⟩:=ry; exact PySem.EqMixed.ne_str_int (zL I q #[M])
  | str j=>obtain⟨t',rfl⟩:=ry; exact ne_str (zL I q (congrArg not zgD))
  | _=>exact absurd (show false=true from hs) aR
 | byt i =>
  obtain⟨t,rfl⟩:=rx;cases y with
  | byt j=>obtain⟨t',rfl⟩:=ry; exact PySem.W.ne_bytes (zL I q (congrArg not zgE))
  | _=>exact absurd (show false=true from hs) aR
 | _=>cases y <;> exact absurd (show false=true from hs) aR
theorem zgF:OpR X (compareOp .Lt) (rI0 fun i j=>.bl (decide (i < j))):=zlb fun _ _ _ _ _ _ _ q=>lt_int q
theorem zd6:OpR X (compareOp .Gt) (rI0 fun i j=>.bl (decide (j < i))):=zlb fun _ _ _ _ _ _ _ q=>gt_int q
theorem zl8:OpR X (compareOp .GtE) (rI0 fun i j=>.bl (decide (j≤i))):=zlb fun _ _ _ _ _ _ _ q=>ge_int q
theorem zV (b:Expr) {op:CmpOp} (h:op≠.In:=by decide) (h2:op≠.NotIn:=by decide):behindInMarks op b=false:=by
 have e1:(op == CmpOp.In)=false:=by cases op <;> first | rfl | exact absurd rfl h
 have e2:(op == CmpOp.NotIn)=false:=by cases op <;> first | rfl | exact absurd rfl h2
 cases b <;> simp [behindInMarks,e1,e2]
theorem zj0 {op:CmpOp} {r:R2} (ho:OpR X (compareOp op) r) (ha:PE X a ta) (hb:PE X b tb) (hm:behindInMarks op b=false):PE X (.Compare a [op] [b] pos) (tOp r ta tb):=by
 intro kN s σ H Q I h;exact wpAny_Compare1 (zla ha hb I h fun v u s2 x y H2 I2 rx ry q=>ho kN s2 σ H2 x y v u Q I2 rx ry q) hm
def zl9 (t:TE):TT:=fun σ H Q=>t σ H fun x H'=>∃ k,x = .bl k∧Q k H'
theorem zJ {op:CmpOp} {r:R2} (ho:OpR X (compareOp op) r) (ha:PE X a ta) (hb:PE X b tb) (hm:behindInMarks op b=false):PT X (.Compare a [op] [b] pos) (zl9 (tOp r ta tb)):=by
 intro kN s σ H Q I h;refine wpAny_isTrue_Compare1 (thn (ha kN s σ H _ I h) fun v s1 ⟨x,H1,I1,r1,q1⟩=>thn (hb kN s1 σ H1 _ I1 q1) fun u s2 ⟨y,H2,I2,r2,q2⟩ =>
  thn (ho kN s2 σ H2 x y v u _ I2 r1 r2 q2) fun c s3 ⟨z,H3,I3,r3,k,e,q3⟩=>?_) hm
 subst e;cases r3;exact fw ⟨H3,I3,q3⟩
def zma (K:af) (x:V) (H:Hp) (k:Bool):Prop :=
 match x with
 | .non=>k=false
 | .bl b=>k=b
 | .int i=>k=(i != 0)
 | .str y=>y.length≤sizeLine∧k=((y.length:Int) != 0)
 | .byt y=>y.size≤sizeLine∧k=((y.size:Int) != 0)
 | .ref p=>(∃ xs,kP K H p xs∧k = !xs.isEmpty)∨(∃ xs,kT K H p xs∧k = !xs.isEmpty)∨∃ lK,H p=some (.dK lK)∧k = !lK.isEmpty
 | _=>False
theorem zf5 {κ:Type} {lK:List (κ×V)} {vs:List (κ×Value)} (r:KV lK vs):(!vs.isEmpty) = !lK.isEmpty:=by
 cases r <;> rfl
theorem zdo {xs:List V} {kO:List Value} (r:zw xs kO):(!kO.toArray.isEmpty) = !xs.isEmpty:=by
 cases r <;> simp
theorem zdp:(sizeLine:Nat) < 2 ^ 63:=by rw [br]; decide
theorem zld:zmE X (fun x H Q=>∃ k,zma X.K x H k∧Q k H):=by
 intro kN s σ H x v Q I rx h;obtain⟨k,e,q⟩:=h;have hl:=zdp;have hs:sizeLine=16777216:=br;cases x with
 | non =>
  cases rx;have e':k=false:=e;subst e';exact truthy_none ⟨H,I,q⟩
 | bl b =>
  cases rx;have e':k=b:=e;subst e';exact fw ⟨H,I,q⟩
 | int i =>
  obtain⟨t,rfl⟩:=rx;have e':k=(i != 0):=e;subst e';exact PySem.P.truthy_int ⟨H,I,q⟩
 | str y =>
  obtain⟨t,rfl⟩:=rx;obtain⟨hy,e'⟩:y.length≤sizeLine∧k=((y.length:Int) != 0):=e;subst e';exact PySem.P.truthy_str #[O] ⟨H,I.tok _,q⟩
 | byt y =>
  obtain⟨t,rfl⟩:=rx;obtain⟨hy,e'⟩:y.size≤sizeLine∧k=((y.size:Int) != 0):=e;subst e';exact PySem.W.truthy_bytes #[O] ⟨H,I.tok _,q⟩
 | ref p =>
  cases rx;have e':(∃ xs,kP X.K H p xs∧k = !xs.isEmpty)∨(∃ xs,kT X.K H p xs∧k = !xs.isEmpty)∨∃ lK,H p=some (.dK lK)∧k = !lK.isEmpty:=e;rcases e' with ⟨xs,hx,e'⟩ | ⟨xs,hx,e'⟩ | ⟨lK,hx,e'⟩
  ·subst e';obtain⟨kO,r,pl,hz⟩:=I.list hx;have kS:=r.length;exact wpAny_truthy_list pl.isList (by simp only [ai]; lia) ⟨H,I.tok _,by rw [zdo r]; exact q⟩
  ·subst e';obtain⟨kO,r,pl,hz⟩:=I.tuple hx;have kS:=r.length;exact truthy_tuple pl (by simp only [ai]; lia) ⟨H,I.tok _,by rw [zdo r]; exact q⟩
  ·subst e';obtain⟨hz,hS,vs,r,m⟩:lK.length≤sizeLine∧(p == sysModules)=false∧∃ vs,KV lK vs∧s.heap.DictOf (zez X.prog X.w) p vs:=I.hok p _ hx;have kS:lK.length=vs.length:=bn r;exact wpAny_truthy_dict hS m #[O] ⟨H,I.tok _,by rw [zf5 r]; exact q⟩
 | _=>exact (show False from e).elim
theorem ziA (ha:PE X a ta) (he:∀ whole,isTrue a X.env whole=(do let v ← whole; standAt a.pos; holding [v] (truthy v))) :
  PT X a (fun σ H Q=>ta σ H fun x H'=>∃ k,zma X.K x H' k∧Q k H'):=by
 intro kN s σ H Q I h;exact isTrue_plain (thn (ha kN s σ H _ I h) fun v s1 ⟨x,H1,I1,r1,q1⟩=>zld kN s1 σ H1 x v Q I1 r1 q1) (he _)
theorem vals1 {x:V} {us:List Value} (r:zw [x] us):∃ u,us = [u]∧RelV x u:=by
 cases r with
 | cons r1 r2=>cases r2; exact⟨_,rfl,r1⟩
theorem vals2 {x y:V} {us:List Value} (r:zw [x,y] us):∃ u w',us = [u,w']∧RelV x u∧RelV y w':=by
 cases r with
 | cons r1 r2 =>
  cases r2 with
  | cons r3 r4=>cases r4; exact⟨_,_,rfl,r1,r3⟩
theorem zd7 (hc:X.calm=true):zaD X (.builtin "min") (fun xs H Q=>∃ i j,xs = [.int i,.int j]∧Q (.int (if j < i then j else i)) H):=by
 intro kN s σ H xs us Q I r h;obtain⟨i,j,rfl,q⟩:=h;obtain⟨u,w',rfl,⟨t,rfl⟩,⟨t',rfl⟩⟩:=vals2 r;refine min_two_ints (I.ok.hd hc) fun h' tk k=>⟨_,H,I.kept k,?_,q⟩
 by_cases hj:j < i
 ·rw [if_pos hj,if_pos hj]; exact⟨_,rfl⟩
 ·rw [if_neg hj,if_neg hj]; exact⟨_,rfl⟩
theorem zhu:zaD X (.type "int") (fun xs H Q=>(∃ i,xs = [.int i]∧Q (.int i) H)∨∃ k,xs = [.bl k]∧Q (.int (if k then 1 else 0)) H):=by
 intro kN s σ H xs us Q I r h;rcases h with ⟨i,rfl,q⟩ | ⟨k,rfl,q⟩
 ·obtain⟨u,rfl,t,rfl⟩:=vals1 r;exact call_int_int ⟨.int i,H,I,⟨_,rfl⟩,q⟩
 ·obtain⟨u,rfl,r1⟩:=vals1 r;cases r1;exact call_int_bool ⟨.int (if k then 1 else 0),H,I.tok _,⟨_,rfl⟩,q⟩
end
structure ObjM (h:Heap) (x dx C:Addr) (mA:Str→Option Value):Prop where
 obj:h.get? x=some (ii C dx)
 ns:h.Ns1 dx mA
 ne:dx≠x
theorem zhv {h:Heap} {dx:Addr} {mA:Str→Option Value} (n:h.Ns1 dx mA):∃ od,h.get? dx=some od∧∀ name,iI name od=some (mA name):=by
 obtain⟨o,es,ep,ho,hd,hk,_,hm⟩:=n;refine⟨o,ho,fun name=>?_⟩;have e:=hm name;unfold nsFind findBy at e;rw [← Array.find?_toList] at e;unfold iI;rw [hd];dsimp only;split
 ·rename_i y q
  rw [q] at e;exact congrArg some e
 ·rename_i q
  rw [q] at e;have a:es.toList.any (·.refKey)=false:=by
   rw [gC];intro y hy;obtain⟨z,t,nk⟩:=hk y (dm.mp hy);simp [DictEntry.refKey,nk]
  have a':¬ es.toList.any (·.refKey)=true:=by rw [a]; exact aR
  rw [if_neg a'];exact congrArg some e
theorem ObjM.look {h:Heap} {x dx C:Addr} {mA:Str→Option Value} (I:ObjM h x dx C mA):∃ od,PySem.W.InstAt h x (ii C dx) C (some od)∧∀ name,iI name od=some (mA name) :=
 let ⟨od,ho,hl⟩:=zhv I.ns
 ⟨od,⟨I.obj,rfl,rfl,ho⟩,hl⟩
section
variable {P:Program} {w:World} {H H':Hp} {h h':Heap} {a C dx:Addr} {fs fs':List (Str×V)}
theorem zj1 (hok:HOk P w H h) (e:H a=some (.ins C dx fs)):∃ mA,ObjM h a dx C mA∧(∀ f,zk6 (fs.lookup f) (mA f))∧kH mA (fs.map (·.1))∧fs.length≤1000∧H dx=some (.own a):=by
 obtain⟨d,z,ne,ob,mA,n,r,q⟩:=(show zai P w H h a (.ins C dx fs) from hok a _ e);exact⟨mA,⟨ob,n,ne⟩,r,q,z,d⟩
end
structure Cls (K:af) (C:Addr):Prop where
 pg:jT K C Str.empty=true
 hd:PySem.W.hasDictIn K C=true
 po:PySem.W.plainOver K C=true
 sa:kh K (.ref C) "__setattr__" = some (some (.builtin "object.__setattr__"))
theorem Cls.get {K:af} {C:Addr} (c:Cls K C) (f:Str):jT K C f=true:=c.pg
section
variable {X:Cx} {kN:List (Addr×Obj)} {σ:St} {H:Hp} {s:Shared} {A:Around} {E:Value→Shared→Prop} {Q:Value→Shared→Prop} {c:Value} {b:Bool}
inductive TyOf (K:af) (H:Hp):V→Value→Prop where
 | non:TyOf K H .non (.type "NoneType")
 | bl (x:Bool):TyOf K H (.bl x) (.type "bool")
 | int (i:Int):TyOf K H (.int i) (.type "int")
 | str (x:Str):TyOf K H (.str x) (.type "str")
 | flt (x:UInt64):TyOf K H (.flt x) (.type "float")
 | lst {a:Addr} {xs:List V} (e:H a=some (.lst xs)):TyOf K H (.ref a) (.type "list")
 | frz {a:Addr} {o:Obj} {xs:List V} (e:H a=some (.frz o (.lst xs))):TyOf K H (.ref a) (.type "list")
 | tup {a:Addr} {xs:List V} (e:H a=some (.tup xs)):TyOf K H (.ref a) (.type "tuple")
 | dK {a:Addr} {lK:List (Key×V)} (e:H a=some (.dK lK)):TyOf K H (.ref a) (.type "dict")
 | dT {a:Addr} {lK:List (List Key×V)} (e:H a=some (.dT lK)):TyOf K H (.ref a) (.type "dict")
 | ins {a C dx:Addr} {fs:List (Str×V)} (e:H a=some (.ins C dx fs)) (cl:Cls K C) (ha:kh K (.ref C) "__class__" = some (some (.builtin "object.__class__")))
   (hn:PySem.W.specialIn K (.builtin "object.__class__") "__get__" = some (some (.builtin "getset_descriptor.__get__"))) (rT:PySem.W.takesIn K (.builtin "object.__class__")=some true)
   (hm:PySem.W.mroIn K C (.type "object")=some true):TyOf K H (.ref a) (.ref C)
theorem zhw {x:V} {u t:Value} (I:Inv X kN σ H s) (rx:RelV x u) (ty:TyOf X.K H x t) (e:ki X.K t c=some b) (h:∀ tk,Q (.bool b) { s with toks:=tk }) :
  wpAny (model X.prog X.w) A (call (.builtin "isinstance") [u,c]) Q E s:=by
 cases ty with
 | non=>cases (show u=dj from rx); exact bZ PySem.W.kitx_none I.kIn gM e (fun z=>nomatch z) h
 | bl y=>cases (show u=j2 y from rx); exact bZ PySem.W.kitx_bool I.kIn gM e (fun z=>nomatch z) h
 | int i=>obtain⟨t,q⟩:=(show ∃ t,u=fQ i t from rx); cases q; exact bZ PySem.W.kitx_int I.kIn gM e (fun z=>nomatch z) h
 | str y=>obtain⟨t,q⟩:=(show ∃ t,u=kt y t from rx); cases q; exact bZ PySem.W.kitx_str I.kIn gM e (fun z=>nomatch z) h
 | flt y=>obtain⟨t,q⟩:=(show ∃ t,u=Value.float y t from rx); cases q; exact bZ PySem.W.kitx_float I.kIn gM e (fun z=>nomatch z) h
 | @lst a xs ea =>
  cases (show u=aZ a from rx);obtain⟨_,_,n,_,h1⟩:=(show zai X.prog X.w H s.heap a (.lst xs) from I.hok a _ ea);exact bZ jG I.kIn ⟨_,h1,rfl⟩ e (fun z=>nomatch z) h
 | @frz a ob xs ea =>
  cases (show u=aZ a from rx);obtain⟨_,_,_,n,_,h1⟩:=(show zai X.prog X.w H s.heap a (.frz ob (.lst xs)) from I.hok a _ ea);exact bZ jG I.kIn ⟨_,h1,rfl⟩ e (fun z=>nomatch z) h
 | @tup a xs ea =>
  cases (show u=aZ a from rx);obtain⟨_,_,_,p⟩:=(show zai X.prog X.w H s.heap a (.tup xs) from I.hok a _ ea);obtain⟨o,h1,h2,_⟩:=p;exact bZ PySem.W.kitx_tuple I.kIn ⟨o,h1,h2⟩ e (fun z=>nomatch z) h
 | @dK a lK ea =>
  cases (show u=aZ a from rx);obtain⟨_,_,vs,_,p⟩:=(show zai X.prog X.w H s.heap a (.dK lK) from I.hok a _ ea);obtain⟨o,es,ep,h1,h2,_⟩:=p;exact bZ jH I.kIn ⟨o,h1,h2.1⟩ e (fun z=>nomatch z) h
 | @dT a lK ea =>
  cases (show u=aZ a from rx);obtain⟨_,_,xs,_,o,es,ep,h1,h2,_⟩:=(show zai X.prog X.w H s.heap a (.dT lK) from I.hok a _ ea);exact bZ jH I.kIn ⟨o,h1,h2.1⟩ e (fun z=>nomatch z) h
 | @ins a C dx fs ea cl ha hn rT hm =>
  cases (show u=aZ a from rx);obtain⟨mA,O,_⟩:=zj1 I.hok ea;obtain⟨od,J,_⟩:=O.look;exact bZ (PySem.W.kitx_own (cl.get _) cl.hd ha hn rT hm) I.kIn J e (fun z=>nomatch z) h
end
structure Room (k:Nat) (A:Around):Prop where
 hd:A.handled=none
 dp:A.depth+3*k+5 < recursionLimit
 un:A.units+16*k+200 < cLine
theorem Room.mono {j k:Nat} {A:Around} (r:Room k A) (h:j≤k):Room j A:=⟨r.hd,by have:=r.dp; lia,by have:=r.un; lia⟩
theorem Room.deeper {k:Nat} {A:Around} (r:Room (k+1) A) (env:Env):Room k (A.deeper env) :=
 ⟨r.hd,by have:=r.dp; show A.depth+1+3*k+5 < _; lia,by have:=r.un; show A.units+3+16*k+200 < _; lia⟩
theorem Room.depth {k:Nat} {A:Around} (r:Room k A):A.depth < recursionLimit:=by have:=r.dp; lia
theorem Room.units {k:Nat} {A:Around} (r:Room k A):A.units+64 < cLine:=by have:=r.un; lia
def zmH:TA:=fun _ H Q=>Q [] H
def zkP (ta:TE) (tr:TA):TA:=fun σ H Q=>ta σ H fun x H1=>tr σ H1 fun xs H2=>Q (x :: xs) H2
section
variable {X:Cx} {e:Expr} {es:List Expr} {te:TE} {t:TA} {pos:Pos}
theorem zd:PA X [] zmH:=fun _ _ _ _ H Q I h=>gD ⟨[],H,I,.nil,h⟩
theorem za (ha:PE X e te) (hr:PA X es t) (hs:starEach (e :: es) X.env=(false,eval e X.env) :: starEach es X.env:=by rfl):PA X (e :: es) (zkP te t):=by
 intro pos kN s σ H Q I h;rw [hs];show wpAny _ _ (spliced ((false,eval e X.env) :: backTo pos (starEach es X.env))) _ _ s;refine gk (thn (ha kN s σ H _ I h) fun u s1 ⟨x,H1,I1,r1,q1⟩=>?_);exact thn (hr pos kN s1 σ H1 _ I1 q1) fun us s2 ⟨xs,H2,I2,r2,q2⟩=>⟨x :: xs,H2,I2,.cons r1 r2,q2⟩
theorem ya {X:Cx} {e:Expr} {te:TE} (a:PE X e te) (b:starEach [e] X.env=(false,eval e X.env) :: starEach [] X.env):PA X [e] (zkP te zmH):=za a zd b
def zmI (t:TA):TE:=fun σ H Q=>t σ H fun xs H1=>xs.length≤sizeLine∧∀ p,H1 p=none→Q (.ref p) (kR H1 p (.tup xs))
def zj2 (t:TA):TE:=fun σ H Q=>t σ H fun xs H1=>xs.length≤sizeLine∧∀ p,H1 p=none→Q (.ref p) (kR H1 p (.lst xs))
theorem zbl {x1} (h:PA X es t):PE X (.Tuple es x1 pos) (zmI t):=by
 intro kN s σ H Q I hq;refine wpAny_Tuple_spliced (thn (h pos kN s σ H _ I hq) fun us s1 ⟨xs,H1,I1,r,z,q⟩=>⟨by rw [← r.length]; exact z,?_⟩);have hf:H1 s1.heap.objs.size=none:=I1.hok.fresh (ag _);refine⟨.ref s1.heap.objs.size,kR H1 s1.heap.objs.size (.tup xs),I1.laid (t':=s1.toks) (fun b u e=>am _ e) (ag _) ?_,rfl,q _ hf⟩;exact⟨z,us,r,⟨_,aK _ rfl,rfl,_,rfl⟩⟩
theorem zac (h:PA X es t):PE X (.List es pos) (zj2 t):=by
 intro kN s σ H Q I hq;refine wpAny_List_spliced (thn (h pos kN s σ H _ I hq) fun us s1 ⟨xs,H1,I1,r,z,q⟩=>⟨by rw [← r.length]; exact z,?_⟩);have hf:H1 s1.heap.objs.size=none:=I1.hok.fresh (ag _);refine⟨.ref s1.heap.objs.size,kR H1 s1.heap.objs.size (.lst xs),I1.laid (t':=s1.toks) (fun b u e=>am _ e) (ag _) ?_,rfl,q _ hf⟩;exact⟨z,us,0,r,aK _ rfl⟩
end
abbrev Sp:=List V→Hp→VK→XK→Prop
abbrev CXT:=List Env→Hp→Shared→XK→Value→Shared→Prop
structure Env0 (P:Program) (w:World) (K:af) (mg:Str→Option Value) (base:Heap) (A:Around) (outer:List Env) (s:Shared) (H:Hp):Prop where
 frames:A.frames=some outer
 mod:Mod K mg base
 bs:∀ b o,base.get? b=some o→s.heap.get? b=some o∧H b=none
 bsz:base.objs.size≤s.heap.objs.size
 funs:s.heap.FunFrames base outer
 frf:∀ b∈frs outer,H b=none
 hok:HOk P w H s.heap
 bare:AllBare s.gens
def CE (outer:List Env) (P:Program) (w:World) (H:Hp) (s:Shared) (Q:VK) (u:Value) (s':Shared):Prop :=
 ∃ v H',s'.os=s.os∧AllBare s'.gens∧Un (frs outer) [] H H' s.heap s'.heap∧HOk P w H' s'.heap∧RelV v u∧Q v H'
def CR (CX:CXT) (outer:List Env) (P:Program) (w:World) (H:Hp) (s:Shared) (Q:VK) (E:XK) (r:Result) (s':Shared):Prop :=
 match r with
 | .ok (.ret u)=>CE outer P w H s Q u s'
 | .ok _=>False
 | .error e=>CX outer H s E e s'
structure FnOk (P:Program) (w:World) (K:af) (mg:Str→Option Value) (base:Heap) (CX:CXT) (k:Nat) (f:Addr) (fd:FuncData) (ps:List Str) (sp:Sp):Prop where
 len:∀ vs H Q E,sp vs H Q E→vs.length=ps.length
 run:∀ (A:Around) (outer:List Env) (s:Shared) (H:Hp) (args:Args) (us:List Value) (vs:List V) (Q:VK) (E:XK),Room k A→Env0 P w K mg base A outer s H→BindsTo s fd args (ps.zip us)→zw vs us→sp vs H Q E →
  codeAny (model P w) A (.call (.ref f) args) (CR CX outer P w H s Q E) s
section
variable {X:Cx} {kN:List (Addr×Obj)} {σ:St} {H:Hp} {s s':Shared}
theorem Inv.env0 (I:Inv X kN σ H s):Env0 X.prog X.w X.K X.mg X.base X.A X.stack s H :=
 ⟨I.ok.frames,I.ok.mod,I.bs,bd I.ok.bsz I.sz,I.stack,I.stkFree,I.hok,I.bare⟩
theorem Inv.after {Q:VK} {u:Value} (I:Inv X kN σ H s) (h:CE X.stack X.prog X.w H s Q u s'):EP X kN σ Q u s':=by
 obtain⟨v,H',os,bare,un,hok,r,q⟩:=h;obtain⟨hh,g,d,t,yL⟩:=s';obtain rfl:yL=s.os:=os;exact⟨v,H',I.call (h':=hh) (g':=g) (d':=d) (t':=t) (ch:=[]) un hok bare (fun b z=>absurd z #[M]),r,q⟩
end
def zmb (sp:Sp) (sX:List V) (E:XK) (t:TA):TE:=fun σ H Q=>t σ H fun vs H1=>sp (vs++sX) H1 Q E
def Binds (K:af) (fd:FuncData) (ps:List Str) (ds:List Value):Prop :=
 ∀ (s:Shared) (us:List Value),K.In s.heap→(us++ds).length=ps.length→BindsTo s fd ⟨us,[]⟩ (ps.zip (us++ds))
theorem Binds.all {K:af} {fd:FuncData} {ps:List Str} (h:∀ us:List Value,us.length=ps.length→bindArgs fd ⟨us,[]⟩=pure (ps.zip us)):Binds K fd ps []:=fun s us _ hl=>by
 rw [ci] at hl ⊢;exact .of_eq (h us hl)
def zf6 (CX:CXT) (X:Cx) (E:XK):Prop:=∀ (kN:List (Addr×Obj)) (σ:St) (H:Hp) (s:Shared) (e:Value) (s':Shared),Inv X kN σ H s→CX X.stack H s E e s'→X.xe e s'
section
variable {X:Cx} {CX:CXT} {k:Nat} {f C:Addr} {fd:FuncData} {ps:List Str} {sp:Sp} {sX:List V} {ds:List Value} {E:XK} {x m:Str} {p pos apos:Pos} {e o:Expr} {es:List Expr} {ta:TE} {t:TA}
theorem zle {kN:List (Addr×Obj)} {σ:St} {H:Hp} {s:Shared} {Q:VK} {us:List Value} {vs:List V} (F:FnOk X.prog X.w X.K X.mg X.base CX k f fd ps sp) (hr:Room k X.A) (hb:Binds X.K fd ps ds) (hd:zw sX ds) (hx:zf6 CX X E)
  (I:Inv X kN σ H s) (r:zw vs us) (h:sp (vs++sX) H Q E):wpAny (model X.prog X.w) X.A (call (.ref f) us) (EP X kN σ Q) X.xe s:=by
 have r2:zw (vs++sX) (us++ds):=r.append hd;have hl:(us++ds).length=ps.length:=by rw [← r2.length]; exact F.len _ _ _ _ h
 refine j5 (fV (F.run X.A X.stack s H ⟨us,[]⟩ (us++ds) (vs++sX) Q E hr I.env0 (hb s us I.kIn hl) r2 h) fun r s' hq=>?_);cases r with
 | error e=>exact hx kN σ H s e s' I hq
 | ok fl =>
  cases fl with
  | ret u=>exact I.after hq
  | next=>exact dk hq
  | brk=>exact dk hq
  | cont=>exact dk hq
theorem zF (F:FnOk X.prog X.w X.K X.mg X.base CX k f fd ps sp) (hr:Room k X.A) (hg:Gl X x) (hm:X.mg x=some (.ref f)) (hk:ff X.K (.ref f)=true) (hb:Binds X.K fd ps ds) (hd:zw sX ds) (hx:zf6 CX X E)
  (ha:PA X (e :: es) t) (t9:(x == ("__debug__" : Str))=false:=by decide) (he:starEach (e :: es) X.env=(false,eval e X.env) :: starEach es X.env:=by rfl) (nq:(backTo pos (starEach es X.env)).any (·.1)=false:=by rfl) :
  PE X (.Call (.Name x p) (e :: es) [] pos) (zmb sp sX E t):=by
 intro kN s σ H Q I h;refine db (zjV I hg hm ?_ t9);refine PySem.W.callWith_K (h₀:=X.base) I.ok.mod.kin hk (thn (ha pos kN s σ H _ I h) fun us s1 ⟨vs,H1,I1,r,q⟩=>⟨I1.kIn,?_⟩) he nq;exact zle F hr hb hd hx I1 r q
end
structure FnScope (N P:List Str) (sc:Scope):Prop where
 kind:sc.kind = .function
 co:sc.isCoroutine=false
 gen:sc.isGenerator=false
 nd:N.Nodup
 pre:N.take P.length=P
 par:∀ x∈P,sc.names.lookup x=some .local∨sc.names.lookup x=some .cell
 nofree:∀ y∈sc.names,y.2≠.free
theorem zd8 {kindOf:Str→Option NameKind} {x:Str}:∀ {binds:List (Str×Value)} {m:Str→Option Value},(∀ v,(x,v)∉binds)→bindL kindOf binds m x=m x
 | [],_,_=>rfl
 | (n,v) :: r,m,h=>by
  unfold bindL;rw [zd8 fun w hw=>h w (av _ hw)];split
  ·have:x≠n:=by rintro rfl; exact h v aI
   simp [this]
  ·rfl
theorem zd9 {kindOf:Str→Option NameKind} {x:Str}:∀ {binds:List (Str×Value)} {m:Str→Option Value},(∀ v,(x,v)∉binds)→bindC kindOf binds m x=m x
 | [],_,_=>rfl
 | (n,v) :: r,m,h=>by
  unfold bindC;rw [zd9 fun w hw=>h w (av _ hw)];split
  ·rfl
  ·have:x≠n:=by rintro rfl; exact h v aI
   simp [this]
theorem zea {kindOf:Str→Option NameKind} {x:Str} {v:Value}:∀ {P:List Str} {vs:List Value} {i:Nat} {m:Str→Option Value},P.Nodup→P[i]? = some x→vs[i]? = some v→kindOf x=some .local →
  bindL kindOf (P.zip vs) m x=some v
 | [],_,_,_,_,h,_,_=>by simp at h
 | _ :: _,[],_,_,_,_,h,_=>by simp at h
 | p :: P,w :: vs,0,m,nd,h1,h2,hk=>by
  simp at h1 h2; subst h1; subst h2;show bindL kindOf ((p,w) :: P.zip vs) m p=_;unfold bindL;rw [zd8 fun v hv=>(cj.mp nd).1 (ik hv).1,if_pos hk];simp
 | p :: P,w :: vs,i+1,m,nd,h1,h2,hk=>by
  show bindL kindOf ((p,w) :: P.zip vs) m x=_;unfold bindL;exact zea (i:=i) (cj.mp nd).2 (by simpa using h1) (by simpa using h2) hk
theorem zeb {kindOf:Str→Option NameKind} {x:Str} {v:Value}:∀ {P:List Str} {vs:List Value} {i:Nat} {m:Str→Option Value},P.Nodup→P[i]? = some x→vs[i]? = some v→kindOf x≠some .local →
  bindC kindOf (P.zip vs) m x=some v
 | [],_,_,_,_,h,_,_=>by simp at h
 | _ :: _,[],_,_,_,_,h,_=>by simp at h
 | p :: P,w :: vs,0,m,nd,h1,h2,hk=>by
  simp at h1 h2; subst h1; subst h2;show bindC kindOf ((p,w) :: P.zip vs) m p=_;unfold bindC;rw [zd9 fun v hv=>(cj.mp nd).1 (ik hv).1,if_neg hk];simp
 | p :: P,w :: vs,i+1,m,nd,h1,h2,hk=>by
  show bindC kindOf ((p,w) :: P.zip vs) m x=_;unfold bindC;exact zeb (i:=i) (cj.mp nd).2 (by simpa using h1) (by simpa using h2) hk
def start (N:List Str) (vs:List V):St:=vs.map some++ap (N.length - vs.length) none
def zhx (CX:CXT) (P:Program) (w:World) (K:af) (mg:Str→Option Value) (base:Heap) (N:List Str) (qual:Str) (scope:Scope) (f:Addr) (cd:Value) (A:Around) (outer:List Env) (s:Shared) (H:Hp) (E:XK):Cx where
 prog:=P
 w:=w
 K:=K
 mg:=mg
 base:=base
 A:=A.deeper (envOfC qual scope s.heap.objs.size f cd)
 N:=N
 s₀:=s
 H₀:=H
 env:=envOfC qual scope s.heap.objs.size f cd
 outer:=outer
 stack:=envOfC qual scope s.heap.objs.size f cd :: outer
 ex:=[]
 calm:=true
 fn:=fun _=>true
 pn:=[]
 xe:=fun e s'=>wpAny (model P w) (A.deeper (envOfC qual scope s.heap.objs.size f cd)) (leaving (envOfC qual scope s.heap.objs.size f cd) e) (fun _ ua=>CX outer H s E e ua) (fun e' ua=>CX outer H s E e' ua) s'
theorem zfi {sc:Scope} {n:Nat} {x:Str} (h:sc.names.lookup x=some .cell):∃ c,(cellsFrom n sc.names []).lookup x=some c:=by
 have q:=iz sc.names n [] (.inl h);exact Option.isSome_iff_exists.mp q
theorem zhy {CX:CXT} {P:Program} {w:World} {K:af} {mg:Str→Option Value} {base:Heap} {N ps:List Str} {qual:Str} {scope:Scope} {f:Addr} {cd:Value} {A:Around} {outer:List Env} {s s1:Shared} {H:Hp} {E:XK} {us:List Value} {vs:List V}
  (S:FnScope N ps scope) (hd:A.handled=none) (e0:Env0 P w K mg base A outer s H) (hl:vs.length=ps.length) (r:zw vs us)
  (x:InCallC s s.heap.objs.size (bindL (envOfC qual scope s.heap.objs.size f cd).kindOf (ps.zip us) fun _=>none) (cellsFrom (s.heap.objs.size+1) scope.names []) (bindC (envOfC qual scope s.heap.objs.size f cd).kindOf (ps.zip us) fun _=>none) s1) :
  Inv (zhx CX P w K mg base N qual scope f cd A outer s H E) [] (start N vs) H s1:=by
 have nq:ps.length≤N.length:=by have:=congrArg iA S.pre; rw [aL] at this; lia
 obtain⟨h1,tk,rfl,hk⟩:=x.done;have ub:∀ b:Addr,b∉(zhx CX P w K mg base N qual scope f cd A outer s H E).ex:=fun b z=>absurd (show b∈([]:List Addr) from z) #[M]
 refine⟨⟨e0.mod,S.kind,rfl,rfl,ag _,fun y z c h1 h2=>?_,fun y hy=>?_,fun y c _ h=>?_,fun _=>hd,Around.frames_deeper e0.frames,.inr ⟨rfl,rfl⟩,fun b z=>absurd z (ub b),e0.bs,e0.bsz,fun b _ _=>ub b,fun b z=>absurd z (ub b),e0.funs,e0.frf⟩,
  rfl,e0.bare,Un.kept hk,⟨_,x.toInCall.ns,fun i y v h1 h2 h3=>?_⟩,fun y c h=>⟨_,x.cell y c h⟩,e0.hok.fresh (ag _),fun y c h=>?_,fun p hp=>absurd (show p∈([]:List (Addr×Obj)) from hp) #[M],e0.hok.kept hk,?_⟩
 ·exact name_of_addr x.apart (dI h1) (dI h2)
 ·have hy:scope.names.lookup y=some .cell∨scope.names.lookup y=some .free:=hy;rcases hy with hy | hy
  ·exact zfi hy
  ·exact absurd rfl (S.nofree _ (dI hy))
 ·exact gQ (x.above y c (dI h))
 ·have hi:i < vs.length:=by
   unfold start at h2;by_cases hi:i < vs.length
   ·exact hi
   ·rw [bG (by simpa using hi)] at h2;rw [bO] at h2;split at h2 <;> cases h2
  have ha:vs[i]? = some v:=by
   unfold start at h2;rw [bI (by simpa using hi),ah] at h2;cases e:vs[i]? with
   | none=>rw [e] at h2; cases h2
   | some a=>rw [e] at h2; cases h2; rfl
  obtain⟨u,hu,rv⟩:=r.get ha;have hp:ps[i]? = some y:=by
   rw [← S.pre,eW #[O]]; exact h1
  have ndP:ps.Nodup:=by rw [← S.pre]; exact S.nd.sublist (gE _ _)
  refine⟨u,rv,?_⟩;rcases S.par y (az hp) with k | k
  ·exact .inl ⟨k,zea ndP hp hu k⟩
  ·obtain⟨c,e⟩:=zfi (n:=s.heap.objs.size+1) k;refine .inr ⟨.inl k,c,e,?_⟩;have q:=x.cell y c e;rw [zeb ndP hp hu (by show scope.names.lookup y≠_; rw [k]; decide)] at q;exact q
 ·exact e0.hok.fresh (gQ (x.above y c (dI h)))
 ·unfold start;show _=N.length;rw [aA,ab,aH];lia
theorem zmc {CX:CXT} {P:Program} {w:World} {K:af} {mg:Str→Option Value} {base:Heap} {k:Nat} {f:Addr} {name qual:Str} {params:Arguments} {body:List Stmt} {scope:Scope} {dV kV doc pm lB ct oc:Value} {an od:Option Addr}
  {tf:Array (Option Value)} {N ps:List Str} {sp:Sp} (lk:K.lookup f=some ⟨oc,od,.func (cS name qual params body scope dV kV doc pm an lB ct),tf⟩) (qr:fg K lB qual=true) (S:FnScope N ps scope)
  (len:∀ vs H Q E,sp vs H Q E→vs.length=ps.length)
  (qt:∀ (A:Around) (outer:List Env) (s:Shared) (H:Hp) (vs:List V) (Q:VK) (E:XK),Room k (A.deeper (envOfC qual scope s.heap.objs.size f lB))→sp vs H Q E →
   ∃ t,PSs (zhx CX P w K mg base N qual scope f lB A outer s H E) body t∧t { nx:=fun _ H'=>Q .non H',rt:=Q } (start N vs) H) :
  FnOk P w K mg base CX (k+1) f (cS name qual params body scope dV kV doc pm an lB ct) ps sp:=by
 refine⟨len,fun A outer s H args us vs Q E hr e0 hb r tj=>?_⟩;have hl:=len _ _ _ _ tj;have KX:K.In s.heap:=e0.mod.kin.keeps fun b o e=>(e0.bs b o e).1
 have lim:s.heap.NoLimit:=e0.mod.nolimit.keeps fun b o e=>(e0.bs b o e).1
 have n8:∀ y∈ps.zip us,scope.names.lookup y.1=some .local∨(scope.names.lookup y.1=some .cell∧((cellsFrom (s.heap.objs.size+1) scope.names []).lookup y.1).isSome=true):=fun ⟨n,v⟩ hy=>by
  rcases S.par n (ik hy).1 with q | q
  ·exact .inl q
  ·exact .inr ⟨q,iz _ _ _ (.inl q)⟩
 refine codeAny_call_function hr.depth (KX _ _ lk) rfl S.co S.gen rfl (PySem.W.codeRec_of KX qr) (hb _ _ _ _ ?_);refine wpAny_newFunctionEnv_cells S.kind n8 fun env he s1 x=>?_
 subst he;refine⟨lim.keeps x.toInCall.keep,codeAny_func ?_⟩;obtain⟨t,ht,hq⟩:=qt A outer s H vs Q E (hr.deeper _) tj;have I:Inv (zhx CX P w K mg base N qual scope f lB A outer s H E) [] (start N vs) H s1:=zhy S hr.hd e0 hl r x;refine cA (ht [] s1 (start N vs) H _ I hq) (fun fl s' hs=>?_) fun e s' hs=>hs
 have fin:∀ {σ':St} {H':Hp} {v:V} {u:Value},Inv (zhx CX P w K mg base N qual scope f lB A outer s H E) [] σ' H' s'→RelV v u→Q v H'→CE outer P w H s Q u s' :=
  fun {σ' H' v u} J rv q=>⟨v,H',J.os,J.bare,J.base,J.hok,rv,q⟩
 cases fl with
 | ret u =>
  obtain⟨v,σ',H',J,rv,q⟩:=hs;exact fin J rv q
 | next =>
  obtain⟨σ',H',J,q⟩:=hs;exact fin (v:=V.non) (u:=dj) J rfl q
 | brk =>
  obtain⟨_,_,_,q⟩:=hs;exact dk q
 | cont =>
  obtain⟨_,_,_,q⟩:=hs;exact dk q
section
variable {X:Cx} {x:Str} {p pos:Pos} {e:Expr} {es:List Expr} {t:TA} {id T:String} {r:List V→Hp→VK→Prop}
def tCB (r:List V→Hp→VK→Prop) (t:TA):TE:=fun σ H Q=>t σ H fun vs H1=>r vs H1 Q
theorem zl (hc:zaD X (.builtin id) r) (hg:Gl X x) (hm:X.mg x=none) (hv:bootBuiltins x=some (.builtin id)) (ha:PA X (e :: es) t) (hn:x≠"__name__":=by decide) (t9:(x == ("__debug__" : Str))=false:=by decide)
  (he:starEach (e :: es) X.env=(false,eval e X.env) :: starEach es X.env:=by rfl) (nq:(backTo pos (starEach es X.env)).any (·.1)=false:=by rfl):PE X (.Call (.Name x p) (e :: es) [] pos) (tCB r t):=by
 intro kN s σ H Q I h;refine db (zaP I hg hm hv ?_ hn t9);exact fW (thn (ha pos kN s σ H _ I h) fun us s1 ⟨vs,H1,I1,r1,q1⟩=>hc kN s1 σ H1 vs us Q I1 r1 q1) he nq
theorem zO (hc:zaD X (.type T) r) (hg:Gl X x) (hm:X.mg x=none) (hv:bootBuiltins x=some (.type T)) (ha:PA X (e :: es) t) (hn:x≠"__name__":=by decide) (t9:(x == ("__debug__" : Str))=false:=by decide)
  (he:starEach (e :: es) X.env=(false,eval e X.env) :: starEach es X.env:=by rfl) (nq:(backTo pos (starEach es X.env)).any (·.1)=false:=by rfl):PE X (.Call (.Name x p) (e :: es) [] pos) (tCB r t):=by
 intro kN s σ H Q I h;refine db (zaP I hg hm hv ?_ hn t9);exact bD (thn (ha pos kN s σ H _ I h) fun us s1 ⟨vs,H1,I1,r1,q1⟩=>hc kN s1 σ H1 vs us Q I1 r1 q1) he nq
end
end L2
namespace HT
open PySem PyProof.Rows
section
variable {prog:Program} {w:World} {A:Around} {E:Value→Shared→Prop} {s:Shared}
theorem cat_tup {t b:Addr} {vs ws:List Value} {Q:Value→Shared→Prop} (ht:IsTup s.heap t vs.toArray) (hb:IsTup s.heap b ws.toArray) (hv:vs≠[])
  (h1:ws = []→Q (.ref t) s) (h2:ws≠[]→Q (.ref s.heap.objs.size) { s with heap:=s.heap.push { cls:=.type "tuple",data:=.seq (vs++ws).toArray } })
  (hsz:vs.length+ws.length≤sizeLine):wpAny (model prog w) A (binaryOp .Add (.ref t) (.ref b)) Q E s:=by
 obtain⟨⟨cls,dd,data,sl⟩,ho,hc,n,hd⟩:=id ht;obtain⟨⟨yM,xW,data2,xX⟩,o8,vP,n2,hd2⟩:=id hb;simp only at hc hd vP hd2;subst hc hd vP hd2;have e:vs.toArray++ws.toArray=(vs++ws).toArray:=by simp
 by_cases hw:ws = []
 ·exact jt ⟨_,ho,rfl⟩ ⟨_,o8,rfl⟩ gR jc fG fo (eX _ _)
   (tuple_addW1 t b vs.toArray ws.toArray n n2 dd xW sl xX (by simpa using hv) (by simp [hw])) ⟨ho,o8,h1 hw⟩
 ·refine jt ⟨_,ho,rfl⟩ ⟨_,o8,rfl⟩ gR jc fG fo (eX _ _)
   (tuple_addW2 t b vs.toArray ws.toArray n n2 dd xW sl xX (by simpa using hv) (by simpa using hw) (by rw [ai,ai]; exact hsz)) ⟨ho,o8,?_⟩
  rw [e];exact h2 hw
def sIx (n d:Nat):Option Int→Nat
 | none=>d
 | some v=>if v < 0 then (v+(n:Int)).toNat else min v.toNat n
theorem sIx_none (n d:Nat):sIx n d none=d:=rfl
theorem sIx_nat (n d k:Nat):sIx n d (some (k:Int))=min k n:=by
 show (if (k:Int) < 0 then ((k:Int)+(n:Int)).toNat else min (k:Int).toNat n)=min k n;rw [if_neg #[O],cY]
theorem zlf (n d:Nat) (hd:d≤n) (o:Option Int):sIx n d o≤n:=by
 cases o with
 | none=>exact hd
 | some v =>
  show (if v < 0 then (v+(n:Int)).toNat else min v.toNat n)≤n;by_cases hv:v < 0
  ·rw [if_pos hv]; lia
  ·rw [if_neg hv]; exact Nat.min_le_right _ _
theorem zgG (v:Int) (n d:Nat):(if v < 0 then max (v+(n:Int)) 0 else min v (n:Int))=((sIx n d (some v):Nat):Int):=by
 show (if v < 0 then max (v+(n:Int)) 0 else min v (n:Int))=(((if v < 0 then (v+(n:Int)).toNat else min v.toNat n):Nat):Int);by_cases hv:v < 0
 ·simp only [if_pos hv]; lia
 ·simp only [if_neg hv]; lia
theorem zf7 (lo hi:Option Int) (n:Nat):eR lo hi 1 (n:Int)=(((sIx n 0 lo:Nat):Int),((sIx n n hi:Nat):Int)):=by
 have h1:¬ ((1:Int) < 0):=by lia
 unfold eR;simp only [h1,if_false];refine kK ?_ ?_
 ·cases lo with
  | none=>rfl
  | some v=>exact zgG v n 0
 ·cases hi with
  | none=>rfl
  | some v=>exact zgG v n n
theorem zf8 (i j:Nat):dn (i:Int) (j:Int) 1=j - i:=by
 unfold dn;have h1:(1:Int) > 0:=by lia
 simp only [h1,if_true,ju];split <;> lia
theorem zdq {v:Value} {o:Option Int} {Q:Option Int→Shared→Prop} (p:IsPart v o) (h:Q o s):wpAny (model prog w) A (Builtin.Slice.slicePartIndex v) Q E s:=by
 cases p with
 | none=>exact slicePart_none h
 | int i t=>exact slicePart_int h
theorem zbd {sl:Addr} {vl vu:Value} {lo hi:Option Int} {n:Nat} {Q:Int×Int×Nat→Shared→Prop} (hs:s.heap.IsSliceOf sl vl vu .none) (pl:IsPart vl lo) (pu:IsPart vu hi)
  (h:Q (((sIx n 0 lo:Nat):Int),1,sIx n n hi - sIx n 0 lo) s):wpAny (model prog w) A (gu (.ref sl) (pure (n:Int))) Q E s:=by
 obtain⟨os,qu,xY,pY⟩:=id hs;unfold gu Builtin.Slice.sliceFields;refine ae (ae (cz qu pY (x:=vl) rfl (ae (cz qu pY (x:=vu) rfl (ae (cz qu pY (x:=.none) rfl (aj ?_)))))));refine ae (slicePart_none ?_);show wpAny _ _ (if ((1:Int) == 0)=true then _ else _) _ _ s;rw [if_neg #[D]];refine ae (zdq pl (ae (zdq pu (ae (aj ?_)))));show wpAny _ _ (match eR lo hi 1 (n:Int) with | (lo,hi)=>pure (lo,(1:Int),dn lo hi 1)) _ _ s;rw [zf7 lo hi n];show wpAny _ _ (pure (((sIx n 0 lo:Nat):Int),(1:Int),dn ((sIx n 0 lo:Nat):Int) ((sIx n n hi:Nat):Int) 1)) _ _ s;rw [zf8];exact aj h
theorem ziB (xs:Array Value) (i k:Nat):((aD k).filterMap fun (m:Nat)=>xs[((i:Int)+(m:Int)*1).toNat]?).toArray=((xs.toList.drop i).take k).toArray:=by
 have e:(fun (m:Nat)=>xs[((i:Int)+(m:Int)*1).toNat]?)=fun m=>xs[i+m]?:=by
  funext m;have:((i:Int)+(m:Int)*1).toNat=i+m:=by lia
  rw [this]
 rw [e];have:=pick_run xs i k;rw [eY] at this;have e2:((fun x=>xs[x]?) ∘ fun x=>i+x)=fun m=>xs[i+m]?:=rfl
 rw [e2] at this;rw [this]
theorem getItem_tuple_cut {t sl:Addr} {items:Array Value} {vl vu:Value} {lo hi:Option Int} {Q:Value→Shared→Prop} (ht:IsTup s.heap t items) (hs:s.heap.IsSliceOf sl vl vu .none) (pl:IsPart vl lo) (pu:IsPart vu hi)
  (hw:¬ (sIx items.size 0 lo=0∧sIx items.size items.size hi=items.size))
  (h:Q (.ref s.heap.objs.size) { s with heap:=s.heap.push { cls:=.type "tuple",data:=.seq ((items.toList.drop (sIx items.size 0 lo)).take (sIx items.size items.size hi - sIx items.size 0 lo)).toArray } })
  (hsz:items.size≤sizeLine):wpAny (model prog w) A (getItem (.ref t) (.ref sl)) Q E s:=by
 have o9:sizeOk (.seq ((items.toList.drop (sIx items.size 0 lo)).take (sIx items.size items.size hi - sIx items.size 0 lo)).toArray):=by
  show ((items.toList.drop (sIx items.size 0 lo)).take (sIx items.size items.size hi - sIx items.size 0 lo)).toArray.size≤sizeLine;rw [ai,aL,cM,aG];lia
 have hj:sIx items.size items.size hi≤items.size:=zlf _ _ (ag _) hi;obtain⟨os,qu,xY,pY⟩:=id hs;have yN:s.TypeIs (.ref sl) "slice":=⟨os,qu,xY⟩;unfold getItem
 try with_reducible refine bK ?_
 first | refine ae (aj ?_) | skip
 refine ae (wpAny_sequenceKey ht.typeIs #[D] ?_);refine ae (cb (name:=bT "__getitem__") ht.typeIs cR
  (cn cR ht.typeIs ji ?_ (jv _ _)))
 show wpAny _ _ (gv (.ref t) >>= _) _ _ s;refine ae (tupleItemsOf_ ht ?_);refine ae (gS yN ?_);rw [if_pos #[D]];refine ae (zbd hs pl pu ?_);have yO:¬ ((((sIx items.size 0 lo:Nat):Int) == 0 && (1:Int) == 1 && (sIx items.size items.size hi - sIx items.size 0 lo) == items.size)=true):=by
  intro q;rw [cc,cc] at q;have q1:((sIx items.size 0 lo:Nat):Int)=0:=eq_of_beq q.1.1;have q2:sIx items.size items.size hi - sIx items.size 0 lo=items.size:=eq_of_beq q.2;exact hw ⟨#[O],#[O]⟩
 show wpAny _ _ (if (((sIx items.size 0 lo:Nat):Int) == 0 && (1:Int) == 1 && (sIx items.size items.size hi - sIx items.size 0 lo) == items.size)=true then _ else _) _ _ s;rw [if_neg yO,ziB]
 first
  | exact ae (m:=dA _) (bN (aj ⟨_,rfl,aj h⟩) o9)
  | exact ae (m:=dA _) (bN (ae (aj (aj ⟨_,rfl,aj h⟩))) o9)
  | exact ae (ae (m:=dA _) (bN (aj (aj ⟨_,rfl,aj h⟩)) o9))
  | exact ae (ae (m:=dA _) (bN (aj ⟨_,rfl,aj h⟩) o9))
end
end HT
namespace L2
open PySem PySem.Spec PyProof.Rows
abbrev TO:=St→Hp→(Option Int→Hp→Prop)→Prop
def PO (X:Cx) (e:Option Expr) (t:TO):Prop :=
 ∀ (kN:List (Addr×Obj)) (s:Shared) (σ:St) (H:Hp) (Q:Option Int→Hp→Prop),Inv X kN σ H s→t σ H Q →
  wpAny (model X.prog X.w) X.A (evalPart e X.env) (fun u s'=>∃ o H',Inv X kN σ H' s'∧IsPart u o∧Q o H') X.xe s
def zj3:TO:=fun _ H Q=>Q none H
def zmd (t:TE):TO:=fun σ H Q=>t σ H fun x H1=>∃ i,x = .int i∧Q (some i) H1
theorem intsAre_of {ns:List Int}:∀ {us:List Value},zw (ns.map V.int) us→IntsAre us ns:=by
 induction ns with
 | nil=>intro us r; rw [jw] at r; cases r; exact .nil
 | cons n ns ih =>
  intro us r;rw [eK] at r;cases r with
  | cons r1 r2 =>
   obtain⟨t,e⟩:=r1;subst e;exact .cons n t (ih r2)
section
variable {X:Cx} {e:Expr} {te:TE} {lo hi:Option Expr} {tl th:TO} {pos p2:Pos}
theorem zc1:PO X none zj3:=by
 intro kN s σ H Q I h;rw [evalPart_none];exact aj ⟨none,H,I,.none,h⟩
theorem zbS (h:PE X e te):PO X (some e) (zmd te):=by
 intro kN s σ H Q I hw;rw [evalPart_some];refine thn (h kN s σ H _ I hw) fun u s1 ⟨x,H1,I1,r1,q1⟩=>?_
 obtain⟨i,rfl,q⟩:=q1;obtain⟨t,rfl⟩:=r1;exact⟨some i,H1,I1,.int i t,q⟩
def SlR (X:Cx) (r:V→Option Int→Option Int→Hp→VK→Prop):Prop :=
 ∀ (kN:List (Addr×Obj)) (s:Shared) (σ:St) (H:Hp) (x:V) (v vl vu:Value) (lo hi:Option Int) (sl:Addr) (Q:VK),Inv X kN σ H s→RelV x v→s.heap.IsSliceOf sl vl vu .none→IsPart vl lo→IsPart vu hi→r x lo hi H Q →
  ∃ T id,typeLookup (.type T) "__getitem__" = pure (some (.builtin id))∧s.TypeIs v T∧wpAny (model X.prog X.w) X.A (getItem v (.ref sl)) (EP X kN σ Q) X.xe s
def tSl (r:V→Option Int→Option Int→Hp→VK→Prop) (te:TE) (tl th:TO):TE:=fun σ H Q=>te σ H fun x H1=>tl σ H1 fun l H2=>th σ H2 fun u H3=>r x l u H3 Q
theorem zbE {r:V→Option Int→Option Int→Hp→VK→Prop} (hr:SlR X r) (he:PE X e te) (hl:PO X lo tl) (hu:PO X hi th):PE X (.Subscript e (.Slice lo hi none p2) pos) (tSl r te tl th):=by
 intro kN s σ H Q I h;refine Subscript_ (thn (he kN s σ H _ I h) fun v s1 ⟨x,H1,I1,r1,q1⟩=>?_);refine wpAny_Slice (thn (hl kN s1 σ H1 _ I1 q1) fun vl s2 ⟨l,H2,I2,pl,q2⟩=>thn (hu kN s2 σ H2 _ I2 q2) fun vu s3 ⟨u,H3,I3,pu,q3⟩=>?_);rw [evalPart_none];refine aj ?_;have I4:Inv X kN σ H3 { s3 with heap:=s3.heap.push { cls:=.type "slice",data:=.fields #[vl,vu,.none] } }:=I3.kept (t':=s3.toks) fun b ob q=>am _ q
 obtain⟨T,id,hT,ht,hg⟩:=hr kN { s3 with heap:=s3.heap.push { cls:=.type "slice",data:=.fields #[vl,vu,.none] } } σ H3 x v vl vu l u s3.heap.objs.size Q I4 r1 (Heap.IsSliceOf.new ..) pl pu q3;show wpAny (model X.prog X.w) X.A (subscriptTail e (.Slice lo hi none p2) v (.ref s3.heap.objs.size)) (EP X kN σ Q) X.xe { s3 with heap:=s3.heap.push { cls:=.type "slice",data:=.fields #[vl,vu,.none] } };exact tail_any (ops:=[.ref s3.heap.objs.size,v]) ht hT hg (by with_unfolding_all rfl)
def zbm (xs:List V) (lo hi:Option Int):List V:=(xs.drop (HT.sIx xs.length 0 lo)).take (HT.sIx xs.length xs.length hi - HT.sIx xs.length 0 lo)
theorem zcN (xs:List V) (lo hi:Option Int):(zbm xs lo hi).length≤xs.length:=by
 unfold zbm;rw [aL,cM];lia
def zmJ (K:af):V→Option Int→Option Int→Hp→VK→Prop:=fun x lo hi H Q=>∃ a xs,x = .ref a∧kT K H a xs ∧
 ¬ (HT.sIx xs.length 0 lo=0∧HT.sIx xs.length xs.length hi=xs.length)∧∀ p,H p=none→Q (.ref p) (kR H p (.tup (zbm xs lo hi)))
theorem zlg:SlR X (zmJ X.K):=by
 intro kN s σ H x v vl vu lo hi sl Q I rx hs pl pu h;obtain⟨a,xs,rfl,hx,hw,q⟩:=h;cases rx;obtain⟨kO,r,ht,hz⟩:=I.tuple hx;have kS:kO.toArray.size=xs.length:=by rw [ai]; exact r.length.symm
 refine⟨"tuple",_,PyProof.Rows.slot_tuple_getitem.lookup,ht.typeIs,?_⟩;refine HT.getItem_tuple_cut ht hs pl pu (by rw [kS]; exact hw) ?_ (by rw [kS]; exact hz);rw [kS];refine⟨.ref s.heap.objs.size,_,I.laid (t':=s.toks) (o:=.tup (zbm xs lo hi)) (fun b ob q=>am _ q) (ag _) ?_,rfl,q _ (I.hok.fresh (ag _))⟩;exact⟨bd (zcN xs lo hi) hz,_,(r.drop (HT.sIx xs.length 0 lo)).take (HT.sIx xs.length xs.length hi - HT.sIx xs.length 0 lo),ku _ _⟩
def zme (K:af):R2:=fun x y H Q=>∃ a b xs ys,x = .ref a∧y = .ref b∧kT K H a xs∧kT K H b ys∧xs≠[]∧xs.length+ys.length≤sizeLine ∧
 (ys = []→Q (.ref a) H)∧(ys≠[]→∀ p,H p=none→Q (.ref p) (kR H p (.tup (xs++ys))))
theorem zw.nil_iff {xs:List V} {us:List Value} (r:zw xs us):us = []↔xs = []:=by
 cases r with
 | nil=>simp
 | cons _ _=>simp
theorem zj4:OpR X (binaryOp .Add) (zme X.K):=by
 intro kN s σ H x y v u Q I rx ry h;obtain⟨a,b,xs,ys,rfl,rfl,ha,hb,hx,hz,q1,q2⟩:=h;cases rx;cases ry;obtain⟨kO,r1,p1,_⟩:=I.tuple ha;obtain⟨mv,r2,p2,_⟩:=I.tuple hb;refine HT.cat_tup p1 p2 (fun z=>hx (r1.nil_iff.mp z)) (fun z=>⟨.ref a,H,I,rfl,q1 (r2.nil_iff.mp z)⟩) (fun z=>?_) (by rw [← r1.length,← r2.length]; exact hz);refine⟨.ref s.heap.objs.size,_,I.laid (t':=s.toks) (o:=.tup (xs++ys)) (fun b ob q=>am _ q) (ag _) ?_,rfl,q2 (fun w=>z (r2.nil_iff.mpr w)) _ (I.hok.fresh (ag _))⟩;exact⟨by rw [aA]; exact hz,_,r1.append r2,ku _ _⟩
end
def ixN (n:Nat) (i:Int):Option Nat:=if 0≤i then (if i < n then some i.toNat else none) else if -(n:Int)≤i then some (i+n).toNat else none
def atI {α:Type} (xs:List α) (i:Int):Option α:=(ixN xs.length i).bind fun j=>xs[j]?
theorem zgH {n:Nat} {i:Int} {j:Nat} (h:ixN n i=some j):seqIndex? i n=some j∧j < n∧-(n:Int)≤i∧i < n:=by
 unfold ixN at h;by_cases h0:0≤i
 ·rw [if_pos h0] at h;by_cases h1:i < n
  ·rw [if_pos h1] at h;have e:i.toNat=j:=bf h;exact⟨by rw [gh h0 h1,e],#[O],#[O],h1⟩
  ·rw [if_neg h1] at h; cases h
 ·rw [if_neg h0] at h;by_cases h1:-(n:Int)≤i
  ·rw [if_pos h1] at h;have e:(i+n).toNat=j:=bf h;exact⟨by rw [jx #[O] h1,e],#[O],h1,#[O]⟩
  ·rw [if_neg h1] at h; cases h
theorem zgI {α:Type} {xs:List α} {i:Int} {v:α} (h:atI xs i=some v):∃ j,seqIndex? i xs.length=some j∧xs[j]? = some v∧j < xs.length∧-(xs.length:Int)≤i∧i < xs.length:=by
 unfold atI at h;cases e:ixN xs.length i with
 | none=>rw [e] at h; cases h
 | some j =>
  rw [e] at h;obtain⟨h1,h2,h3,h4⟩:=zgH e;exact⟨j,h1,h,h2,h3,h4⟩
theorem zaH {α:Type} {xs:List α} {j:Nat} {v:α} (h:xs[j]? = some v):atI xs (j:Int)=some v:=by
 have hj:j < xs.length:=(bg.mp h).1;have e:ixN xs.length (j:Int)=some j:=by
  unfold ixN;rw [if_pos #[O],if_pos #[O]]; simp
 unfold atI; rw [e]; exact h
def zj5 (b:Expr):Prop:=∀ o i,subscripted b false o i=operate [o,i] (getItem o i)
def IxR (X:Cx) (r:R2):Prop :=
 ∀ (value slice:Expr) (kN:List (Addr×Obj)) (s:Shared) (σ:St) (H:Hp) (x y:V) (v u:Value) (Q:VK),Inv X kN σ H s→RelV x v→RelV y u→r x y H Q →
  subscripted slice false v u=operate [v,u] (getItem v u)→wpAny (model X.prog X.w) X.A (subscriptTail value slice v u) (EP X kN σ Q) X.xe s
def MtR (X:Cx) (id:String) (r:V→List V→Hp→VK→Prop):Prop :=
 ∀ (kN:List (Addr×Obj)) (s:Shared) (σ:St) (H:Hp) (x:V) (xs:List V) (v:Value) (us:List Value) (Q:VK),Inv X kN σ H s→RelV x v→zw xs us→r x xs H Q →
  wpAny (model X.prog X.w) X.A (call (.builtin id) (v :: us)) (EP X kN σ Q) X.xe s
section
variable {X:Cx} {a b:Expr} {ta tb:TE} {pos:Pos}
theorem zI {r:R2} (hr:IxR X r) (ha:PE X a ta) (hb:PE X b tb) (hs:zj5 b):PE X (.Subscript a b pos) (tOp r ta tb):=by
 intro kN s σ H Q I h;exact Subscript_ (zla ha hb I h fun v u s2 x y H2 I2 rx ry q=>hr a b kN s2 σ H2 x y v u Q I2 rx ry q (hs _ _))
def zmf (K:af):R2:=fun x y H Q=>∃ p xs i v,x = .ref p∧y = .int i∧kP K H p xs∧atI xs i=some v∧Q v H
def zmK (K:af):R2:=fun x y H Q=>∃ p xs i v,x = .ref p∧y = .int i∧kT K H p xs∧atI xs i=some v∧Q v H
theorem zq:IxR X (zmf X.K):=by
 intro value slice kN s σ H x y v u Q I rx ry h hs;obtain⟨p,xs,i,z,rfl,rfl,hq,he,q⟩:=h;cases rx;obtain⟨t,rfl⟩:=ry;obtain⟨kO,r,pl,hz⟩:=I.list hq;obtain⟨j,h1,h2,h3,h4,h5⟩:=zgI he;obtain⟨w,ew,vQ⟩:=r.get h2;have hl:=r.length;have hn:=zdp;have fin:EP X kN σ Q w s:=⟨z,H,I,vQ,q⟩;by_cases h0:0≤i
 ·have hj:i.toNat=j:=by
   rw [gh h0 h5] at h1;exact bf h1
  exact item_listR pl.isList h0 #[O] (by rw [hj]; simpa using ew) fin hs
 ·have hj:(i+(kO.toArray.size:Int)).toNat=j:=by
   rw [jx #[O] h4] at h1;rw [ai,← hl];exact bf h1
  exact iB (x:=w) pl.isList.typeIs slot_list_getitem.lookup
   (wpAny_getItem_list_neg (Q:=fun r s'=>r=w∧EP X kN σ Q r s') pl.isList #[O] (by rw [ai] <;> lia) #[O] (by rw [hj]; simpa using ew) ⟨rfl,fin⟩) hs
theorem zf9:IxR X (zmK X.K):=by
 intro value slice kN s σ H x y v u Q I rx ry h hs;obtain⟨p,xs,i,z,rfl,rfl,hq,he,q⟩:=h;cases rx;obtain⟨t,rfl⟩:=ry;obtain⟨kO,r,pl,hz⟩:=I.tuple hq;obtain⟨j,h1,h2,h3,h4,h5⟩:=zgI he;obtain⟨w,ew,vQ⟩:=r.get h2;have hl:=r.length;have hn:=zdp;have fin:EP X kN σ Q w s:=⟨z,H,I,vQ,q⟩;exact iB (x:=w) pl.typeIs slot_tuple_getitem.lookup
  (getItem_tuple (j:=j) (Q:=fun r s'=>r=w∧EP X kN σ Q r s') pl #[O] #[O] (by rw [ai,← hl]; exact h1) (by simpa using ew) ⟨rfl,fin⟩) hs
theorem zga (kO:List Value) (n j:Nat) (u:Value):cT (·.setIfInBounds j u) { cls:=.type "list",data:=.seq kO.toArray n } = { cls:=.type "list",data:=.seq (kO.set j u).toArray n }:=by
 simp [cT]
theorem Inv.lst {kN:List (Addr×Obj)} {σ:St} {H:Hp} {s:Shared} {p:Addr} {xs:List V} (I:Inv X kN σ H s) (h:H p=some (.lst xs)) :
  ∃ (kO:List Value) (n:Nat),zw xs kO∧s.heap.get? p=some { cls:=.type "list",data:=.seq kO.toArray n }∧xs.length≤sizeLine:=by
 obtain⟨z,kO,n,r,e⟩:=I.hok p _ h;exact⟨kO,n,r,e,z⟩
theorem Inv.lstUpd {kN:List (Addr×Obj)} {σ:St} {H:Hp} {s:Shared} {p:Addr} {xs ys:List V} {kO its':List Value} {n n':Nat} {f:Obj→Obj} (I:Inv X kN σ H s) (h:H p=some (.lst xs))
  (ho:s.heap.get? p=some { cls:=.type "list",data:=.seq kO.toArray n }) (hf:f { cls:=.type "list",data:=.seq kO.toArray n } = { cls:=.type "list",data:=.seq its'.toArray n' }) (r:zw ys its') (hz:ys.length≤sizeLine) (t:Nat) :
  Inv X kN σ (kR H p (.lst ys)) { s with heap:=s.heap.update p f,toks:=t }:=by
 have e:(s.heap.update p f).get? p=some { cls:=.type "list",data:=.seq its'.toArray n' }:=by
  rw [cm f ho (by rw [hf] <;> rfl),hf]
 refine I.write (x:=p) (e:=p) (by rw [h]; trivial) (.inl rfl) (fun b u hb q=>(bW _ _ (cJ hb)).trans q) ⟨_,e⟩ ?_;exact⟨hz,its',n',r,e⟩
def zmg:V→V→V→Hp→(Hp→Prop)→Prop:=fun o i v H Q=>∃ p xs k j,o = .ref p∧i = .int k∧H p=some (.lst xs)∧ixN xs.length k=some j∧Q (kR H p (.lst (xs.set j v)))
theorem set_list:zl3 X zmg:=by
 intro kN s σ H o i v ov iv u Q I ro ri rv h;obtain⟨p,xs,k,j,rfl,rfl,hp,hj,q⟩:=h;cases ro;obtain⟨t,rfl⟩:=ri;obtain⟨kO,n,r,ho,hz⟩:=I.lst hp;obtain⟨h1,h2,h3,h4⟩:=zgH hj;have hl:=r.length;have hn:=zdp;have I':Inv X kN σ (kR H p (.lst (xs.set j v))) { s with heap:=s.heap.update p (cT (·.setIfInBounds j u)) } :=
  I.lstUpd hp ho (zga kO n j u) (r.set rv j) (by rw [cH]; exact hz) s.toks
 by_cases h0:0≤k
 ·have hk:k.toNat=j:=by
   rw [gh h0 h4] at h1;exact bf h1
  exact PySem.W.ki_setAt ho h0 #[O] (by rw [ai,← hl]; exact h4) (by rw [hk]; exact⟨_,I',q⟩)
 ·have hk:(k+(kO.toArray.size:Int)).toNat=j:=by
   rw [jx #[O] h3] at h1;rw [ai,← hl];exact bf h1
  exact PySem.W.ki_setBack ho #[O] (by rw [ai,← hl]; exact h3) #[O] (by rw [hk]; exact⟨_,I',q⟩)
theorem zeC (lo hi:Option Int) (n:Nat):(sliceBounds lo hi none n).1=((HT.sIx n 0 lo:Nat):Int)∧(sliceBounds lo hi none n).2.1=((HT.sIx n n hi:Nat):Int)∧(sliceBounds lo hi none n).2.2=1:=by
 refine⟨?_,?_,rfl⟩
 ·cases lo with
  | none=>simp [sliceBounds,HT.sIx]
  | some i =>
   simp only [sliceBounds,HT.sIx,jU,show (1:Int) > 0 by decide,if_true];by_cases h:i < 0
   ·simp only [h,if_true] <;> lia
   ·simp only [h,if_false] <;> lia
 ·cases hi with
  | none=>simp [sliceBounds,HT.sIx]
  | some i =>
   simp only [sliceBounds,HT.sIx,jU,show (1:Int) > 0 by decide,if_true];by_cases h:i < 0
   ·simp only [h,if_true] <;> lia
   ·simp only [h,if_false] <;> lia
theorem zdR (kO:List Value) (lo hi:Option Int):slicePick kO.toArray lo hi none=((kO.drop (HT.sIx kO.length 0 lo)).take (HT.sIx kO.length kO.length hi - HT.sIx kO.length 0 lo)).toArray:=by
 obtain⟨h1,h2,h3⟩:=zeC lo hi kO.toArray.size;unfold slicePick;rw [h1,h2,h3];simp only [sliceRange_one,pick_run,ai] <;> rfl
def zmh (K:af):V→Option Int→Option Int→Hp→VK→Prop:=fun x lo hi H Q=>∃ a xs,x = .ref a∧kP K H a xs∧∀ p,H p=none→Q (.ref p) (kR H p (.lst (zbm xs lo hi)))
theorem zc2:SlR X (zmh X.K):=by
 intro kN s σ H x v vl vu lo hi sl Q I rx hs pl pu h;obtain⟨a,xs,rfl,hx,q⟩:=h;cases rx;obtain⟨kO,r,ht,hz⟩:=I.list hx;have kS:=r.length;refine⟨"list",_,slot_list_getitem.lookup,ht.isList.typeIs,?_⟩;refine wpAny_getItem_list_slice ht.isList hs pl pu .none #[M] ?_ (by rw [ai] <;> lia);rw [zdR,← kS];refine⟨.ref s.heap.objs.size,_,I.laid (t':=s.toks) (o:=.lst (zbm xs lo hi)) (fun b ob q=>am _ q) (ag _) ?_,rfl,q _ (I.hok.fresh (ag _))⟩;exact⟨bd (zcN xs lo hi) hz,_,0,(r.drop (HT.sIx xs.length 0 lo)).take (HT.sIx xs.length xs.length hi - HT.sIx xs.length 0 lo),aK _ rfl⟩
def zec:V→Bool
 | .non=>true
 | .bl _=>true
 | .int _=>true
 | .str _=>true
 | _=>false
def eqV:V→V→Bool
 | .non,.non=>true
 | .bl a,.bl b=>a == b
 | .bl a,.int b=>(if a then 1 else 0) == b
 | .int a,.bl b=>a == (if b then 1 else 0)
 | .int a,.int b=>a == b
 | .str a,.str b=>a == b
 | _,_=>false
theorem zlh {A:Around} {s:Shared} {y x:V} {u v:Value} (ry:RelV y u) (rx:RelV x v) (fy:zec y=true) (fx:zec x=true):SeqAt.EqAt A s u v (eqV y x):=by
 cases y with
 | non =>
  cases ry;cases x with
  | non=>cases rx; exact j6 _
  | bl b=>cases rx; exact SeqAt.EqAt.none_bool b
  | int b=>obtain⟨t,rfl⟩:=rx; exact SeqAt.EqAt.none_int b t
  | str b=>obtain⟨t,rfl⟩:=rx; exact SeqAt.EqAt.none_str b t
  | _=>exact absurd (show false=true from fx) aR
 | bl a =>
  cases ry;cases x with
  | non=>cases rx; exact SeqAt.EqAt.bool_none a
  | bl b=>cases rx; exact SeqAt.EqAt.bool_bool a b
  | int b=>obtain⟨t,rfl⟩:=rx; exact SeqAt.EqAt.bool_int a b t
  | str b=>obtain⟨t,rfl⟩:=rx; exact SeqAt.EqAt.bool_str a b t
  | _=>exact absurd (show false=true from fx) aR
 | int a =>
  obtain⟨t',rfl⟩:=ry;cases x with
  | non=>cases rx; exact SeqAt.EqAt.int_none a t'
  | bl b=>cases rx; exact SeqAt.EqAt.int_bool a t' b
  | int b=>obtain⟨t,rfl⟩:=rx; exact SeqAt.EqAt.int_int a t' b t
  | str b=>obtain⟨t,rfl⟩:=rx; exact jp a t' b t
  | _=>exact absurd (show false=true from fx) aR
 | str a =>
  obtain⟨t',rfl⟩:=ry;cases x with
  | non=>cases rx; exact SeqAt.EqAt.str_none a t'
  | bl b=>cases rx; exact SeqAt.EqAt.str_bool a t' b
  | int b=>obtain⟨t,rfl⟩:=rx; exact jq a t' b t
  | str b=>obtain⟨t,rfl⟩:=rx; exact SeqAt.EqAt.str_str a t' b t
  | _=>exact absurd (show false=true from fx) aR
 | _=>exact absurd (show false=true from fy) aR
theorem zm:zaD X (.builtin "len") (fun xs H Q=>∃ p ys,xs = [.ref p]∧(kP X.K H p ys∨kT X.K H p ys)∧Q (.int ys.length) H):=by
 intro kN s σ H xs us Q I r h;obtain⟨p,ys,rfl,hq,q⟩:=h;obtain⟨u,rfl,rx⟩:=vals1 r;cases rx;have hn:=zdp;rcases hq with hq | hq
 ·obtain⟨kO,r',pl,hz⟩:=I.list hq;have kS:=r'.length;exact Calls.call_len_list pl.isList (by simp only [ai] <;> lia) ⟨.int ys.length,H,I.tok _,⟨s.toks+1,by rw [ai,kS]⟩,q⟩
 ·obtain⟨kO,r',pl,hz⟩:=I.tuple hq;have kS:=r'.length;exact len_tuple pl (by simp only [ai] <;> lia) ⟨.int ys.length,H,I.tok _,⟨s.toks+1,by rw [ai,kS]⟩,q⟩
theorem zaA:zaD X (.type "list") (fun xs H Q=>∃ p ys,xs = [.ref p]∧(kP X.K H p ys∨kT X.K H p ys)∧∀ l,H l=none→Q (.ref l) (kR H l (.lst ys))):=by
 intro kN s σ H xs us Q I r h;obtain⟨p,ys,rfl,hq,q⟩:=h;obtain⟨u,rfl,rx⟩:=vals1 r;cases rx;have fin:∀ (kO:List Value),zw ys kO→ys.length≤sizeLine→∀ (h':Heap) (c':Nat),(∀ b o',s.heap.get? b=some o'→h'.get? b=some o') →
   h'.get? s.heap.objs.size=some { cls:=.type "list",dict:=none,data:=.seq kO.toArray c',slots:=#[] }→EP X kN σ Q (.ref s.heap.objs.size) { s with heap:=h' }:=fun kO r' hz h' c' kp e =>
  ⟨.ref s.heap.objs.size,_,I.laid (t':=s.toks) kp (ag _) (show zai X.prog X.w _ h' _ (.lst ys) from ⟨hz,kO,c',r',e⟩),rfl,q _ (I.hok.fresh (ag _))⟩
 rcases hq with hq | hq
 ·obtain⟨kO,r',pl,hz⟩:=I.list hq;have kS:=r'.length;obtain⟨o,ho,hc,n,hd⟩:=pl.isList;exact call_list_seq p (.inl rfl) ho hc hd (fun h' c' kp e=>fin kO r' hz h' c' kp e) (by simp only [ai] <;> lia)
 ·obtain⟨kO,r',pl,hz⟩:=I.tuple hq;have kS:=r'.length;obtain⟨o,ho,hc,n,hd⟩:=pl;exact call_list_seq p (.inr rfl) ho hc hd (fun h' c' kp e=>fin kO r' hz h' c' kp e) (by simp only [ai] <;> lia)
theorem zam:zaD X (.type "tuple") (fun xs H Q=>∃ p ys,xs = [.ref p]∧((kP X.K H p ys∧∀ l,H l=none→Q (.ref l) (kR H l (.tup ys)))∨(kT X.K H p ys∧Q (.ref p) H))):=by
 intro kN s σ H xs us Q I r h;obtain⟨p,ys,rfl,h⟩:=h;obtain⟨u,rfl,rx⟩:=vals1 r;cases rx;rcases h with ⟨hq,q⟩ | ⟨hq,q⟩
 ·obtain⟨kO,r',pl,hz⟩:=I.list hq;have kS:=r'.length;refine call_tuple_list pl.isList (fun h' kp=>?_) (by simp only [ai] <;> lia);have I1:Inv X kN σ H { s with heap:=h' }:=I.kept (t':=s.toks) kp;have I2:Inv X kN σ (kR H h'.objs.size (.tup ys)) { s with heap:=h'.push { cls:=.type "tuple",data:=.seq kO.toArray } } :=
   I1.laid (t':=s.toks) (fun b o e=>am _ e) (ag _) (show zai X.prog X.w _ _ _ (.tup ys) from ⟨hz,kO,r',ku _ _⟩)
  exact⟨.ref h'.objs.size,_,I2,rfl,q _ (I1.hok.fresh (ag _))⟩
 ·obtain⟨kO,r',pl,hz⟩:=I.tuple hq;exact call_tuple_same pl ⟨.ref p,H,I,rfl,q⟩
def tyV (K:af) (T:String) (x:V) (H:Hp):Prop:=match x with
 | .str _=>T = "str"
 | .int _=>T = "int"
 | .ref p=>(T = "list"∧∃ xs,kP K H p xs)∨(T = "tuple"∧∃ o,K.lookup p=some o∧o.cls = .type "tuple"∧o.dict=none) ∨
   (T = "dict"∧((∃ lK,H p=some (.dK lK))∨∃ lK,H p=some (.dT lK)))∨(T = "set"∧∃ S n,H p=some (.set S n))
 | _=>False
theorem zli {kN:List (Addr×Obj)} {σ:St} {H:Hp} {s:Shared} {T:String} {x:V} {v:Value} (I:Inv X kN σ H s) (r:RelV x v) (ty:tyV X.K T x H) :
  s.TypeIs v T∧∀ a,v = .ref a→∃ ob,s.heap.get? a=some ob∧ob.dict=none:=by
 cases x with
 | str z =>
  obtain⟨t,rfl⟩:=r;cases (show T = "str" from ty);exact⟨typeIs_str s z t,fun _ e=>nomatch e⟩
 | int i =>
  obtain⟨t,rfl⟩:=r;cases (show T = "int" from ty);exact⟨j7 s i t,fun _ e=>nomatch e⟩
 | ref p =>
  cases r;rcases ty with ⟨rfl,xs,hq⟩ | ⟨rfl,o,hk,hc,hd⟩ | ⟨rfl,hk⟩ | ⟨rfl,S,n,hk⟩
  ·obtain⟨kO,_,pl,_⟩:=I.list hq;refine⟨pl.isList.typeIs,fun a e=>?_⟩;cases e;obtain⟨o,n,e,c,hd,_⟩:=pl;exact⟨o,e,hd⟩
  ·refine⟨⟨o,I.kIn p o hk,hc⟩,fun a e=>?_⟩;cases e;exact⟨o,I.kIn _ o hk,hd⟩
  ·have z:∃ o,s.heap.get? p=some o∧o.ExactDict:=by
    rcases hk with ⟨lK,hk⟩ | ⟨lK,hk⟩
    ·obtain⟨_,_,_,_,o,_,_,e,ex,_⟩:=I.hok p _ hk;exact⟨o,e,ex⟩
    ·obtain⟨_,_,_,_,o,_,_,e,ex,_⟩:=I.hok p _ hk;exact⟨o,e,ex⟩
   obtain⟨o,e,ex⟩:=z;refine⟨⟨o,e,ex.1⟩,fun a e2=>?_⟩;cases e2;exact⟨o,e,ex.2.1⟩
  ·obtain⟨o,_,_,_,e,ex,_⟩:=I.hok p _ hk;refine⟨⟨o,e,ex.1⟩,fun a e2=>?_⟩;cases e2;exact⟨o,e,ex.2.1⟩
 | _=>exact dk ty
def tBM (K:af) (T:String) (r:V→List V→Hp→VK→Prop) (to:TE) (t:TA):TE:=fun σ H Q=>to σ H fun x H1=>tyV K T x H1∧t σ H1 fun xs H2=>r x xs H2 Q
variable {o e:Expr} {es:List Expr} {to:TE} {t:TA} {name:Str} {apos mw:Pos} {T id:String} {r:V→List V→Hp→VK→Prop}
theorem zed (pa:PlainAttrs T) (slot:Slot T name id) (yP:typeOf (.builtin id)=pure (.type "method_descriptor")) (hm:MtR X id r) (ho:PE X o to) (ha:PA X (e :: es) t)
  (qv:attributeBase o name X.env (eval o X.env)=eval o X.env:=by rfl)
  (uc:((backTo mw (starEach (e :: es) X.env)).all (fun x=>!x.1) && (backToKw mw (keywordEach [] X.env)).all (fun x=>x.1.isSome)
   && decide ((e :: es).length+([]:List Keyword).length+(if ([]:List Keyword).isEmpty then 0 else 1) < 30))=true:=by rfl)
  (qw:(apos.endLine == mw.line)=true:=by rfl) (hs:starEach (e :: es) X.env=(false,eval e X.env) :: starEach es X.env:=by rfl) (oF:(backTo mw (starEach es X.env)).any (·.1)=false:=by rfl) :
  PE X (.Call (.Attribute o name apos) (e :: es) [] mw) (tBM X.K T r to t):=by
 intro kN s σ H Q I h;refine wpAny_Call_method_late qv uc qw rfl (thn (ho kN s σ H _ I h) fun v s1 ⟨x,H1,I1,r1,ty,q1⟩=>?_);obtain⟨h1,h2⟩:=zli I1 r1 ty;refine⟨T,id,pa,slot,yP,h1,h2,?_⟩;have hA:=ha mw kN s1 σ H1 _ I1 q1;rw [hs] at hA ⊢;refine Calls.callWith_builtin (by show (false || (backTo mw (starEach es X.env)).any (·.1))=false; rw [oF] <;> rfl) (Calls.evalArgs_plain ?_);exact thn hA fun us s2 ⟨vs,H2,I2,r2,q2⟩=>hm kN s2 σ H2 x vs v us Q I2 r1 r2 q2
end
def MtM (X:Cx) (id:String) (r:V→List V→Hp→VK→Prop):Prop :=
 ∀ (kN:List (Addr×Obj)) (s:Shared) (σ:St) (H:Hp) (x:V) (xs:List V) (v:Value) (us:List Value) (Q:VK),Inv X kN σ H s→RelV x v→zw xs us→r x xs H Q →
  wpAny (model X.prog X.w) X.A (call (.builtin id) (v :: us)) (EP X kN σ Q) X.xe s
theorem zw.one:∀ {x:V} {us:List Value},zw [x] us→∃ u,us = [u]∧RelV x u
 | _,_,.cons r .nil=>⟨_,rfl,r⟩
theorem zw.eraseIdx:∀ {xs:List V} {us:List Value} (i:Nat),zw xs us→zw (xs.eraseIdx i) (us.eraseIdx i)
 | _,_,_,.nil=>.nil
 | _,_,0,.cons _ t=>t
 | _,_,i+1,.cons r t=>.cons r (zw.eraseIdx i t)
theorem zw.rep {xs:List V} {us:List Value} (h:zw xs us):∀ k:Nat,zw (ap k xs).flatten (ap k us).flatten
 | 0=>.nil
 | k+1=>by
  rw [c6,c6,fA,fA];exact zw.append h (zw.rep h k)
theorem zee {α:Type}:∀ (l:List α) (i:Nat),(l.eraseIdx i).length≤l.length
 | [],_=>ag _
 | _ :: _,0=>iC _
 | _ :: r,i+1=>Nat.succ_le_succ (zee r i)
theorem foldl_rep (kO:List Value):∀ (k:Nat) (acc:List Value),
  j8 (fun x1 x2=>x1++x2) acc.toArray (ap k kO.toArray)=(acc++(ap k kO).flatten).toArray
 | 0,acc=>by simp
 | k+1,acc=>by
  have e:acc.toArray++kO.toArray=(acc++kO).toArray:=by simp
  have e2:(acc++kO)++(ap k kO).flatten=acc++(ap (k+1) kO).flatten:=by
   rw [c6,fA,bm]
  rw [← e2,← foldl_rep kO k (acc++kO),← e,c6,j9]
section
variable {X:Cx} {kN:List (Addr×Obj)} {σ:St} {H:Hp} {s:Shared} {l b:Addr} {xs ys zs:List V}
theorem Inv.lset {kO its':List Value} {n:Nat} {f:Array Value→Array Value} {t':Nat} (I:Inv X kN σ H s) (hH:H l=some (.lst xs))
  (e:s.heap.get? l=some { cls:=.type "list",data:=.seq kO.toArray n }) (hf:f kO.toArray=its'.toArray) (hv:zw ys its') (hz:ys.length≤sizeLine) :
  Inv X kN σ (kR H l (.lst ys)) { s with heap:=s.heap.update l (cT f),toks:=t' }:=by
 have q:=jV e f;rw [hf] at q;refine I.write (x:=l) (e:=l) (by rw [hH]; exact trivial) (.inl rfl) (fun b' u hb hu=>(bW s.heap (cT f) (cJ hb)).trans hu) ⟨_,q⟩ ?_;exact⟨hz,its',_,hv,q⟩
theorem Inv.lnew {kO:List Value} {t':Nat} (I:Inv X kN σ H s) (hv:zw ys kO) (hz:ys.length≤sizeLine) :
  Inv X kN σ (kR H s.heap.objs.size (.lst ys)) { s with heap:=s.heap.push { cls:=.type "list",data:=.seq kO.toArray },toks:=t' } :=
 I.laid (fun _ _ q=>am _ q) (ag _) ⟨hz,kO,0,hv,aK _ rfl⟩
theorem Inv.fresh (I:Inv X kN σ H s):H s.heap.objs.size=none:=I.hok.fresh (ag _)
theorem Inv.lstM (I:Inv X kN σ H s) (hH:H l=some (.lst xs)):xs.length≤sizeLine∧∃ (kO:List Value) (n:Nat),zw xs kO∧xs.length=kO.length∧s.heap.get? l=some { cls:=.type "list",data:=.seq kO.toArray n }:=by
 obtain⟨z,kO,n,r,e⟩:=I.hok l _ hH;exact⟨z,kO,n,r,r.length,e⟩
theorem zfj {n:Nat} (h:n≤sizeLine):dB n=false:=by
 unfold dB;exact decide_eq_false #[O]
end
section
variable {X:Cx}
def zgJ:V→List V→Hp→VK→Prop:=fun x vs H Q=>∃ l xs y,x = .ref l∧vs = [y]∧H l=some (.lst xs)∧xs.length < sizeLine∧Q .non (kR H l (.lst (xs++[y])))
theorem zbT:MtM X "list.append" zgJ:=by
 intro kN s σ H x vs v us Q I rx rv h;obtain⟨l,xs,y,rfl,rfl,hH,hz,q⟩:=h;cases rx;obtain⟨u,rfl,ru⟩:=rv.one;obtain⟨z,kO,n,r,hl,e⟩:=I.lstM hH;refine fh jy ⟨_,e,rfl⟩ jj (iU _ _) (jI l kO.toArray n u (by rw [ai]; lia)) ⟨e,?_⟩;refine⟨.non,_,I.lset (its':=kO++[u]) hH e #[M] (r.append (.cons ru .nil)) ?_,rfl,q⟩;rw [aA,fR];lia
def zj6:V→List V→Hp→VK→Prop:=fun x vs H Q=>∃ l b xs zs,x = .ref l∧vs = [.ref b]∧H l=some (.lst xs)∧H b=some (.lst zs)∧xs.length+zs.length≤sizeLine∧Q .non (kR H l (.lst (xs++zs)))
theorem zhz:MtM X "list.extend" zj6:=by
 intro kN s σ H x vs v us Q I rx rv h;obtain⟨l,b,xs,zs,rfl,rfl,hH,hB,hz,q⟩:=h;cases rx;obtain⟨u,rfl,ru⟩:=rv.one;cases ru;obtain⟨z,kO,n,r,hl,e⟩:=I.lstM hH;obtain⟨z2,mv,n2,r2,rV,e2⟩:=I.lstM hB;have hsz:kO.toArray.size+mv.toArray.size≤sizeLine:=by rw [ai,ai]; lia
 have qz:¬ (!kO.toArray.isEmpty && dB (kO.toArray.size+mv.toArray.size))=true:=by
  rw [zfj hsz,gd];exact aR
 refine fh F.slot_list_extend ⟨_,e,rfl⟩ F.entry_list_extend (F.args_list_extend_2 _ _)
  (AutoSeq1.list_extend_list_list_0 l kO.toArray n b mv.toArray n2 qz (by rw [ai]; lia) #[O]) ⟨e,e2,?_⟩
 refine⟨.non,_,I.lset (its':=kO++mv) hH e #[M] (r.append r2) ?_,rfl,q⟩;rw [aA];lia
def zlj:V→List V→Hp→VK→Prop:=fun x vs H Q=>∃ l xs i k y,x = .ref l∧vs = [.int i]∧H l=some (.lst xs)∧-(2 ^ 63)≤i∧i < 2 ^ 63∧seqIndex? i xs.length=some k∧xs[k]? = some y∧Q y (kR H l (.lst (xs.eraseIdx k)))
theorem ziC:MtM X "list.pop" zlj:=by
 intro kN s σ H x vs v us Q I rx rv h;obtain⟨l,xs,i,k,y,rfl,rfl,hH,h1,h2,hk,hy,q⟩:=h;cases rx;obtain⟨u,rfl,ru⟩:=rv.one;obtain⟨t,rfl⟩:=ru;obtain⟨z,kO,n,r,hl,e⟩:=I.lstM hH;obtain⟨w,hw,vQ⟩:=r.get hy;refine fh F.slot_list_pop ⟨_,e,rfl⟩ F.entry_list_pop (F.args_list_pop_2 _ _)
  (MeetsSeq.list_pop_at l kO.toArray n i t k w (fitsIndex_both h1 h2) (by rw [ai,← hl]; exact hk) (by rw [← be]; exact hw) (by rw [ai]; lia)) ⟨e,?_⟩
 refine⟨y,_,I.lset (its':=kO.eraseIdx k) hH e ?_ (r.eraseIdx k) ?_,vQ,q⟩
 ·show kO.toArray.eraseIdxIfInBounds k=(kO.eraseIdx k).toArray;rw [List.eraseIdxIfInBounds_toArray]
 ·have:=zee xs k;lia
def zmL:R2:=fun x y H Q=>∃ l b xs zs,x = .ref l∧y = .ref b∧H l=some (.lst xs)∧H b=some (.lst zs)∧xs.length+zs.length≤sizeLine∧∀ p,H p=none→Q (.ref p) (kR H p (.lst (xs++zs)))
theorem zeD:OpR X (binaryOp .Add) zmL:=by
 intro kN s σ H x y v u Q I rx ry h;obtain⟨l,b,xs,zs,rfl,rfl,hH,hB,hz,q⟩:=h;cases rx;cases ry;obtain⟨z,kO,n,r,hl,e⟩:=I.lstM hH;obtain⟨z2,mv,n2,r2,rV,e2⟩:=I.lstM hB;refine PySem.P.add_list e e2 ?_ (by rw [ai,ai]; lia);have ea:kO.toArray++mv.toArray=(kO++mv).toArray:=by simp
 rw [ea];exact⟨.ref _,_,I.lnew (t':=s.toks) (r.append r2) (by rw [aA]; lia),rfl,q _ I.fresh⟩
def zj7:R2:=fun x y H Q=>∃ l k xs,x = .ref l∧y = .int k∧H l=some (.lst xs)∧-(2 ^ 63)≤k∧k < 2 ^ 63∧xs.length*k.toNat≤sizeLine ∧
 ∀ p,H p=none→Q (.ref p) (kR H p (.lst (ap k.toNat xs).flatten))
theorem len_rep {α:Type} (xs:List α) (k:Nat):(ap k xs).flatten.length=k*xs.length:=by
 induction k with
 | zero=>simp
 | succ k ih=>rw [c6,fA,aA,ih,dW,Nat.add_comm]
theorem zbF:OpR X (binaryOp .Mult) zj7:=by
 intro kN s σ H x y v u Q I rx ry h;obtain⟨l,k,xs,rfl,rfl,hH,h1,h2,hz,q⟩:=h;cases rx;obtain⟨t,rfl⟩:=ry;obtain⟨z,kO,n,r,hl,e⟩:=I.lstM hH;have kS:kO.toArray.size*k.toNat≤sizeLine:=by rw [ai,← hl]; exact hz
 have yQ:¬ kO.toArray.size*k.toNat > (2 ^ 63 - 1) / 8:=by
  have:(sizeLine:Nat)≤(2 ^ 63 - 1) / 8:=by decide
  lia
 have rW:¬ (!Builtin.List.listFitsIndex k)=true:=by
  rw [fitsIndex_both h1 h2];exact aR
 have qz:¬ dB (kO.toArray.size*k.toNat)=true:=by
  rw [zfj kS];exact aR
 have qA:j8 (fun x1 x2=>x1++x2) #[] (ap (if kO.toArray.isEmpty=true then 0 else k.toNat) kO.toArray)=(ap k.toNat kO).flatten.toArray:=by
  have f0:∀ m:Nat,j8 (fun x1 x2=>x1++x2) #[] (ap m kO.toArray)=(ap m kO).flatten.toArray:=fun m=>by
   have:=foldl_rep kO m [];rw [kb] at this;exact this
  rw [f0];cases kO with
  | nil=>simp
  | cons a r'=>rw [if_neg #[M]]
 refine wpAny_binaryOp_repeat_ref (T:="list") (U:="int") #[D] ⟨_,e,rfl⟩ (fun s'=>j7 s' k t) noFill_list_mul F.fills_int_mul F.slot_int_rmul repeat_list F.slot_int_index.lookup
  (fh F.slot_int_rmul (j7 s k t) F.entry_int_rmul (F.args_int_rmul_2 _ _) (int___rmul___int_list k t l kO.toArray n)
   ⟨e,rfl,⟨_,e,rfl⟩,fh F.slot_list_mul ⟨_,e,rfl⟩ F.entry_list_mul (F.args_list_mul_2 _ _) (AutoListH.list___mul___list_int_3 l kO.toArray n k t rW yQ qz) ⟨e,?_⟩⟩)
 rw [qA];exact⟨.ref _,_,I.lnew (t':=s.toks) (r.rep k.toNat) (by rw [len_rep,Nat.mul_comm]; exact hz),rfl,q _ I.fresh⟩
end
end L2
namespace Att
open PySem PySem.W PySem.Calls PyProof.Rows
theorem zcX {P:Params} {h:Heap}:∀ (ns:List Int) (vs:List Value),WellAll P h vs (ns.map WData.int)→IntsAre vs ns:=by
 intro ns;induction ns with
 | nil =>
  intro vs w;rw [jw] at w;cases w;exact .nil
 | cons n ns ih =>
  intro vs w;rw [eK] at w;cases w with
  | cons a b =>
   cases a;exact .cons _ _ (ih _ b)
theorem zhA {l:OpenLaw} {n:Nat} (hn:l.most=some n) {P:Params} {h:Heap} {args:List WData} {vals:List Value}
  (rX:l.row.toRowW.claim.pre args=true) (yR:WellAll P h vals args) :
  ∃ a vs ns,vals = [aZ a]∧args = [WData.list (ns.map WData.int)]∧h.get? a=some { cls:=.type "list",data:=.seq vs.toArray }∧IntsAre vs ns∧ns.length≤n:=by
 have hsh:WShape.hasAll [] args [.list .int]=true:=(pre_splitW rX).1;have hc:l.pre.holds [] { args:=args }=true:=(pre_splitW rX).2;obtain⟨d,r,rfl,h1,h2⟩:=hasAllW_cons hsh;obtain rfl:=hasAllW_nil h2;obtain⟨xs,rfl,h3⟩:=hasW_list h1;obtain⟨ns,rfl⟩:=items_int h3;have kS:ns.length≤n:=by
  unfold OpenLaw.pre at hc;have h4:(WTm.not (.lt (.lit (.int (n:Int))) (.len (.arg 0)))).holds [] { args:=[.list (ns.map .int)] }=true:=by
   have h4:=(holds_andW hc).1;rw [hn] at h4;exact h4
  have h5:=condW_of h4 (w_not (w_lt w_lit (w_len_list (w_arg rfl))));rw [ab] at h5;refine jW fun q=>?_
  have q':(n:Int) < ((ns.length:Nat):Int):=by lia
  first
   | (rw [decide_eq_true q'] at h5; exact absurd h5 #[D])
   | (simp at h5; lia)
 cases yR with
 | cons w1 w2 =>
  cases w2;cases w1 with
  | list ho lH=>exact⟨_,_,ns,rfl,rfl,ho,zcX ns _ lH,kS⟩
theorem zhB (l:OpenLaw) (args:List WData):l.row.toRowW.claim.post args (.bool true) args=true :=
 postW_of (r:=l.row.toRowW) (X:=(true == true))
  (show WShape.has [] (.bool true) .bool=true by first | rfl | decide | simp [WShape.has,WShape.arms,WShape.armsAll])
  (show (WTm.eq .res (.lit (.bool true))).value [] { args:=args,res:=some (.bool true),after:=args }=some (.bool (true == true)) from w_eq_bool (w_res rfl) w_lit) rfl
theorem attach_call {l:OpenLaw} {n:Nat} {q:Program} {loose:List Str} {XP:(Str→Option Value)→Heap→Prop} {YP:World→Heap→Prop} {d:DefRec}
  (hn:l.most=some n) (vR:d.params.defaults = [])
  (call:∀ (w:World) (s₀ s₁:Shared) (mg mb:Str→Option Value) (fa:Addr) (o:Obj) (pm cd doc:Value) (a:Addr) (vs:List Value) (ns:List Int),
   Ground q loose [] XP w s₀ mg mb s₁.heap→YP w s₁.heap →
   s₁.heap.get? fa=some o→o.data = .func (docDef d.name d.params d.body d.scope pm cd doc)→s₁.heap.CodeRec cd d.name→mg d.name=some (.ref fa) →
   s₁.heap.get? a=some { cls:=.type "list",data:=.seq vs.toArray }→IntsAre vs ns→ns.length≤n→s₁.gens = #[] →
   codeAny (model l.prog w) callerA (.call (.ref fa) ⟨[.ref a],[]⟩) (fun r s'=>r = .ok (.ret (.bool true))∧OldK s₁.heap s'.heap∧s'.os=s₁.os∧AllBare s'.gens) s₁) :
  WalkO q loose XP YP l.row.toRowW d [] (fun f vs=>kc f vs):=by
 intro w s₀ s₁ mg mb G Y fa o pm cd doc dV kV ho hd qr hD pD hg args vals as rX hlay hrd yR mT;obtain rfl:dV = .none:=Dflts.none hD vR;obtain rfl:kV = .none:=Dflts.noKw hD;obtain⟨a,vs,ns,rfl,rfl,ud,hints,kS⟩:=zhA hn rX yR;refine enter_call (fV (call w s₀ s₁ mg mb fa o pm cd doc a vs ns G Y ho (fd_plain hd) qr pD ud hints kS hg) fun r s' hq=>?_);obtain⟨rfl,h2,h3,h4⟩:=hq;exact⟨.inl ⟨.bool true,.bool true,[],rfl,fun _=>rfl,.bool true,zhB l _,fun _=>⟨fB,fun _ hm=>(nomatch hm)⟩⟩,h2,h3,h4⟩
end Att
namespace L2
open PySem PySem.Spec PyProof.Rows
theorem zef:∀ {vs:List Value} {ns:List Int},IntsAre vs ns→zw (ns.map V.int) vs
 | _,_,.nil=>.nil
 | _,_,.cons n t h=>.cons ⟨t,rfl⟩ (zef h)
def zlk (H:Hp):Prop:=∀ b,H b=none∨∃ o xs,H b=some (.frz o (.lst xs))
theorem ziD {P:Program} {w:World} {K:af} {mg mb:Str→Option Value} {CX:CXT} {k:Nat} {fa a:Addr} {fd:FuncData} {x:Str} {sp:Sp} {s₁:Shared} {vs:List Value} {ns:List Int}
  (KX:K.In s₁.heap) (pd:s₁.heap.Ns mainGlobals mg) (hb:s₁.heap.Ns builtinsNs mb) (hbb:∀ x:Str,x≠"__name__"→mb x=bootBuiltins x) (yS:s₁.heap.NoLimit) (hg:s₁.gens = #[])
  (ha:s₁.heap.get? a=some { cls:=.type "list",data:=.seq vs.toArray }) (hi:IntsAre vs ns) (hl:ns.length≤sizeLine) (hr:Room k callerA)
  (F:∀ base:Heap,K.In base→base.Ns mainGlobals mg→FnOk P w K mg base CX k fa fd [x] sp) (vS:∀ (s:Shared) (u:Value),BindsTo s fd ⟨[u],[]⟩ [(x,u)])
  (tj:∀ H:Hp,zlk H→kP K H a (ns.map V.int)→sp [.ref a] H (fun v _=>v = .bl true) fun _ _ _=>False)
  (yT:∀ H e s',CX [] H s₁ (fun _ _ _=>False) e s'→False) :
  codeAny (model P w) callerA (.call (.ref fa) ⟨[.ref a],[]⟩) (fun r s'=>r = .ok (.ret (.bool true))∧OldK s₁.heap s'.heap∧s'.os=s₁.os∧AllBare s'.gens) s₁:=by
 have rv:=zef hi;have yU:=hi.length;have core:∀ H:Hp,zlk H→kP K H a (ns.map V.int)→HOk P w H s₁.heap→(∀ b,H b≠none→b=a)→(H a≠none→K.lookup a=none) →
   codeAny (model P w) callerA (.call (.ref fa) ⟨[.ref a],[]⟩) (fun r s'=>r = .ok (.ret (.bool true))∧OldK s₁.heap s'.heap∧s'.os=s₁.os∧AllBare s'.gens) s₁:=by
  intro H hO hS hok hA hK;have pe:∀ {b:Addr} {o:Obj},s₁.heap.get? b=some o→H b=none→(zeA s₁.heap H).get? b=some o:=fun e n=>zit e n
  have ub:∀ {b:Addr} {o:Obj} {es:Array DictEntry} {ep:Nat},s₁.heap.get? b=some o→o.data = .dict es ep→H b=none:=fun {b o es ep} e d=>by
   cases q:H b with
   | none=>rfl
   | some u =>
    have e':b=a:=hA b (by rw [q]; simp);subst e';rw [ha] at e; cases e;have d':Data.seq vs.toArray _=Data.dict es ep:=d;cases d'
  have xZ:∀ {b:Addr} {m:Str→Option Value},s₁.heap.Ns b m→(zeA s₁.heap H).Ns b m:=fun {b m} ⟨o,es,ep,e,d,r⟩=>⟨o,es,ep,pe e (ub e d),d,r⟩
  have hKb:K.In (zeA s₁.heap H):=fun b o e=>pe (KX b o e) (by
   cases q:H b with
   | none=>rfl
   | some u =>
    have e':b=a:=hA b (by rw [q]; simp);subst e';rw [hK (by rw [q]; simp)] at e; cases e)
  have hM:Mod K mg (zeA s₁.heap H):=⟨hKb,xZ pd,⟨mb,xZ hb,hbb⟩,let ⟨mc,h1,h2⟩:=yS; ⟨mc,xZ h1,h2⟩⟩;have e0:Env0 P w K mg (zeA s₁.heap H) callerA [] s₁ H:=⟨rfl,hM,fun b o e=>zjU e,Nat.le_of_eq (zhs _ _),trivial,fun b hb=>absurd (show b∈([]:List Addr) from hb) #[M],hok,.of_eq hg⟩;refine fV ((F _ hKb (xZ pd)).run callerA [] s₁ H ⟨[.ref a],[]⟩ [.ref a] [.ref a] _ _ hr e0 (vS s₁ (.ref a)) (.cons rfl .nil) (tj H hO hS)) fun r s' h=>?_
  cases r with
  | error e=>exact (yT H e s' h).elim
  | ok fl =>
   cases fl with
   | next=>exact dk h
   | brk=>exact dk h
   | cont=>exact dk h
   | ret u =>
    obtain⟨v,H',os,bare,un,yV,r',q⟩:=h;have q':v = .bl true:=q;subst q';obtain rfl:u=j2 true:=r';refine⟨rfl,OldK.of_keep fun b o e=>?_,os,bare⟩;cases q:H b with
    | none=>exact un.keep b o e q (by intro z; exact absurd (show b∈([]:List Addr) from z) #[M]) #[M]
    | some u =>
     rcases hO b with z | ⟨ob,xs,z⟩
     ·rw [q] at z; cases z
     ·have z2:=un.frzs b ob _ z;obtain⟨e1,_⟩:=hok b _ z;obtain⟨e2,_⟩:=yV b _ z2;rw [e] at e1; cases e1;exact e2
 cases hk:K.lookup a with
 | some o =>
  have e:=KX a o hk;rw [ha] at e;cases e;refine core (fun _=>none) (fun _=>.inl rfl) (.inr ⟨_,vs.toArray,_,hk,rfl,rfl,rfl,by rw [ai,yU]; exact hl,by simpa using rv⟩) (fun b u z=>by have z':(none:Option HO)=some u:=z; cases z') (fun b z=>absurd rfl z) fun z=>absurd rfl z
 | none =>
  refine core (fun b=>if b=a then some (.frz { cls:=.type "list",data:=.seq vs.toArray } (.lst (ns.map V.int))) else none) (fun b=>?_) (.inl (.inr ⟨{ cls:=.type "list",data:=.seq vs.toArray },if_pos rfl⟩)) (fun b u z=>?_) (fun b z=>?_) fun _=>hk
  ·by_cases hb:b=a
   ·exact .inr ⟨_,_,if_pos hb⟩
   ·exact .inl (if_neg hb)
  ·by_cases hb:b=a
   ·have z':=(if_pos hb).symm.trans z;cases z';subst hb;exact⟨ha,by rw [ab]; exact hl,vs,_,rv,ha⟩
   ·have z':=(if_neg hb).symm.trans z;cases z'
  ·by_cases hb:b=a
   ·exact hb
   ·exact absurd (if_neg hb) z
theorem zj8 {l:il} {n k:Nat} {q:Program} {loose:List Str} {XP:(Str→Option Value)→Heap→Prop} {YP:World→Heap→Prop} {d:DefRec} {K:Params→af} {CX:World→CXT} {sp:World→Sp} {x:Str}
  (hn:l.most=some n) (pZ:n≤sizeLine) (vR:d.params.defaults = []) (hr:Room k callerA)
  (hY:∀ (w:World) (h:Heap),YP w h→(K w.params).In h)
  (F:∀ (w:World) (mg:Str→Option Value) (fa:Addr) (h:Heap),(K w.params).In h→h.Ns mainGlobals mg→mg d.name=some (.ref fa) →
   ∃ fd:FuncData,(∀ (s:Shared) (u:Value),BindsTo s fd ⟨[u],[]⟩ [(x,u)]) ∧
    ∀ base:Heap,(K w.params).In base→base.Ns mainGlobals mg→FnOk l.prog w (K w.params) mg base (CX w) k fa fd [x] (sp w))
  (tj:∀ (w:World) (H:Hp) (a:Addr) (ns:List Int),ns.length≤n→zlk H→kP (K w.params) H a (ns.map V.int)→sp w [.ref a] H (fun v _=>v = .bl true) fun _ _ _=>False)
  (yT:∀ (w:World) (H:Hp) (s:Shared) (e:Value) (s':Shared),CX w [] H s (fun _ _ _=>False) e s'→False) :
  kv q loose XP YP l.row.toRowW d [] (fun f vs=>kc f vs):=by
 refine Att.attach_call hn vR fun w s₀ s₁ mg mb fa o pm cd doc a vs ns G Y ho hd qr pD ud hints kS hg=>?_
 have KX:=hY w _ Y;obtain⟨fd,hb,hF⟩:=F w mg fa _ KX G.T.g pD;exact ziD KX G.T.g G.T.b G.T.builtins G.T.nolimit hg ud hints (bd kS pZ) hr hF hb (fun H hO hS=>tj w H a ns kS hO hS) fun H e s'=>yT w H s₁ e s'
def za2 (s:Stmt):Arguments:=match s with
 | .FunctionDef _ a _ _ _ _ _ _ _ _=>a
 | _=>{ posonlyargs:=[],args:=[],vararg:=none,kwonlyargs:=[],kw_defaults:=[],kwarg:=none,defaults:=[] }
def zaT (s:Stmt):List Stmt:=match s with
 | .FunctionDef _ _ b _ _ _ _ _ _ _=>b
 | _=>[]
def zh (s:Stmt):Scope:=match s with
 | .FunctionDef _ _ _ _ _ _ sc _ _ _=>sc
 | _=>{ kind:=.function,names:=[],isGenerator:=false,isCoroutine:=false }
abbrev CX0:CXT:=fun _ _ _ _ _ _=>False
abbrev E0:XK:=fun _ _ _=>False
theorem zak {X:Cx}:zf6 CX0 X E0:=fun _ _ _ _ _ _ _ h=>h.elim
structure Fun (K:af) (x qual:Str) (st:Stmt) (f:Addr) (fd:FuncData):Prop where
 ex:∃ (oc:Value) (od:Option Addr) (kV doc pm:Value) (an:Option Addr) (lB ct:Value) (tf:Array (Option Value)),
  fd=cS x qual (za2 st) (zaT st) (zh st) .none kV doc pm an lB ct∧K.lookup f=some ⟨oc,od,.func fd,tf⟩∧fg K lB qual=true
 kp:ff K (.ref f)=true
section
variable {P:Program} {w:World} {K:af} {mg:Str→Option Value} {base:Heap}
theorem Fun.ok {x qual:Str} {st:Stmt} {f:Addr} {fd:FuncData} {N ps:List Str} {k:Nat} {sp:Sp} (F:Fun K x qual st f fd) (S:FnScope N ps (zh st)) (len:∀ vs H Q E,sp vs H Q E→vs.length=ps.length)
  (qt:∀ (lB:Value) (A:Around) (outer:List Env) (s:Shared) (H:Hp) (vs:List V) (Q:VK) (E:XK),Room k (A.deeper (envOfC qual (zh st) s.heap.objs.size f lB))→sp vs H Q E →
   ∃ t,PSs (zhx CX0 P w K mg base N qual (zh st) f lB A outer s H E).nox (zaT st) t∧t { nx:=fun _ H'=>Q .non H',rt:=Q } (start N vs) H):FnOk P w K mg base CX0 (k+1) f fd ps sp:=by
 obtain⟨oc,od,kV,doc,pm,an,lB,ct,tf,rfl,lk,qr⟩:=F.ex;refine zmc lk qr S len fun A outer s H vs Q E hr tj=>?_
 obtain⟨t,h,q⟩:=qt lB A outer s H vs Q E hr tj;exact⟨t,h.nox,q⟩
theorem Fun.binds {x qual:Str} {st:Stmt} {f:Addr} {fd:FuncData} {ps:List Str} (F:Fun K x qual st f fd)
  (h:∀ (kV doc pm:Value) (an:Option Addr) (lB ct:Value) (us:List Value),us.length=ps.length→bindArgs (cS x qual (za2 st) (zaT st) (zh st) .none kV doc pm an lB ct) ⟨us,[]⟩=pure (ps.zip us)):Binds K fd ps []:=by
 obtain⟨oc,od,kV,doc,pm,an,lB,ct,tf,rfl,lk,qr⟩:=F.ex;exact .all (h kV doc pm an lB ct)
theorem ziE {x qual:Str} {st:Stmt} {f:Addr} {oc:Value} {od an:Option Addr} {tf:Array (Option Value)} {kV doc pm lB ct:Value} (l:K.lookup f=some ⟨oc,od,.func (cS x qual (za2 st) (zaT st) (zh st) .none kV doc pm an lB ct),tf⟩)
  (c:fg K lB qual=true) (k:ff K (.ref f)=true):Fun K x qual st f (cS x qual (za2 st) (zaT st) (zh st) .none kV doc pm an lB ct):=⟨⟨oc,od,kV,doc,pm,an,lB,ct,tf,rfl,l,c⟩,k⟩
end
theorem zdS {A B:Prop} (h:B):if false=true then A else B:=by
 rw [if_neg aR];exact h
theorem zmM {A B:Prop} (h:A):if true=true then A else B:=by
 rw [if_pos rfl];exact h
theorem zby {c A B:Prop} [Decidable c] (h1:c→A) (h2:¬ c→B):if c then A else B:=by
 by_cases h:c
 ·rw [if_pos h];exact h1 h
 ·rw [if_neg h];exact h2 h
def zt (H H':Hp):Prop:=∀ b o,H b=some o→H' b=some o
theorem zt.trans {H H1 H2:Hp} (a:zt H H1) (b:zt H1 H2):zt H H2:=fun c o h=>b c o (a c o h)
theorem zt.free {H H':Hp} (e:zt H H') {l:Addr} (h:H' l=kL):H l=kL:=by
 cases q:H l with
 | none=>rfl
 | some o =>
  rw [e l o q] at h;cases h
theorem zt.seq {K:af} {H H':Hp} {a:Addr} {xs:List V} (e:zt H H') (h:kP K H a xs):kP K H' a xs:=by
 rcases h with (h | ⟨o,h⟩) | h
 ·exact .inl (.inl (e _ _ h))
 ·exact .inl (.inr ⟨o,e _ _ h⟩)
 ·exact .inr h
end L2
section
namespace L2
open PySem
abbrev Ends.n (D:Ends) (N:St→Hp→Prop):Ends:={ D with nx:=N }
section
variable {r1 r2 r3 r4 r5 r6 r7 r8 r9 r10 r11 r12 r13 r14 r15:TS} {D:Ends} {σ:St} {H:Hp}
theorem ziF (h:let N2:=r2 D; r1 (D.n N2) σ H):(zaq r1 r2) D σ H:=h
theorem zhC (h:let N3:=r3 D; let N2:=r2 (D.n N3); r1 (D.n N2) σ H):(zaq r1 (zaq r2 r3)) D σ H:=h
theorem zll (h:let N4:=r4 D; let N3:=r3 (D.n N4); let N2:=r2 (D.n N3); r1 (D.n N2) σ H):(zaq r1 (zaq r2 (zaq r3 r4))) D σ H:=h
theorem zmN (h:let N5:=r5 D; let N4:=r4 (D.n N5); let N3:=r3 (D.n N4); let N2:=r2 (D.n N3); r1 (D.n N2) σ H):(zaq r1 (zaq r2 (zaq r3 (zaq r4 r5)))) D σ H:=h
theorem zmO (h:let N6:=r6 D; let N5:=r5 (D.n N6); let N4:=r4 (D.n N5); let N3:=r3 (D.n N4); let N2:=r2 (D.n N3); r1 (D.n N2) σ H):(zaq r1 (zaq r2 (zaq r3 (zaq r4 (zaq r5 r6))))) D σ H:=h
theorem zmi (h:let N7:=r7 D; let N6:=r6 (D.n N7); let N5:=r5 (D.n N6); let N4:=r4 (D.n N5); let N3:=r3 (D.n N4); let N2:=r2 (D.n N3); r1 (D.n N2) σ H):(zaq r1 (zaq r2 (zaq r3 (zaq r4 (zaq r5 (zaq r6 r7)))))) D σ H:=h
theorem zmj (h:let N13:=r13 D; let N12:=r12 (D.n N13); let N11:=r11 (D.n N12); let N10:=r10 (D.n N11); let N9:=r9 (D.n N10); let N8:=r8 (D.n N9); let N7:=r7 (D.n N8); let N6:=r6 (D.n N7); let N5:=r5 (D.n N6); let N4:=r4 (D.n N5); let N3:=r3 (D.n N4); let N2:=r2 (D.n N3); r1 (D.n N2) σ H):(zaq r1 (zaq r2 (zaq r3 (zaq r4 (zaq r5 (zaq r6 (zaq r7 (zaq r8 (zaq r9 (zaq r10 (zaq r11 (zaq r12 r13)))))))))))) D σ H:=h
theorem zbz {X0:Cx} {B:List PySem.Stmt} (h:let X:=X0; ∃ t,PSs X B t∧t D σ H):∃ t,PSs X0 B t∧t D σ H:=h
end
theorem nd_ (l:List Str) (h:l.Nodup:=by decide +kernel):l.Nodup:=h
end L2
end
section
namespace L2
open PySem PySem.Spec PyProof.Rows
def zW (cs:List (Str×Addr)):List (Str×NameKind)→List (Str×Addr)→List (Str×Addr)
 | [],acc=>acc
 | (n,k) :: r,acc=>if k == .free then zW cs r ((n,(cs.lookup n).getD 0) :: acc) else zW cs r acc
theorem zb7 {scope:Scope} {env:Env} (h:∀ y∈scope.names,y.2 = .free→∃ c,env.cells.lookup y.1=some c) :
  closureFor scope env=pure (zW env.cells scope.names []):=by
 have go:∀ (names:List (Str×NameKind)) (acc:List (Str×Addr)),(∀ y∈names,y.2 = .free→∃ c,env.cells.lookup y.1=some c) →
   (forIn names acc (fun (x:Str×NameKind) (cs:List (Str×Addr))=>(if (x.2 == bR)=true then do
    let a ← cellOf env x.1
    pure (ck ((x.1,a) :: cs)) else pure (ck cs):Sem (ForInStep (List (Str×Addr))))))=(pure (zW env.cells names acc):Sem _):=by
  intro names;induction names with
  | nil=>intro acc _; rfl
  | cons y r ih =>
   intro acc hy;obtain⟨n,k⟩:=y;rw [kd];cases hk:(k == bR) with
   | true =>
    obtain⟨c,hc⟩:=hy (n,k) aI (by simpa using hk);have nE:cellOf env n=pure c:=by
     unfold cellOf;have lF:env.cells.lookup n=some c:=hc;rw [lF]
    simp only [hk,if_true,nE];have e:=ih ((n,c) :: acc) fun y rY=>hy y (av _ rY)
    have lF:env.cells.lookup n=some c:=hc;simp only [zW,hk,if_true,lF,fK];exact e
   | false =>
    simp only [hk,aO,if_false];have e:=ih acc fun y rY=>hy y (av _ rY)
    simp only [zW,hk,aO,if_false];exact e
 have e:=go scope.names [] h;unfold closureFor;show (forIn scope.names [] _ >>= fun cs=>pure cs)=_
 first
  | (rw [e]; rfl)
  | (simp only []; rw [e]; rfl)
  | (have e':=e; simp at e' ⊢; exact e')
theorem za9 {cs:List (Str×Addr)}:∀ (names:List (Str×NameKind)) (acc:List (Str×Addr)),
  (∀ y∈names,y.2 = .free→∃ c,cs.lookup y.1=some c)→(∀ x c,acc.lookup x=some c→cs.lookup x=some c) →
  ∀ x c,(zW cs names acc).lookup x=some c→cs.lookup x=some c
 | [],acc,_,h,x,c,e=>h x c e
 | (n,k) :: r,acc,hy,h,x,c,e=>by
  have hr:∀ y∈r,y.2 = .free→∃ c,cs.lookup y.1=some c:=fun y rY=>hy y (av _ rY)
  unfold zW at e;cases hk:(k == bR) with
  | false =>
   rw [hk] at e;exact za9 r acc hr h x c e
  | true =>
   rw [hk] at e;obtain⟨d,hd⟩:=hy (n,k) aI (by simpa using hk);have rA:cs.lookup n=some d:=hd;refine za9 r _ hr (fun x c e'=>?_) x c e;rw [rA,fK,bq] at e';cases hx:(x == n) with
   | true =>
    rw [hx] at e';have:x=n:=by simpa using hx
    subst this;rw [rA];exact e'
   | false =>
    rw [hx] at e';exact h x c e'
theorem zbn {cs:List (Str×Addr)}:∀ (names:List (Str×NameKind)) (acc:List (Str×Addr)) (x:Str),
  ((∃ c,acc.lookup x=some c)∨(x,bR)∈names)→∃ c,(zW cs names acc).lookup x=some c
 | [],acc,x,h=>by
  rcases h with h | h
  ·exact h
  ·cases h
 | (n,k) :: r,acc,x,h=>by
  unfold zW;cases hk:(k == bR) with
  | false =>
   refine zbn r acc x ?_;rcases h with h | h
   ·exact .inl h
   ·rcases aN.mp h with h | h
    ·cases h;exact absurd hk #[D]
    ·exact .inr h
  | true =>
   refine zbn r _ x ?_;cases hx:(x == n) with
   | true=>exact .inl ⟨_,by rw [bq,hx]⟩
   | false =>
    rcases h with ⟨c,h⟩ | h
    ·exact .inl ⟨c,by rw [bq,hx]; exact h⟩
    ·rcases aN.mp h with h | h
     ·cases h;simp at hx
     ·exact .inr h
theorem lookup_mem {α:Type}:∀ {l:List (Str×α)} {x:Str} {k:α},l.lookup x=some k→(x,k)∈l
 | [],x,k,h=>by simp at h
 | (n,j) :: r,x,k,h=>by
  rw [bq] at h;cases hx:(x == n) with
  | true =>
   rw [hx] at h;have:x=n:=by simpa using hx
   subst this;cases h;exact aI
  | false =>
   rw [hx] at h;exact av _ (lookup_mem h)
theorem zaR {env:Env}:∀ {names:List (Str×NameKind)} {x:Str},names.lookup x=some .free →
  (names.map fun (n,k)=>if (k == bR && env.scope.kind == .function && env.kindOf n == some .cell) then (n,cK) else (n,k)).lookup x=some .cell ∨
  (names.map fun (n,k)=>if (k == bR && env.scope.kind == .function && env.kindOf n == some .cell) then (n,cK) else (n,k)).lookup x=some .free
 | [],_,h=>by simp at h
 | (n,k) :: r,x,h=>by
  have ih:=@zaR env r x;simp only [eK];cases hx:x == n with
  | true =>
   simp only [bq,hx] at h; cases h;by_cases hc:(bR == bR && env.scope.kind == .function && env.kindOf n == some .cell)=true
   ·rw [if_pos hc]; left; simp only [bq,hx]
   ·rw [if_neg hc]; right; simp only [bq,hx]
  | false =>
   simp only [bq,hx] at h; rcases jz ((k == bR && env.scope.kind == .function && env.kindOf n == some .cell)=true) with hc | hc
   ·exact (by rw [if_pos hc]; simp only [bq,hx]; exact ih h)
   ·exact (by rw [if_neg hc]; simp only [bq,hx]; exact ih h)
theorem zck {env:Env}:∀ {names:List (Str×NameKind)} {x:Str},
  ((names.map fun (n,k)=>if (k == bR && env.scope.kind == .function && env.kindOf n == some .cell) then (n,cK) else (n,k)).lookup x=some .cell ∨
  (names.map fun (n,k)=>if (k == bR && env.scope.kind == .function && env.kindOf n == some .cell) then (n,cK) else (n,k)).lookup x=some .free) →
  names.lookup x=some .free∨names.lookup x=some .cell
 | [],_,h=>by simp at h
 | (n,k) :: r,x,h=>by
  have ih:=@zck env r x;simp only [eK] at h;cases hx:x == n with
  | true =>
   rcases jz ((k == bR && env.scope.kind == .function && env.kindOf n == some .cell)=true) with hc | hc
   ·have hk:k = .free:=by
     simp only [cc] at hc; simpa using hc.1.1
    subst hk;exact .inl (by simp only [bq,hx])
   ·rw [if_neg hc] at h;simp only [bq,hx] at h ⊢;rcases h with h | h
    ·exact .inr h
    ·exact .inl h
  | false =>
   rcases jz ((k == bR && env.scope.kind == .function && env.kindOf n == some .cell)=true) with hc | hc
   ·rw [if_pos hc] at h;simp only [bq,hx] at h ⊢;exact ih h
   ·rw [if_neg hc] at h;simp only [bq,hx] at h ⊢;exact ih h
theorem zeE:∀ (names:List (Str×NameKind)) (n:Nat) (acc:List (Str×Addr)) (x:Str),(x,cK)∉names→(cellsFrom n names acc).lookup x=acc.lookup x
 | [],_,_,_,_=>rfl
 | (y,k) :: r,n,acc,x,h=>by
  have hr:(x,cK)∉r:=fun z=>h (av _ z)
  unfold cellsFrom;split
  ·rename_i hk
   have nF:k = .cell:=by simpa using hk
   rw [zeE r _ _ x hr,bq];cases hx:(x == y) with
   | true =>
    have:x=y:=by simpa using hx
    subst this;subst nF;exact absurd aI h
   | false=>rfl
  ·exact zeE r _ _ x hr
theorem zeF:∀ (names:List (Str×NameKind)) (n:Nat) (acc:List (Str×Addr)) (x:Str),(x,cK)∈names→∃ c,(cellsFrom n names acc).lookup x=some c∧n≤c
 | (y,k) :: r,n,acc,x,h=>by
  by_cases hr:(x,cK)∈r
  ·unfold cellsFrom;split
   ·obtain⟨c,e,l⟩:=zeF r (n+1) ((y,n) :: acc) x hr;exact⟨c,e,#[O]⟩
   ·exact zeF r n acc x hr
  ·rcases aN.mp h with e | e
   ·cases e;unfold cellsFrom;rw [if_pos #[D],zeE r _ _ _ hr,bq,beq_self_eq_true];exact⟨n,rfl,ag _⟩
   ·exact absurd e hr
structure CO (h:Heap) (lo:Nat) (old cs:List (Str×Addr)):Prop where
 each:∀ x c,cs.lookup x=some c→(h.IsCell c none∧lo≤c)∨(old.lookup x=some c∧c < lo)
 inj:∀ x y c,cs.lookup x=some c→cs.lookup y=some c→x=y
theorem ziG {lo:Nat} {old:List (Str×Addr)}:∀ (names:List (Str×NameKind)) (h:Heap) (acc:List (Str×Addr)),CO h lo old acc→lo≤h.objs.size→CO (pushCells h names) lo old (cellsFrom h.objs.size names acc)
 | [],_,_,a,_=>a
 | (y,k) :: r,h,acc,a,hl=>by
  unfold pushCells cellsFrom;split
  ·have lt:∀ x c,acc.lookup x=some c→c < h.objs.size:=fun x c e=>(a.each x c e).elim (fun z=>z.1.lt) fun z=>bh z.2 hl
   have key:∀ x c,List.lookup x ((y,h.objs.size) :: acc)=some c→(x=y∧c=h.objs.size)∨acc.lookup x=some c:=fun x c e=>by
    rw [bq] at e;cases hx:(x == y) with
    | true =>
     rw [hx] at e;exact .inl ⟨by simpa using hx,(bf e).symm⟩
    | false =>
     rw [hx] at e;exact .inr e
   have:=ziG (lo:=lo) (old:=old) r (h.push { cls:=.type "cell",data:=.cell none }) ((y,h.objs.size) :: acc) ⟨fun x c e=>?_,fun x z c e1 e2=>?_⟩ (by rw [bJ]; lia)
   ·rw [bJ] at this;exact this
   ·rcases key x c e with ⟨_,rfl⟩ | e
    ·exact .inl ⟨⟨_,aK _ rfl,rfl⟩,hl⟩
    ·rcases a.each x c e with z | z
     ·exact .inl ⟨z.1.keeps fun b o e=>am _ e,z.2⟩
     ·exact .inr z
   ·rcases key x c e1 with ⟨p1,q1⟩ | f1 <;> rcases key z c e2 with ⟨p2,q2⟩ | f2
    ·exact p1.trans p2.symm
    ·exact absurd (lt _ _ f2) (by rw [q1]; exact bQ _)
    ·exact absurd (lt _ _ f1) (by rw [q2]; exact bQ _)
    ·exact a.inj x z c f1 f2
  ·exact ziG r h acc a hl
theorem zhD {M:Model} {A:Around} {E:Value→Shared→Prop} {s:Shared} {scope:Scope} {globals:Addr} {closure:List (Str×Addr)} {qual:Str} {env:Env} {Q:Env→Shared→Prop}
  (h:Q (newEnv scope s.heap.objs.size globals (cellsFrom (s.heap.objs.size+1) scope.names closure) qual none .none (some env) builtinsNs) { s with heap:=pushCells (s.heap.push { cls:=.type "dict",data:=.dict #[] }) scope.names }) :
  wpAny M A (newFunctionEnv scope globals closure [] qual none .none (some env)) Q E s:=by
 (simp only [newFunctionEnv,Option.isSome_some,if_true])
 (refine ae (wpAny_alloc ?_))
 (refine ae (wpAny_layCells _ (fun name kind cells=>by cases hkc:kind == cK <;> simp [hkc]) _ _ _ _ ?_))
 rw [show ({ s with heap:=s.heap.push { cls:=.type "dict",data:=.dict #[] } }:Shared).heap.objs.size=s.heap.objs.size+1 from bJ ..]
 (exact ae (aj (aj h)))
abbrev zr (X:Cx) (N':List Str) (scope:Scope) (s₃:Shared) (H₃:Hp) (ex:List Addr) (kN:List (Addr×Obj)):Cx :=
 { X with N:=N',s₀:=s₃,H₀:=H₃,env:=compEnvC scope (cellsFrom (s₃.heap.objs.size+1) scope.names (zW X.env.cells scope.names [])) s₃.heap.objs.size X.env,outer:=X.stack,stack:=X.stack,ex:=ex,fn:=fun x=>scope.names.lookup x == some .cell,pn:=X.pn++kN,xe:=fun _ _=>False }
def zgb (ifs:List Expr) (env:Env):Sem Bool :=
 forIn ifs true fun c r=>if r=true then do let ok ← isTrue c env (eval c env); pure (ck ok) else pure (ck r)
def zcl (X:Cx) (ifs:List Expr) (t:TT):Prop :=
 ∀ (kN:List (Addr×Obj)) (s:Shared) (σ:St) (H:Hp) (Q:Bool→Hp→Prop),Inv X kN σ H s→t σ H Q→wpAny (model X.prog X.w) X.A (zgb ifs X.env) (TP X kN σ Q) X.xe s
def zlm:TT:=fun _ H Q=>Q true H
theorem zE {X:Cx}:zcl X [] zlm:=fun _ _ _ H _ I h=>aj ⟨H,I,h⟩
theorem zbG {X:Cx} {c:Expr} {t:TT} (h:PT X c t):zcl X [c] t:=by
 intro kN s σ H Q I hw;unfold zgb;rw [kd];simp only [if_true];exact ae (ae (thn (h kN s σ H _ I hw) fun b s1 q=>aj (aj q)))
structure CompSc (X:Cx) (N':List Str) (ix:List (Option Nat)) (scope:Scope):Prop where
 kind:scope.kind = .function
 cells:∀ y∈scope.names,y.2 = .cell→scope.names.lookup y.1=some .cell
 names:∀ y∈scope.names,y.2 = .local→scope.names.lookup y.1=some .local
 free:∀ y∈scope.names,y.2 = .free→X.env.kindOf y.1=some .cell∨X.env.kindOf y.1=some .free
 len:N'.length=ix.length
 cap:∀ j i:Nat,ix[j]? = some (some i)→∃ x,N'[j]? = some x∧X.N[i]? = some x∧scope.names.lookup x=some .free
def zgK (vg:Scope) (oN N':List Str) (ix:List (Option Nat)) (scope:Scope):Bool :=
 (scope.kind == .function) && (scope.names.all fun y=>y.2 != .cell || scope.names.lookup y.1 == some .cell) && (scope.names.all fun y=>y.2 != .local || scope.names.lookup y.1 == some .local) &&
 (scope.names.all fun y=>y.2 != .free || (vg.names.lookup y.1 == some .cell || vg.names.lookup y.1 == some .free)) && (N'.length == ix.length) &&
 ((aD ix.length).all fun j=>match ix[j]? with
  | some (some i)=>(match N'[j]? with
   | some x=>oN[i]? == some x && scope.names.lookup x == some .free
   | none=>false)
  | _=>true)
theorem CompSc.of {X:Cx} {N':List Str} {ix:List (Option Nat)} {scope:Scope} (vg:Scope) (oN:List Str) (h1:X.env.scope=vg) (h2:X.N=oN) (hb:zgK vg oN N' ix scope=true):CompSc X N' ix scope:=by
 unfold zgK at hb;simp only [cc,eE] at hb;obtain⟨⟨⟨⟨⟨a,b⟩,c⟩,d⟩,e⟩,f⟩:=hb;refine⟨?_,fun y hy hl=>?_,fun y hy hl=>?_,fun y hy hf=>?_,by simpa using e,fun j i hj=>?_⟩
 ·revert a
  cases scope.kind <;> first | (intro _; rfl) | (intro h; exact absurd h #[D])
 ·have:=b y hy;rw [hl] at this;simpa using this
 ·have:=c y hy;rw [hl] at this;simpa using this
 ·have:=d y hy;rw [hf] at this;have e1:X.env.kindOf y.1=vg.names.lookup y.1:=by rw [← h1]; rfl
  rw [e1];simpa using this
 ·have kX:j < ix.length:=(bg.mp hj).1;have:=f j (bi.mpr kX);rw [hj] at this;cases hN:N'[j]? with
  | none =>
   rw [hN] at this;simp at this
  | some x =>
   rw [hN] at this;refine⟨x,rfl,?_⟩;rw [h2];simpa using this
def zcm (ix:List (Option Nat)) (σ:St):St:=ix.map fun o=>match o with
 | none=>none
 | some i=>(σ[i]?).join
theorem Inv.track {X:Cx} {kN:List (Addr×Obj)} {σ:St} {H:Hp} {s:Shared} {D:Addr} {o:HO} (I:Inv X kN σ H s) (hn:H D=none) (hs:X.s₀.heap.objs.size≤D) (hL:X.env.locals≠D)
  (hC:∀ x c,X.env.cells.lookup x=some c→c≠D) (hp:∀ p∈X.pn++kN,p.1≠D) (ok:zai X.prog X.w (kR H D o) s.heap D o):Inv X kN σ (kR H D o) s:=by
 have ne:∀ b u,H b=some u→b≠D:=fun b u e=>zA e hn
 refine⟨I.ok,I.os,I.bare,⟨I.base.keep,I.base.slot,fun b u e n hx=>?_,I.base.there,fun b xs e=>?_,fun b u xs e=>?_,fun b ps e=>?_⟩,I.loc,I.cell,?_,fun x c e=>?_,fun p pf=>?_,fun b u e=>?_,I.len⟩
 ·have:b≠D:=a8 (bh (aE e) hs);rw [zk this];exact I.base.free b u e n hx
 ·have:=I.base.tups b xs e;rw [zk (ne b _ this)];exact this
 ·have:=I.base.frzs b u xs e;rw [zk (ne b _ this)];exact this
 ·obtain⟨more,q⟩:=I.base.tbls b ps e;exact⟨more,by rw [zk (ne b _ q)]; exact q⟩
 ·rw [zk hL];exact I.free
 ·rw [zk (hC x c e)];exact I.freeC x c e
 ·obtain⟨a1,a2,a3⟩:=I.pin p pf;exact⟨a1,by rw [zk (hp p pf)]; exact a2,a3⟩
 ·by_cases hb:b=D
  ·subst hb;rw [zb] at e;cases e;exact ok
  ·rw [zk hb] at e;exact (I.hok b u e).stay (fun c v _ q=>q) (fun c q=>by rw [zk (ne c _ q)]; exact q) fun c xs q=>by rw [zk (ne c _ q)]; exact q
def cGo (g:TG) (ts:TT) (te:TE) (σ0:St) (J:It) (Q:VK) (H1:Hp):Prop :=
 ∃ W:Nat→Nat→List V→Hp→Prop,(∃ m,W 0 m [] H1)∧∀ i m ys H,W i m ys H →
  (J.stop i H∧∀ D,H D=none→Q (.ref D) (kR H D (.lst ys))) ∨
  (J.go i H∧∃ N:List V→Hp→Prop,(∀ n9 H',N n9 H'→∃ m',m' < m∧W (i+1) m' n9 H')∧∀ x H',J.yld i H x H'→g x σ0 H' fun σ2 H2=>ts σ2 H2 fun b H3 =>
   if b=true then te σ2 H3 fun y H4=>ys.length < sizeLine∧N (ys++[y]) H4 else N ys H3)
def zkQ (ix:List (Option Nat)) (wi:TI) (g:TG) (ts:TT) (te:TE):TE:=fun σ H Q=>wi σ H fun J H1=>cGo g ts te (zcm ix σ) J Q H1
theorem zY {J:It} {n:Nat} {g:TG} {ts:TT} {te:TE} {σ0:St} {Q:VK} {H:Hp} (Pv:Nat→List V→Hp→Prop) (h0:Pv 0 [] H) (ue:∀ i ys H,i < n→Pv i ys H→J.go i H) (lG:∀ ys H,Pv n ys H→J.stop n H)
  (hs:∀ i x ys H H',i < n→Pv i ys H→J.yld i H x H'→g x σ0 H' fun σ2 H2=>ts σ2 H2 fun b H3=>if b=true then te σ2 H3 fun y H4=>ys.length < sizeLine∧Pv (i+1) (ys++[y]) H4 else Pv (i+1) ys H3)
  (hd:∀ ys H D,Pv n ys H→H D=none→Q (.ref D) (kR H D (.lst ys))):cGo g ts te σ0 J Q H:=by
 refine⟨fun i m ys H=>m=n - i∧i≤n∧Pv i ys H,⟨n,#[M],bj _,h0⟩,?_⟩;rintro i m ys H ⟨rfl,hi,p⟩;by_cases kX:i < n
 ·exact .inr ⟨ue i ys H kX p,Pv (i+1),fun n9 H' p'=>⟨n - (i+1),#[O],rfl,kX,p'⟩,fun x H' y=>hs i x ys H H' kX p y⟩
 ·have e:i=n:=by lia
  subst e;exact .inl ⟨lG ys H p,fun D hD=>hd ys H D p hD⟩
theorem zln {J:It} {n:Nat} {g:TG} {tb:TS} {D:Ends} {σ:St} {H:Hp} (Pv:Nat→St→Hp→Prop) (h0:Pv 0 σ H) (ue:∀ i σ H,i < n→Pv i σ H→J.go i H) (lG:∀ σ H,Pv n σ H→J.stop n H)
  (hs:∀ i x σ H H',i < n→Pv i σ H→J.yld i H x H'→g x σ H' fun σ2 H2=>tb { D with nx:=Pv (i+1),ct:=Pv (i+1),bk:=D.nx } σ2 H2) (hd:∀ σ H,Pv n σ H→D.nx σ H) :
  ∃ W:Nat→Nat→St→Hp→Prop,(∃ m,W 0 m σ H)∧∀ i m σ H,W i m σ H →
   (J.stop i H∧D.nx σ H)∨(J.go i H∧∃ N:St→Hp→Prop,(∀ σ' H',N σ' H'→∃ m',m' < m∧W (i+1) m' σ' H')∧∀ x H',J.yld i H x H'→g x σ H' fun σ2 H2=>tb { D with nx:=N,ct:=N,bk:=D.nx } σ2 H2):=by
 refine⟨fun i m σ H=>m=n - i∧i≤n∧Pv i σ H,⟨n,#[M],bj _,h0⟩,?_⟩;rintro i m σ H ⟨rfl,hi,p⟩;by_cases kX:i < n
 ·exact .inr ⟨ue i σ H kX p,Pv (i+1),fun σ' H' p'=>⟨n - (i+1),#[O],rfl,kX,p'⟩,fun x H' y=>hs i x σ H H' kX p y⟩
 ·have e:i=n:=by lia
  subst e;exact .inl ⟨lG σ H p,hd σ H p⟩
end L2
end
section
namespace L2
open PySem
abbrev Lp (J:It) (g:TG) (tb:TS) (D:Ends) (σ:St) (H:Hp):Prop:=∃ W:Nat→Nat→St→Hp→Prop,(∃ m,W 0 m σ H)∧∀ i m σ H,W i m σ H→(J.stop i H∧D.nx σ H)∨(J.go i H∧∃ N:St→Hp→Prop,(∀ σ' H',N σ' H'→∃ m',m' < m∧W (i+1) m' σ' H')∧∀ x H',J.yld i H x H'→g x σ H' fun σ2 H2=>tb { D with nx:=N,ct:=N,bk:=D.nx } σ2 H2)
abbrev Ends.l (D:Ends) (Pv:Nat→St→Hp→Prop) (i:Nat):Ends:={ D with nx:=Pv (i+1),ct:=Pv (i+1),bk:=D.nx }
section
variable {g:TG} {tb:TS} {D:Ends} {σ:St} {H:Hp} (Pv:Nat→St→Hp→Prop) {n:Nat} {K:af} {a:Addr} {xs:List V}
theorem zbU {J:It} (h0:Pv 0 σ H) (ue:∀ i σ H,i < n→Pv i σ H→J.go i H) (lG:∀ σ H,Pv n σ H→J.stop n H) (hs:let N:=D.l Pv; let T:=tb; ∀ i x σ H H',i < n→Pv i σ H→J.yld i H x H'→g x σ H' (T (N i))) (hd:∀ σ H,Pv n σ H→D.nx σ H):Lp J g tb D σ H:=zln Pv h0 ue lG hs hd
theorem zeg (h0:Pv 0 σ H) (hl:∀ i σ H,i≤xs.length→Pv i σ H→kP K H a xs) (hs:let N:=D.l Pv; let T:=tb; ∀ i x σ H,xs[i]? = some x→Pv i σ H→g x σ H (T (N i))) (hd:∀ σ H,Pv xs.length σ H→D.nx σ H):Lp (Itl K a) g tb D σ H:=zix Pv h0 hl hs hd
theorem ziH (h0:Pv 0 σ H) (hl:∀ i σ H,i≤xs.length→Pv i σ H→kT K H a xs) (hs:let N:=D.l Pv; let T:=tb; ∀ i x σ H,xs[i]? = some x→Pv i σ H→g x σ H (T (N i))) (hd:∀ σ H,Pv xs.length σ H→D.nx σ H):Lp (Itt K a) g tb D σ H:=zjY Pv h0 hl hs hd
theorem zad {lo:Int} (h0:Pv 0 σ H) (hs:let N:=D.l Pv; let T:=tb; ∀ i σ H,i < n→Pv i σ H→g (.int (lo+i)) σ H (T (N i))) (hd:∀ σ H,Pv n σ H→D.nx σ H):Lp (Itr lo n) g tb D σ H:=zht Pv h0 hs hd
end
end L2
end
section
namespace L2
end L2
end
section
namespace L2
open PySem PySem.Spec PyProof.Rows
abbrev TM:=List V→St→Hp→(List V→Hp→Prop)→Prop
abbrev zcY (kO:List Value) (nn:Nat):Obj:={ cls:=.type "list",data:=.seq kO.toArray nn }
structure AccAt (Y:Cx) (kN:List (Addr×Obj)) (H:Hp) (s:Shared) (D:Addr) (ys:List V) (kO:List Value) (nn:Nat):Prop where
 fp:zbC Y kN H D
 here:s.heap.get? D=some (zcY kO nn)
 vals:zw ys kO
 len:ys.length≤sizeLine
def zeG (js:List Nat) (σ:St):Prop:=∀ j∈js,∀ v,σ[j]?≠some (some v)
def Kp (js:List Nat) (σ σ2:St):Prop:=σ2.length=σ.length∧∀ j,j∉js→σ2[j]? = σ[j]?
theorem Kp.refl {js:List Nat} {σ:St}:Kp js σ σ:=⟨rfl,fun _ _=>rfl⟩
theorem Kp.set {js:List Nat} {σ σ2:St} {i:Nat} {v:Option V} (hi:i∈js) (h:Kp js σ σ2):Kp js σ (σ2.set i v):=by
 refine⟨by rw [cH]; exact h.1,fun j hj=>?_⟩;rw [eD (fun z=>hj (by rw [← z]; exact hi))];exact h.2 j hj
def GS (js:List Nat) (g:TG):Prop:=∀ (σ σ1:St) (x:V) (H:Hp) (Q:St→Hp→Prop),Kp js σ σ1→g x σ1 H Q→g x σ1 H fun σ2 H2=>Kp js σ σ2∧Q σ2 H2
def GSs (js:List Nat) (g:TGs):Prop:=∀ (σ σ1:St) (xs:List V) (H:Hp) (Q:St→Hp→Prop),Kp js σ σ1→g xs σ1 H Q→g xs σ1 H fun σ2 H2=>Kp js σ σ2∧Q σ2 H2
theorem zgL {js:List Nat} {i:Nat} (hi:i∈js):GS js (zaI i):=fun σ σ1 x H Q hw h=>⟨hw.set hi,h⟩
theorem zc3 {js:List Nat}:GSs js zjX:=fun σ σ1 xs H Q hw h=>⟨h.1,hw,h.2⟩
theorem zaW {js:List Nat} {i:Nat} {u:TGs} (hi:i∈js) (h2:GSs js u):GSs js (zfg (zaI i) u):=fun σ σ1 xs H Q hw h=>by
 obtain⟨v,r,e,h⟩:=h;exact⟨v,r,e,h2 σ _ r H Q (hw.set hi) h⟩
theorem zeH {js:List Nat} {K:af} {n:Nat} {t:TGs} (h:GSs js t):GS js (ziv K n t):=fun σ σ1 x H Q hw hg=>by
 obtain⟨a,xs,e,hq,hl,hg⟩:=hg;exact⟨a,xs,e,hq,hl,h σ σ1 xs H Q hw hg⟩
theorem Inv.fewer {X:Cx} {kN mN:List (Addr×Obj)} {σ:St} {H:Hp} {s:Shared} (I:Inv X kN σ H s) (h:∀ p∈mN,p∈kN):Inv X mN σ H s :=
 I.pins_of fun p hp=>I.pin p (aB _ (h p hp))
section
variable {Y:Cx} {kN:List (Addr×Obj)} {σ:St} {H:Hp} {s:Shared} {D:Addr} {ys:List V} {kO:List Value} {nn:Nat}
theorem AccAt.pin (a:AccAt Y kN H s D ys kO nn) (I:Inv Y kN σ H s):Inv Y (kN++[(D,zcY kO nn)]) σ H s :=
 I.pins_of fun p hp=>by
  rcases (aT.mp hp) with hp | hp
  ·exact I.pin p (aB _ hp)
  ·obtain rfl:p=(D,zcY kO nn):=by simpa using hp
   obtain⟨a0,a1,a2,_⟩:=a.fp;exact⟨a.here,a0,a1,a2,fun v z=>by cases z⟩
theorem AccAt.back {mN:List (Addr×Obj)} {σ':St} {H':Hp} {s':Shared} (a:AccAt Y kN H s D ys kO nn) (I:Inv Y mN σ' H' s') (hm:(D,zcY kO nn)∈mN):AccAt Y kN H' s' D ys kO nn:=by
 have p:=I.pin (D,zcY kO nn) (aB _ hm);exact⟨⟨p.2.1,a.fp.2⟩,p.1,a.vals,a.len⟩
end
def PM (Y:Cx) (D:Addr) (js:List Nat) (mk:Sem Fin→Sem Fin) (tm:TM):Prop :=
 ∀ (last:Sem Fin) (kN:List (Addr×Obj)) (s:Shared) (σ:St) (H:Hp) (ys:List V) (kO:List Value) (nn:Nat) (Q:List V→Hp→Prop) (Φ:Fin→Shared→Prop),Inv Y kN σ H s→AccAt Y kN H s D ys kO nn→zeG js σ→tm ys σ H Q →
  (∀ (s':Shared) (n9:List V) (its':List Value) (uf:Nat) (H':Hp),Inv Y kN σ H' s'→AccAt Y kN H' s' D n9 its' uf→Q n9 H'→wpAny (model Y.prog Y.w) Y.A last Φ (fun _ _=>False) s') →
  wpAny (model Y.prog Y.w) Y.A (mk last) Φ (fun _ _=>False) s
def zeh (elt:Expr) (acc:Value) (env:Env) (last:Sem Fin):Sem Fin:=(eval elt env >>= fun x=>call (.builtin "list.append") [acc,x] >>= fun _=>pure ()) >>= fun _=>last
def zgM (e iter:Expr) (d:Nat) (acc:Value) (env:Env) (last:Sem Fin):Sem Fin :=
 eval iter env >>= fun x=>standAt iter.pos >>= fun _=>foldedSetIterable iter env x >>= fun x=>holding [x] (pyIter x) >>= fun t7=>runOwn (.compStart e d t7 acc env) env >>= fun _=>last
def zgN (te:TE):TM:=fun ys σ H Q=>te σ H fun y H4=>ys.length < sizeLine∧Q (ys++[y]) H4
def cIn (g:TG) (ts:TT) (tm:TM) (σ:St) (J:It) (Q:List V→Hp→Prop) (ys:List V) (H1:Hp):Prop :=
 ∃ W:Nat→Nat→List V→Hp→Prop,(∃ m,W 0 m ys H1)∧∀ i m ys H,W i m ys H →
  (J.stop i H∧Q ys H) ∨
  (J.go i H∧∃ N:List V→Hp→Prop,(∀ n9 H',N n9 H'→∃ m',m' < m∧W (i+1) m' n9 H')∧∀ x H',J.yld i H x H'→g x σ H' fun σ2 H2=>ts σ2 H2 fun b H3 =>
   if b=true then tm ys σ2 H3 N else N ys H3)
def zgO (wi:TI) (g:TG) (ts:TT) (tm:TM):TM:=fun ys σ H Q=>wi σ H fun J H1=>cIn g ts tm σ J Q ys H1
def zeI (ix:List (Option Nat)) (wi:TI) (g:TG) (ts:TT) (tm:TM):TE:=fun σ H Q=>wi σ H fun J H1=>cIn g ts tm (zcm ix σ) J (fun ys H'=>∀ D,H' D=none→Q (.ref D) (kR H' D (.lst ys))) [] H1
theorem thx {α:Type} {X:Cx} {m:Sem α} {P Q:α→Shared→Prop} {E:Value→Shared→Prop} {s:Shared} (hx:X.xe=fun _ _=>False) (h:wpAny (model X.prog X.w) X.A m P X.xe s) (k:∀ a s',P a s'→Q a s'):wpAny (model X.prog X.w) X.A m Q E s :=
 cA h k fun _ _ z=>by rw [hx] at z; exact z.elim
theorem zgc {Y:Cx} {D:Addr} {elt:Expr} {te:TE} (hx:Y.xe=fun _ _=>False) (he:PE Y elt te):PM Y D [] (zeh elt (.ref D) Y.env) (zgN te):=by
 intro last kN s σ H ys kO nn Q Φ I a no h k;unfold zeh;refine ae (ae (thx hx (he (kN++[(D,zcY kO nn)]) s σ H _ (a.pin I) h) fun yv s1 ⟨y,H1,I1,r1,hz,q1⟩=>ae ?_));have a1:=a.back I1 (aB _ aI);have J1:Inv Y kN σ H1 s1:=I1.fewer fun p hp=>aY _ hp
 have ug:=a1.vals.length;refine fh jy ⟨_,a1.here,rfl⟩ jj (iU _ _) (jI D kO.toArray nn yv (by rw [ai]; lia)) ⟨a1.here,?_⟩;refine aj ?_;have q:=jV a1.here (·.push yv);have k10:∀ b o,b≠D→s1.heap.get? b=some o→(s1.heap.update D (cT (·.push yv))).get? b=some o:=fun b o hb e=>(bW s1.heap (cT (·.push yv)) (cJ hb)).trans e
 obtain⟨b0,b1,b2,b3,b4,b5⟩:=a1.fp;have I11:Inv Y kN σ H1 { s1 with heap:=s1.heap.update D (cT (·.push yv)) }:=J1.turned (t':=s1.toks) k10 b0 b1 b3 b4 b5;have e1:kO.toArray.push yv=(kO++[yv]).toArray:=by simp
 rw [e1] at q;refine k _ (ys++[y]) (kO++[yv]) _ H1 I11 ⟨a1.fp,q,a1.vals.append (.cons r1 .nil),?_⟩ q1;rw [aA,fR];lia
section
variable {Y:Cx} {D:Addr} {js js':List Nat} {elt:Expr} {gens:List Comprehension} {scope:Scope} {pos:Pos} {d:Nat} {tg:Expr} {ifs:List Expr} {p:Pos} {mk:Sem Fin→Sem Fin} {g:TG} {ts:TT} {tm:TM}
def zbo (tg:Expr) (ifs:List Expr) (p:Pos) (mk:Sem Fin→Sem Fin) (c:Code) (it:Value) (env:Env):Sem Fin :=
 standAt p >>= fun _=>pyNext it >>= fun r=>match r with
  | none=>pure (.done .next)
  | some v=>letOwnedTupleGo tg it v >>= fun _=>assign tg env v >>= fun _=>zgb ifs env >>= fun ok=>if ok=true then mk (again c) else again c
theorem zgP (hc:Y.calm=true) (hx:Y.xe=fun _ _=>False) (rZ:GS js g) (mB:∀ j∈js,j∉js') (hg:PG Y tg g) (ht:zcl Y ifs ts) (hm:PM Y D js' mk tm)
  (mj:∀ it,compTurn (.ListComp elt gens scope pos) d it (.ref D) Y.env=zbo tg ifs p mk (.compLoop (.ListComp elt gens scope pos) d it (.ref D) Y.env) it Y.env)
  {kN:List (Addr×Obj)} {σ:St} {H2:Hp} {s2:Shared} {it:Addr} {fp:List Addr} {tn:Nat→Heap→Prop} {J:It} {Q:List V→Hp→Prop} {R:Result→Shared→Prop} {ys:List V} {kO:List Value} {nn:Nat}
  (I2:Inv Y kN σ H2 s2) (a2:AccAt Y kN H2 s2 D ys kO nn) (no:zeG (js++js') σ) (T:Turn Y.prog Y.w Y.K tg J fp it tn) (lR:tn 0 s2.heap) (f2:∀ b∈fp,zbC Y kN H2 b) (fD:∀ b∈fp,b≠D) (q:cIn g ts tm σ J Q ys H2)
  (hR:∀ (s':Shared) (n9:List V) (its':List Value) (uf:Nat) (H':Hp),Inv Y kN σ H' s'→AccAt Y kN H' s' D n9 its' uf→Q n9 H'→R (.ok .next) s') :
  codeAny (model Y.prog Y.w) Y.A (.compLoop (.ListComp elt gens scope pos) d (.ref it) (.ref D) Y.env) R s2:=by
 obtain⟨W,⟨m0,w0⟩,turn⟩:=q;have vh:∀ {H':Hp} {kO:List Value} {nn:Nat},(∀ b∈fp,H' b=none)→∀ b∈fp,zbC Y (kN++[(D,zcY kO nn)]) H' b:=fun {H' kO nn} hn b hb=>by
  obtain⟨_,a1,a2,a3,a4,a5⟩:=f2 b hb;refine⟨hn b hb,a1,a2,a3,a4,fun p hp=>?_⟩;rcases (aT.mp hp) with hp | hp
  ·exact a5 p (aY _ hp)
  ·rcases (aT.mp hp) with hp | hp
   ·exact a5 p (aB _ hp)
   ·obtain rfl:p=(D,zcY kO nn):=by simpa using hp
    exact (fD b hb).symm
 refine codeAny_loop rfl (fun n s'=>∃ i ys H' kO nn,Inv Y kN σ H' s'∧tn i s'.heap∧(∀ b∈fp,H' b=none)∧AccAt Y kN H' s' D ys kO nn∧W i n ys H') ?_ m0
  ⟨0,ys,H2,kO,nn,I2,lR,fun b hb=>(f2 b hb).1,a2,w0⟩
 rintro n s5 ⟨i,ys,H5,kO,nn,I5,vf,fr5,a5,w5⟩;show wpAny _ Y.A ((compTurn (.ListComp elt gens scope pos) d (.ref it) (.ref D) Y.env).onRaise (fun x=>do noteFrame x Y.env; theTreesLotGoes x)) _ _ s5;refine wpAny_noted ?_;rw [mj];unfold zbo;have I5p:=a5.pin I5
 (refine ae (eJ (ae ?_)))
 rcases turn i n ys H5 w5 with ⟨stop,qn⟩ | ⟨go,N,hN,step⟩
 ·refine cA (T.done Y rfl rfl rfl hc i _ s5 _ H5 (fun _ _=>False) I5p (vh fr5) vf stop) (fun r s6 ⟨hr,I6⟩=>?_) fun _ _ z=>z.elim
  subst hr;exact aj (hR s6 ys kO nn H5 (I6.fewer fun p hp=>aY _ hp) (a5.back I6 (aB _ aI)) qn)
 ·refine cA (T.item Y rfl rfl rfl hc i _ s5 _ H5 (fun _ _=>False) I5p (vh fr5) vf go) (fun r s6 ⟨u,hr,h6⟩=>?_) fun _ _ z=>z.elim
  subst hr;refine ae (cA h6 (fun _ s7 ⟨x,H7,I7,r7,y7,yW,fr7⟩=>?_) fun _ _ z=>z.elim);have I7':=I7.pinned (vh fr7) (T.obj _ _ yW);refine ae (thx hx (hg _ s7 _ H7 x u _ I7' r7 (rZ σ σ x H7 _ Kp.refl (step x H7 y7))) fun _ s8 ⟨σ8,H8,I8,kp,q8⟩=>?_);refine ae (thx hx (ht _ s8 σ8 H8 _ I8 q8) fun ok s9 ⟨H9,I9,q9⟩=>?_);have mD:(D,zcY kO nn)∈(kN++[(D,zcY kO nn)])++zbD fp s7.heap:=aY _ (aB _ aI);have a9:=a5.back I9 mD;have K9:Inv Y (kN++zbD fp s7.heap) σ8 H9 s9:=I9.fewer fun p hp=>(aT.mp hp).elim (fun z=>aY _ (aY _ z)) fun z=>aB _ z
  have wk:∀ (j:Nat) v,σ[j]? = some (some v)→σ8[j]? = some (some v):=fun j v e=>by
   have hj:j∉js:=fun z=>no j (aY _ z) v e
   rw [kp.2 j hj];exact e
  have back:∀ {H':Hp} {s':Shared},Inv Y (kN++zbD fp s7.heap) σ8 H' s'→Inv Y kN σ H' s'∧tn (i+1) s'.heap∧∀ b∈fp,H' b=none:=fun {H' s'} I'=>by
   refine⟨(I'.fewer fun p hp=>aY _ hp).weak kp.1.symm wk,T.keep _ _ _ yW fun b hb o e=>(I'.pin (b,o) (aB _ (aB _ (zbk hb e)))).1,fun b hb=>?_⟩;obtain⟨o,e,d⟩:=T.obj _ _ yW b hb;exact (I'.pin (b,o) (aB _ (aB _ (zbk hb e)))).2.1
  cases ok with
  | false =>
   rw [if_neg aR] at q9 ⊢;obtain⟨m',rC,w9⟩:=hN _ _ q9;obtain⟨b1,b2,b3⟩:=back K9;exact aj ⟨rfl,m',rC,i+1,ys,H9,kO,nn,b1,b2,b3,a9,w9⟩
  | true =>
   rw [if_pos rfl] at q9 ⊢;have a9':AccAt Y (kN++zbD fp s7.heap) H9 s9 D ys kO nn:=by
    obtain⟨b0,b1,b2,b3,b4,b5⟩:=a9.fp;refine⟨⟨b0,b1,b2,b3,b4,fun p hp=>?_⟩,a9.here,a9.vals,a9.len⟩;rcases (aT.mp hp) with hp | hp
    ·exact b5 p (aY _ hp)
    ·rcases (aT.mp hp) with hp | hp
     ·exact b5 p (aB _ hp)
     ·exact fD _ (zd4 hp).1
   have no':zeG js' σ8:=fun j hj v e=>by
    have mS:j∉js:=fun z=>mB j z hj
    rw [kp.2 j mS] at e;exact no j (aB _ hj) v e
   refine cA (hm (again _) _ s9 σ8 H9 ys kO nn N (fun fin s'=>match fin with | .done f=>R (.ok f) s' | .again c'=>c'=_∧∃ m,m < n∧_) K9 a9' no' q9 fun s' n9 its' uf H' I' a' n'=>?_) (fun _ _ z=>z) fun _ _ z=>z.elim
   obtain⟨m',rC,w'⟩:=hN _ _ n';obtain⟨b1,b2,b3⟩:=back I';obtain⟨c0,c1,c2,c3,c4,c5⟩:=a'.fp;refine aj ⟨rfl,m',rC,i+1,n9,H',its',uf,b1,b2,b3,⟨⟨c0,c1,c2,c3,c4,fun p hp=>?_⟩,a'.here,a'.vals,a'.len⟩,w'⟩;rcases (aT.mp hp) with hp | hp
   ·exact c5 p (aY _ hp)
   ·exact c5 p (aB _ (aY _ hp))
theorem zfk {prog:Program} {w:World} {A:Around} {R:Result→Shared→Prop} {s:Shared} {iter:Expr} {it acc:Value} {env:Env} (hd:gens[d]? = some ⟨tg,iter,ifs,0⟩)
  (h0:codeAny (model prog w) A (.compLoop (.ListComp elt gens scope pos) d it acc env) R s)
  (h:wpAny (model prog w) A (pyIter it) (fun yX s'=>codeAny (model prog w) A (.compLoop (.ListComp elt gens scope pos) d yX acc env) R s') (fun _ _=>False) s) :
  codeAny (model prog w) A (.compStart (.ListComp elt gens scope pos) d it acc env) R s:=by
 refine fX ?_;show wpAny _ _ ((compStart (.ListComp elt gens scope pos) d it acc env).onRaise (fun x=>do noteFrame x env; standAt theWindowsPlace)) _ _ s;refine wpAny_notedAt ?_;unfold compStart;have e1:(clausesOf (.ListComp elt gens scope pos))[d]? = some ⟨tg,iter,ifs,0⟩:=hd;rw [e1]
 (show wpAny _ _ (ask >>= _) _ _ s)
 (refine ae (wpAny_askSetting (wpAny_ite ?_)))
 split
 ·first
   | (exact ae (aj (aj ⟨rfl,h0⟩)))
   | (exact aj ⟨rfl,h0⟩)
 ·first
   | exact ae (cB (ae (eJ (ae (cA h (fun yX s' h'=>aj (And.intro rfl h')) fun _ _ x=>x.elim)))))
   | (refine ae (cB ?_); show wpAny _ _ (standAt iter.pos >>= _) _ _ s; exact ae (eJ (ae (cA h (fun yX s' h'=>aj (And.intro rfl h')) fun _ _ x=>x.elim))))
theorem zlo {iter:Expr} {wi:TI} (hc:Y.calm=true) (hx:Y.xe=fun _ _=>False) (rZ:GS js g) (mB:∀ j∈js,j∉js') (hi:PI Y tg iter wi) (hg:PG Y tg g) (ht:zcl Y ifs ts) (hm:PM Y D js' mk tm) (hd:gens[d]? = some ⟨tg,iter,ifs,0⟩)
  (mj:∀ it,compTurn (.ListComp elt gens scope pos) d it (.ref D) Y.env=zbo tg ifs p mk (.compLoop (.ListComp elt gens scope pos) d it (.ref D) Y.env) it Y.env)
  (hs:∀ x,foldedSetIterable iter Y.env x=pure x:=by intro _; rfl) :
  PM Y D (js++js') (zgM (.ListComp elt gens scope pos) iter d (.ref D) Y.env) (zgO wi g ts tm):=by
 intro last kN s σ H ys kO nn Q Φ I a no h k;unfold zgM;refine ae (thx hx (hi (kN++[(D,zcY kO nn)]) s σ H _ (a.pin I) h) fun v s1 h1=>ae (eJ (ae ?_)));rw [hs v];refine aj (ae (bK (thx hx h1 fun t7 s2 h2=>?_)));obtain⟨it,fp,tn,J,H2,e,I2,T,lR,f2,q⟩:=h2;subst e;have a2:=a.back I2 (aB _ aI);have J2:Inv Y kN σ H2 s2:=I2.fewer fun p hp=>aY _ hp
 have yY:∀ b∈fp,zbC Y kN H2 b:=fun b hb=>by
  obtain⟨c0,c1,c2,c3,c4,c5⟩:=f2 b hb;refine⟨c0,c1,c2,c3,c4,fun p hp=>?_⟩;rcases (aT.mp hp) with hp | hp
  ·exact c5 p (aY _ hp)
  ·exact c5 p (aB _ (aY _ hp))
 have fD:∀ b∈fp,b≠D:=fun b hb=>((f2 b hb).2.2.2.2.2 (D,zcY kO nn) (aB _ (aB _ aI))).symm
 have loop:codeAny (model Y.prog Y.w) Y.A (.compLoop (.ListComp elt gens scope pos) d (.ref it) (.ref D) Y.env) (fun r s'=>match r with | .ok f=>wpAny (model Y.prog Y.w) Y.A last Φ (fun _ _=>False) s' | .error e=>cameBackBy (model Y.prog Y.w) Y.A Y.env (fun _ _=>False) e s') s2 :=
  zgP hc hx rZ mB hg ht hm mj J2 a2 no T lR yY fD q fun s' n9 its' uf H' I' a' q'=>k s' n9 its' uf H' I' a' q'
 exact ae (wpAny_runOwn (zfk hd loop (T.self _ 0 _ _ _ lR loop)))
end
section
variable {X:Cx} {elt tg iter:Expr} {ifs:List Expr} {gs:List Comprehension} {scope:Scope} {pos:Pos} {N':List Str} {ix:List (Option Nat)} {js js':List Nat} {g:TG} {ts:TT} {tm:TM} {mk:Addr→Env→Sem Fin→Sem Fin}
theorem zcO {kN:List (Addr×Obj)} {σ:St} {H2:Hp} {s2:Shared} {it:Addr} {fp:List Addr} {tn:Nat→Heap→Prop} {J:It} {Q:VK} {E:Value→Shared→Prop} {RR:Value→Addr→Result→Shared→Prop}
  (SC:CompSc X N' ix scope) (hc:X.calm=true) (rZ:GS js g) (mB:∀ j∈js,j∉js') (qB:∀ j∈js++js',ix[j]? = some none)
  (hg:∀ s₃ H₃ ex kN,PG (zr X N' scope s₃ H₃ ex kN) tg g) (ht:∀ s₃ H₃ ex kN,zcl (zr X N' scope s₃ H₃ ex kN) ifs ts) (hm:∀ s₃ H₃ ex kN D,PM (zr X N' scope s₃ H₃ ex kN) D js' (mk D (zr X N' scope s₃ H₃ ex kN).env) tm)
  (mj:∀ it D env,compTurn (.ListComp elt (⟨tg,iter,ifs,0⟩ :: gs) scope pos) 0 it (.ref D) env=zbo tg ifs iter.pos (mk D env) (.compLoop (.ListComp elt (⟨tg,iter,ifs,0⟩ :: gs) scope pos) 0 it (.ref D) env) it env)
  (I2:Inv X kN σ H2 s2) (T:Turn X.prog X.w X.K tg J fp it tn) (lR:tn 0 s2.heap) (f2:∀ b∈fp,zbC X kN H2 b) (q:cIn g ts tm (zcm ix σ) J (fun ys H'=>∀ D,H' D=none→Q (.ref D) (kR H' D (.lst ys))) [] H2)
  (hRR:∀ (D C:Addr) (s':Shared) (ys:List V) (H':Hp) (m:Str→Option Value),Inv X kN σ (kR H' D (.lst ys)) s'→zbC X kN (kR H' D (.lst ys)) C→s'.heap.Ns C m→Q (.ref D) (kR H' D (.lst ys))→RR (.ref D) C (.ok .next) s') :
  wpAny (model X.prog X.w) X.A (newList []) (fun acc s₃=>wpAny (model X.prog X.w) X.A (newFunctionEnv scope X.env.globals (zW X.env.cells scope.names []) [] X.env.qual none .none (some X.env)) (fun vT s₄ =>
   codeAny (model X.prog X.w) X.A (.compStart (.ListComp elt (⟨tg,iter,ifs,0⟩ :: gs) scope pos) 0 (.ref it) acc { vT with scope:=relabel scope X.env }) (RR acc vT.locals) s₄) E s₃) E s2:=by
 have ph:∀ y∈scope.names,y.2 = .free→∃ c,X.env.cells.lookup y.1=some c:=fun y hy hf=>I2.ok.has y.1 (SC.free y hy hf)
 have tq:∀ x c,(zW X.env.cells scope.names []).lookup x=some c→X.env.cells.lookup x=some c:=za9 scope.names [] ph (fun x c e=>by simp at e);refine bN (zhD ?_);have I3:Inv X kN σ H2 { s2 with heap:=s2.heap.push { cls:=.type "list",dict:=none,data:=.seq ([]:List Value).toArray } }:=I2.kept (t':=s2.toks) fun b o e=>am _ e
 have hD3:(s2.heap.push { cls:=.type "list",dict:=none,data:=.seq ([]:List Value).toArray }).get? s2.heap.objs.size=some { cls:=.type "list",dict:=none,data:=.seq ([]:List Value).toArray }:=aK _ rfl;have vU:tn 0 (s2.heap.push { cls:=.type "list",dict:=none,data:=.seq ([]:List Value).toArray }):=T.keep _ _ _ lR fun b hb o e=>am _ e
 have vV:(s2.heap.push { cls:=.type "list",dict:=none,data:=.seq ([]:List Value).toArray }).objs.size=s2.heap.objs.size+1:=bJ _ _;generalize hh3:s2.heap.push { cls:=.type "list",dict:=none,data:=.seq ([]:List Value).toArray }=h3 at *;have yZ:=T.obj _ _ lR;have tv:∀ b∈fp,b < s2.heap.objs.size:=fun b hb=>by obtain⟨o,e,_⟩:=yZ b hb; exact aE e
 have stk:∀ b∈frs X.stack,b=X.env.locals∨b∈X.fs:=fun b hb=>aN.mp (I2.stkSub b hb)
 have vW:zbC X kN H2 s2.heap.objs.size:=I2.fpOk (ag _) I2.fresh;have pE:∀ b∈s2.heap.objs.size :: fp,zbC X kN H2 b:=fun b hb=>by
  rcases (aN.mp hb) with e | hb
  ·rw [e]; exact vW
  ·exact f2 b hb
 have uh:∀ b∈s2.heap.objs.size :: fp,b < h3.objs.size:=fun b hb=>by
  rw [vV];rcases (aN.mp hb) with e | hb; · rw [e]; exact fL _
  ·exact cZ (tv b hb)
 have tw:∀ b∈s2.heap.objs.size :: fp,b∉frs X.stack:=fun b hb z=>by
  obtain⟨_,a1,a2,_⟩:=pE b hb;rcases stk b z with e | e
  ·exact a1 e
  ·exact a2 e
 have hns₁:(pushCells (h3.push { cls:=.type "dict",data:=.dict #[] }) scope.names).Ns h3.objs.size (fun _=>none):=(Heap.Ns.new h3 (.type "dict")).keeps (pushCells_keeps _ _);have old:∀ b o,h3.get? b=some o→(pushCells (h3.push { cls:=.type "dict",data:=.dict #[] }) scope.names).get? b=some o:=fun b o e=>pushCells_keeps _ _ b o (am _ e)
 have y4:∀ x c,X.env.cells.lookup x=some c→c < h3.objs.size:=fun x c e=>by
  obtain⟨v,q⟩:=I3.cell x c e;exact q.lt
 have co:CO (pushCells (h3.push { cls:=.type "dict",data:=.dict #[] }) scope.names) (h3.objs.size+1) (zW X.env.cells scope.names []) (cellsFrom (h3.objs.size+1) scope.names (zW X.env.cells scope.names [])):=by
  have:=ziG (lo:=h3.objs.size+1) (old:=zW X.env.cells scope.names []) scope.names (h3.push { cls:=.type "dict",data:=.dict #[] }) (zW X.env.cells scope.names [])
   ⟨fun x c e=>.inr ⟨e,cZ (y4 x c (tq x c e))⟩,fun x y c e1 e2=>I2.ok.inj x y c (tq x c e1) (tq y c e2)⟩ (by rw [bJ]; exact ag _)
  rw [bJ] at this;exact this
 generalize pushCells (h3.push { cls:=.type "dict",data:=.dict #[] }) scope.names=h₁ at hns₁ old co ⊢;have y6:∀ {x c},(cellsFrom (h3.objs.size+1) scope.names (zW X.env.cells scope.names [])).lookup x=some c→(h₁.IsCell c none∧h3.objs.size+1≤c)∨X.env.cells.lookup x=some c:=fun {x c} e=>(co.each x c e).elim .inl fun z=>.inr (tq x c z.1)
 have cfr:∀ x,scope.names.lookup x=some .free→(cellsFrom (h3.objs.size+1) scope.names (zW X.env.cells scope.names [])).lookup x=(zW X.env.cells scope.names []).lookup x:=fun x hx=>zeE _ _ _ _ fun z=>by
  have:=SC.cells _ z rfl;rw [hx] at this;cases this
 let s3:Shared:={ s2 with heap:=h3 }
 let Y:Cx:=zr X N' scope s3 H2 (s2.heap.objs.size :: fp) kN
 have p8:Inv X kN σ H2 s3:=I3;have okY:Y.Ok:=by
  refine⟨I2.ok.mod,SC.kind,I2.ok.glob,I2.ok.blt,ag _,co.inj,fun x hx=>?_,fun x c z e=>?_,I2.ok.hd,I2.ok.frames,.inl rfl,fun b hb=>?_,fun b o e=>p8.bs b o e,?_,fun b o e hb=>?_,tw,p8.stack,p8.stkFree⟩
  ·have tx:=zck (env:=X.env) (names:=scope.names) (x:=x) hx;rcases tx with tx | tx
   ·obtain⟨c,e⟩:=zbn (cs:=X.env.cells) scope.names [] x (.inr (lookup_mem tx));exact⟨c,(cfr x tx).trans e⟩
   ·obtain⟨c,e,_⟩:=zeF scope.names (h3.objs.size+1) (zW X.env.cells scope.names []) x (lookup_mem tx);exact⟨c,e⟩
  ·obtain⟨c',e',l'⟩:=zeF scope.names (h3.objs.size+1) (zW X.env.cells scope.names []) x (lookup_mem (by have z':(scope.names.lookup x == some cK)=true:=z; simpa using z'));have e2:(cellsFrom (h3.objs.size+1) scope.names (zW X.env.cells scope.names [])).lookup x=some c:=e;rw [e'] at e2;cases e2;exact gF l'
  ·refine⟨a8 (uh b hb),fun x c e=>(y6 e).elim (fun z y=>?_) fun z=>(pE b hb).2.2.2.2.1 x c z⟩;subst y;exact bQ _ (bh (uh _ hb) (gF z.2))
  ·exact bd I2.ok.bsz p8.sz
  ·obtain⟨_,_,_,a3,_⟩:=pE b hb;rcases a3 with z | z
   ·exact I2.ok.noex b o e z
   ·have:=(I2.ok.bs b o e).1;exact absurd (bh (aE this) z) (bQ _)
 have y8:Inv Y [] (zcm ix σ) H2 { s3 with heap:=h₁ }:=by
  refine⟨okY,rfl,I2.bare,Un.kept old,⟨_,hns₁,fun j x v e1 e2 e3=>?_⟩,fun x c e=>?_,p8.fresh,fun x c e=>(y6 e).elim (fun z=>p8.hok.fresh (gF z.2)) fun z=>I2.freeC x c z,fun p hp=>?_,p8.hok.kept old,?_⟩
  ·unfold zcm at e2;rw [ah] at e2;cases hj:ix[j]? with
   | none=>rw [hj] at e2; simp at e2
   | some oi =>
    rw [hj] at e2;cases oi with
    | none=>simp at e2
    | some i =>
     obtain⟨y,h1,h2,x3⟩:=SC.cap j i hj;have hxy:y=x:=by
      have e1':N'[j]? = some x:=e1;rw [h1] at e1';exact bf e1'
     subst hxy;have vX:(σ[i]?).join=some v:=by simpa using e2
     have y9:σ[i]? = some (some v):=by
      cases hs:σ[i]? with
      | none=>rw [hs] at vX; simp at vX
      | some w=>rw [hs] at vX; simp at vX; rw [vX]
     obtain⟨m,hn,hl⟩:=p8.loc;have hk:=SC.free (y,.free) (lookup_mem x3) rfl;have Aa:Vis X.env.scope y:=hk.elim (fun z=>.inr (.inl z)) fun z=>.inr (.inr z)
     obtain⟨u,r,l⟩:=hl i y v h2 y9 Aa;refine⟨u,r,.inr ⟨zaR x3,?_⟩⟩;obtain⟨c,nD⟩:=zbn (cs:=X.env.cells) scope.names [] y (.inr (lookup_mem x3));refine⟨c,(cfr y x3).trans nD,?_⟩;rcases l with ⟨nF,_⟩ | ⟨_,c',lF,nE⟩
     ·rcases hk with hk | hk
      ·have nK:X.env.kindOf y=some .cell:=hk;rw [nK] at nF; cases nF
      ·have nK:X.env.kindOf y=some .free:=hk;rw [nK] at nF; cases nF
     ·have:=tq y c nD;rw [lF] at this;cases this;obtain⟨o,ho,hd⟩:=nE;exact⟨o,old _ _ ho,hd⟩
  ·rcases y6 e with z | z
   ·exact⟨_,z.1⟩
   ·obtain⟨v,o,ho,hd⟩:=p8.cell x c z;exact⟨v,o,old _ _ ho,hd⟩
  ·have pf:p∈X.pn++kN:=by
    have:p∈(X.pn++kN)++([]:List (Addr×Obj)):=hp;simpa using this
   obtain⟨a1,a2,a3,a4,a5⟩:=p8.pin p pf;exact⟨old _ _ a1,a2,a8 (aE a1),fun z=>(stk _ z).elim a3 a4,a5⟩
  ·unfold zcm;rw [ab];exact SC.len.symm
 have vh:∀ {H':Hp},(∀ b∈s2.heap.objs.size :: fp,H' b=none)→∀ b∈s2.heap.objs.size :: fp,zbC Y [] H' b:=fun {H'} hn b hb=>by
  obtain⟨_,a1,a2,a3,a4,a5⟩:=pE b hb;refine⟨hn b hb,a8 (uh b hb),tw b hb,.inl hb,(okY.exf b hb).2,fun p hp=>?_⟩;have:p∈(X.pn++kN)++([]:List (Addr×Obj)):=hp;exact a5 p (by simpa using this)
 have nn2:∀ b∈s2.heap.objs.size :: fp,H2 b=none:=fun b hb=>(pE b hb).1
 have ub:zeG (js++js') (zcm ix σ):=fun j hj v e=>by
  unfold zcm at e;rw [ah,qB j hj] at e;simp at e
 have loop:∀ s₅:Shared,s₅ = { s2 with heap:=h₁ } →
   codeAny (model X.prog X.w) X.A (.compLoop (.ListComp elt (⟨tg,iter,ifs,0⟩ :: gs) scope pos) 0 (.ref it) (.ref s2.heap.objs.size) (compEnvC scope (cellsFrom (h3.objs.size+1) scope.names (zW X.env.cells scope.names [])) h3.objs.size X.env)) (RR (.ref s2.heap.objs.size) h3.objs.size) s₅:=by
  rintro s₅ rfl;refine zgP (Y:=Y) (kN:=[]) (σ:=zcm ix σ) (kO:=[]) (nn:=0) hc rfl rZ mB (hg s3 H2 _ kN) (ht s3 H2 _ kN) (hm s3 H2 _ kN s2.heap.objs.size) (fun it=>mj it _ _) y8 ⟨vh nn2 _ aI,old _ _ hD3,.nil,bj _⟩ ub T (T.keep _ _ _ vU fun b hb o e=>old b o e)
   (fun b hb=>vh nn2 b (av _ hb)) (fun b hb=>a8 (tv b hb)) q fun s6 ys kO nn H5 I6 a6 qn=>?_
  have dn5:H5 s2.heap.objs.size=none:=a6.fp.1;have I7:Inv X kN σ H5 s6:=by
   refine p8.call' (s':=s6) (ch:=s2.heap.objs.size :: fp) I6.os I6.base I6.hok I6.bare fun b hb=>?_
   obtain⟨_,a1,a2,a3,a4,a5⟩:=pE b hb;exact⟨a3,a1,a4,a5⟩
  have I8:Inv X kN σ (kR H5 s2.heap.objs.size (.lst ys)) s6:=by
   obtain⟨_,a1,a2,a3,a4,a5⟩:=vW;exact I7.track dn5 I2.sz (cJ a1) a4 a5 ⟨a6.len,kO,nn,a6.vals,a6.here⟩
  obtain⟨mm,x4,_⟩:=I6.loc;have dne:h3.objs.size≠s2.heap.objs.size:=by rw [vV]; exact gT _
  refine hRR _ _ s6 ys H5 mm I8 (p8.fpOk (H':=kR H5 s2.heap.objs.size (.lst ys)) (ag _) ?_) x4 (qn _ dn5);show kR H5 s2.heap.objs.size (.lst ys) h3.objs.size=none;rw [zk dne];exact I6.free
 exact zfk rfl (loop _ rfl) (T.self _ 0 _ _ _ (T.keep _ _ _ vU fun b hb o e=>old b o e) (loop _ rfl))
theorem zfl {wi:TI} (SC:CompSc X N' ix scope) (hc:X.calm=true) (rZ:GS js g) (mB:∀ j∈js,j∉js') (qB:∀ j∈js++js',ix[j]? = some none) (hi:PI X tg iter wi)
  (hg:∀ s₃ H₃ ex kN,PG (zr X N' scope s₃ H₃ ex kN) tg g) (ht:∀ s₃ H₃ ex kN,zcl (zr X N' scope s₃ H₃ ex kN) ifs ts) (hm:∀ s₃ H₃ ex kN D,PM (zr X N' scope s₃ H₃ ex kN) D js' (mk D (zr X N' scope s₃ H₃ ex kN).env) tm)
  (mj:∀ it D env,compTurn (.ListComp elt (⟨tg,iter,ifs,0⟩ :: gs) scope pos) 0 it (.ref D) env=zbo tg ifs iter.pos (mk D env) (.compLoop (.ListComp elt (⟨tg,iter,ifs,0⟩ :: gs) scope pos) 0 it (.ref D) env) it env)
  (hs:∀ x,foldedSetIterable iter X.env x=pure x:=by intro _; rfl):PE X (.ListComp elt (⟨tg,iter,ifs,0⟩ :: gs) scope pos) (zeI ix wi g ts tm):=by
 intro kN s σ H Q I h;rw [eval_ListComp];have ph:∀ y∈scope.names,y.2 = .free→∃ c,X.env.cells.lookup y.1=some c:=fun y hy hf=>I.ok.has y.1 (SC.free y hy hf)
 refine gU (use:=none) rfl hs (zb7 ph) SC.kind SC.names (thn (hi kN s σ H _ I h) fun v s1 h1=>thn h1 fun t7 s2 h2=>?_);obtain⟨it,fp,tn,J,H2,e,I2,T,lR,f2,q⟩:=h2;subst e;refine zcO (RR:=fun acc C=>compPost (model X.prog X.w) X.A X.xe none (EP X kN σ Q) acc C) SC hc rZ mB qB hg ht hm mj I2 T lR f2 q ?_;intro D C s' ys H' m I' Ab hm q';refine⟨m,hm,fun vi mC=>⟨.ref D,_,?_,rfl,q'⟩⟩;obtain⟨f0,f1,yY,f3,f4,f5⟩:=Ab;exact I'.turned (t':=s'.toks) (fun b o hb e=>mC.extBut b o hb e) f0 f1 f3 f4 f5
theorem zcP {wi:TI} {i:Nat} {x:Str} {pos' mU:Pos} (hN:X.N.Nodup) (vY:X.N[i]? = some x) (hx:Loc X.env.scope x) (SC:CompSc X N' ix scope) (hc:X.calm=true) (rZ:GS js g) (mB:∀ j∈js,j∉js') (qB:∀ j∈js++js',ix[j]? = some none) (hi:PI X tg iter wi)
  (hg:∀ s₃ H₃ ex kN,PG (zr X N' scope s₃ H₃ ex kN) tg g) (ht:∀ s₃ H₃ ex kN,zcl (zr X N' scope s₃ H₃ ex kN) ifs ts) (hm:∀ s₃ H₃ ex kN D,PM (zr X N' scope s₃ H₃ ex kN) D js' (mk D (zr X N' scope s₃ H₃ ex kN).env) tm)
  (mj:∀ it D env,compTurn (.ListComp elt (⟨tg,iter,ifs,0⟩ :: gs) scope pos) 0 it (.ref D) env=zbo tg ifs iter.pos (mk D env) (.compLoop (.ListComp elt (⟨tg,iter,ifs,0⟩ :: gs) scope pos) 0 it (.ref D) env) it env)
  (vZ:swapsWith (.ListComp elt (⟨tg,iter,ifs,0⟩ :: gs) scope pos) (some (.Name x pos')) mU.line X.env=pure true:=by rfl)
  (hs:∀ x,foldedSetIterable iter X.env x=pure x:=by intro _; rfl) (hf:X.fn x=true∨X.env.scope.names.lookup x=some .local:=by first | exact .inl rfl | exact .inr rfl | assumption) :
  PS X (.Assign [.Name x pos'] (.ListComp elt (⟨tg,iter,ifs,0⟩ :: gs) scope pos) mU) (zf3 (zeI ix wi g ts tm) (zaI i)):=by
 intro kN s σ H D I h;have ph:∀ y∈scope.names,y.2 = .free→∃ c,X.env.cells.lookup y.1=some c:=fun y hy hf=>I.ok.has y.1 (SC.free y hy hf)
 rw [exec_Assign_Name_used _ _ _ _ vZ]; refine ae (eJ (ae ?_));show wpAny _ X.A (do let _ ← comprehension (.ListComp elt (⟨tg,iter,ifs,0⟩ :: gs) scope pos) scope X.env _ (newList []) false (eval iter X.env) (some (assign (.Name x pos') X.env))) _ _ s;refine ae (cA (gU (use:=some (assign (.Name x pos') X.env)) (Q:=fun _ s'=>SP X kN D .next s') rfl hs (zb7 ph) SC.kind SC.names
  (thn (hi kN s σ H _ I h) fun v s1 h1=>thn h1 fun t7 s2 h2=>?_)) (fun _ s' hq=>aj (aj hq)) fun _ _ e=>e)
 obtain⟨it,fp,tn,J,H2,e,I2,T,lR,f2,q⟩:=h2;subst e;refine zcO (Q:=fun x H1=>zaI i x σ H1 D.nx) (RR:=fun acc C=>compPost (model X.prog X.w) X.A X.xe (some (assign (.Name x pos') X.env)) (fun _ s'=>SP X kN D .next s') acc C) SC hc rZ mB qB hg ht hm mj I2 T lR f2 q ?_;intro Da C s' ys H' m I' Ab hm q';show wpAny _ X.A (assign (.Name x pos') X.env (.ref Da)) _ _ _;refine wpAny_assign_Name (zd0 I' hN vY hx (show RelV (.ref Da) (.ref Da) from rfl) (fun ua I'' ⟨a,oG,ha⟩=>?_) hf);obtain⟨f0,f1,yY,f3,f4,f5⟩:=Ab;have hCa:C≠a:=by
  rcases ha with e | e
  ·rw [e]; exact f1
  ·exact cJ (f4 x a e)
 refine⟨m,hm.sameBut oG hCa,fun h₃ hs₃=>⟨_,_,?_,q'⟩⟩;exact I''.turned (t':=ua.toks) (fun b o hb e=>hs₃.extBut b o hb e) f0 f1 f3 f4 f5
end
theorem ziI {elt t1 i1 t2 i2:Expr} {f1 f2:List Expr} {scope:Scope} {pos:Pos} (it:Value) (D:Addr) (env:Env):compTurn (.ListComp elt [⟨t1,i1,f1,0⟩,⟨t2,i2,f2,0⟩] scope pos) 0 it (.ref D) env =
  zbo t1 f1 i1.pos (zgM (.ListComp elt [⟨t1,i1,f1,0⟩,⟨t2,i2,f2,0⟩] scope pos) i2 1 (.ref D) env) (.compLoop (.ListComp elt [⟨t1,i1,f1,0⟩,⟨t2,i2,f2,0⟩] scope pos) 0 it (.ref D) env) it env:=by rfl
theorem zlp {elt t1 i1 t2 i2:Expr} {f1 f2:List Expr} {scope:Scope} {pos:Pos} (it:Value) (D:Addr) (env:Env):compTurn (.ListComp elt [⟨t1,i1,f1,0⟩,⟨t2,i2,f2,0⟩] scope pos) 1 it (.ref D) env =
  zbo t2 f2 i2.pos (zeh elt (.ref D) env) (.compLoop (.ListComp elt [⟨t1,i1,f1,0⟩,⟨t2,i2,f2,0⟩] scope pos) 1 it (.ref D) env) it env:=by rfl
def zcI (ix:List (Option Nat)):List Nat:=(aD ix.length).filter fun j=>ix[j]? == some none
theorem zbp {ix:List (Option Nat)} {i:Nat}:i∈zcI ix↔ix[i]? = some none:=by
 unfold zcI;rw [bS,bi,beq_iff_eq];exact⟨fun h=>h.2,fun h=>⟨(bg.mp h).1,h⟩⟩
def GK (ix:List (Option Nat)) (g:TG):Prop:=GS (zcI ix) g
def GKs (ix:List (Option Nat)) (g:TGs):Prop:=GSs (zcI ix) g
theorem z7 {ix:List (Option Nat)} {i:Nat} (hi:ix[i]? = some none):GK ix (zaI i):=zgL (zbp.2 hi)
theorem zc4 {ix:List (Option Nat)}:GKs ix zjX:=zc3
theorem zaJ {ix:List (Option Nat)} {i:Nat} {u:TGs} (hi:ix[i]? = some none) (h2:GKs ix u):GKs ix (zfg (zaI i) u):=zaW (zbp.2 hi) h2
theorem zeJ {ix:List (Option Nat)} {K:af} {n:Nat} {t:TGs} (h:GKs ix t):GK ix (ziv K n t):=zeH h
theorem zkR {elt t1 i1:Expr} {f1:List Expr} {scope:Scope} {pos:Pos} (it:Value) (D:Addr) (env:Env):compTurn (.ListComp elt [⟨t1,i1,f1,0⟩] scope pos) 0 it (.ref D) env =
  zbo t1 f1 i1.pos (zeh elt (.ref D) env) (.compLoop (.ListComp elt [⟨t1,i1,f1,0⟩] scope pos) 0 it (.ref D) env) it env:=by rfl
section
variable {X:Cx} {elt tg iter:Expr} {ifs:List Expr} {scope:Scope} {pos:Pos} {N':List Str} {ix:List (Option Nat)} {g:TG} {ts:TT} {te:TE}
theorem zS {wi:TI} (SC:CompSc X N' ix scope) (hc:X.calm=true) (hk:GK ix g) (hi:PI X tg iter wi)
  (hg:∀ s₃ H₃ ex kN,PG (zr X N' scope s₃ H₃ ex kN) tg g) (ht:∀ s₃ H₃ ex kN,zcl (zr X N' scope s₃ H₃ ex kN) ifs ts) (he:∀ s₃ H₃ ex kN,PE (zr X N' scope s₃ H₃ ex kN) elt te)
  (hs:∀ x,foldedSetIterable iter X.env x=pure x:=by intro _; rfl):PE X (.ListComp elt [⟨tg,iter,ifs,0⟩] scope pos) (zkQ ix wi g ts te) :=
 zfl (mk:=fun D env=>zeh elt (.ref D) env) (js:=zcI ix) (js':=[]) SC hc hk (fun _ _ h=>nomatch h) (fun j h=>zbp.1 (by simpa using h)) hi hg ht (fun s₃ H₃ ex kN D=>zgc rfl (he s₃ H₃ ex kN)) (fun _ _ _=>zkR _ _ _) hs
theorem zdr {wi:TI} {i:Nat} {x:Str} {pos' mU:Pos} (hN:X.N.Nodup) (vY:X.N[i]? = some x) (hx:Loc X.env.scope x) (SC:CompSc X N' ix scope) (hc:X.calm=true) (hk:GK ix g) (hi:PI X tg iter wi)
  (hg:∀ s₃ H₃ ex kN,PG (zr X N' scope s₃ H₃ ex kN) tg g) (ht:∀ s₃ H₃ ex kN,zcl (zr X N' scope s₃ H₃ ex kN) ifs ts) (he:∀ s₃ H₃ ex kN,PE (zr X N' scope s₃ H₃ ex kN) elt te)
  (vZ:swapsWith (.ListComp elt [⟨tg,iter,ifs,0⟩] scope pos) (some (.Name x pos')) mU.line X.env=pure true:=by rfl)
  (hs:∀ x,foldedSetIterable iter X.env x=pure x:=by intro _; rfl) (hf:X.fn x=true∨X.env.scope.names.lookup x=some .local:=by first | exact .inl rfl | exact .inr rfl | assumption) :
  PS X (.Assign [.Name x pos'] (.ListComp elt [⟨tg,iter,ifs,0⟩] scope pos) mU) (zf3 (zkQ ix wi g ts te) (zaI i)) :=
 zcP (mk:=fun D env=>zeh elt (.ref D) env) (js:=zcI ix) (js':=[]) hN vY hx SC hc hk (fun _ _ h=>nomatch h) (fun j h=>zbp.1 (by simpa using h)) hi hg ht (fun s₃ H₃ ex kN D=>zgc rfl (he s₃ H₃ ex kN)) (fun _ _ _=>zkR _ _ _) vZ hs hf
end
section
variable {X:Cx} {kN:List (Addr×Obj)} {σ:St} {H:Hp} {s:Shared} {h':Heap}
theorem Inv.turnedL {t':Nat} {ch:List Addr} (I:Inv X kN σ H s) (k:∀ b o,b∉ch→s.heap.get? b=some o→h'.get? b=some o) (hf:∀ b∈ch,zbC X kN H b)
  (th:∀ b∈ch,∃ o,h'.get? b=some o):Inv X kN σ H { s with heap:=h',toks:=t' }:=by
 have sS:∀ b u,H b=some u→b∉ch:=fun b u e z=>by rw [(hf b z).1] at e; cases e
 refine I.step (g':=s.gens) (d':=s.drawn) (ch:=ch) (fun b hb=>?_) (fun b o _ _ hc e _=>k b o hc e) (fun b o _ _ hc e _=>⟨o.slots,k b o hc e⟩) (fun _ _ _ _ n=>n)
  (fun b o hc e=>⟨o,k b o hc e⟩) (fun _ _ e=>e) (fun _ _ _ e=>e) (fun b ps e=>⟨#[],by rw [e]; simp⟩) (fun m hm=>?_) (fun b u e=>?_) I.bare
 ·obtain⟨_,a1,_,a3,a4,a5⟩:=hf b hb;exact⟨a3,a1,a4,a5⟩
 ·obtain⟨o,es,ep,ho,r⟩:=hm;exact⟨o,es,ep,k _ o (fun z=>(hf _ z).2.1 rfl) ho,r⟩
 ·refine (I.hok b u e).stay (fun c v hc q=>k c v ?_ q) (fun _ q=>q) fun _ _ q=>q
  rcases hc with z | z
  ·rw [z]; exact sS b u e
  ·exact sS c _ z
theorem Inv.turnedNew {t':Nat} {ch:List Addr} {T:Addr} {o:HO} (I:Inv X kN σ H s) (k:∀ b o,b∉ch→s.heap.get? b=some o→h'.get? b=some o) (hf:∀ b∈ch,zbC X kN H b)
  (th:∀ b∈ch,∃ o,h'.get? b=some o) (hT:s.heap.objs.size≤T) (ok:zai X.prog X.w (kR H T o) h' T o):Inv X kN σ (kR H T o) { s with heap:=h',toks:=t' }:=by
 have I1:Inv X kN σ H { s with heap:=h',toks:=t' }:=I.turnedL k hf th;have hn:H T=none:=I.hok.fresh hT;obtain⟨_,a1,a2,a3,a4,a5⟩:=I.fpOk (H':=H) hT hn;exact I1.track hn (bd I.sz hT) (cJ a1) a4 a5 ok
end
def ziJ (Sq:Hp→Addr→List V→Prop) (a:Addr):It :=
 ⟨fun i H=>∃ xs x,Sq H a xs∧xs[i]? = some x,fun i H x H'=>∃ T v,H T=none∧x = .ref T∧H'=kR H T (.tup [.int i,v])∧∀ xs,Sq H a xs→xs[i]? = some v,fun i H=>∃ xs,Sq H a xs∧xs.length≤i⟩
theorem zcc {h:Heap} {T:Addr} {a b:Value} (e:h.get? T=some { cls:=.type "tuple",data:=.seq #[a,b] }):IsTup h T ([a,b]:List Value).toArray:=⟨_,e,rfl,_,rfl⟩
theorem za3:2≤sizeLine:=by rw [br]; decide
theorem zgd {P:Program} {w:World} {K:af} {es:List Expr} {k:Nat} {pos:Pos} (a it e:Addr) (vj:e≠it):Turn P w K (.Tuple es k pos) (ziJ (kP K) a) [e,it] e (fun i h=>(∃ old,IsEnum h e it i old)∧h.IsListIter it a i) where
 mem:=by simp
 obj:=fun i h st b hb=>by
  obtain⟨⟨old,he⟩,o,ho,hc,hd⟩:=st;rcases aN.mp hb with z | z
  ·subst z;exact⟨_,he,fun v z=>by cases z⟩
  ·have z:b=it:=by simpa using z
   subst z;exact⟨o,ho,fun v z=>by rw [hd] at z; cases z⟩
 keep:=fun i h h' st kk=>⟨st.1.imp fun old he=>kk e #[M] _ he,st.2.at fun o eo=>kk it #[M] o eo⟩
 item:=by
  intro X hP hw hK hc i kN s σ H E I hf st hg;subst hP hw hK;obtain⟨xs,x,hq,hx⟩:=hg;obtain⟨⟨old,he⟩,hit⟩:=st;obtain⟨kO,rv,p,hz⟩:=I.list hq;obtain⟨u,hu,ru⟩:=rv.get hx;have qC:e < s.heap.objs.size:=aE he;have hits:it < s.heap.objs.size:=by obtain⟨o,ho,_⟩:=hit; exact aE ho
  refine wpAny_pyNext_enum_item he hit p.isList (x:=u) (by simpa using hu) vj fun h' nZ qD hT hsz kk=>?_
  have k1:∀ b o,b∉[e,it]→s.heap.get? b=some o→h'.get? b=some o:=fun b o hb eo=>kk b o (fun z=>hb (by simp [z])) (fun z=>hb (by simp [z])) eo
  have v3:∀ b∈[e,it],∃ o,h'.get? b=some o:=fun b hb=>by
   rcases aN.mp hb with z | z
   ·subst z; exact⟨_,nZ⟩
   ·have z:b=it:=by simpa using z
    subst z;obtain⟨o,eo,_⟩:=qD;exact⟨o,eo⟩
  have I1:Inv X kN σ (kR H s.heap.objs.size (.tup [.int i,x])) { s with heap:=h',toks:=s.toks+1 } :=
   I.turnedNew k1 hf v3 (ag _) ⟨za3,_,.cons ⟨s.toks,rfl⟩ (.cons ru .nil),zcc hT⟩
  refine⟨_,rfl,gz nZ fun vi nL mC=>?_⟩;have fr:∀ b∈[e,it],kR H s.heap.objs.size (.tup [.int i,x]) b=none:=fun b hb=>by
   have kX:b < s.heap.objs.size:=by
    rcases aN.mp hb with z | z
    ·subst z; exact qC
    ·have z:b=it:=by simpa using z
     subst z; exact hits
   rw [zk (a8 kX)];exact (hf b hb).1
  have I2:Inv X kN σ (kR H s.heap.objs.size (.tup [.int i,x])) { s with heap:=vi,toks:=s.toks+1 } :=
   Inv.turnedL (s:={ s with heap:=h',toks:=s.toks+1 }) (ch:=[e]) (t':=s.toks+1) I1 (fun b o hb eo=>mC.extBut b o (by simpa using hb) eo) (fun b hb=>by
    have z:b=e:=by simpa using hb
    subst z;exact⟨fr b #[M],(hf b #[M]).2⟩) (fun b hb=>by
    have z:b=e:=by simpa using hb
    subst z;exact⟨_,nL⟩)
  refine⟨.ref s.heap.objs.size,_,I2,rfl,⟨_,x,I.fresh,rfl,rfl,fun ys hy=>by rw [I.list_inj hy hq]; exact hx⟩,⟨⟨_,by simpa using nL⟩,qD.extBut mC.extBut (cJ vj)⟩,fr⟩
 done:=by
  intro X hP hw hK hc i kN s σ H E I hf st hg;subst hP hw hK;obtain⟨xs,hq,hx⟩:=hg;obtain⟨⟨old,he⟩,hit⟩:=st;obtain⟨kO,rv,p,hz⟩:=I.list hq;have hl:=rv.length;obtain⟨f0,f1,f2,f3,f4,f5⟩:=hf it #[M];exact wpAny_pyNext_enum_end (I.ok.hd hc) he hit p.isList (by simp; lia) fun h' eb=>⟨rfl,I.turned (t':=s.toks) (fun b o hb e=>eb b o hb e) f0 f1 f3 f4 f5⟩
 self:=fun _ _ _ _ _ st h=>by
  obtain⟨⟨old,he⟩,_⟩:=st;exact fC he h
def iEn (Sq:Hp→Addr→List V→Prop) (ta:TA):TI:=fun σ H R=>ta σ H fun vs H1=>∃ a xs,vs = [.ref a]∧Sq H1 a xs∧R (ziJ Sq a) H1
theorem zbH {X:Cx} {es:List Expr} {k:Nat} {oH p pos:Pos} {a:Expr} {ta:TA} (hg:Gl X "enumerate") (hm:X.mg "enumerate" = none) (ha:PA X [a] ta) (hs:starEach [a] X.env = [(false,eval a X.env)]:=by rfl) :
  PI X (.Tuple es k oH) (.Call (.Name "enumerate" p) [a] [] pos) (iEn (kP X.K) ta):=by
 intro kN s σ H R I h;refine Call_ (zaP I hg hm boot_enumerate (bD (thn (ha pos kN s σ H _ I h) fun us s1 ⟨vs,H1,I1,r1,q1⟩=>?_) hs rfl));obtain⟨l,xs,e,hq,q⟩:=q1;subst e;cases r1 with
 | cons r rr =>
  cases rr;cases r;obtain⟨kO,rv,pl,hz⟩:=I1.list hq;refine call_enumerate_list pl.isList fun h' he hi hsz kk=>?_
  have I2:Inv X kN σ H1 { s1 with heap:=h' }:=I1.kept (t':=s1.toks) kk;refine fC he ?_; refine⟨_,[s1.heap.objs.size+1,s1.heap.objs.size],_,ziJ (kP X.K) l,H1,rfl,I2,zgd l s1.heap.objs.size (s1.heap.objs.size+1) (gT _),⟨⟨_,he⟩,hi⟩,fun b hb=>?_,q⟩;have hle:s1.heap.objs.size≤b:=by
   rcases aN.mp hb with z | z
   ·rw [z]; exact iC _
   ·have z:b=s1.heap.objs.size:=by simpa using z
    rw [z]; exact ag _
  exact I1.fpOk hle (I1.hok.fresh hle)
def zj9 (vk vm:Hp→Addr→List V→Prop) (a b:Addr):It :=
 ⟨fun i H=>∃ xs ys x y,vk H a xs∧vm H b ys∧xs[i]? = some x∧ys[i]? = some y,
  fun i H x H'=>∃ T u v,H T=none∧x = .ref T∧H'=kR H T (.tup [u,v])∧(∀ xs,vk H a xs→xs[i]? = some u)∧∀ ys,vm H b ys→ys[i]? = some v,
  fun i H=>∃ xs ys,vk H a xs∧vm H b ys∧(xs.length≤i∨ys.length≤i)⟩
theorem zhE {P:Program} {w:World} {K:af} {es:List Expr} {k:Nat} {pos:Pos} (a b:Addr) (n:Nat) (ha:a < n) (hb:b < n):Turn P w K (.Tuple es k pos) (zj9 (kP K) (kP K) a b) [n+4,n+2,n+3,n,n+1] (n+4)
  (fun i h=>IsZip h (n+4) (n+2) (n+3) .none∧IsPair h (n+2) (.ref n) (.ref (n+1))∧(∃ u v,IsPair h (n+3) u v)∧h.IsListIter n a i∧h.IsListIter (n+1) b i) where
 mem:=by simp
 obj:=fun i h st c hc=>by
  obtain⟨h1,h2,⟨u,v,h3⟩,⟨o4,e4,_,d4⟩,⟨o5,e5,_,d5⟩⟩:=st;simp only [aN,dC,or_false] at hc;rcases hc with z | z | z | z | z <;> subst z
  ·exact⟨_,h1,fun v z=>by cases z⟩
  ·exact⟨_,h2,fun v z=>by cases z⟩
  ·exact⟨_,h3,fun v z=>by cases z⟩
  ·exact⟨_,e4,fun v z=>by rw [d4] at z; cases z⟩
  ·exact⟨_,e5,fun v z=>by rw [d5] at z; cases z⟩
 keep:=fun i h h' st kk=>by
  obtain⟨h1,h2,⟨u,v,h3⟩,h4,h5⟩:=st;exact⟨kk _ #[M] _ h1,kk _ #[M] _ h2,⟨u,v,kk _ #[M] _ h3⟩,h4.at fun o eo=>kk _ #[M] o eo,h5.at fun o eo=>kk _ #[M] o eo⟩
 item:=by
  intro X hP hw hK hc i kN s σ H E I hf st hg;subst hP hw hK;obtain⟨xs,ys,x,y,ui,pF,hx,hy⟩:=hg;obtain⟨h1,h2,⟨u0,v0,h3⟩,h4,h5⟩:=st;obtain⟨v7,x5,p1,qE⟩:=I.list ui;obtain⟨mv,x6,p2,tz⟩:=I.list pF;obtain⟨u,hu,ru⟩:=x5.get hx;obtain⟨v,hv,rv⟩:=x6.get hy;have hzs:n+4 < s.heap.objs.size:=aE h1;refine wpAny_pyNext_zip_item (cU ha hb) h1 h2 h3 h4 h5 p1.isList p2.isList (x:=u) (y:=v) (by simpa using hu) (by simpa using hv) fun h' a1 a2 a3 a4 a5 a6 kk=>?_
  have k1:∀ c o,c∉[n+4,n+3,n,n+1]→s.heap.get? c=some o→h'.get? c=some o:=fun c o lF eo =>
   kk c o (fun z=>lF (by simp [z])) (fun z=>lF (by simp [z])) (fun z=>lF (by simp [z])) (fun z=>lF (by simp [z])) eo
  have sub:∀ c∈[n+4,n+3,n,n+1],c∈[n+4,n+2,n+3,n,n+1]:=fun c lF=>by
   simp only [aN,dC,or_false] at lF ⊢;rcases lF with z | z | z | z <;> subst z <;> simp
  have v3:∀ c∈[n+4,n+3,n,n+1],∃ o,h'.get? c=some o:=fun c lF=>by
   simp only [aN,dC,or_false] at lF;rcases lF with z | z | z | z <;> subst z
   ·exact⟨_,a1⟩
   ·exact⟨_,a2⟩
   ·obtain⟨o,e,_⟩:=a3; exact⟨o,e⟩
   ·obtain⟨o,e,_⟩:=a4; exact⟨o,e⟩
  have I1:Inv X kN σ (kR H s.heap.objs.size (.tup [x,y])) { s with heap:=h' } :=
   I.turnedNew (t':=s.toks) k1 (fun c lF=>hf c (sub c lF)) v3 (ag _) ⟨za3,_,.cons ru (.cons rv .nil),zcc a5⟩
  refine⟨_,rfl,wpAny_letOwnedTupleGo_zip a1 fun vi wa mC=>?_⟩;have fr:∀ c∈[n+4,n+2,n+3,n,n+1],kR H s.heap.objs.size (.tup [x,y]) c=none:=fun c lF=>by
   have kX:c < s.heap.objs.size:=by
    simp only [aN,dC,or_false] at lF;rcases lF with z | z | z | z | z <;> subst z <;> lia
   rw [zk (a8 kX)];exact (hf c lF).1
  have I2:Inv X kN σ (kR H s.heap.objs.size (.tup [x,y])) { s with heap:=vi } :=
   Inv.turnedL (s:={ s with heap:=h' }) (ch:=[n+4]) (t':=s.toks) I1 (fun c o lF eo=>mC.extBut c o (by simpa using lF) eo) (fun c lF=>by
    have z:c=n+4:=by simpa using lF
    subst z;exact⟨fr _ #[M],(hf _ #[M]).2⟩) (fun c lF=>by
    have z:c=n+4:=by simpa using lF
    subst z;exact⟨_,wa⟩)
  refine⟨.ref s.heap.objs.size,_,I2,rfl,⟨_,x,y,I.fresh,rfl,rfl,fun zs hz=>by rw [I.list_inj hz ui]; exact hx,fun zs hz=>by rw [I.list_inj hz pF]; exact hy⟩,
   ⟨wa,mC.extBut _ _ (cU ha hb).TIz (kk _ _ (cU ha hb).TIz (cU ha hb).TITO (cU ha hb).TIi1 (cU ha hb).TIi2 h2),⟨_,_,mC.extBut _ _ (cU ha hb).TOz a2⟩,a3.extBut mC.extBut (cU ha hb).i1z,a4.extBut mC.extBut (cU ha hb).i2z⟩,fr⟩
 done:=by
  intro X hP hw hK hc i kN s σ H E I hf st hg;subst hP hw hK;obtain⟨xs,ys,ui,pF,hx⟩:=hg;obtain⟨h1,h2,⟨u0,v0,h3⟩,h4,h5⟩:=st;obtain⟨v7,x5,p1,qE⟩:=I.list ui;obtain⟨mv,x6,p2,tz⟩:=I.list pF;have vn:=x5.length;have rV:=x6.length;refine wpAny_pyNext_zip_end (I.ok.hd hc) (cU ha hb) h1 h2 h3 h4 h5 p1.isList p2.isList ?_ fun h' kk=>⟨rfl,?_⟩
  ·rcases hx with z | z
   ·exact .inl (by simp; lia)
   ·exact .inr (by simp; lia)
  ·have hth:∀ c∈[n+4,n+3,n,n+1],c∈[n+4,n+2,n+3,n,n+1]:=fun c lF=>by
    simp only [aN,dC,or_false] at lF ⊢;rcases lF with z | z | z | z <;> subst z <;> simp
   refine I.step (g':=s.gens) (d':=s.drawn) (t':=s.toks) (ch:=[n+4,n+3,n,n+1]) (fun c lF=>?_) (fun c o _ _ nD e _=>kk c o (fun z=>nD (by simp [z])) (fun z=>nD (by simp [z])) (fun z=>nD (by simp [z])) (fun z=>nD (by simp [z])) e)
    (fun c o _ _ nD e _=>⟨o.slots,kk c o (fun z=>nD (by simp [z])) (fun z=>nD (by simp [z])) (fun z=>nD (by simp [z])) (fun z=>nD (by simp [z])) e⟩) (fun _ _ _ _ n=>n)
    (fun c o nD e=>⟨o,kk c o (fun z=>nD (by simp [z])) (fun z=>nD (by simp [z])) (fun z=>nD (by simp [z])) (fun z=>nD (by simp [z])) e⟩) (fun _ _ e=>e) (fun _ _ _ e=>e) (fun c ps e=>⟨#[],by rw [e]; simp⟩) (fun m hm=>?_) (fun c u e=>?_) I.bare
   ·obtain⟨_,a1,_,a3,a4,a5⟩:=hf c (hth c lF);exact⟨a3,a1,a4,a5⟩
   ·obtain⟨o,es',ep,ho,r⟩:=hm;have ne:∀ c∈[n+4,n+2,n+3,n,n+1],X.env.locals≠c:=fun c lF=>cJ (hf c lF).2.1
    exact⟨o,es',ep,kk _ o (ne _ #[M]) (ne _ #[M]) (ne _ #[M]) (ne _ #[M]) ho,r⟩
   ·have sS:∀ d u',H d=some u'→∀ c∈[n+4,n+2,n+3,n,n+1],d≠c:=fun d u' e' c lF z=>by rw [z,(hf c lF).1] at e'; cases e'
    refine (I.hok c u e).stay (fun d v' hd q=>kk d v' ?_ ?_ ?_ ?_ q) (fun _ q=>q) fun _ _ q=>q
    all_goals
     rcases hd with z | z
     ·rw [z]; exact sS c u e _ #[M]
     ·exact sS d _ z _ #[M]
 self:=fun _ _ _ _ _ st h=>wpAny_pyIter_zip st.1 h
def iZp (vk vm:Hp→Addr→List V→Prop) (ta:TA):TI:=fun σ H R=>ta σ H fun vs H1=>∃ a b xs ys,vs = [.ref a,.ref b]∧vk H1 a xs∧vm H1 b ys∧R (zj9 vk vm a b) H1
theorem zka {X:Cx} {es:List Expr} {k:Nat} {oH p pos:Pos} {a b:Expr} {ta:TA} (hg:Gl X "zip") (hm:X.mg "zip" = none) (ha:PA X [a,b] ta) (hs:starEach [a,b] X.env = [(false,eval a X.env),(false,eval b X.env)]:=by rfl) (pj:starEach [b] X.env = [(false,eval b X.env)]:=by rfl) :
  PI X (.Tuple es k oH) (.Call (.Name "zip" p) [a,b] [] pos) (iZp (kP X.K) (kP X.K) ta):=by
 intro kN s σ H R I h;refine Call_ (zaP I hg hm boot_zip (bD (thn (ha pos kN s σ H _ I h) fun us s1 ⟨vs,H1,I1,r1,q1⟩=>?_) (by rw [hs,pj]) (by rw [pj]; rfl)));obtain⟨l1,l2,xs,ys,e,ui,pF,q⟩:=q1;subst e;cases r1 with
 | cons r rr =>
  cases rr with
  | cons r' rr =>
   cases rr;cases r;cases r';obtain⟨v7,x5,pl1,qE⟩:=I1.list ui;obtain⟨mv,x6,pl2,tz⟩:=I1.list pF;have Ac:l1 < s1.heap.objs.size:=by obtain⟨_,_,e,_⟩:=pl1; exact aE e
   have Ad:l2 < s1.heap.objs.size:=by obtain⟨_,_,e,_⟩:=pl2; exact aE e
   refine call_zip_2 pl1.isList pl2.isList fun h' b1 b2 b3 b4 b5 b6 kk=>?_
   have I2:Inv X kN σ H1 { s1 with heap:=h' }:=I1.kept (t':=s1.toks) kk;refine wpAny_pyIter_zip b1 ?_;refine⟨_,_,_,zj9 (kP X.K) (kP X.K) l1 l2,H1,rfl,I2,zhE l1 l2 s1.heap.objs.size Ac Ad,⟨b1,b2,⟨_,_,b3⟩,b4,b5⟩,fun c hc=>?_,q⟩;have hle:s1.heap.objs.size≤c:=by
    simp only [aN,dC,or_false] at hc;rcases hc with z | z | z | z | z <;> subst z <;> lia
   exact I1.fpOk hle (I1.hok.fresh hle)
def zfm (Sq:Hp→Addr→List V→Prop) (a:Addr) (n:Nat):It :=
 ⟨fun i H=>i < n∧∃ xs,Sq H a xs∧xs.length=n,fun i H x H'=>H'=H∧∀ xs,Sq H a xs→xs[n - 1 - i]? = some x,fun i H=>n≤i⟩
theorem zhF {P:Program} {w:World} {K:af} {tg:Expr} (a it:Addr) (n:Nat):Turn P w K tg (zfm (kP K) a n) [it] it (fun i h=>i≤n∧h.IsRevIter it a ((n:Int) - 1 - (i:Int))) where
 mem:=by simp
 obj:=fun i h st b hb=>by
  have z:b=it:=by simpa using hb
  subst z;obtain⟨_,o,e,c,d⟩:=st;exact⟨o,e,fun v z=>by rw [d] at z; cases z⟩
 keep:=fun i h h' st k=>⟨st.1,st.2.at fun o e=>k it #[M] o e⟩
 item:=by
  intro X hP hw hK hc i kN s σ H E I hf st hg;subst hP hw hK;obtain⟨nM,xs,hq,hl⟩:=hg;obtain⟨kO,rv,p,hz⟩:=I.list hq;have kS:=rv.length;obtain⟨x,hx⟩:∃ x,xs[n - 1 - i]? = some x:=⟨xs[n - 1 - i]'#[O],#[M]⟩;obtain⟨u,hu,ru⟩:=rv.get hx;obtain⟨f0,f1,f2,f3,f4,f5⟩:=hf it #[M];have e:(n:Int) - 1 - (i:Int)=((n - 1 - i:Nat):Int):=by lia
  have hit:=st.2;rw [e] at hit;refine wpAny_pyNext_rev_item hit p.isList (x:=u) (by simpa using hu) fun h' kQ sb=>?_
  have I1:Inv X kN σ H { s with heap:=h' }:=I.turned (t':=s.toks) (fun b o hb e=>(sb.2 b hb).trans e) f0 f1 f3 f4 f5;have e2:((n - 1 - i:Nat):Int) - 1=(n:Int) - 1 - ((i+1:Nat):Int):=by lia
  rw [e2] at kQ;obtain⟨o,eo,c,d⟩:=id kQ;exact⟨u,rfl,zd2 (s:={ s with heap:=h' }) eo c d #[D] ⟨x,H,I1,ru,⟨rfl,fun ys hy=>by rw [I.list_inj hy hq]; exact hx⟩,⟨nM,kQ⟩,fun b hb=>(hf b hb).1⟩⟩
 done:=by
  intro X hP hw hK hc i kN s σ H E I hf st hg;subst hP hw hK;obtain⟨f0,f1,f2,f3,f4,f5⟩:=hf it #[M];have nM:n≤i:=hg;have e:(n:Int) - 1 - (i:Int) = -1:=by have:=st.1; lia
  have hit:=st.2;rw [e] at hit;exact wpAny_pyNext_rev_end (I.ok.hd hc) hit fun h' eb=>⟨rfl,I.turned (t':=s.toks) (fun b o hb e=>eb b o hb e) f0 f1 f3 f4 f5⟩
 self:=fun _ _ _ _ _ st h=>iV st.2 h
end L2
end
section
namespace PySem
namespace F
theorem zei:Manifest.owners.lookup (String.ofList ['d','e','s','r','e','v','e','r'].reverse)=some Manifest.sig_reversed:=by kernel_rfl
theorem slot_rvd_next:Slot "reversed" "__next__" "reversed.__next__" :=
 .of (owner:="reversed") (n:="__next__") (by rw [fY,dX]; kernel_rfl) #[N] #[N] #[N] (by first | exact .inl #[N] | exact .inr #[N]) (by rw [dw]; kernel_rfl)
theorem entry_rvd_next:entryFor table "reversed.__next__" = some Builtin.«reversed.__next__»:=entryFor_of_tree (by kernel_rfl)
theorem args_rvd_next_1 (a:Value):argsOk "reversed.__next__" ⟨[a],[]⟩:=by
 unfold argsOk; rw [signature?_of (id:="reversed.__next__") (n:=['_','_','t','x','e','n','_','_']) (o:=['d','e','s','r','e','v','e','r']) (by kernel_rfl) zei]; kernel_rfl
theorem slot_rvd_iter:Slot "reversed" "__iter__" "reversed.__iter__" :=
 .of (owner:="reversed") (n:="__iter__") (by rw [fY,dX]; kernel_rfl) #[N] #[N] #[N] (by first | exact .inl #[N] | exact .inr #[N]) (by rw [dw]; kernel_rfl)
theorem args_rvd_iter_1 (a:Value):argsOk "reversed.__iter__" ⟨[a],[]⟩:=by
 unfold argsOk; rw [signature?_of (id:="reversed.__iter__") (n:=['_','_','r','e','t','i','_','_']) (o:=['d','e','s','r','e','v','e','r']) (by kernel_rfl) zei]; kernel_rfl
theorem entry_rvd_iter:entryFor table "reversed.__iter__" = some Builtin.«dict_keyiterator.__iter__»:=entryFor_alias (id':="dict_keyiterator.__iter__") (by kernel_rfl) (by first | rfl | decide +kernel | (unfold String.splitOn; simp +decide [String.splitOnAux])) #[N] (by kernel_rfl)
theorem zdT:Slot "reversed" "__init__" "object.__init__":=.of (owner:="object") (n:="__init__") (by rw [fY,dX]; kernel_rfl) #[N] #[N] #[N] (by first | exact .inl #[N] | exact .inr #[N]) (by rw [dw]; kernel_rfl)
theorem called_rvd:TypeCalled "reversed" "reversed.__new__" "object.__init__" :=
 ⟨#[N],#[N],⟨_,_,mro_reversed⟩,made_reversed,#[N],by rw [dw]; kernel_rfl,zdT⟩
theorem noRev_tuple:typeLookup (.type "tuple") "__reversed__" = pure none:=by rw [fY,dX]; kernel_rfl
end F
def zeK (l:Addr) (i:Int):Obj:={ cls:=.type "reversed",data:=.fields #[.ref l,rawInt i] }
def Heap.IsRvd (h:Heap) (a l:Addr) (i:Int):Prop:=∃ o,h.get? a=some o∧o.cls = .type "reversed"∧o.data = .fields #[.ref l,rawInt i]
theorem Heap.IsRvd.typeIs {s:Shared} {a l:Addr} {i:Int} (x:s.heap.IsRvd a l i):s.TypeIs (.ref a) "reversed":=let ⟨o,ho,hc,_⟩:=x; ⟨o,ho,hc⟩
theorem Heap.IsRvd.at {h h':Heap} {a l:Addr} {i:Int} (x:h.IsRvd a l i) (e:∀ o,h.get? a=some o→h'.get? a=some o):h'.IsRvd a l i:=let ⟨o,ho,r⟩:=x; ⟨o,e _ ho,r⟩
open PyProof.Rows in
theorem zdU (l:Addr) (items:Array Value) :
  Meets (Builtin.«reversed.__new__» ⟨[.type "reversed",.ref l],[]⟩) (fun _ R s=>IsTup s.heap l items∧(items.size:Int) < 2 ^ 63 ∧
   R (.ok (.ret (.ref s.heap.objs.size))) { s with heap:=s.heap.push (zeK l ((items.size:Int) - 1)),toks:=s.toks+1+1 }) :=
 .of_wp fun prog w A R s h=>by
  obtain⟨hl,hsz,h⟩:=h;unfold Builtin.«reversed.__new__»; refine ae (b7 (newClass_reversed _) ?_)
  try dsimp only
  iterate 2 refine ae (b7 (a:=()) (by first | rfl | kernel_rfl) ?_)
  try dsimp only
  refine ae (eS hl.typeIs F.noRev_tuple ?_)
  try dsimp only
  refine ae (ae (m:=isInstance (.ref l) (.type "dict")) (gV hl.typeIs F.sub_tuple_dict ?_));simp only [aO,if_false]; refine ae (m:=specialOf (.ref l) "__getitem__") (eS hl.typeIs slot_tuple_getitem.lookup ?_);refine aj ?_
  try dsimp only
  try simp only [eL,aO,if_false]
  refine ae (len_tuple hl hsz ?_);refine ae (m:=asInt? _) (b7 (a:=some (items.size:Int)) rfl ?_)
  try dsimp only
  refine ae (m:=kj _ _) ?_;show wpAny _ _ (newObj (.type "reversed") (.fields #[.ref l,rawInt ((items.size:Int) - 1)]) none) _ _ _;refine bN ?_;exact aj ⟨_,rfl,h⟩
section
variable {prog:Program} {w:World} {A:Around} {E:Value→Shared→Prop} {s:Shared}
open PyProof.Rows
theorem zds {l:Addr} {items:Array Value} {Q:Value→Shared→Prop} (hl:IsTup s.heap l items) (hsz:(items.size:Int) < 2 ^ 63)
  (h:Q (.ref s.heap.objs.size) { s with heap:=s.heap.push (zeK l ((items.size:Int) - 1)),toks:=s.toks+1+1 }):wpAny (model prog w) A (call (.type "reversed") [.ref l]) Q E s:=by
 refine callType_new F.called_rvd #[D] (iJ _) (iW _) (fun obj=>iX obj _) iY (zdU l items) ⟨hl,hsz,?_⟩; exact⟨⟨_,aK _ rfl,rfl⟩,h⟩
theorem zbA {it l:Addr} {i:Nat} {items:Array Value} {x:Value} {Q:Option Value→Shared→Prop} (hit:s.heap.IsRvd it l (i:Int)) (hl:IsTup s.heap l items) (hx:items[i]? = some x) (hi:(i:Int) < 2 ^ 62)
  (hQ:∀ h',h'.IsRvd it l ((i:Int) - 1)→dU it s.heap h'→Q (some x) { s with heap:=h',toks:=s.toks+1 }):wpAny (model prog w) A (pyNext (.ref it)) Q E s:=by
 obtain⟨o,ho,hc,hd⟩:=id hit; unfold pyNext;refine ae (fJ (cb (name:=bT "__next__") hit.typeIs F.slot_rvd_next
  (cn F.slot_rvd_next hit.typeIs F.entry_rvd_next ?_ (F.args_rvd_next_1 _))))
 unfold Builtin.«reversed.__next__»;refine ae (b7 (a:=(aZ it,[])) rfl ?_); try dsimp only
 refine ae (cz ho hd (x:=.ref l) rfl ?_); refine ae (cz ho hd (x:=rawInt (i:Int)) rfl ?_);show wpAny _ _ (if (i:Int) < 0 then _ else _) _ _ s; rw [if_neg #[O]];refine ae (eS hl.typeIs slot_tuple_getitem.lookup ?_)
 try simp only [Option.isNone_some,aO,if_false]
 refine ae (wpAny_mkInt ?_); have kX:i < items.size:=by
  obtain⟨h1,_⟩:=cL.mp hx;exact h1
 refine ae (fJ (getItem_tuple (j:=i) hl #[O] #[O] (by rw [gh #[O] #[O]]; simp) hx ?_))
 try dsimp only
 refine ae (cz (s:={ s with toks:=s.toks+1 }) ho hd (x:=rawInt (i:Int)) rfl ?_);show wpAny _ _ (setField (.ref it) 1 (rawInt ((i:Int) - 1)) >>= _) _ _ _;refine ae (fi (s:={ s with toks:=s.toks+1 }) ho hd #[M] (aj ⟨x,rfl,aj (hQ _ ?_ (cf ..))⟩));exact⟨_,cm _ ho (fS (dN hd _)),(jJ ..).trans hc,by rw [dN hd]; simp⟩
theorem zbI {it l:Addr} {Q:Option Value→Shared→Prop} (hh:A.handled=none) (hit:s.heap.IsRvd it l (-1)) (hQ:∀ h',Heap.ExtBut it s.heap h'→Q none { s with heap:=h' }):wpAny (model prog w) A (pyNext (.ref it)) Q E s:=by
 obtain⟨o,ho,hc,hd⟩:=id hit; unfold pyNext;refine ae (fJ (cb (name:=bT "__next__") hit.typeIs F.slot_rvd_next
  (cn F.slot_rvd_next hit.typeIs F.entry_rvd_next ?_ (F.args_rvd_next_1 _))))
 unfold Builtin.«reversed.__next__»;refine ae (b7 (a:=(aZ it,[])) rfl ?_); try dsimp only
 refine ae (cz ho hd (x:=.ref l) rfl ?_); refine ae (cz ho hd (x:=rawInt (-1)) rfl ?_);show wpAny _ _ (if (-1:Int) < 0 then _ else _) _ _ s; rw [if_pos #[D]];refine ae (cB ?_);refine ae (ae (m:=setField (.ref it) 1 (rawInt (-1))) (fi ho hd #[M] ?_));have hd2:=dN hd (·.setIfInBounds 1 (rawInt (-1)));have o8:=cm (Obj.mapFields (·.setIfInBounds 1 (rawInt (-1)))) ho (fS hd2);refine fi o8 hd2 #[M] ?_
 try dsimp only
 refine ae ?_; show wpAny _ _ (newExc (.type "StopIteration") [] >>= _) _ _ _;refine ae ?_;simp only [newExc,newTuple];refine ae (bN ?_ (by size_fits)); refine ae (m:=firstArgMember _ _) (b7 (a:=dj) (by first | rfl | (simp only [firstArgMember]; rfl)) ?_);refine bN ?_ (by size_fits); simp only [raiseNew];refine ae (wpAny_handled ?_); first | rw [show A.in1.handled=none from hh] | rw [hh]
 refine ae (aj (wpAny_throw ?_)); refine ae (gV (T:="StopIteration") (b:=true) ⟨_,aK _ rfl,rfl⟩ isSubtype_stop ?_);exact aj (hQ _ ((((cf ..).extBut.trans (cf ..).extBut).push _).push _))
theorem zbe {it l:Addr} {i:Int} {Q:Value→Shared→Prop} (hit:s.heap.IsRvd it l i) (h:Q (.ref it) s):wpAny (model prog w) A (pyIter (.ref it)) Q E s:=by
 refine wpAny_pyIter_slot hit.typeIs F.slot_rvd_iter (cn F.slot_rvd_iter hit.typeIs F.entry_rvd_iter ?_ (F.args_rvd_iter_1 _));show wpAny _ _ (ret (.ref it)) _ _ s; exact aj ⟨_,rfl,"reversed",_,hit.typeIs,F.slot_rvd_next.lookup,h⟩
end
section
variable {prog:Program} {w:World} {A:Around} {E:Value→Shared→Prop} {s:Shared}
theorem zfn {it t:Addr} {i:Nat} {items:Array Value} {x:Value} {Q:Value→Shared→Prop} (hit:s.heap.IsTupleIter it t i) (ht:s.heap.IsTuple t items) (hx:items[i]? = some x)
  (hQ:∀ h',h'.IsTupleIter it t (i+1)→dU it s.heap h'→Q x { s with heap:=h' }):wpAny (model prog w) A (dq (.ref it)) Q E s:=by
 obtain⟨o,ho,hc,hd⟩:=id hit; obtain⟨ot,Ae,_,nt,Af⟩:=ht;unfold dq; refine ae (cb (name:=bT "__next__") hit.typeIs dh (cn dh hit.typeIs gm ?_ (ge _)));show wpAny _ _ (field (.ref it) 0 >>= _) _ _ s; refine ae (cz ho hd (x:=.ref t) rfl ?_); show wpAny _ _ (if (aZ t == dj)=true then _ else _) _ _ _; rw [if_neg (by exact aR)];refine ae (cz ho hd (x:=.int _ 0) rfl ?_); refine ae (m:=seqItems? _) (dz Ae Af ?_); simp only [cY,hx];have hn:=cm (Obj.mapFields (·.setIfInBounds 1 (rawInt ((i+1:Nat):Int)))) ho (fS (dN hd _));refine ae (fi ho hd #[M] (aj ⟨x,rfl,aj (hQ _ ⟨_,hn,(jJ ..).trans hc,?_⟩ (cf ..))⟩)); rw [dN hd]; simp [rawInt]
theorem zcQ {it t:Addr} {i:Nat} {items:Array Value} {Q:Value→Shared→Prop} (hh:A.handled=none) (hit:s.heap.IsTupleIter it t i) (ht:s.heap.IsTuple t items) (hx:items[i]? = none)
  (hE:∀ h' e,Heap.ExtBut it s.heap h'→(∃ o,h'.get? e=some o∧o.cls = .type "StopIteration")→E (.ref e) { s with heap:=h' }):wpAny (model prog w) A (dq (.ref it)) Q E s:=by
 obtain⟨o,ho,hc,hd⟩:=id hit; obtain⟨ot,Ae,_,nt,Af⟩:=ht;unfold dq; refine ae (cb (name:=bT "__next__") hit.typeIs dh (cn dh hit.typeIs gm ?_ (ge _)));show wpAny _ _ (field (.ref it) 0 >>= _) _ _ s; refine ae (cz ho hd (x:=.ref t) rfl ?_); show wpAny _ _ (if (aZ t == dj)=true then _ else _) _ _ _; rw [if_neg (by exact aR)];refine ae (cz ho hd (x:=.int _ 0) rfl ?_); refine ae (m:=seqItems? _) (dz Ae Af ?_); simp only [cY,hx];refine ae (cB (ae (fi ho hd #[M] ?_))); show wpAny _ _ (newExc (.type "StopIteration") [] >>= _) _ _ _; refine ae ?_;simp only [newExc,newTuple]; refine ae (bN ?_ (by size_fits)); refine ae (m:=firstArgMember _ _) (b7 (a:=dj) (by first | rfl | (simp only [firstArgMember]; rfl)) ?_);refine bN ?_ (by size_fits); simp only [raiseNew]; refine ae (wpAny_handled ?_); first | rw [show A.in1.handled=none from hh] | rw [hh]
 refine ae (aj (wpAny_throw ?_)); exact hE _ _ (((cf ..).extBut.push _).push _) ⟨_,aK _ rfl,rfl⟩
end
theorem Draws.tuple {prog:Program} {w:World} {A:Around} (hh:A.handled=none) (it t:Addr) (k4:t≠it) (items:Array Value):Draws prog w A it [it,t] items.size (fun i v=>items[i]? = some v) (fun i h=>h.IsTupleIter it t i∧h.IsTuple t items) where
 live:=fun i h st=>st.1.imp fun o r=>r.1
 frame:=fun i h h' st kk=>⟨st.1.at fun o=>kk it #[M] o,st.2.at fun o=>kk t #[M] o⟩
 item:=fun i s Q E hi st hQ=>zfn st.1 st.2 (x:=items[i]) (by simp [hi]) fun h' a b=>hQ _ h' s.toks (by simp [hi]) ⟨a,st.2.extBut b.extBut k4⟩ b
 done:=fun s Q E st hE=>zcQ hh st.1 st.2 #[M] hE
def zgQ (t:Addr):Obj:={ cls:=.type "tuple_iterator",data:=.fields #[.ref t,.int 0 0] }
def ziK (it:Addr):Obj:={ cls:=.type "enumerate",data:=.fields #[.none,.bool false,.ref it,rawInt 0,.none,.none] }
open AutoSeq1 (wpAny_loadPart') in
theorem zfo (l:Addr) (items:Array Value) (n:Nat) (Ag:Option Addr) (sl:Array (Option Value)) :
  Meets (Builtin.«enumerate.__new__» ⟨[.type "enumerate",.ref l],[]⟩) (fun _ R s=>s.heap.get? l=some { cls:=.type "tuple",dict:=Ag,data:=.seq items n,slots:=sl } ∧
   R (.ok (.ret (.ref (s.heap.push (zgQ l)).objs.size))) { s with heap:=(s.heap.push (zgQ l)).push (ziK s.heap.objs.size) }) :=
 .of_wp fun prog w A R s h=>by
  obtain⟨hp,g,d,tk,os⟩:=s; obtain⟨hl,h⟩:=h; have hT:Heap.IsTuple (Shared.heap ⟨hp,g,d,tk,os⟩) l items:=⟨_,hl,rfl,n,rfl⟩;have pG:=sub_enumerate; wp_walk using im hl;refine wpAny_stack_any fun st=>aj ?_; split
  ·rename_i c _ _ _ _ _; cases (c == iT "enumerate") <;> (wp_walk using im hl,eV hT; exact⟨_,rfl,h⟩)
  ·wp_walk using im hl,eV hT; exact⟨_,rfl,h⟩
theorem zbJ {prog:Program} {w:World} {A:Around} {E:Value→Shared→Prop} {s:Shared} {l:Addr} {items:Array Value} {Q:Value→Shared→Prop} (hL:s.heap.IsTuple l items)
  (h:∀ h',IsEnum h' (s.heap.objs.size+1) s.heap.objs.size 0 .none→h'.IsTupleIter s.heap.objs.size l 0→h'.objs.size=s.heap.objs.size+2 →
   (∀ b o,s.heap.get? b=some o→h'.get? b=some o)→Q (.ref (s.heap.objs.size+1)) { s with heap:=h' }):wpAny (model prog w) A (call (.type "enumerate") [.ref l]) Q E s:=by
 obtain⟨⟨c,Ag,dt,sl⟩,hl,hc,n,hd⟩:=hL; replace hc:c = .type "tuple":=hc; replace hd:dt = .seq items n:=hd; subst hc hd;refine callType_new F.called_enumerate #[D] (F.typeCall_enumerate_1 _) (F.newCall_enumerate_1 _) (fun obj=>iX obj _) F.entry_enumerate_new (zfo l items n Ag sl) ⟨hl,?_⟩;have hz:(s.heap.push (zgQ l)).objs.size=s.heap.objs.size+1:=bJ ..;have he:=aK (s.heap.push (zgQ l)) (o:=ziK s.heap.objs.size) rfl;show _∧_;rw [hz] at he ⊢;exact⟨⟨_,he,rfl⟩,h _ he ⟨_,am _ (aK _ rfl),rfl,rfl⟩ (by rw [bJ,hz]) fun b o x=>am _ (am _ x)⟩
end PySem
namespace L2
open PySem PySem.Spec PyProof.Rows
theorem zhG {P:Program} {w:World} {K:af} {tg:Expr} (a it:Addr) (n:Nat):Turn P w K tg (zfm (kT K) a n) [it] it (fun i h=>i≤n∧h.IsRvd it a ((n:Int) - 1 - (i:Int))) where
 mem:=by simp
 obj:=fun i h st b hb=>by
  have z:b=it:=by simpa using hb
  subst z;obtain⟨_,o,e,c,d⟩:=st;exact⟨o,e,fun v z=>by rw [d] at z; cases z⟩
 keep:=fun i h h' st k=>⟨st.1,st.2.at fun o e=>k it #[M] o e⟩
 item:=by
  intro X hP hw hK hc i kN s σ H E I hf st hg;subst hP hw hK;obtain⟨nM,xs,hq,hl⟩:=hg;obtain⟨kO,rv,p,hz⟩:=I.tuple hq;have kS:=rv.length;have n0:=br;obtain⟨x,hx⟩:∃ x,xs[n - 1 - i]? = some x:=⟨xs[n - 1 - i]'#[O],#[M]⟩;obtain⟨u,hu,ru⟩:=rv.get hx;obtain⟨f0,f1,f2,f3,f4,f5⟩:=hf it #[M];have e:(n:Int) - 1 - (i:Int)=((n - 1 - i:Nat):Int):=by lia
  have hit:=st.2;rw [e] at hit;refine zbA hit p (x:=u) (by simpa using hu) #[O] fun h' kQ sb=>?_
  have I1:Inv X kN σ H { s with heap:=h',toks:=s.toks+1 }:=I.turned (t':=s.toks+1) (fun b o hb e=>(sb.2 b hb).trans e) f0 f1 f3 f4 f5;have e2:((n - 1 - i:Nat):Int) - 1=(n:Int) - 1 - ((i+1:Nat):Int):=by lia
  rw [e2] at kQ;obtain⟨o,eo,c,d⟩:=id kQ;exact⟨u,rfl,zd2 (s:={ s with heap:=h',toks:=s.toks+1 }) eo c d #[D] ⟨x,H,I1,ru,⟨rfl,fun ys hy=>by rw [I.tuple_inj hy hq]; exact hx⟩,⟨nM,kQ⟩,fun b hb=>(hf b hb).1⟩⟩
 done:=by
  intro X hP hw hK hc i kN s σ H E I hf st hg;subst hP hw hK;obtain⟨f0,f1,f2,f3,f4,f5⟩:=hf it #[M];have nM:n≤i:=hg;have e:(n:Int) - 1 - (i:Int) = -1:=by have:=st.1; lia
  have hit:=st.2;rw [e] at hit;exact zbI (I.ok.hd hc) hit fun h' eb=>⟨rfl,I.turned (t':=s.toks) (fun b o hb e=>eb b o hb e) f0 f1 f3 f4 f5⟩
 self:=fun _ _ _ _ _ st h=>zbe st.2 h
theorem zeL {X:Cx} {tg:Expr} {kN:List (Addr×Obj)} {σ:St} {H1:Hp} {s1:Shared} {R:It→Hp→Prop} {l:Addr} {xs:List V} (I1:Inv X kN σ H1 s1) (hq:kT X.K H1 l xs) (q:R (zfm (kT X.K) l xs.length) H1) :
  wpAny (model X.prog X.w) X.A (call (.type "reversed") [.ref l]) (fun v s2=>wpAny (model X.prog X.w) X.A (pyIter v) (PIE X kN σ tg R) X.xe s2) X.xe s1:=by
 obtain⟨kO,rv,pl,hz⟩:=I1.tuple hq;have kS:=rv.length;have n0:=br;refine zds pl (by rw [ai]; lia) ?_;have I2:Inv X kN σ H1 { s1 with heap:=s1.heap.push (zeK l ((kO.toArray.size:Int) - 1)),toks:=s1.toks+1+1 }:=I1.kept fun b o e=>am _ e
 have hr:(s1.heap.push (zeK l ((kO.toArray.size:Int) - 1))).IsRvd s1.heap.objs.size l ((xs.length:Int) - 1 - ((0:Nat):Int)):=by
  refine⟨_,aK _ rfl,rfl,?_⟩;have e1:(kO.toArray.size:Int) - 1=(xs.length:Int) - 1 - ((0:Nat):Int):=by rw [ai,kS]; lia
  show iu #[.ref l,rawInt ((kO.toArray.size:Int) - 1)]=_;rw [e1]
 refine zbe hr ?_;refine⟨_,[s1.heap.objs.size],_,zfm (kT X.K) l xs.length,H1,rfl,I2,zhG l s1.heap.objs.size xs.length,⟨bj _,hr⟩,fun b hb=>?_,q⟩;have z:b=s1.heap.objs.size:=by simpa using hb
 subst z;exact I1.fpOk (ag _) (I1.hok.fresh (ag _))
theorem zfp {X:Cx} {tg:Expr} {kN:List (Addr×Obj)} {σ:St} {H1:Hp} {s1:Shared} {R:It→Hp→Prop} {l:Addr} {xs:List V} (I1:Inv X kN σ H1 s1) (hq:kP X.K H1 l xs) (q:R (zfm (kP X.K) l xs.length) H1) :
  wpAny (model X.prog X.w) X.A (call (.type "reversed") [.ref l]) (fun v s2=>wpAny (model X.prog X.w) X.A (pyIter v) (PIE X kN σ tg R) X.xe s2) X.xe s1:=by
 obtain⟨kO,rv,pl,hz⟩:=I1.list hq;have kS:=rv.length;refine call_reversed_list pl.isList ?_;have I2:Inv X kN σ H1 { s1 with heap:=s1.heap.push (revObj l ((kO.toArray.size:Int) - 1)) }:=I1.kept (t':=s1.toks) fun b o e=>am _ e
 have hr:(s1.heap.push (revObj l ((kO.toArray.size:Int) - 1))).IsRevIter s1.heap.objs.size l ((xs.length:Int) - 1 - ((0:Nat):Int)):=by
  refine⟨_,aK _ rfl,rfl,?_⟩;have e1:(kO.toArray.size:Int) - 1=(xs.length:Int) - 1 - ((0:Nat):Int):=by rw [ai,kS]; lia
  show iu #[.ref l,rawInt ((kO.toArray.size:Int) - 1)]=_;rw [e1]
 refine iV hr ?_;refine⟨_,[s1.heap.objs.size],_,zfm (kP X.K) l xs.length,H1,rfl,I2,zhF l s1.heap.objs.size xs.length,⟨bj _,hr⟩,fun b hb=>?_,q⟩;have z:b=s1.heap.objs.size:=by simpa using hb
 subst z;exact I1.fpOk (ag _) (I1.hok.fresh (ag _))
def zmP (K:af) (ta:TA):TI:=fun σ H R=>ta σ H fun vs H1=>∃ a xs,vs = [.ref a]∧((kP K H1 a xs∧R (zfm (kP K) a xs.length) H1)∨(kT K H1 a xs∧R (zfm (kT K) a xs.length) H1))
theorem zlq {X:Cx} {tg:Expr} {p pos:Pos} {a:Expr} {ta:TA} (hg:Gl X "reversed") (hm:X.mg "reversed" = none) (ha:PA X [a] ta) (hs:starEach [a] X.env = [(false,eval a X.env)]:=by rfl) :
  PI X tg (.Call (.Name "reversed" p) [a] [] pos) (zmP X.K ta):=by
 intro kN s σ H R I h;refine Call_ (zaP I hg hm boot_reversed (bD (thn (ha pos kN s σ H _ I h) fun us s1 ⟨vs,H1,I1,r1,q1⟩=>?_) hs rfl));obtain⟨l,xs,e,hq⟩:=q1;subst e;cases r1 with
 | cons r rr =>
  cases rr;cases r;rcases hq with ⟨hq,q⟩ | ⟨hq,q⟩
  ·exact zfp I1 hq q
  ·exact zeL I1 hq q
theorem zge {P:Program} {w:World} {K:af} {es:List Expr} {k:Nat} {pos:Pos} (a it e:Addr) (vj:e≠it) (hai:a≠it) (hae:a≠e):Turn P w K (.Tuple es k pos) (ziJ (kT K) a) [e,it] e (fun i h=>(∃ old,IsEnum h e it i old)∧h.IsTupleIter it a i) where
 mem:=by simp
 obj:=fun i h st b hb=>by
  obtain⟨⟨old,he⟩,o,ho,hc,hd⟩:=st;rcases aN.mp hb with z | z
  ·subst z;exact⟨_,he,fun v z=>by cases z⟩
  ·have z:b=it:=by simpa using z
   subst z;exact⟨o,ho,fun v z=>by rw [hd] at z; cases z⟩
 keep:=fun i h h' st kk=>⟨st.1.imp fun old he=>kk e #[M] _ he,st.2.at fun o eo=>kk it #[M] o eo⟩
 item:=by
  intro X hP hw hK hc i kN s σ H E I hf st hg;subst hP hw hK;obtain⟨xs,x,hq,hx⟩:=hg;obtain⟨⟨old,he⟩,hit⟩:=st;obtain⟨kO,rv,p,hz⟩:=I.tuple hq;obtain⟨u,hu,ru⟩:=rv.get hx;have qC:e < s.heap.objs.size:=aE he;have hits:it < s.heap.objs.size:=by obtain⟨o,ho,_⟩:=hit; exact aE ho
  have kX:i < kO.toArray.size:=by
   have:=(bg.mp hu).1;simpa using this
  have hh:X.A.in1.handled=none:=by simp [I.ok.hd hc]
  refine wpAny_pyNext_enum_itemD (Draws.tuple hh it a hai kO.toArray) he ⟨hit,(show s.heap.IsTuple a kO.toArray from p)⟩ kX vj (by simp [vj,cJ hae]) fun u' h' tk hPu nZ oe hT hsz kk=>?_
  obtain⟨qD,htup'⟩:=oe;have eu:u'=u:=by
   have e1:kO[i]? = some u':=by simpa using hPu
   rw [hu] at e1;exact (bf e1).symm
  subst eu;have k1:∀ b o,b∉[e,it]→s.heap.get? b=some o→h'.get? b=some o:=fun b o hb eo=>kk b o (fun z=>hb (by simp [z])) (fun z=>hb (by simp [z])) eo
  have v3:∀ b∈[e,it],∃ o,h'.get? b=some o:=fun b hb=>by
   rcases aN.mp hb with z | z
   ·subst z; exact⟨_,nZ⟩
   ·have z:b=it:=by simpa using z
    subst z;obtain⟨o,eo,_⟩:=qD;exact⟨o,eo⟩
  have I1:Inv X kN σ (kR H s.heap.objs.size (.tup [.int i,x])) { s with heap:=h',toks:=tk+1 } :=
   I.turnedNew k1 hf v3 (ag _) ⟨za3,_,.cons ⟨tk,rfl⟩ (.cons ru .nil),zcc hT⟩
  refine⟨_,rfl,gz nZ fun vi nL mC=>?_⟩;have fr:∀ b∈[e,it],kR H s.heap.objs.size (.tup [.int i,x]) b=none:=fun b hb=>by
   have kX:b < s.heap.objs.size:=by
    rcases aN.mp hb with z | z
    ·subst z; exact qC
    ·have z:b=it:=by simpa using z
     subst z; exact hits
   rw [zk (a8 kX)];exact (hf b hb).1
  have I2:Inv X kN σ (kR H s.heap.objs.size (.tup [.int i,x])) { s with heap:=vi,toks:=tk+1 } :=
   Inv.turnedL (s:={ s with heap:=h',toks:=tk+1 }) (ch:=[e]) (t':=tk+1) I1 (fun b o hb eo=>mC.extBut b o (by simpa using hb) eo) (fun b hb=>by
    have z:b=e:=by simpa using hb
    subst z;exact⟨fr b #[M],(hf b #[M]).2⟩) (fun b hb=>by
    have z:b=e:=by simpa using hb
    subst z;exact⟨_,nL⟩)
  refine⟨.ref s.heap.objs.size,_,I2,rfl,⟨_,x,I.fresh,rfl,rfl,fun ys hy=>by rw [I.tuple_inj hy hq]; exact hx⟩,⟨⟨_,by simpa using nL⟩,qD.extBut mC.extBut (cJ vj)⟩,fr⟩
 done:=by
  intro X hP hw hK hc i kN s σ H E I hf st hg;subst hP hw hK;obtain⟨xs,hq,hx⟩:=hg;obtain⟨⟨old,he⟩,hit⟩:=st;obtain⟨kO,rv,p,hz⟩:=I.tuple hq;have hl:=rv.length;obtain⟨f0,f1,f2,f3,f4,f5⟩:=hf it #[M];have hT:s.TypeIs (.ref e) "enumerate":=⟨_,he,rfl⟩; have hh:X.A.in1.handled=none:=by simp [I.ok.hd hc]
  unfold pyNext; refine ae (fJ (cb (name:=bT "__next__") hT iK (cn iK hT F.entry_enumerate_next ?_ (F.args_enumerate_next_1 _))));show wpAny _ _ (field (.ref e) 2 >>= _) _ _ _; refine ae (cz he rfl (x:=.ref it) rfl ?_);refine ae (zcQ hh hit (show s.heap.IsTuple a kO.toArray from p) (by simp; lia) fun h' x tD tx=>?_);obtain⟨o,ho,hc⟩:=tx;refine ae (gV (T:="StopIteration") (b:=true) ⟨o,ho,hc⟩ isSubtype_stop ?_); exact aj ⟨rfl,I.turned (t':=s.toks) (fun b o hb e=>tD b o hb e) f0 f1 f3 f4 f5⟩
 self:=fun _ _ _ _ _ st h=>by
  obtain⟨⟨old,he⟩,_⟩:=st;exact fC he h
theorem zfq {X:Cx} {es:List Expr} {k:Nat} {oH p pos:Pos} {a:Expr} {ta:TA} (hg:Gl X "enumerate") (hm:X.mg "enumerate" = none) (ha:PA X [a] ta) (hs:starEach [a] X.env = [(false,eval a X.env)]:=by rfl) :
  PI X (.Tuple es k oH) (.Call (.Name "enumerate" p) [a] [] pos) (iEn (kT X.K) ta):=by
 intro kN s σ H R I h;refine Call_ (zaP I hg hm boot_enumerate (bD (thn (ha pos kN s σ H _ I h) fun us s1 ⟨vs,H1,I1,r1,q1⟩=>?_) hs rfl));obtain⟨l,xs,e,hq,q⟩:=q1;subst e;cases r1 with
 | cons r rr =>
  cases rr;cases r;obtain⟨kO,rv,pl,hz⟩:=I1.tuple hq;have kX:l < s1.heap.objs.size:=by obtain⟨_,e,_⟩:=pl; exact aE e
  refine zbJ (show s1.heap.IsTuple l kO.toArray from pl) fun h' he hi hsz kk=>?_
  have I2:Inv X kN σ H1 { s1 with heap:=h' }:=I1.kept (t':=s1.toks) kk;refine fC he ?_; refine⟨_,[s1.heap.objs.size+1,s1.heap.objs.size],_,ziJ (kT X.K) l,H1,rfl,I2,zge l s1.heap.objs.size (s1.heap.objs.size+1) (gT _) (a8 kX) (a8 (cZ kX)),⟨⟨_,he⟩,hi⟩,fun b hb=>?_,q⟩;have hle:s1.heap.objs.size≤b:=by
   rcases aN.mp hb with z | z
   ·rw [z]; exact iC _
   ·have z:b=s1.heap.objs.size:=by simpa using z
    rw [z]; exact ag _
  exact I1.fpOk hle (I1.hok.fresh hle)
inductive EqD (K:af) (H:Hp):Nat→V→V→Bool→Prop where
 | flat {d:Nat} {x y:V} (hx:zec x=true) (hy:zec y=true):EqD K H d x y (eqV x y)
 | same {d:Nat} {a:Addr}:EqD K H d (.ref a) (.ref a) true
 | lists {d:Nat} {a b:Addr} {xs ys:List V} {e:Nat→Bool} (k4:a≠b) (ha:kP K H a xs) (hb:kP K H b ys) (hl:xs.length=ys.length)
   (he:∀ (j:Nat) x y,xs[j]? = some x→ys[j]? = some y→EqD K H d x y (e j)):EqD K H (d+1) (.ref a) (.ref b) ((aD xs.length).all e)
 | lens {d:Nat} {a b:Addr} {xs ys:List V} (k4:a≠b) (ha:kP K H a xs) (hb:kP K H b ys) (hl:xs.length≠ys.length):EqD K H (d+1) (.ref a) (.ref b) false
 | tups {d:Nat} {a b:Addr} {xs ys:List V} {e:Nat→Bool} (k4:a≠b) (ha:kT K H a xs) (hb:kT K H b ys)
   (he:∀ (j:Nat) x y,xs[j]? = some x→ys[j]? = some y→EqD K H d x y (e j)):EqD K H (d+1) (.ref a) (.ref b) ((aD (min xs.length ys.length)).all e && xs.length == ys.length)
theorem zw.getE {xs:List V} {us:List Value} (r:zw xs us) {j:Nat} (h:j < us.toArray.size):∃ x,xs[j]? = some x∧RelV x us.toArray[j]:=by
 have hl:=r.length;have hj:j < xs.length:=by rw [hl]; simpa using h
 obtain⟨u,hu,ru⟩:=r.get (i:=j) (x:=xs[j]) #[M];refine⟨xs[j],#[M],?_⟩;have:us.toArray[j]=u:=by
  have h2:j < us.length:=by simpa using h
  rw [ak h2] at hu;simpa using bf hu
 rw [this];exact ru
theorem EqD.at {X:Cx} {kN:List (Addr×Obj)} {σ:St} {H:Hp} {s:Shared} (I:Inv X kN σ H s) {d:Nat} {x y:V} {b:Bool} (h:EqD X.K H d x y b) :
  ∀ (A:Around) (u v:Value),RelV x u→RelV y v→A.units+d < cLine→SeqAt.EqAt A s u v b:=by
 induction h with
 | flat hx hy=>exact fun A u v rx ry _=>zlh rx ry hx hy
 | same=>intro A u v rx ry _; cases rx; cases ry; exact j6 _
 | lists k4 ha hb hl he ih =>
  intro A u v rx ry hu;cases rx; cases ry;obtain⟨p9,r1,p1,_⟩:=I.list ha;obtain⟨qb,r2,p2,_⟩:=I.list hb;have l1:=r1.length;have l2:=r2.length;refine gp k4 ?_;have q:=jX (A:=A) p1.isList p2.isList (by simp only [ai]; lia) #[O] fun j h1 h2=>by
   obtain⟨x,hx,rx⟩:=r1.getE h1;obtain⟨y,hy,ry⟩:=r2.getE h2;exact ih j x y hx hy A.in1 _ _ rx ry (by simp only [ce]; lia)
  rw [ai,← l1] at q;exact q
 | lens k4 ha hb hl =>
  intro A u v rx ry hu;cases rx; cases ry;obtain⟨p9,r1,p1,_⟩:=I.list ha;obtain⟨qb,r2,p2,_⟩:=I.list hb;have l1:=r1.length;have l2:=r2.length;exact gp k4 (gW p1.isList p2.isList (by simp only [ai,bne_iff_ne]; lia) #[O])
 | tups k4 ha hb he ih =>
  intro A u v rx ry hu;cases rx; cases ry;obtain⟨p9,r1,p1,_⟩:=I.tuple ha;obtain⟨qb,r2,p2,_⟩:=I.tuple hb;have l1:=r1.length;have l2:=r2.length;refine gp k4 ?_;have q:=gG (A:=A) (s:=s) p1 p2 #[O] fun j h1 h2=>by
   obtain⟨x,hx,rx⟩:=r1.getE h1;obtain⟨y,hy,ry⟩:=r2.getE h2;exact ih j x y hx hy A.in1 _ _ rx ry (by simp only [ce]; lia)
  rw [ai,ai,← l1,← l2] at q;exact q
def zlr (K:af) (neg:Bool):R2:=fun x y H Q=>∃ a b xs ys,x = .ref a∧y = .ref b∧((kP K H a xs∧kP K H b ys)∨(kT K H a xs∧kT K H b ys)) ∧
 ((xs.length≠ys.length∧(∀ (j:Nat) x y,xs[j]? = some x→ys[j]? = some y→∃ c,EqD K H 8 x y c)∧Q (.bl neg) H) ∨
  (xs.length=ys.length∧∃ e:Nat→Bool,(∀ (j:Nat) x y,xs[j]? = some x→ys[j]? = some y→EqD K H 8 x y (e j))∧Q (.bl (if neg then !(aD xs.length).all e else (aD xs.length).all e)) H))
theorem zls {X:Cx} (hu:X.A.units+20 < cLine):OpR X (compareOp .Eq) (zlr X.K false):=by
 intro kN s σ H x y v u Q I rx ry h;obtain⟨a,b,xs,ys,rfl,rfl,hk,h⟩:=h;cases rx; cases ry;rcases hk with ⟨ha,hb⟩ | ⟨ha,hb⟩
 ·obtain⟨p9,r1,p1,_⟩:=I.list ha;obtain⟨qb,r2,p2,_⟩:=I.list hb;have l1:=r1.length;have l2:=r2.length;rcases h with ⟨hl,_,q⟩ | ⟨hl,e,he,q⟩
  ·exact gW p1.isList p2.isList (by simp only [ai,bne_iff_ne]; lia) #[O] _ _ _ _ ⟨.bl false,H,I,rfl,q⟩
  ·refine jX p1.isList p2.isList (e:=e) (by simp only [ai]; lia) #[O] (fun j h1 h2=>?_) _ _ _ _ ⟨.bl _,H,I,rfl,?_⟩
   ·obtain⟨x,hx,rx⟩:=r1.getE h1;obtain⟨y,hy,ry⟩:=r2.getE h2;exact (he j x y hx hy).at I _ _ _ rx ry (by simp only [ce]; lia)
   ·rw [ai,← l1];exact q
 ·obtain⟨p9,r1,p1,_⟩:=I.tuple ha;obtain⟨qb,r2,p2,_⟩:=I.tuple hb;have l1:=r1.length;have l2:=r2.length;rcases h with ⟨hl,he,q⟩ | ⟨hl,e,he,q⟩
  ·have tD:∀ j:Nat,∃ c:Bool,∀ x y,xs[j]? = some x→ys[j]? = some y→EqD X.K H 8 x y c:=fun j=>by
    cases hx:xs[j]? with
    | none=>exact⟨true,fun x y z=>by cases z⟩
    | some x =>
     cases hy:ys[j]? with
     | none=>exact⟨true,fun x y _ z=>by cases z⟩
     | some y =>
      obtain⟨c,hc⟩:=he j x y hx hy;exact⟨c,fun x' y' z1 z2=>by cases z1; cases z2; exact hc⟩
   obtain⟨e,nL⟩:=ic tD;refine gG (s:=s) p1 p2 (e:=e) #[O] (fun j h1 h2=>?_) _ _ _ _ ⟨.bl _,H,I,rfl,?_⟩
   ·obtain⟨x,hx,rx⟩:=r1.getE h1;obtain⟨y,hy,ry⟩:=r2.getE h2;exact (nL j x y hx hy).at I _ _ _ rx ry (by simp only [ce]; lia)
   ·have mi:(p9.toArray.size == qb.toArray.size)=false:=by
     rw [ai,ai]; exact beq_eq_false_iff_ne.mpr #[O]
    rw [mi,gd];exact q
  ·refine gG (s:=s) p1 p2 (e:=e) #[O] (fun j h1 h2=>?_) _ _ _ _ ⟨.bl _,H,I,rfl,?_⟩
   ·obtain⟨x,hx,rx⟩:=r1.getE h1;obtain⟨y,hy,ry⟩:=r2.getE h2;exact (he j x y hx hy).at I _ _ _ rx ry (by simp only [ce]; lia)
   ·have mi:(p9.toArray.size == qb.toArray.size)=true:=by
     rw [ai,ai]; exact beq_iff_eq.mpr #[O]
    have qF:min p9.toArray.size qb.toArray.size=xs.length:=by rw [ai,ai]; lia
    rw [mi,kx,qF];exact q
theorem zeM {X:Cx} (hu:X.A.units+20 < cLine):OpR X (compareOp .NotEq) (zlr X.K true):=by
 intro kN s σ H x y v u Q I rx ry h;obtain⟨a,b,xs,ys,rfl,rfl,hk,h⟩:=h;cases rx; cases ry;rcases hk with ⟨ha,hb⟩ | ⟨ha,hb⟩
 ·obtain⟨p9,r1,p1,_⟩:=I.list ha;obtain⟨qb,r2,p2,_⟩:=I.list hb;have l1:=r1.length;have l2:=r2.length;rcases h with ⟨hl,_,q⟩ | ⟨hl,e,he,q⟩
  ·exact SeqAt.RcNeAt.lists_lengths p1.isList p2.isList (by simp only [ai,bne_iff_ne]; lia) #[O] _ _ _ _ ⟨.bl true,H,I,rfl,q⟩
  ·refine SeqAt.RcNeAt.lists p1.isList p2.isList (e:=e) (by simp only [ai]; lia) #[O] (fun j h1 h2=>?_) _ _ _ _ ⟨.bl _,H,I,rfl,?_⟩
   ·obtain⟨x,hx,rx⟩:=r1.getE h1;obtain⟨y,hy,ry⟩:=r2.getE h2;exact (he j x y hx hy).at I _ _ _ rx ry (by simp only [ce]; lia)
   ·rw [ai,← l1];exact q
 ·obtain⟨p9,r1,p1,_⟩:=I.tuple ha;obtain⟨qb,r2,p2,_⟩:=I.tuple hb;have l1:=r1.length;have l2:=r2.length;rcases h with ⟨hl,he,q⟩ | ⟨hl,e,he,q⟩
  ·have tD:∀ j:Nat,∃ c:Bool,∀ x y,xs[j]? = some x→ys[j]? = some y→EqD X.K H 8 x y c:=fun j=>by
    cases hx:xs[j]? with
    | none=>exact⟨true,fun x y z=>by cases z⟩
    | some x =>
     cases hy:ys[j]? with
     | none=>exact⟨true,fun x y _ z=>by cases z⟩
     | some y =>
      obtain⟨c,hc⟩:=he j x y hx hy;exact⟨c,fun x' y' z1 z2=>by cases z1; cases z2; exact hc⟩
   obtain⟨e,nL⟩:=ic tD;refine jk (s:=s) p1 p2 (e:=e) #[O] (fun j h1 h2=>?_) _ _ _ _ ⟨.bl _,H,I,rfl,?_⟩
   ·obtain⟨x,hx,rx⟩:=r1.getE h1;obtain⟨y,hy,ry⟩:=r2.getE h2;exact (nL j x y hx hy).at I _ _ _ rx ry (by simp only [ce]; lia)
   ·have mi:(p9.toArray.size == qb.toArray.size)=false:=by
     rw [ai,ai]; exact beq_eq_false_iff_ne.mpr #[O]
    rw [mi,gd];exact q
  ·refine jk (s:=s) p1 p2 (e:=e) #[O] (fun j h1 h2=>?_) _ _ _ _ ⟨.bl _,H,I,rfl,?_⟩
   ·obtain⟨x,hx,rx⟩:=r1.getE h1;obtain⟨y,hy,ry⟩:=r2.getE h2;exact (he j x y hx hy).at I _ _ _ rx ry (by simp only [ce]; lia)
   ·have mi:(p9.toArray.size == qb.toArray.size)=true:=by
     rw [ai,ai]; exact beq_iff_eq.mpr #[O]
    have qF:min p9.toArray.size qb.toArray.size=xs.length:=by rw [ai,ai]; lia
    rw [mi,kx,qF];exact q
theorem ziL {K:af} {H:Hp} {ms ns:List Int}:∀ (j:Nat) x y,(ms.map V.int)[j]? = some x→(ns.map V.int)[j]? = some y→EqD K H 8 x y ((fun j=>decide (ms[j]? = ns[j]?)) j):=fun j x y hx hy=>by
 rw [ah] at hx hy;cases h1:ms[j]? with
 | none=>rw [h1] at hx; cases hx
 | some m =>
  cases h2:ns[j]? with
  | none=>rw [h2] at hy; cases hy
  | some n =>
   rw [h1] at hx; rw [h2] at hy;cases hx; cases hy;have e:eqV (.int m) (.int n)=decide (some m=some n):=by
    show (m == n)=_;rw [cg]; simp
   show EqD K H 8 (.int m) (.int n) (decide (ms[j]? = ns[j]?));rw [h1,h2,← e];exact EqD.flat rfl rfl
theorem zcR {X:Cx}:zaD X (.builtin "isinstance") (fun xs H Q=>∃ x t n b,xs = [x,.ty n]∧TyOf X.K H x t∧ki X.K t (.type n)=some b∧Q (.bl b) H):=by
 intro kN s σ H xs us Q I r h;obtain⟨x,t,n,b,rfl,ty,hk,q⟩:=h;obtain⟨u,u',rfl,rx,r2⟩:=vals2 r;cases r2;exact zhw I rx ty hk fun tk=>⟨.bl b,H,I.tok tk,rfl,q⟩
theorem zfr {X:Cx}:zaD X (.type "range") (fun xs H Q=>∃ j:Int,xs = [.int j]∧∀ l,H l=none→Q (.ref l) (kR H l (.rng 0 j))):=by
 intro kN s σ H xs us Q I r h;obtain⟨j,rfl,q⟩:=h;obtain⟨u,rfl,t,rfl⟩:=vals1 r;refine call_range_1 ?_;exact⟨.ref s.heap.objs.size,_,I.laid (o:=.rng 0 j) (fun b o e=>am _ e) (ag _) ⟨_,_,_,aK _ rfl⟩,rfl,q _ I.fresh⟩
def zba (lo:Int) (n:Nat):List Int:=(aD n).map fun (i:Nat)=>lo+(i:Int)
theorem zb8 (lo:Int) (n:Nat):(zba lo n).length=n:=by simp [zba]
theorem zdV {acc:Array Value} {lo:Int} {n:Nat} (h:ItemsOf (fun i v=>∃ t,v = .int (lo+(i:Nat)*1) t) acc n):zw ((zba lo n).map V.int) acc.toList:=by
 obtain⟨hsz,hv⟩:=h;have go:∀ (us:List Value) (k:Nat),(∀ (j:Nat) v,us[j]? = some v→∃ t,v = .int (lo+((k+j:Nat):Int)) t)→zw (((aD us.length).map fun (i:Nat)=>V.int (lo+((k+i:Nat):Int)))) us:=by
  intro us;induction us with
  | nil=>intro k _; exact .nil
  | cons u us ih =>
   intro k hu;rw [bM,fH,eK,dD];refine .cons ?_ ?_
   ·obtain⟨t,e⟩:=hu 0 u rfl;exact⟨t,e⟩
   ·have:=ih (k+1) fun j v e=>by
     obtain⟨t,z⟩:=hu (j+1) v (by simpa using e);exact⟨t,by rw [z]; congr 1; lia⟩
    have e2:(fun (i:Nat)=>V.int (lo+((k+1+i:Nat):Int)))=((fun (i:Nat)=>V.int (lo+((k+i:Nat):Int))) ∘ Nat.succ):=by
     funext i;show V.int _=V.int _;congr 2;show ((k+1+i:Nat):Int)=((k+(i+1):Nat):Int);lia
    rw [← e2];exact this
 have h1:=go acc.toList 0 fun j v e=>by
  obtain⟨t,z⟩:=hv j v (by simpa using e);exact⟨t,by rw [z]; simp⟩
 have e1:acc.toList.length=n:=by simpa using hsz
 rw [e1] at h1;unfold zba;rw [dD];have e2:(V.int ∘ fun (i:Nat)=>lo+(i:Int))=fun (i:Nat)=>V.int (lo+((0+i:Nat):Int)):=by
  funext i;show V.int (lo+(i:Int))=V.int (lo+((0+i:Nat):Int));rw [bE]
 rw [e2];exact h1
theorem zdW {X:Cx} (hc:X.calm=true):zaD X (.type "list") (fun xs H Q=>∃ p hi,xs = [.ref p]∧H p=some (.rng 0 hi)∧0≤hi∧hi≤1000∧∀ l,H l=none→Q (.ref l) (kR H l (.lst ((zba 0 hi.toNat).map V.int)))):=by
 intro kN s σ H xs us Q I r h;obtain⟨p,hi,rfl,hp,h0,h1,q⟩:=h;obtain⟨u,rfl,rx⟩:=vals1 r;cases rx;obtain⟨t,u',v,e⟩:=(show zai X.prog X.w H s.heap p (.rng 0 hi) from I.hok p _ hp);have n0:=br;refine call_list_range (n:=hi.toNat) (I.ok.hd hc) (show IsRange s.heap p 0 hi 1 t u' v from e) (small_one #[O] #[O] #[O] #[O]) (by rw [rangeSize_one]; split <;> lia) #[O] fun h' tk Ah c' kk ho Ai=>?_
 have hv:=zdV (lo:=0) (n:=hi.toNat) Ai;refine⟨.ref s.heap.objs.size,_,I.laid kk (ag _) ?_,rfl,q _ I.fresh⟩;exact⟨by rw [ab,zb8]; lia,Ah.toList,c',hv,by simpa using ho⟩
def zmQ (K:af) (tl:TE):TI:=fun σ H R=>tl σ H fun x H1=>∃ a,x = .ref a∧(((∃ xs,kP K H1 a xs)∧R (Itl K a) H1)∨((∃ xs,kT K H1 a xs)∧R (Itt K a) H1))
theorem zlt {X:Cx} {tg l:Expr} {tl:TE} (hl:PE X l tl):PI X tg l (zmQ X.K tl):=by
 intro kN s σ H R I h;refine thn (hl kN s σ H _ I h) fun v s1 ⟨x,H1,I1,r1,q1⟩=>?_
 obtain⟨a,e,q⟩:=q1;subst e;cases r1;rcases q with ⟨⟨xs,hq⟩,q⟩ | ⟨⟨xs,hq⟩,q⟩
 ·obtain⟨kO,rv,p,hz⟩:=I1.list hq;refine fz p.isList ?_;refine⟨s1.heap.objs.size,[s1.heap.objs.size],_,_,H1,rfl,I1.kept (t':=s1.toks) fun b o e=>am _ e,zd3 a _,⟨_,aK _ rfl,rfl,rfl⟩,fun b hb=>?_,q⟩;have e:b=s1.heap.objs.size:=by simpa using hb
  subst e;exact I1.fpOk (ag _) (I1.hok.fresh (ag _))
 ·obtain⟨kO,rv,p,hz⟩:=I1.tuple hq;refine eV (show s1.heap.IsTuple a kO.toArray from p) ?_;refine⟨s1.heap.objs.size,[s1.heap.objs.size],_,_,H1,rfl,I1.kept (t':=s1.toks) fun b o e=>am _ e,zdm a _,⟨_,aK _ rfl,rfl,rfl⟩,fun b hb=>?_,q⟩;have e:b=s1.heap.objs.size:=by simpa using hb
  subst e;exact I1.fpOk (ag _) (I1.hok.fresh (ag _))
def intsOf:List Expr→Option (List Int)
 | []=>some []
 | .Constant (.int i) _ _ :: r=>(intsOf r).map (i :: ·)
 | _=>none
def zej (ns:List Int):TA:=fun _ H Q=>Q (ns.map V.int) H
theorem ziM {X:Cx}:∀ (es:List Expr) (ns:List Int),intsOf es=some ns→PA X es (zej ns):=by
 intro es;induction es with
 | nil =>
  intro ns h;have e:ns = []:=(bf h).symm;subst e;exact zd
 | cons e r ih =>
  intro ns h;unfold intsOf at h;split at h
  ·rename_i heq
   cases heq
  ·rename_i i j p r' heq
   injection heq with e1 e2
   subst e1 e2;cases hr:intsOf r with
   | none=>rw [hr] at h; cases h
   | some ms =>
    rw [hr] at h;have e:i :: ms=ns:=bf h;subst e;exact za ze (ih ms hr)
  ·cases h
theorem zkb {X:Cx} {es:List Expr} {ns:List Int} (h:intsOf es=some ns):PA X es (zej ns):=ziM es ns h
theorem zfs {X:Cx} {i:Int} {j:Nat} {p:Pos} {es:List Expr} {t:TA} (hr:PA X es t):PA X (.Constant (.int i) j p :: es) (zkP (tC (.int i)) t):=za ze hr
theorem ziN {X:Cx} {i:Nat} {x:Str} {pos' sd mU:Pos} {rest:List Stmt} {u:TS} {es:List Expr} {ns:List Int} (h:intsOf es=some ns) (hN:X.N.Nodup) (hi:X.N[i]? = some x) (hx:Loc X.env.scope x)
  (hf:X.fn x=true∨X.env.scope.names.lookup x=some .local) (hr:PSs X rest u):PSs X (.Assign [.Name x pos'] (.List es sd) mU :: rest) (zaq (zf3 (zj2 (zej ns)) (zaI i)) u):=by
 have h1:PE X (.List es sd) (zj2 (zej ns)):=@zac X es (zej ns) sd (@zkb X es ns h);have h2:PS X (.Assign [.Name x pos'] (.List es sd) mU) (zf3 (zj2 (zej ns)) (zaI i)):=zp hN hi hx h1 (by rfl) hf;exact zf h2 hr
section
variable {X:Cx} {K:af}
theorem zdt (hK:X.K=K):IxR X (zmf K):=by subst hK; exact zq
theorem ziO (hK:X.K=K):SlR X (zmh K):=by subst hK; exact zc2
def zmk (K:af):List V→Hp→VK→Prop:=fun xs H Q=>∃ p ys,xs = [.ref p]∧(kP K H p ys∨kT K H p ys)∧Q (.int ys.length) H
theorem zas (hK:X.K=K):zaD X (.builtin "len") (zmk K):=by subst hK; exact zm
theorem zbq {es:List Expr} {k:Nat} {t:TGs} {n:Nat} {pos:Pos} (hK:X.K=K) (hc:X.calm=true) (h:PGs X es t)
  (hn:(assignEach es X.env).length=n:=by rfl) (lG:(assignEach es X.env).findIdx? (·.1)=none:=by rfl):PG X (.Tuple es k pos) (ziv K n t):=by subst hK; exact zcG hc h hn lG
theorem zlu {o e:Expr} {es:List Expr} {to:TE} {t:TA} {name:Str} {apos mw:Pos} {T id:String} {r:V→List V→Hp→VK→Prop} (hK:X.K=K) (pa:PlainAttrs T) (slot:Slot T name id) (yP:typeOf (.builtin id)=pure (.type "method_descriptor")) (hm:MtR X id r) (ho:PE X o to) (ha:PA X (e :: es) t)
  (qv:attributeBase o name X.env (eval o X.env)=eval o X.env:=by rfl)
  (uc:((backTo mw (starEach (e :: es) X.env)).all (fun x=>!x.1) && (backToKw mw (keywordEach [] X.env)).all (fun x=>x.1.isSome)
   && decide ((e :: es).length+([]:List Keyword).length+(if ([]:List Keyword).isEmpty then 0 else 1) < 30))=true:=by rfl)
  (qw:(apos.endLine == mw.line)=true:=by rfl) (hs:starEach (e :: es) X.env=(false,eval e X.env) :: starEach es X.env:=by rfl) (oF:(backTo mw (starEach es X.env)).any (·.1)=false:=by rfl) :
  PE X (.Call (.Attribute o name apos) (e :: es) [] mw) (tBM K T r to t):=by subst hK; exact zed pa slot yP hm ho ha qv uc qw hs oF
end
end L2
end
section
namespace My
def Cg (p a b:Int):Prop:=∃ k,a=b+p*k
theorem Cg.refl (p a:Int):Cg p a a:=⟨0,by grind⟩
theorem Cg.symm {p a b:Int} (h:Cg p a b):Cg p b a:=by obtain⟨k,e⟩:=h; exact⟨-k,by grind⟩
theorem Cg.trans {p a b c:Int} (h:Cg p a b) (h':Cg p b c):Cg p a c:=by
 obtain⟨k,e⟩:=h; obtain⟨l,e'⟩:=h'; exact⟨k+l,by grind⟩
theorem Cg.add {p a b c d:Int} (h:Cg p a b) (h':Cg p c d):Cg p (a+c) (b+d):=by
 obtain⟨k,e⟩:=h; obtain⟨l,e'⟩:=h'; exact⟨k+l,by grind⟩
theorem Cg.sub {p a b c d:Int} (h:Cg p a b) (h':Cg p c d):Cg p (a - c) (b - d):=by
 obtain⟨k,e⟩:=h; obtain⟨l,e'⟩:=h'; exact⟨k - l,by grind⟩
theorem Cg.mul {p a b c d:Int} (h:Cg p a b) (h':Cg p c d):Cg p (a*c) (b*d):=by
 obtain⟨k,e⟩:=h; obtain⟨l,e'⟩:=h';exact⟨k*d+b*l+p*k*l,by subst e e'; grind⟩
theorem Cg.of_eq {p a b:Int} (h:a=b):Cg p a b:=h ▸ Cg.refl p a
theorem Cg.emod (p a:Int):Cg p (a % p) a:=⟨-(a / p),by have:=Int.emod_add_mul_ediv a p; grind⟩
theorem Cg.mod_eq {p a b:Int} (h:Cg p a b):a % p=b % p:=by
 obtain⟨k,e⟩:=h; rw [e,Int.add_mul_emod_self_left]
theorem Cg.of_mod {p a b:Int} (h:a % p=b % p):Cg p a b:=(Cg.emod p a).symm.trans (h ▸ Cg.emod p b)
theorem Cg.eq {p a b:Int} (h:Cg p a b) (ha:0≤a) (ha':a < p) (hb:0≤b) (mi:b < p):a=b:=by
 have:=h.mod_eq
 rwa [fE ha ha',fE hb mi] at this
def zap (p x:Int):List Int→Int
 | []=>0
 | c :: r=>(c+x*zap p x r) % p
theorem zeN {p x:Int} (hp:0 < p):∀ l,0≤zap p x l
 | []=>bF 0
 | _ :: _=>aV _ #[O]
theorem zeO {p x:Int} (hp:0 < p):∀ l,zap p x l < p
 | []=>hp
 | _ :: _=>aP _ hp
theorem zay (p x c:Int) (r:List Int):Cg p (zap p x (c :: r)) (c+x*zap p x r):=Cg.emod _ _
def zK:List Int:=[5,7,11,13,17,19,23,29,31,37,41,43,47,53,59,61,67,71,73,79,83,89,97]
def zgR (p:Int):Nat→Int→Int→Int→Int
 | 0,prod,_,_=>prod
 | n+1,prod,sq,left=>if 0 < left then zgR p n (if left % 2=1 then prod*sq % p else prod) (sq*sq % p) (left / 2) else prod
def inv (p h:Int):Int:=zgR p 7 1 (h % p) (p - 2)
def zmR:Bool:=zK.all fun p=>(aD p.toNat).all fun h=>h == 0 || (inv p h*h) % p == 1
theorem zhH:zmR=true:=by decide +kernel
theorem zah {p:Int} (hp:p∈zK):5≤p∧p≤97:=by
 have:zK.all (fun p=>decide (5≤p∧p≤97))=true:=by decide +kernel
 have:=eE.mp this p hp;simpa using this
theorem ziP {p h:Int} (hp:p∈zK) (h0:0 < h) (h1:h < p):Cg p (inv p h*h) 1:=by
 have e:=eE.mp (eE.mp zhH p hp) h.toNat (bi.mpr #[O]);have hh:((h.toNat:Nat):Int)=h:=by lia
 have:h.toNat≠0:=by lia
 simp only [bA,beq_iff_eq,hh,this,false_or] at e;have hr:=zah hp;exact Cg.of_mod (by rw [e,fE #[O] #[O]])
theorem zft {p a b:Int} (hp:p∈zK) (h:Cg p (a*b) 0):Cg p a 0∨Cg p b 0:=by
 have hr:=zah hp;by_cases ha:a % p=0
 ·exact .inl (Cg.of_mod (by rw [ha]; simp))
 ·right;have h0:0 < a % p:=by have:=aV a (show p≠0 by lia); lia
  have hi:=ziP hp h0 (aP a #[O]);have h1:Cg p (inv p (a % p)*(a*b)) 0:=((Cg.refl p _).mul h).trans (Cg.of_eq (by grind));have h2:Cg p (inv p (a % p)*(a % p)*b) (1*b):=hi.mul (Cg.refl p b);have h3:Cg p (inv p (a % p)*(a*b)) (inv p (a % p)*(a % p)*b):=by
   have:=((Cg.refl p (inv p (a % p))).mul (Cg.emod p a).symm).mul (Cg.refl p b);exact (Cg.of_eq (by grind)).trans this
  exact ((Cg.of_eq (by grind)).trans (h2.symm.trans (h3.symm.trans h1)))
end My
end
section
namespace My
open PySem L2 PyProof.Rows
section
variable {K:af}
theorem ziQ {ns:List Int} {k:Int} (h0:0≤k) (h1:k < ns.length):∃ c:Int,ns[k.toNat]? = some c∧atI (ns.map V.int) k=some (.int c):=by
 have kX:k.toNat < ns.length:=by lia
 have e:atI (ns.map V.int) ((k.toNat:Nat):Int)=some (.int ns[k.toNat]):=zaH (by simp [ah,ak kX]);have hk:((k.toNat:Nat):Int)=k:=by lia
 rw [hk] at e;exact⟨ns[k.toNat],#[M],e⟩
theorem zeP {ns:List Int} {k:Int} (h0:0≤k) (h1:k < ns.length):∃ c:Int,atI (ns.map V.int) k=some (.int c):=let ⟨c,_,e⟩:=ziQ h0 h1; ⟨c,e⟩
theorem zc {H:Hp} {a:Addr} {o:HO} (h:H a=none):zt H (kR H a o):=fun b u e=>by rw [zk (zA e h)]; exact e
theorem z9 {H H':Hp} {a:Addr} {o:HO} (s:zt H H') (h:H a=none):zt H (kR H' a o):=fun b u e=>by rw [zk (zA e h)]; exact s b u e
theorem zaE {n:Nat} (h:n≤10000):n < sizeLine:=by rw [br]; lia
def zhI (K:af):Sp:=fun vs H Q _=>∃ (a:Addr) (ns:List Int) (k:Int),vs = [.ref a,.int k]∧kP K H a (ns.map V.int)∧ns.length≤63∧0≤k∧k≤1000∧∀ c:Int,Q (.int c) H
def zeQ (many:Nat) (base:Int) (ds:List Int):Prop:=ds.length=many∧∀ d∈ds,0≤d∧d < base
def zgf (K:af):Sp:=fun vs H Q _=>∃ (a:Addr) (ns:List Int) (k many base:Int),vs = [.ref a,.int k,.int many,.int base]∧kP K H a (ns.map V.int)∧ns.length≤63∧0≤k∧k≤1000∧0≤many∧many≤1000∧0 < base∧base < 1073741824 ∧
 ∀ (l:Addr) (ds:List Int) (H':Hp),H l=none→zt H H'→zeQ many.toNat base ds→H' l=some (.lst (ds.map V.int))→Q (.ref l) H'
abbrev zkc:List V:=[.int 2147483647,.int 2147483629,.int 2147483587,.int 2147483579,.int 2147483563,.int 2147483549,.int 2147483543,.int 2147483497]
theorem zkd {m:Int} (h0:0≤m) (h1:m < 8):∃ q:Int,atI zkc m=some (.int q)∧0 < q∧q < 2147483648:=by
 have:m=0∨m=1∨m=2∨m=3∨m=4∨m=5∨m=6∨m=7:=by lia
 rcases this with e | e | e | e | e | e | e | e <;> subst e <;> exact⟨_,rfl,#[D],#[D]⟩
theorem zdu (j:Int):∃ q:Int,atI zkc (j % 8)=some (.int q)∧0 < q∧q < 2147483648:=zkd (aV _ #[D]) (aP _ #[D])
theorem gY {i:Nat} {x:V} {σ:L2.St} {H:Hp} {A B:L2.St→Hp→Prop} (h:A (σ.set i (some x)) H):zaI i x σ H (fun σ2 H2=>zlm σ2 H2 fun b H3=>if b=true then A σ2 H3 else B σ2 H3):=by
 show (if true=true then A (σ.set i (some x)) H else B (σ.set i (some x)) H);rw [if_pos rfl];exact h
structure CodeOk (mk mn p k:Int) (pl:List Int):Prop where
 pr:p∈zK
 k1:1≤k
 kk:k≤mk
 kl:k≤pl.length
 ln:(pl.length:Int)≤mn
 nd:pl.Nodup
 rg:∀ x∈pl,0≤x∧x < p
def zhJ (K:af):Sp:=fun vs H Q _=>∃ (a:Addr) (ns:List Int) (at' mk mn:Int),vs = [.ref a,.int at',.int mk,.int mn]∧kP K H a (ns.map V.int)∧ns.length≤63∧0≤at'∧at'≤1000∧1≤mk∧mk≤5∧mk≤mn∧mn≤16 ∧
 ∀ (c tt:Addr) (p k:Int) (pl:List Int) (H':Hp),H c=none→zt H H'→CodeOk mk mn p k pl→H' c=some (.tup [.int p,.int k,.ref tt])→H' tt=some (.tup (pl.map V.int))→Q (.ref c) H'
theorem zlv {x y m:Int} (h0:0≤m) (h1:m < 2):∃ z:Int,atI [V.int x,V.int y] m=some (.int z)∧(z=x∨z=y):=by
 have:m=0∨m=1:=by lia
 rcases this with e | e <;> subst e
 ·exact⟨x,rfl,.inl rfl⟩
 ·exact⟨y,rfl,.inr rfl⟩
theorem ziR {ns:List Int} {k:Int} (h0:0≤k) (h1:k < ns.length):∃ c:Int,c∈ns∧atI (ns.map V.int) k=some (.int c):=by
 obtain⟨c,e,h⟩:=ziQ h0 h1;exact⟨c,az e,h⟩
theorem zek {α β:Type} (f:α→β):∀ (l:List α) (k:Nat),(l.map f).eraseIdx k=(l.eraseIdx k).map f
 | [],_=>rfl
 | _ :: _,0=>rfl
 | a :: l,k+1=>by show f a :: (l.map f).eraseIdx k=f a :: (l.eraseIdx k).map f; rw [zek f l k]
theorem zdv {α:Type}:∀ {l:List α} {k:Nat} {x:α},l[k]? = some x→(x :: l.eraseIdx k).Perm l
 | [],_,_,h=>by simp at h
 | a :: l,0,x,h=>by
  have e:a=x:=by simpa using h
  subst e;exact List.Perm.refl _
 | a :: l,k+1,x,h=>by
  have ih:=zdv (l:=l) (k:=k) (x:=x) (by simpa using h);exact (List.Perm.swap a x _).trans (ih.cons a)
theorem zke {p:Int} {xs ls:List Int} {k:Nat} {x:Int} (h:ls[k]? = some x) (nd:(xs++ls).Nodup) (rg:∀ y∈xs++ls,0≤y∧y < p):((xs++[x])++ls.eraseIdx k).Nodup∧∀ y∈(xs++[x])++ls.eraseIdx k,0≤y∧y < p:=by
 have hp:((xs++[x])++ls.eraseIdx k).Perm (xs++ls):=by
  rw [bm];exact (zdv h).append_left xs
 exact⟨hp.nodup_iff.mpr nd,fun y hy=>rg y (hp.mem_iff.mp hy)⟩
theorem zhK (p:Int):(zba 0 p.toNat).Nodup∧∀ y∈zba 0 p.toNat,0≤y∧y < p:=by
 unfold zba;constructor
 ·rw [gA,cF];exact (gA.mp (gX (n:=p.toNat))).imp fun {a b} vo=>by lia
 ·intro y hy;obtain⟨i,hi,e⟩:=aJ.mp hy;have:=bi.mp hi;lia
def zfu (K:af):Sp:=fun vs H Q _=>∃ (p x:Int) (a:Addr) (cs:List Int),vs = [.int p,.ref a,.int x]∧(kP K H a (cs.map V.int)∨kT K H a (cs.map V.int))∧0 < p∧p≤97∧0≤x∧x < p∧Q (.int (zap p x cs)) H
theorem zel {cs:List Int} {i:Nat} {c:Int} (hi:i < cs.length) (h:cs[cs.length - 1 - i]? = some c):cs.drop (cs.length - (i+1))=c :: cs.drop (cs.length - i):=by
 have e:cs.length - (i+1)=cs.length - 1 - i:=by lia
 have kX:cs.length - 1 - i < cs.length:=by lia
 rw [e,dr kX];have:cs[cs.length - 1 - i]=c:=by
  rw [ak kX] at h;exact bf h
 rw [this];congr 2;lia
theorem zaB {cs:List Int} {j:Nat} {x:V} (h:(cs.map V.int)[j]? = some x):∃ c,x = .int c∧cs[j]? = some c:=by
 rw [ah] at h;cases e:cs[j]? with
 | none=>rw [e] at h; cases h
 | some c=>rw [e] at h; exact⟨c,(bf h).symm,rfl⟩
theorem gY2 {K:af} {i j:Nat} {T:Addr} {x y:V} {σ:L2.St} {H:Hp} {A B:L2.St→Hp→Prop} (hT:kT K H T [x,y]) (h:A ((σ.set i (some x)).set j (some y)) H) :
  ziv K 2 (zfg (zaI i) (zfg (zaI j) zjX)) (.ref T) σ H (fun σ2 H2=>zlm σ2 H2 fun b H3=>if b=true then A σ2 H3 else B σ2 H3):=by
 refine⟨T,_,rfl,hT,rfl,x,_,rfl,y,_,rfl,rfl,?_⟩;show (if true=true then A ((σ.set i (some x)).set j (some y)) H else B ((σ.set i (some x)).set j (some y)) H);rw [if_pos rfl];exact h
theorem ziS {f:Int→Int→Int} {as bs:List Int} {i:Nat} {x y:Int} (hx:as[i]? = some x) (hy:bs[i]? = some y):(dY f as bs).take (i+1)=(dY f as bs).take i++[f x y]:=by
 have e:(dY f as bs)[i]? = some (f x y):=by rw [List.getElem?_zipWith,hx,hy]
 rw [gH,e,kz]
theorem zc5 {n j:Nat} (h:j < n):ixN n (j:Int)=some j:=by
 unfold ixN;rw [if_pos #[O],if_pos #[O]];rfl
theorem zG {bs:List Addr} {i:Nat} {x:V} (h:(bs.map V.ref)[i]? = some x):∃ b,x = .ref b∧bs[i]? = some b:=by
 rw [ah] at h;cases e:bs[i]? with
 | none=>rw [e] at h; cases h
 | some b=>rw [e] at h; exact⟨b,(bf h).symm,rfl⟩
theorem take_snoc {α:Type} {l:List α} {i:Nat} {x:α} (h:l[i]? = some x):l.take (i+1)=l.take i++[x]:=by
 rw [gH,h,kz]
theorem ziT {f:Int→Int→Int} {as bs:List Int} {n:Nat} (h1:n≤as.length) (h2:n≤bs.length) (h3:as.length≤n∨bs.length≤n):(dY f as bs).length=n:=by
 rw [List.length_zipWith];lia
theorem zhL {a b:Addr} {as bs:List Int} {n:Nat} {f:Int→Int→Int} {g:TG} {ts:TT} {te:TE} {σ0:L2.St} {Q:VK} {H:Hp} (ha:H a=some (.lst (as.map V.int))) (hb:H b=some (.lst (bs.map V.int))) (h1:n≤as.length) (h2:n≤bs.length) (h3:as.length≤n∨bs.length≤n) (hn:n≤10000)
  (hs:∀ (i:Nat) (x y:Int) (H1:Hp) (T:Addr) (R:VK) (B:L2.St→Hp→Prop),as[i]? = some x→bs[i]? = some y→zt H H1→H1 T=none→R (.int (f x y)) (kR H1 T (.tup [.int x,.int y]))→g (.ref T) σ0 (kR H1 T (.tup [.int x,.int y])) fun σ2 H2=>ts σ2 H2 fun b H3=>if b=true then te σ2 H3 R else B σ2 H3)
  (hd:∀ D H1,zt H H1→H1 D=none→Q (.ref D) (kR H1 D (.lst ((dY f as bs).map V.int)))):cGo g ts te σ0 (zj9 (kP K) (kP K) a b) Q H:=by
 have hl:=ziT (f:=f) h1 h2 h3;refine zY (n:=n) (fun i ys H'=>ys=((dY f as bs).take i).map V.int∧zt H H') ⟨#[M],fun _ _ e=>e⟩ ?_ ?_ ?_ ?_
 ·rintro i ys H3 hi ⟨_,s3⟩;obtain⟨x,hx⟩:∃ x,as[i]? = some x:=⟨as[i]'#[O],#[M]⟩;obtain⟨y,hy⟩:∃ y,bs[i]? = some y:=⟨bs[i]'#[O],#[M]⟩;exact⟨_,_,.int x,.int y,kP.of (s3 _ _ ha),kP.of (s3 _ _ hb),by rw [ah,hx]; rfl,by rw [ah,hy]; rfl⟩
 ·rintro ys H3 ⟨_,s3⟩;exact⟨_,_,kP.of (s3 _ _ ha),kP.of (s3 _ _ hb),by rw [ab,ab]; exact h3⟩
 ·rintro i x ys H3 H4 hi ⟨rfl,s3⟩ ⟨T,u,v,hT,rfl,rfl,hu,hv⟩;obtain⟨x,rfl,hx⟩:=zaB (hu _ (kP.of (s3 _ _ ha)));obtain⟨y,rfl,hy⟩:=zaB (hv _ (kP.of (s3 _ _ hb)));refine hs i x y H3 T _ _ hx hy s3 hT ⟨zaE ?_,?_,s3.trans (zc hT)⟩
  ·rw [ab];exact bd (eO _ _) #[O]
  ·rw [ziS hx hy,aw];rfl
 ·rintro ys H3 D ⟨rfl,s3⟩ hD;rw [aQ #[O]];exact hd D H3 s3 hD
theorem zem {a:Addr} {xs fs:List V} {g:TG} {ts:TT} {te:TE} {σ0:L2.St} {Q:VK} {H:Hp} (ha:kP K H a xs) (hl:fs.length=xs.length) (hn:xs.length≤10000)
  (hs:∀ (i:Nat) (x y:V) (R:VK) (B:L2.St→Hp→Prop),xs[i]? = some x→fs[i]? = some y→R y H→g x σ0 H fun σ2 H2=>ts σ2 H2 fun b H3=>if b=true then te σ2 H3 R else B σ2 H3)
  (hd:∀ D,H D=none→Q (.ref D) (kR H D (.lst fs))):cGo g ts te σ0 (Itl K a) Q H:=by
 refine zY (n:=xs.length) (fun i ys H'=>ys=fs.take i∧H'=H) ⟨#[M],rfl⟩ ?_ ?_ ?_ ?_
 ·rintro i ys H3 hi ⟨_,rfl⟩;exact⟨_,xs[i],ha,#[M]⟩
 ·rintro ys H3 ⟨_,rfl⟩;exact⟨_,ha,ag _⟩
 ·rintro i x ys H3 H4 hi ⟨rfl,rfl⟩ ⟨rfl,hx⟩;have hy:fs[i]? = some fs[i]:=by simp
  refine hs i x fs[i] _ _ (hx _ ha) hy ⟨zaE (bd (eO _ _) #[O]),?_,rfl⟩;rw [take_snoc hy]
 ·rintro ys H3 D ⟨rfl,rfl⟩ hD;rw [aQ #[O]];exact hd D hD
theorem zbV {a:Addr} {xs fs:List V} {g:TG} {ts:TT} {te:TE} {σ0:L2.St} {Q:VK} {H:Hp} (ha:kT K H a xs) (hl:fs.length=xs.length) (hn:xs.length≤10000)
  (hs:∀ (i:Nat) (x y:V) (R:VK) (B:L2.St→Hp→Prop),xs[i]? = some x→fs[i]? = some y→R y H→g x σ0 H fun σ2 H2=>ts σ2 H2 fun b H3=>if b=true then te σ2 H3 R else B σ2 H3)
  (hd:∀ D,H D=none→Q (.ref D) (kR H D (.lst fs))):cGo g ts te σ0 (Itt K a) Q H:=by
 refine zY (n:=xs.length) (fun i ys H'=>ys=fs.take i∧H'=H) ⟨#[M],rfl⟩ ?_ ?_ ?_ ?_
 ·rintro i ys H3 hi ⟨_,rfl⟩;exact⟨_,xs[i],ha,#[M]⟩
 ·rintro ys H3 ⟨_,rfl⟩;exact⟨_,ha,ag _⟩
 ·rintro i x ys H3 H4 hi ⟨rfl,rfl⟩ ⟨rfl,hx⟩;have hy:fs[i]? = some fs[i]:=by simp
  refine hs i x fs[i] _ _ (hx _ ha) hy ⟨zaE (bd (eO _ _) #[O]),?_,rfl⟩;rw [take_snoc hy]
 ·rintro ys H3 D ⟨rfl,rfl⟩ hD;rw [aQ #[O]];exact hd D hD
def zeR (K:af):Sp:=fun vs H Q _=>∃ (a:Addr) (ns:List Int),vs = [.ref a]∧kP K H a (ns.map V.int)∧ns.length≤63∧∀ H',Q (.bl true) H'
end
end My
end
section
namespace PySem
end PySem
end
section
namespace L2
open PySem PySem.Spec PyProof.Rows
end L2
end
section
namespace My
open PySem L2 PyProof.Rows
section
variable {K:af}
theorem zhM {a:Addr} {xs:List V} {kp:V→Bool} {f:V→V} {g:TG} {ts:TT} {te:TE} {σ0:L2.St} {Q:VK} {H:Hp} (ha:kP K H a xs) (hn:xs.length≤10000)
  (hs:∀ (i:Nat) (x:V) (R:VK) (B:Hp→Prop),xs[i]? = some x→(if kp x=true then R (f x) H else B H)→g x σ0 H fun σ2 H2=>ts σ2 H2 fun b H3=>if b=true then te σ2 H3 R else B H3)
  (hd:∀ D,H D=none→Q (.ref D) (kR H D (.lst ((xs.filter kp).map f)))):cGo g ts te σ0 (Itl K a) Q H:=by
 refine zY (n:=xs.length) (fun i ys H'=>ys=((xs.take i).filter kp).map f∧H'=H) ⟨#[M],rfl⟩ ?_ ?_ ?_ ?_
 ·rintro i ys H3 hi ⟨_,rfl⟩;exact⟨_,xs[i],ha,#[M]⟩
 ·rintro ys H3 ⟨_,rfl⟩;exact⟨_,ha,ag _⟩
 ·rintro i x ys H3 H4 hi ⟨rfl,rfl⟩ ⟨rfl,hx⟩;refine hs i x _ _ (hx _ ha) ?_;rw [take_snoc (hx _ ha),dO,aw];by_cases h:kp x=true
  ·rw [if_pos h];refine⟨zaE ?_,?_,rfl⟩
   ·rw [ab];exact bd (cN _ _) (bd (eO _ _) #[O])
   ·congr 1;simp [h]
  ·rw [if_neg h];refine⟨?_,rfl⟩;simp [h]
 ·rintro ys H3 D ⟨rfl,rfl⟩ hD;rw [c7];exact hd D hD
def hide (H:Hp) (a:Addr):Hp:=fun b=>if b=a then none else H b
theorem zfv (H:Hp) (a:Addr):zt (hide H a) H:=fun b o e=>by
 unfold hide at e;split at e
 ·cases e
 ·exact e
theorem ziU {H:Hp} {a:Addr} {o:HO}:hide (kR H a o) a=hide H a:=by
 funext b;unfold hide;by_cases h:b=a
 ·rw [if_pos h,if_pos h]
 ·rw [if_neg h,if_neg h,zk h]
theorem zbW {H H':Hp} {a:Addr} (s:zt H H'):zt (hide H a) (hide H' a):=fun b o e=>by
 unfold hide at e ⊢;by_cases h:b=a
 ·rw [if_pos h] at e; cases e
 ·rw [if_neg h] at e ⊢; exact s _ _ e
theorem zcn {H:Hp} {a b:Addr} {o:HO} (h:H b=some o) (k4:b≠a):hide H a b=some o:=by unfold hide; rw [if_neg k4]; exact h
end
end My
end
section
namespace PySem
end PySem
namespace L2
open PySem PySem.Spec PyProof.Rows
section
variable {P:Program} {w:World} {outer:List Env} {H H':Hp} {h h' B:Heap} {e C:Addr}
theorem zlw {o:HO} {a:Addr} (x:zai P w H h a o):∃ ob,h.get? a=some ob:=by
 cases o with
 | lst xs=>obtain⟨_,_,_,_,e⟩:=x; exact⟨_,e⟩
 | tup xs=>obtain⟨_,_,_,o,e,_⟩:=x; exact⟨_,e⟩
 | dK lK=>obtain⟨_,_,_,_,o,_,_,e,_⟩:=x; exact⟨_,e⟩
 | dT lK=>obtain⟨_,_,_,_,o,_,_,e,_⟩:=x; exact⟨_,e⟩
 | set S n=>obtain⟨o,_,_,_,e,_⟩:=x; exact⟨_,e⟩
 | ins C dx fs=>obtain⟨_,_,_,e,_⟩:=x; exact⟨_,e⟩
 | own y=>obtain⟨_,e⟩:=x; exact⟨_,e⟩
 | xd fs=>obtain⟨_,⟨_,_,_,e,_⟩,_⟩:=x; exact⟨_,e⟩
 | rng lo hi=>obtain⟨_,_,_,e⟩:=x; exact⟨_,e⟩
 | frz ob u=>obtain⟨e,_⟩:=x; exact⟨_,e⟩
 | tbl ps=>exact⟨_,(show h.get? a=some _ from x)⟩
 | met f y=>exact⟨_,(show h.get? a=some _ from x)⟩
 | ext φ=>obtain⟨_,⟨_,e⟩,_⟩:=x; exact⟨_,e⟩
end
def zhN (hi:Int) (n:Nat):It:=⟨fun i _=>i < n,fun i H x H'=>H'=H∧x = .int (hi - i),fun i _=>n≤i⟩
theorem zfw {P:Program} {w:World} {K:af} {tg:Expr} (it:Addr) (lo:Int) (n:Nat):Turn P w K tg (zhN lo n) [it] it (fun i h=>IsRangeIter h it (lo+(i:Nat)*(-1)) ((n:Int) - (i:Nat)) (-1)) where
 mem:=by simp
 obj:=fun i h st b hb=>by
  have e:b=it:=by simpa using hb
  subst e;exact⟨_,st,fun v z=>by
   have z':iu _=Data.cell v:=z;cases z'⟩
 keep:=fun i h h' st k=>k it #[M] _ st
 item:=by
  intro X hP hw hK hc i kN s σ H E I hf st hg;subst hP hw hK;obtain⟨f0,f1,f2,f3,f4,f5⟩:=hf it #[M];have W:=Walks.range (prog:=X.prog) (w:=X.w) (I.ok.hd hc) it lo (-1) n;refine W.item i s _ _ hg st fun v h' tk hv kQ kk=>?_
  obtain⟨t,rfl⟩:=hv;have I1:Inv X kN σ H { s with heap:=h',toks:=tk }:=I.turned (fun b o hb e=>kk b o (by simpa using hb) e) f0 f1 f3 f4 f5;refine⟨_,rfl,zd2 (s:={ s with heap:=h',toks:=tk }) (n:="range_iterator") kQ rfl rfl #[D] ⟨.int (lo - i),H,I1,⟨t,?_⟩,⟨rfl,rfl⟩,kQ,fun b hb=>(hf b hb).1⟩⟩;rw [show lo+(i:Int)*(-1)=lo - i by lia]
 done:=by
  intro X hP hw hK hc i kN s σ H E I hf st hg;subst hP hw hK;obtain⟨f0,f1,f2,f3,f4,f5⟩:=hf it #[M];exact iw (I.ok.hd hc) st (by have:n≤i:=hg; lia) fun h' eb=>⟨rfl,I.turned (t':=s.toks) (fun b o hb e=>eb b o hb e) f0 f1 f3 f4 f5⟩
 self:=fun _ _ _ _ _ st h=>fF st h
section
variable {X:Cx} {tg:Expr}
theorem zgg {hi:Int} {n:Nat} {g:TG} {tb:TS} {D:Ends} {σ:St} {H:Hp} (Pv:Nat→St→Hp→Prop) (h0:Pv 0 σ H)
  (hs:∀ i σ H,i < n→Pv i σ H→g (.int (hi - i)) σ H fun σ2 H2=>tb { D with nx:=Pv (i+1),ct:=Pv (i+1),bk:=D.nx } σ2 H2) (hd:∀ σ H,Pv n σ H→D.nx σ H) :
  ∃ W:Nat→Nat→St→Hp→Prop,(∃ m,W 0 m σ H)∧∀ i m σ H,W i m σ H →
   ((zhN hi n).stop i H∧D.nx σ H)∨((zhN hi n).go i H∧∃ N:St→Hp→Prop,(∀ σ' H',N σ' H'→∃ m',m' < m∧W (i+1) m' σ' H')∧∀ x H',(zhN hi n).yld i H x H'→g x σ H' fun σ2 H2=>tb { D with nx:=N,ct:=N,bk:=D.nx } σ2 H2):=by
 refine⟨fun i m σ H=>m=n - i∧i≤n∧Pv i σ H,⟨n,#[M],bj _,h0⟩,?_⟩;rintro i m σ H ⟨rfl,hi,p⟩;by_cases kX:i < n
 ·refine .inr ⟨kX,Pv (i+1),fun σ' H' p'=>⟨n - (i+1),#[O],rfl,kX,p'⟩,fun x H' y=>?_⟩;obtain⟨e,y⟩:=y;subst e y;exact hs i σ _ kX p
 ·have e:i=n:=by lia
  subst e;exact .inl ⟨ag _,hd σ H p⟩
end
end L2
namespace PySem
open PyProof.Rows
end PySem
namespace L2
open PySem PySem.Spec PyProof.Rows
end L2
namespace My
open PySem L2 PyProof.Rows
end My
end
section
namespace Srt
open PySem PyProof.Rows
def Vk (val:Keyed→Int) (xs:Array Keyed) (i:Nat):Int:=match xs[i]? with
 | some p=>val p
 | none=>0
theorem zU {val:Keyed→Int} {xs ys:Array Keyed} {i j:Nat} (h:xs[i]? = ys[j]?):Vk val xs i=Vk val ys j:=by unfold Vk; rw [h]
theorem zH {val:Keyed→Int} {xs:Array Keyed} {i:Nat} {p:Keyed} (h:xs[i]? = some p):Vk val xs i=val p:=by unfold Vk; rw [h]
def SIn (val:Keyed→Int) (xs:Array Keyed) (lo hi:Nat):Prop:=∀ i j,lo≤i→i≤j→j < hi→Vk val xs i≤Vk val xs j
def DIn (val:Keyed→Int) (xs:Array Keyed) (lo hi:Nat):Prop:=∀ i j,lo≤i→i≤j→j < hi→Vk val xs j≤Vk val xs i
structure SB (κ:SortKind) (a₀:Array Keyed) (st:SortSt):Prop where
 perm:(arrOf st).Perm a₀
 kind:kindOf st=κ
 failed:failedOf st=none
theorem SB.size {κ:SortKind} {a₀:Array Keyed} {st:SortSt} (h:SB κ a₀ st):(arrOf st).size=a₀.size:=h.perm.size_eq
theorem SB.mem {κ:SortKind} {a₀:Array Keyed} {st:SortSt} (h:SB κ a₀ st) {i:Nat} (hi:i < a₀.size):∃ p,(arrOf st)[i]? = some p∧p∈a₀.toList:=by
 (have lA:i < (arrOf st).size:=by rw [h.size]; exact hi)
 exact⟨(arrOf st)[i],getElem?_pos _ i lA,(eM.mp h.perm).mem_iff.mp #[M]⟩
structure SF (κ:SortKind) (a₀:Array Keyed) (lo:Nat) (st₀ st:SortSt):Prop where
 b:SB κ a₀ st
 low:∀ k,k < lo→(arrOf st)[k]? = (arrOf st₀)[k]?
 pend:pendingOf st=pendingOf st₀
theorem SF.refl {κ:SortKind} {a₀:Array Keyed} {lo:Nat} {st:SortSt} (h:SB κ a₀ st):SF κ a₀ lo st st:=⟨h,fun _ _=>rfl,rfl⟩
theorem SF.setArr {κ:SortKind} {a₀:Array Keyed} {lo:Nat} {st₀ st:SortSt} (h:SF κ a₀ lo st₀ st) {xs:Array Keyed} (hp:xs.Perm (arrOf st)) (hl:∀ k,k < lo→xs[k]? = (arrOf st)[k]?):SF κ a₀ lo st₀ (setArr st xs) :=
 ⟨⟨hp.trans h.b.perm,h.b.kind,h.b.failed⟩,fun k hk=>(hl k hk).trans (h.low k hk),h.pend⟩
section
variable {prog:Program} {w:World} {A:Around} {E:Value→Shared→Prop} {s:Shared} {a₀:Array Keyed} {κ:SortKind} {val:Keyed→Int}
def Cmp (prog:Program) (w:World) (A:Around) (s:Shared) (κ:SortKind) (val:Keyed→Int) (a₀:Array Keyed):Prop :=
 ∀ x y,x∈a₀.toList→y∈a₀.toList→∀ (Q:Bool→Shared→Prop) (E:Value→Shared→Prop),Q (decide (val x < val y)) s→wpAny (model prog w) A (keyLt' κ x.1 y.1) Q E s
theorem ziV {st:SortSt} {x y:Keyed} {Q:Option Bool→SortSt→Prop} (hC:Cmp prog w A s κ val a₀) (hk:kindOf st=κ) (hx:x∈a₀.toList) (hy:y∈a₀.toList) (h:Q (some (decide (val x < val y))) st) :
  wpS (model prog w) A E s (lt' x y) Q st:=by
 rw [lt'_eq];refine ao (fj ?_);rw [hk];refine ao (gf (fJ (hC x y hx hy _ _ ⟨rfl,?_⟩)));exact ar h
theorem zC {st:SortSt} {arr:Array Keyed} {i:Nat} {p:Keyed} {Q:Keyed→SortSt→Prop} (hi:arr[i]? = some p) (h:Q p st):wpS (model prog w) A E s (elem' arr i) Q st:=by
 rw [elem'_eq,hi];exact ar h
theorem zdw {st:SortSt} {i j:Nat} {Q:Option Bool→SortSt→Prop} (hC:Cmp prog w A s κ val a₀) (hB:SB κ a₀ st) (hi:i < a₀.size) (hj:j < a₀.size) (h:Q (some (decide (Vk val (arrOf st) i < Vk val (arrOf st) j))) st) :
  (wpS (model prog w) A E s (ltAt' i j) Q st):=by
 obtain⟨x,ex,mx⟩:=hB.mem hi;obtain⟨y,ey,my⟩:=hB.mem hj;rw [ltAt'_eq];refine ao (fj ?_)
 (show wpS _ _ _ _ (do let x ← elem' (arrOf st) i; let y ← elem' (arrOf st) j; lt' x y) Q st)
 refine ao (zC ex (ao (zC ey (ziV hC hB.kind mx my ?_))));rw [zH ex,zH ey] at h;exact h
theorem zgS {st:SortSt} {i j:Nat} {Q:Unit→SortSt→Prop} (h:Q () (setArr st (mirror (arrOf st) i j ((j - i) / 2)))) :
  (wpS (model prog w) A E s (reverseSlice' i j) Q st):=by
 ((rw [reverseSlice'_eq]; exact eF h))
theorem zdx {xs:Array Keyed} {i j:Nat} (hj:j≤xs.size) (k:Nat):Vk val (mirror xs i j ((j - i) / 2)) k=if i≤k∧k < j then Vk val xs (i+j - 1 - k) else Vk val xs k:=by
 (have e:=jl (i:=i) hj k)
 by_cases h1:i≤k∧k < j
 ·rw [if_pos h1] at e ⊢; exact zU e
 ·rw [if_neg h1] at e ⊢; exact zU e
theorem zaK {xs:Array Keyed} {i j:Nat} (hj:j≤xs.size) (heq:∀ k,i≤k→k < j→Vk val xs k=Vk val xs (j - 1)) (k:Nat):Vk val (mirror xs i j ((j - i) / 2)) k=Vk val xs k:=by
 rw [zdx hj];split
 ·(rw [heq _ #[O] #[O],heq k #[O] #[O]])
 ·rfl
theorem zbr {xs:Array Keyed} {lo i j:Nat} (hj:j≤xs.size) (hi:lo≤i):∀ k,k < lo→(mirror xs i j ((j - i) / 2))[k]? = xs[k]?:=fun k hk=>by
 rw [jl hj,if_neg #[O]]
theorem zgh {xs:Array Keyed} {lo src d:Nat} (hs:src < xs.size) (hd:d≤src) (hl:lo≤src - d):∀ k,k < lo→(bubble xs src d)[k]? = xs[k]?:=fun k hk=>by
 rw [getElem?_bubble hs d hd,if_neg #[O],if_neg #[O]]
def ziW (lo a kU:Nat):StateT SortSt Sem AscSt :=
 forIn [a:kU] ((none,a):AscSt) fun _ st=>do
  let x ← ltAt' (lo+st.snd) (lo+st.snd - 1)
  match x with
  | some nN=>if nN=true then pure (fk (none,st.snd)) else pure (ck (none,st.snd+1))
  | _=>pure (fk (some none,st.snd))
def zfx (lo n kU:Nat):StateT SortSt Sem (Option Nat):=do
 reverseSlice' lo (lo+n)
 let st ← ziW lo n kU
 match st.fst with
 | some r=>pure r
 | none=>pure (some st.snd)
def zgT (lo n kU:Nat):StateT SortSt Sem DescSt :=
 forIn [n:kU] ((none,n,0):DescSt) fun _ st=>do
  let x ← ltAt' (lo+st.snd.fst) (lo+st.snd.fst - 1)
  match x with
  | some nN =>
   if nN=true then
    if st.snd.snd > 0 then do
     reverseSlice' (lo+st.snd.fst - (st.snd.snd+1)) (lo+st.snd.fst)
     pure (ck (none,st.snd.fst+1,0))
    else pure (ck (none,st.snd.fst+1,0))
   else do
    let x ← ltAt' (lo+st.snd.fst - 1) (lo+st.snd.fst)
    match x with
    | some uj =>
     if uj=true then pure (fk (none,st.snd.fst,st.snd.snd))
     else pure (ck (none,st.snd.fst+1,st.snd.snd+1))
    | _=>pure (fk (some none,st.snd.fst,st.snd.snd))
  | _=>pure (fk (some none,st.snd.fst,st.snd.snd))
def zfy (lo n kU:Nat):StateT SortSt Sem (Option Nat):=do
 liftM (rule "list.sort.descending-run"); let st ← zgT lo (n+1) kU
 match st.fst with
 | some r=>pure r
 | none =>
  if st.snd.snd > 0 then do
   reverseSlice' (lo+st.snd.fst - (st.snd.snd+1)) (lo+st.snd.fst)
   zfx lo st.snd.fst kU
  else zfx lo st.snd.fst kU
theorem zeS (lo kU:Nat):countRun' lo kU=(do
  let st ← ziW lo 1 kU
  match st.fst with
  | some r=>pure r
  | none =>
   if (st.snd == kU)=true then pure (some st.snd)
   else if st.snd > 1 then do
    let x ← ltAt' lo (lo+st.snd - 1)
    match x with
    | some wc=>if wc=true then pure (some st.snd) else do
      reverseSlice' lo (lo+st.snd)
      zfy lo st.snd kU
    | _=>pure none
   else zfy lo st.snd kU):=by
 rw [countRun'_eq];unfold zfy zfx zgT ziW;dsimp only;refine congrArg (bind _) ?_;funext c;obtain⟨r,n⟩:=c;cases r with
 | some r=>rfl
 | none =>
  dsimp only;split
  ·rfl
  ·split
   ·congr 1;funext x;cases x with
    | none=>rfl
    | some wc =>
     dsimp only;split
     ·rfl
     ·congr 1;funext _r;congr 1; funext _u; congr 1; congr 1; funext s2; obtain⟨r2,n2,q2⟩:=s2;cases r2 with
      | some r2=>rfl
      | none =>
       dsimp only;split
       ·congr 1; funext _v; congr 1; funext _w; congr 1; funext s3; obtain⟨r3,n3⟩:=s3; cases r3 <;> rfl
       ·congr 1; funext _w; congr 1; funext s3; obtain⟨r3,n3⟩:=s3; cases r3 <;> rfl
   ·congr 1; funext _u; congr 1; congr 1; funext s2; obtain⟨r2,n2,q2⟩:=s2;cases r2 with
    | some r2=>rfl
    | none =>
     dsimp only;split
     ·congr 1; funext _v; congr 1; funext _w; congr 1; funext s3; obtain⟨r3,n3⟩:=s3; cases r3 <;> rfl
     ·congr 1; funext _w; congr 1; funext s3; obtain⟨r3,n3⟩:=s3; cases r3 <;> rfl
theorem zkS {st₀ st:SortSt} {lo a kU:Nat} {Q:AscSt→SortSt→Prop} (hC:Cmp prog w A s κ val a₀) (hn:lo+kU≤a₀.size) (ha:1≤a) (han:a≤kU) (hB:SF κ a₀ lo st₀ st)
  (hs:SIn val (arrOf st) lo (lo+a))
  (h:∀ n,a≤n→n≤kU→SIn val (arrOf st) lo (lo+n)→(n=kU∨Vk val (arrOf st) (lo+n) < Vk val (arrOf st) (lo+n - 1))→Q (none,n) st) :
  wpS (model prog w) A E s (ziW lo a kU) Q st:=by
 unfold ziW;refine cq (I:=fun x c kQ=>kQ=st∧c=(none,x)∧SIn val (arrOf st) lo (lo+x)) ?step ?fin ⟨rfl,rfl,hs⟩
 case fin =>
  rintro c kQ ⟨rfl,rfl,lV⟩
  (rw [show max a kU=kU by lia] at lV ⊢)
  (exact h kU han (ag _) lV (.inl rfl))
 case step =>
  (rintro x c kQ we x8 ⟨rfl,rfl,lV⟩)
  dsimp only;refine ao (zdw hC hB.b #[O] #[O] ?_);by_cases lI:Vk val (arrOf kQ) (lo+x) < Vk val (arrOf kQ) (lo+x - 1)
  ·(simp only [lI,decide_true,if_true])
   (exact ar (h x we #[O] lV (.inr lI)))
  ·(simp only [lI,decide_false,aO,if_false])
   refine ar ⟨rfl,rfl,fun i j og mE hj=>?_⟩;by_cases wg:j < lo+x
   ·exact lV i j og mE wg
   ·have mS:j=lo+x:=by lia
    subst mS;by_cases lA:i=lo+x
    ·(subst lA; exact bF _)
    ·exact bU (lV i (lo+x - 1) og #[O] #[O]) (Int.not_lt.mp lI)
theorem ziX {st₀ st:SortSt} {lo n kU:Nat} {Q:Option Nat→SortSt→Prop} (hC:Cmp prog w A s κ val a₀) (hn:lo+kU≤a₀.size) (h1:1≤n) (se:n≤kU) (hB:SF κ a₀ lo st₀ st)
  (hs:DIn val (arrOf st) lo (lo+n)) (h:∀ m kQ,SF κ a₀ lo st₀ kQ→1≤m→m≤kU→SIn val (arrOf kQ) lo (lo+m)→Q (some m) kQ) :
  wpS (model prog w) A E s (zfx lo n kU) Q st:=by
 unfold zfx;have hsz:lo+n≤(arrOf st).size:=by rw [hB.b.size]; lia
 refine ao (zgS ?_);have lZ:=hB.setArr (iD (arrOf st) lo (lo+n) ((lo+n - lo) / 2)) (zbr hsz (ag _));refine ao (zkS hC hn h1 se lZ ?_ fun m qG rD wj _=>ar (h m _ lZ #[O] rD wj));intro i j og mE hj;show Vk val (mirror (arrOf st) lo (lo+n) ((lo+n - lo) / 2)) i≤Vk val (mirror (arrOf st) lo (lo+n) ((lo+n - lo) / 2)) j;rw [zdx hsz,zdx hsz,if_pos #[O],if_pos #[O]];exact hs _ _ #[O] #[O] #[O]
theorem zlx {st₀ st:SortSt} {lo n kU:Nat} {Q:DescSt→SortSt→Prop} (hC:Cmp prog w A s κ val a₀) (hn:lo+kU≤a₀.size) (h1:1≤n) (se:n≤kU) (hB:SF κ a₀ lo st₀ st)
  (hs:DIn val (arrOf st) lo (lo+n))
  (h:∀ m oI kQ,SF κ a₀ lo st₀ kQ→n≤m→m≤kU→DIn val (arrOf kQ) lo (lo+m)→oI+1≤m→(∀ i,lo+m - (oI+1)≤i→i < lo+m→Vk val (arrOf kQ) i=Vk val (arrOf kQ) (lo+m - 1))→Q (none,m,oI) kQ) :
  wpS (model prog w) A E s (zgT lo n kU) Q st:=by
 unfold zgT;refine cq (I:=fun x c kQ=>∃ oI,c=(none,x,oI)∧SF κ a₀ lo st₀ kQ∧DIn val (arrOf kQ) lo (lo+x)∧oI+1≤x ∧
   (∀ i,lo+x - (oI+1)≤i→i < lo+x→Vk val (arrOf kQ) i=Vk val (arrOf kQ) (lo+x - 1))) ?step ?fin ⟨0,rfl,hB,hs,#[O],fun i h1 h2=>by congr 1; lia⟩
 case fin =>
  (rintro c kQ ⟨oI,rfl,lZ,lV,hq,he⟩)
  (rw [show max n kU=kU by lia] at lV hq he ⊢)
  (exact h kU oI kQ lZ se (ag _) lV hq he)
 case step =>
  (rintro x c kQ we x8 ⟨oI,rfl,lZ,lV,hq,he⟩)
  dsimp only;have hsz:lo+x≤(arrOf kQ).size:=by rw [lZ.b.size]; lia
  refine ao (zdw hC lZ.b #[O] #[O] ?_);by_cases lI:Vk val (arrOf kQ) (lo+x) < Vk val (arrOf kQ) (lo+x - 1)
  ·(simp only [lI,decide_true,if_true])
   have step1:∀ xs:Array Keyed,(∀ k,Vk val xs k=Vk val (arrOf kQ) k)→DIn val xs lo (lo+(x+1)):=by
    intro xs hk i j og mE hj;rw [hk,hk];by_cases wg:j < lo+x
    ·exact lV i j og mE wg
    ·have mS:j=lo+x:=by lia
     subst mS;by_cases lA:i=lo+x
     ·(subst lA; exact bF _)
     ·exact bU (dZ lI) (lV i (lo+x - 1) og #[O] #[O])
   by_cases qH:oI > 0
   ·rw [if_pos qH];refine ao (zgS (ar ⟨0,rfl,lZ.setArr (iD _ _ _ _) (zbr hsz #[O]),step1 _ (zaK hsz he),#[O],fun i h1 h2=>by congr 1; lia⟩))
   ·rw [if_neg qH]
    (exact ar ⟨0,rfl,lZ,step1 _ (fun _=>rfl),#[O],fun i h1 h2=>by congr 1; lia⟩)
  ·(simp only [lI,decide_false,aO,if_false])
   refine ao (zdw hC lZ.b #[O] #[O] ?_);by_cases pk:Vk val (arrOf kQ) (lo+x - 1) < Vk val (arrOf kQ) (lo+x)
   ·(simp only [pk,decide_true,if_true])
    (exact ar (h x oI kQ lZ we #[O] lV hq he))
   ·(simp only [pk,decide_false,aO,if_false])
    have wm:Vk val (arrOf kQ) (lo+x)=Vk val (arrOf kQ) (lo+x - 1):=by lia
    refine ar ⟨oI+1,rfl,lZ,fun i j og mE hj=>?_,#[O],fun i h1 h2=>?_⟩
    ·by_cases wg:j < lo+x
     ·exact lV i j og mE wg
     ·have mS:j=lo+x:=by lia
      subst mS;by_cases lA:i=lo+x
      ·(subst lA; exact bF _)
      ·rw [wm]; exact lV i (lo+x - 1) og #[O] #[O]
    ·rw [show lo+(x+1) - 1=lo+x by lia];by_cases hix:i=lo+x
     ·subst hix; rfl
     ·(rw [wm]; exact he i #[O] #[O])
theorem zgU {st₀ st:SortSt} {lo n kU:Nat} {Q:Option Nat→SortSt→Prop} (hC:Cmp prog w A s κ val a₀) (hn:lo+kU≤a₀.size) (se:n+1≤kU) (hB:SF κ a₀ lo st₀ st)
  (hs:DIn val (arrOf st) lo (lo+(n+1))) (h:∀ m kQ,SF κ a₀ lo st₀ kQ→1≤m→m≤kU→SIn val (arrOf kQ) lo (lo+m)→Q (some m) kQ) :
  wpS (model prog w) A E s (zfy lo n kU) Q st:=by
 unfold zfy
 (refine ao (gf (cB ⟨rfl,?_⟩)))
 refine ao (zlx hC hn #[O] se hB hs fun m oI kQ lZ qG rD lV hq he=>?_);dsimp only;have hsz:lo+m≤(arrOf kQ).size:=by rw [lZ.b.size]; lia
 by_cases qH:oI > 0
 ·rw [if_pos qH];refine ao (zgS (ziX hC hn #[O] rD (lZ.setArr (iD _ _ _ _) (zbr hsz #[O])) ?_ h));intro i j og mE hj;show Vk val (mirror (arrOf kQ) _ _ _) j≤Vk val (mirror (arrOf kQ) _ _ _) i;rw [zaK hsz he,zaK hsz he];exact lV i j og mE hj
 ·rw [if_neg qH];exact ziX hC hn #[O] rD lZ lV h
theorem zkf {st₀ st:SortSt} {lo kU:Nat} {Q:Option Nat→SortSt→Prop} (hC:Cmp prog w A s κ val a₀) (hn:lo+kU≤a₀.size) (h1:1≤kU) (hB:SF κ a₀ lo st₀ st)
  (h:∀ m kQ,SF κ a₀ lo st₀ kQ→1≤m→m≤kU→SIn val (arrOf kQ) lo (lo+m)→Q (some m) kQ) :
  wpS (model prog w) A E s (countRun' lo kU) Q st:=by
 rw [zeS];refine ao (zkS hC hn (ag 1) h1 hB (fun i j og mE hj=>(by
   have e:i=j:=by lia
   rw [e];exact bF _)) fun n pH pZ uk hor=>?_)
 dsimp only;by_cases se:n=kU
 ·(rw [if_pos (by simpa using se)])
  (exact ar (h n st hB pH pZ uk))
 ·(rw [if_neg (by simpa using se)])
  have kX:Vk val (arrOf st) (lo+n) < Vk val (arrOf st) (lo+n - 1):=hor.resolve_left se;by_cases hgt:n > 1
  ·rw [if_pos hgt];refine ao (zdw hC hB.b #[O] #[O] ?_);by_cases tE:Vk val (arrOf st) lo < Vk val (arrOf st) (lo+n - 1)
   ·(simp only [tE,decide_true,if_true])
    (exact ar (h n st hB pH pZ uk))
   ·(simp only [tE,decide_false,aO,if_false])
    have hsz:lo+n≤(arrOf st).size:=by rw [hB.b.size]; lia
    have lH:∀ k,lo≤k→k < lo+n→Vk val (arrOf st) k=Vk val (arrOf st) (lo+n - 1):=by
     intro k qc hk;have a1:=uk lo k (ag _) qc hk;have a2:=uk k (lo+n - 1) qc #[O] #[O];lia
    refine ao (zgS (zgU hC hn #[O] (hB.setArr (iD _ _ _ _) (zbr hsz (ag _))) ?_ h));intro i j og mE hj;show Vk val (mirror (arrOf st) _ _ _) j≤Vk val (mirror (arrOf st) _ _ _) i;rw [zaK hsz lH,zaK hsz lH];by_cases hjn:j < lo+n
    ·(rw [lH i #[O] #[O],lH j #[O] hjn]; exact bF _)
    ·have mS:j=lo+n:=by lia
     subst mS;by_cases lA:i=lo+n
     ·(subst lA; exact bF _)
     ·(rw [lH i #[O] #[O]]; exact dZ kX)
  ·rw [if_neg hgt];have Aj:n=1:=by lia
   subst Aj;refine zgU hC hn #[O] hB ?_ h;intro i j og mE hj;by_cases lA:i=j
   ·(subst lA; exact bF _)
   ·have wo:i=lo:=by lia
    have si:j=lo+1:=by lia
    subst wo; subst si;exact dZ kX
theorem zfz {xs:Array Keyed} {src d:Nat} (hs:src < xs.size) (hd:d≤src) (k:Nat) :
  Vk val (bubble xs src d) k=if k=src - d then Vk val xs src else if src - d < k∧k≤src then Vk val xs (k - 1) else Vk val xs k:=by
 (have e:=getElem?_bubble hs d hd k)
 by_cases h1:k=src - d
 ·rw [if_pos h1] at e ⊢; exact zU e
 ·rw [if_neg h1] at e ⊢
  (by_cases h2:src - d < k∧k≤src)
  ·rw [if_pos h2] at e ⊢; exact zU e
  ·rw [if_neg h2] at e ⊢; exact zU e
theorem zml {st₀ st:SortSt} {lo n ok:Nat} {Q:Bool→SortSt→Prop} (hC:Cmp prog w A s κ val a₀) (hn:lo+n≤a₀.size) (hok:ok≤n) (hB:SF κ a₀ lo st₀ st) (hs:SIn val (arrOf st) lo (lo+ok))
  (h:∀ kQ,SF κ a₀ lo st₀ kQ→SIn val (arrOf kQ) lo (lo+n)→Q true kQ):wpS (model prog w) A E s (binarySort' lo n ok) Q st:=by
 rw [binarySort'_eq];refine ao (c8 (cq (I:=fun k c kQ=>c=(none,())∧SF κ a₀ lo st₀ kQ∧SIn val (arrOf kQ) lo (lo+min k n))
  (Q:=fun c kQ=>c=(none,())∧SF κ a₀ lo st₀ kQ∧SIn val (arrOf kQ) lo (lo+n)) ?step ?fin ?init) ?post)
 case post =>
  rintro c kQ ⟨rfl,lZ,lV⟩
  (exact ar (h kQ lZ lV))
 case init =>
  refine⟨rfl,hB,fun i j og mE hj=>?_⟩;by_cases h1:ok=0
  ·have e:i=j:=by lia
   rw [e]; exact bF _
  ·exact hs i j og mE #[O]
 case fin =>
  rintro c kQ ⟨hc,lZ,lV⟩;refine⟨hc,lZ,?_⟩
  (rwa [show min (max (max ok 1) n) n=n by lia] at lV)
 case step =>
  (rintro k c kQ hak x9 ⟨rfl,lZ,lV⟩)
  (rw [show min k n=k by lia] at lV)
  have hk:lo+k < a₀.size:=#[O]; refine ao (c8 (cq (I:=fun x c lS=>lS=kQ∧∃ l r,c=(none,l,r)∧l≤r∧r≤k∧r - l≤k - x ∧
    (∀ i,i < l→Vk val (arrOf kQ) (lo+i)≤Vk val (arrOf kQ) (lo+k))∧(∀ i,r≤i→i < k→Vk val (arrOf kQ) (lo+k) < Vk val (arrOf kQ) (lo+i)))
   (Q:=fun c lS=>lS=kQ∧∃ l r,c=(none,l,r)∧l≤k∧(∀ i,i < l→Vk val (arrOf kQ) (lo+i)≤Vk val (arrOf kQ) (lo+k))∧(∀ i,l≤i→i < k→Vk val (arrOf kQ) (lo+k) < Vk val (arrOf kQ) (lo+i))) ?istep ?ifin ?iinit) ?ipost)
  case iinit=>(exact⟨rfl,0,k,rfl,#[O],#[O],#[O],fun i hi=>by lia,fun i h1 h2=>by lia⟩)
  case ifin =>
   (rintro c lS ⟨rfl,l,r,rfl,vp,Ak,hm,mT,sj⟩)
   have:l=r:=by lia
   subst this
   (exact⟨rfl,l,l,rfl,Ak,mT,sj⟩)
  case istep =>
   (rintro x c lS _ hxk ⟨rfl,l,r,rfl,vp,Ak,hm,mT,sj⟩)
   dsimp only;by_cases nr:l≥r
   ·rw [if_pos nr];have:l=r:=by lia
    subst this
    (exact ar ⟨rfl,l,l,rfl,Ak,mT,sj⟩)
   ·rw [if_neg nr];refine ao (zdw hC lZ.b hk #[O] ?_);by_cases lI:Vk val (arrOf lS) (lo+k) < Vk val (arrOf lS) (lo+(l+r) / 2)
    ·(simp only [lI,decide_true,if_true])
     (refine ar ⟨rfl,l,(l+r) / 2,rfl,#[O],#[O],#[O],mT,fun i h1 h2=>?_⟩)
     exact Int.lt_of_lt_of_le lI (lV _ _ #[O] #[O] #[O])
    ·(simp only [lI,decide_false,aO,if_false])
     (refine ar ⟨rfl,(l+r) / 2+1,r,rfl,#[O],#[O],#[O],fun i h1=>?_,sj⟩)
     exact bU (lV (lo+i) (lo+(l+r) / 2) #[O] #[O] #[O]) (Int.not_lt.mp lI)
  case ipost =>
   (rintro c lS ⟨rfl,l,r,rfl,hlk,mT,sj⟩)
   show wpS _ _ _ _ (do moveDown' (lo+k) (lo+l); pure (ck (none,()))) _ _;rw [moveDown'_eq];have Al:lo+k < (arrOf lS).size:=by rw [lZ.b.size]; exact hk
   refine ao (eF (ar ⟨rfl,lZ.setArr (bubble_perm _ _ _) (zgh Al #[O] #[O]),?_⟩))
   (rw [show min (k+1) n=k+1 by lia])
   intro i j og mE hj;show Vk val (bubble (arrOf lS) (lo+k) (lo+k - (lo+l))) i≤Vk val (bubble (arrOf lS) (lo+k) (lo+k - (lo+l))) j;rw [zfz Al #[O],zfz Al #[O],show lo+k - (lo+k - (lo+l))=lo+l by lia];have Am:∀ i,lo≤i→i < lo+l→Vk val (arrOf lS) i≤Vk val (arrOf lS) (lo+k):=fun i h1 h2=>by
    have:=mT (i - lo) #[O]
    rwa [show lo+(i - lo)=i by lia] at this
   have An:∀ i,lo+l≤i→i < lo+k→Vk val (arrOf lS) (lo+k) < Vk val (arrOf lS) i:=fun i h1 h2=>by
    have:=sj (i - lo) #[O] #[O]
    rwa [show lo+(i - lo)=i by lia] at this
   repeat' split
   all_goals first
    | (exfalso; lia)
    | exact bF _
    | exact Am _ #[O] #[O]
    | exact dZ (An _ #[O] #[O])
    | exact lV _ _ #[O] #[O] #[O]
end
end Srt
end
section
namespace Srt
open PySem PyProof.Rows
def zkg:Bool→Keyed→Array Keyed→Nat→Nat→Nat→StateT SortSt Sem (Option Nat):=sortPriv% PySem.Builtin.gallop
def ziY:Array Keyed→Array Keyed→StateT SortSt Sem (Array Keyed):=sortPriv% PySem.Builtin.mergeLo
def ziZ:Array Keyed→Array Keyed→StateT SortSt Sem (Array Keyed):=sortPriv% PySem.Builtin.mergeHi
def zb9:Nat→StateT SortSt Sem Unit:=sortPriv% PySem.Builtin.setMinGallop
theorem zeT {M:Model} {A:Around} {E:Value→Shared→Prop} {s:Shared} {α:Type} {m:StateT SortSt Sem α} {Q:α→SortSt→Prop} {st:SortSt} (h:wpAny M A (m st) (fun r s'=>s'=s∧Q r.1 r.2) E s):wpS M A E s m Q st:=h
theorem zeU {M:Model} {A:Around} {E:Value→Shared→Prop} {s:Shared} {α:Type} {m:StateT SortSt Sem α} {Q:α→SortSt→Prop} {st:SortSt} (h:wpS M A E s m Q st):wpAny M A (m st) (fun r s'=>s'=s∧Q r.1 r.2) E s:=h
section
variable {prog:Program} {w:World} {A:Around} {E:Value→Shared→Prop} {s:Shared} {a₀:Array Keyed} {κ:SortKind} {val:Keyed→Int}
def bB (val:Keyed→Int) (left:Bool) (key:Keyed) (arr:Array Keyed) (base i:Nat):Bool:=if left then decide (Vk val arr (base+i) < val key) else !decide (val key < Vk val arr (base+i))
theorem zco {left:Bool} {key:Keyed} {arr:Array Keyed} {base n i j:Nat} (hs:SIn val arr base (base+n)) (mE:i≤j) (hj:j < n) (h:bB val left key arr base j=true):bB val left key arr base i=true:=by
 have:=hs (base+i) (base+j) #[O] #[O] #[O];unfold bB at h ⊢;cases left <;> simp at h ⊢ <;> lia
theorem zbK {st:SortSt} {left:Bool} {key:Keyed} {arr:Array Keyed} {base i:Nat} {Q:Option Bool→SortSt→Prop} {p:Keyed} (hC:Cmp prog w A s κ val a₀) (hk:kindOf st=κ) (nk:key∈a₀.toList) (he:arr[base+i]? = some p) (hp:p∈a₀.toList)
  (h:Q (some (bB val left key arr base i)) st):wpS (model prog w) A E s (do
   let x ← elem' arr (base+i)
   if left then lt' x key else do
    let r ← lt' key x
    return r.map (!·)) Q st:=by
 refine ao (zC he ?_);unfold bB at h;rw [zH he] at h;cases left with
 | true=>exact ziV hC hk hp nk h
 | false=>exact ao (ziV hC hk nk hp (ar h))
abbrev zkh:=Option (Option Nat)×Nat×Nat
theorem zi0 {st:SortSt} {left:Bool} {key:Keyed} {arr:Array Keyed} {base n lo hi:Nat} {f:Nat→zkh→StateT SortSt Sem (ForInStep zkh)} (hs:SIn val arr base (base+n)) (hlh:lo≤hi) (hhn:hi≤n)
  (h1:∀ i,i < lo→bB val left key arr base i=true) (h2:∀ i,hi≤i→i < n→bB val left key arr base i=false)
  (hf:∀ (x l r:Nat) (R:ForInStep zkh→SortSt→Prop),r≤n→(l≥r→R (.done (none,l,r)) st)→(l < r→R (if bB val left key arr base (l+(r - l) / 2)=true then .yield (none,l+(r - l) / 2+1,r) else .yield (none,l,l+(r - l) / 2)) st)→wpS (model prog w) A E s (f x (none,l,r)) R st) :
  wpS (model prog w) A E s (forIn [0:n] ((none,lo,hi):zkh) f) (fun c kQ=>kQ=st∧∃ l,c=(none,l,l)∧l≤n∧(∀ i,i < l→bB val left key arr base i=true)∧(∀ i,l≤i→i < n→bB val left key arr base i=false)) st:=by
 refine cq (I:=fun x c kQ=>kQ=st∧∃ l r,c=(none,l,r)∧l≤r∧r≤n∧r - l≤n - x∧(∀ i,i < l→bB val left key arr base i=true)∧(∀ i,r≤i→i < n→bB val left key arr base i=false)) ?step ?fin ⟨rfl,lo,hi,rfl,hlh,hhn,#[O],h1,h2⟩
 case fin =>
  rintro c kQ ⟨rfl,l,r,rfl,vp,um,hm,a1,a2⟩;have:l=r:=by lia
  subst this;exact⟨rfl,l,rfl,um,a1,a2⟩
 case step =>
  rintro x c kQ _ x8 ⟨rfl,l,r,rfl,vp,um,hm,a1,a2⟩;refine hf x l r _ um (fun nr=>?_) (fun kX=>?_)
  ·have:l=r:=by lia
   subst this;exact⟨rfl,l,rfl,um,a1,a2⟩
  ·cases hb:bB val left key arr base (l+(r - l) / 2) with
   | true =>
    rw [if_pos rfl];exact⟨rfl,l+(r - l) / 2+1,r,rfl,#[O],um,#[O],fun i hi=>zco hs #[O] #[O] hb,a2⟩
   | false =>
    rw [if_neg #[D]];refine⟨rfl,l,l+(r - l) / 2,rfl,#[O],#[O],#[O],a1,fun i hi nM=>?_⟩;cases e:bB val left key arr base i with
    | false=>rfl
    | true=>rw [zco hs hi nM e] at hb; cases hb
theorem zaL {st:SortSt} {left:Bool} {key:Keyed} {arr:Array Keyed} {base n hint:Nat} {Q:Option Nat→SortSt→Prop} (hC:Cmp prog w A s κ val a₀) (hk:kindOf st=κ) (nk:key∈a₀.toList)
  (ha:∀ i,i < n→∃ p,arr[base+i]? = some p∧p∈a₀.toList) (hs:SIn val arr base (base+n)) (hh:hint < n)
  (h:∀ k,k≤n→(∀ i,i < k→bB val left key arr base i=true)→(∀ i,k≤i→i < n→bB val left key arr base i=false)→Q (some k) st) :
  wpS (model prog w) A E s (zkg left key arr base n hint) Q st:=by
 refine zeT ?_
 wp_delta
 wp_delta
 refine zeU ?_;dsimp only;obtain⟨p,ep,mp⟩:=ha hint hh;refine ao (zbK hC hk nk ep mp ?_);dsimp only;have up:∀ {i j:Nat},i≤j→j < n→bB val left key arr base i=false→bB val left key arr base j=false:=fun {i j} mE hj h=>by
  cases e:bB val left key arr base j with
  | false=>rfl
  | true=>rw [zco hs mE hj e] at h; cases h
 cases hr:bB val left key arr base hint with
 | true =>
  simp only [if_true];refine ao (c8 (cq (I:=fun x c kQ=>kQ=st∧∃ l o,c=(none,l,o)∧l < o∧x+1≤o∧hint+l < n∧bB val left key arr base (hint+l)=true)
   (Q:=fun c kQ=>kQ=st∧∃ l o,c=(none,l,o)∧l < o∧hint+l < n∧bB val left key arr base (hint+l)=true∧(hint+o < n→bB val left key arr base (hint+o)=false)) ?step ?fin ⟨rfl,0,1,rfl,#[O],#[O],hh,hr⟩) ?post)
  case fin =>
   rintro c kQ ⟨rfl,l,o,rfl,mT,hx,hl,hb⟩;exact⟨rfl,l,o,rfl,mT,hl,hb,fun z=>by lia⟩
  case step =>
   rintro x c kQ _ x8 ⟨rfl,l,o,rfl,mT,hx,hl,hb⟩;dsimp only;by_cases nr:o≥n - hint
   ·rw [if_pos nr];exact ar ⟨rfl,l,o,rfl,mT,hl,hb,fun z=>by lia⟩
   ·rw [if_neg nr];obtain⟨p,ep,mp⟩:=ha (hint+o) #[O];refine ao (zbK hC hk nk ep mp ?_);dsimp only;cases qd:bB val left key arr base (hint+o) with
    | true =>
     rw [if_neg #[D]];exact ar ⟨rfl,o,2*o+1,rfl,#[O],#[O],#[O],qd⟩
    | false =>
     rw [if_pos #[D]];exact ar ⟨rfl,l,o,rfl,mT,hl,hb,fun _=>qd⟩
  case post =>
   rintro c kQ ⟨rfl,l,o,rfl,mT,hl,hb,qd⟩;dsimp only;refine ao (c8 (zi0 (val:=val) (left:=left) (key:=key) (arr:=arr) (base:=base) hs #[O] #[O] (fun i hi=>zco hs #[O] hl hb) (fun i hi nM=>(by
    by_cases ho:hint+o < n
    ·exact up #[O] nM (qd ho)
    ·lia)) (fun x l' r' R um k1 k2=>?_)) ?_)
   ·dsimp only;by_cases nr:l'≥r'
    ·rw [if_pos nr];exact ar (k1 nr)
    ·rw [if_neg nr];obtain⟨p,ep,mp⟩:=ha (l'+(r' - l') / 2) #[O];refine ao (zbK hC hk nk ep mp ?_);have k3:=k2 #[O];dsimp only;cases uo:bB val left key arr base (l'+(r' - l') / 2) with
     | true=>rw [uo] at k3; rw [if_pos rfl] at k3 ⊢; exact ar k3
     | false=>rw [uo] at k3; rw [if_neg #[D]] at k3 ⊢; exact ar k3
   ·rintro c lS ⟨rfl,l,rfl,hl,b1,b2⟩;exact ar (h l hl b1 b2)
 | false =>
  (simp only [aO,if_false])
  refine ao (c8 (cq (I:=fun x c kQ=>kQ=st∧∃ l o,c=(none,l,o)∧l < o∧x+1≤o∧l≤hint∧bB val left key arr base (hint - l)=false)
   (Q:=fun c kQ=>kQ=st∧∃ l o,c=(none,l,o)∧l < o∧l≤hint∧bB val left key arr base (hint - l)=false∧(o≤hint→bB val left key arr base (hint - o)=true)) ?step ?fin ⟨rfl,0,1,rfl,#[O],#[O],#[O],hr⟩) ?post)
  case fin =>
   rintro c kQ ⟨rfl,l,o,rfl,mT,hx,hl,hb⟩;exact⟨rfl,l,o,rfl,mT,hl,hb,fun z=>by lia⟩
  case step =>
   rintro x c kQ _ x8 ⟨rfl,l,o,rfl,mT,hx,hl,hb⟩;dsimp only;by_cases nr:o≥hint+1
   ·rw [if_pos nr];exact ar ⟨rfl,l,o,rfl,mT,hl,hb,fun z=>by lia⟩
   ·rw [if_neg nr];obtain⟨p,ep,mp⟩:=ha (hint - o) #[O];refine ao (zbK hC hk nk ep mp ?_);dsimp only;cases qd:bB val left key arr base (hint - o) with
    | false =>
     rw [if_neg #[D]];exact ar ⟨rfl,o,2*o+1,rfl,#[O],#[O],#[O],qd⟩
    | true =>
     rw [if_pos rfl];exact ar ⟨rfl,l,o,rfl,mT,hl,hb,fun _=>qd⟩
  case post =>
   rintro c kQ ⟨rfl,l,o,rfl,mT,hl,hb,qd⟩;dsimp only;refine ao (c8 (zi0 (val:=val) (left:=left) (key:=key) (arr:=arr) (base:=base) hs #[O] #[O] (fun i hi=>(by
    by_cases ho:o≤hint
    ·exact zco hs #[O] #[O] (qd ho)
    ·lia)) (fun i hi nM=>up hi nM hb) (fun x l' r' R um k1 k2=>?_)) ?_)
   ·dsimp only;by_cases nr:l'≥r'
    ·rw [if_pos nr];exact ar (k1 nr)
    ·rw [if_neg nr];obtain⟨p,ep,mp⟩:=ha (l'+(r' - l') / 2) #[O];refine ao (zbK hC hk nk ep mp ?_);have k3:=k2 #[O];dsimp only;cases uo:bB val left key arr base (l'+(r' - l') / 2) with
     | true=>rw [uo] at k3; rw [if_pos rfl] at k3 ⊢; exact ar k3
     | false=>rw [uo] at k3; rw [if_neg #[D]] at k3 ⊢; exact ar k3
   ·rintro c lS ⟨rfl,l,rfl,hl,b1,b2⟩;exact ar (h l hl b1 b2)
end
end Srt
end
section
namespace Srt
open PySem PyProof.Rows
abbrev zZ (st:SortSt) (g:Nat):SortSt:=ke (kindOf st) (arrOf st) (pendingOf st) g (failedOf st)
theorem zcJ (g:Nat):zb9 g=modify fun s=>zZ s g:=rfl
def Le (val:Keyed→Int) (xs ys:List Keyed):Prop:=∀ x∈xs,∀ y∈ys,val x≤val y
def Ris (val:Keyed→Int) (xs:List Keyed):Prop:=xs.Pairwise fun x y=>val x≤val y
theorem zag {val:Keyed→Int} {xs ys:List Keyed}:Ris val (xs++ys)↔Ris val xs∧Ris val ys∧Le val xs ys:=iZ
structure MI (val:Keyed→Int) (T o l r:List Keyed):Prop where
 perm:(o++l++r).Perm T
 so:Ris val o
 sl:Ris val l
 sr:Ris val r
 ol:Le val o l
 or':Le val o r
def Good (val:Keyed→Int) (T res:List Keyed):Prop:=res.Perm T∧Ris val res
section
variable {val:Keyed→Int} {T o l l1 l2 r r1 r2:List Keyed}
theorem Le.left {xs ys zs:List Keyed} (h:Le val (xs++ys) zs):Le val xs zs:=fun x hx y hy=>h x (aY _ hx) y hy
theorem Le.right {xs ys zs:List Keyed} (h:Le val (xs++ys) zs):Le val ys zs:=fun x hx y hy=>h x (aB _ hx) y hy
theorem Le.app {xs ys zs:List Keyed} (h1:Le val xs zs) (h2:Le val ys zs):Le val (xs++ys) zs:=fun x hx y hy=>by
 rcases aT.mp hx with h | h
 ·exact h1 x h y hy
 ·exact h2 x h y hy
theorem Le.app' {xs ys zs:List Keyed} (h1:Le val xs ys) (h2:Le val xs zs):Le val xs (ys++zs):=fun x hx y hy=>by
 rcases aT.mp hy with h | h
 ·exact h1 x hx y h
 ·exact h2 x hx y h
theorem Le.sub {xs ys zs:List Keyed} (h1:Le val xs (ys++zs)):Le val xs ys∧Le val xs zs:=⟨fun x hx y hy=>h1 x hx y (aY _ hy),fun x hx y hy=>h1 x hx y (aB _ hy)⟩
theorem MI.takeA (h:MI val T o (l1++l2) r) (hle:Le val l1 r):MI val T (o++l1) l2 r:=by
 obtain⟨a1,a2,a3⟩:=zag.mp h.sl;obtain⟨b1,b2⟩:=h.ol.sub;exact⟨by have:=h.perm; simpa [bm] using this,zag.mpr ⟨h.so,a1,b1⟩,a2,h.sr,b2.app a3,h.or'.app hle⟩
theorem MI.takeB (h:MI val T o l (r1++r2)) (hle:Le val r1 l):MI val T (o++r1) l r2:=by
 obtain⟨a1,a2,a3⟩:=zag.mp h.sr;obtain⟨b1,b2⟩:=h.or'.sub;refine⟨?_,zag.mpr ⟨h.so,a1,b1⟩,h.sl,a2,h.ol.app hle,b2.app a3⟩;refine eU ?_ h.perm;have:(r1++l++r2).Perm (l++r1++r2):=List.perm_append_comm.append_right _;simpa [bm] using this.append_left o
theorem MI.doneA (h:MI val T o l []):Good val T (o++l):=⟨by have:=h.perm; simpa using this,zag.mpr ⟨h.so,h.sl,h.ol⟩⟩
theorem MI.doneB (h:MI val T o [] r):Good val T (o++r):=⟨by have:=h.perm; simpa using this,zag.mpr ⟨h.so,h.sr,h.or'⟩⟩
theorem MI.last (h:MI val T o l r) (hle:Le val r l):Good val T (o++r++l):=by
 refine⟨eU ?_ h.perm,?_⟩
 ·rw [bm,bm];exact List.perm_append_comm.append_left o
 ·exact zag.mpr ⟨zag.mpr ⟨h.so,h.sr,h.or'⟩,h.sl,h.ol.app hle⟩
end
section
variable {val:Keyed→Int} {T:List Keyed} {a b out:Array Keyed} {ia ib:Nat}
abbrev MA (val:Keyed→Int) (T:List Keyed) (a b out:Array Keyed) (ia ib:Nat):Prop:=MI val T out.toList (a.toList.drop ia) (b.toList.drop ib)
theorem zc6 {xs:Array Keyed} {i:Nat} {p:Keyed} (h:xs[i]? = some p):xs.toList.drop i=p :: xs.toList.drop (i+1):=by
 have hi:i < xs.toList.length:=by
  have:=(cL.mp h).1;simpa using this
 rw [dr hi];congr 1;have:=(cL.mp h).2;simpa using this
theorem zcp {xs:Array Keyed} (h:SIn val xs 0 xs.size):∀ i,Ris val (xs.toList.drop i):=by
 have all:Ris val xs.toList:=by
  unfold Ris
  (rw [du])
  intro i j hi hj mE
  (have lA:i < xs.size:=by simpa using hi)
  (have mS:j < xs.size:=by simpa using hj)
  have:=h i j (bj _) #[O] mS;rw [zH (getElem?_pos xs i lA),zH (getElem?_pos xs j mS)] at this;simpa using this
 exact fun i=>iL (jK _ _) all
theorem zc7 {xs:Array Keyed} {i:Nat} {p q:Keyed} (h:SIn val xs 0 xs.size) (hp:xs[i]? = some p) (hq:q∈xs.toList.drop i):val p≤val q:=by
 have:=zcp h i;rw [zc6 hp] at this hq;rcases (aN.mp hq) with rfl | hq
 ·exact bF _
 ·exact List.rel_of_pairwise_cons this hq
theorem MA.pushB {y x:Keyed} (h:MA val T a b out ia ib) (sa:SIn val a 0 a.size) (hy:b[ib]? = some y) (hx:a[ia]? = some x) (hle:val y≤val x):MA val T a b (out.push y) ia (ib+1):=by
 unfold MA at h ⊢;rw [zc6 hy] at h;have:=MI.takeB (r1:=[y]) h fun p hp q hq=>by
  rw [aS.mp hp];exact bU hle (zc7 sa hx hq)
 simpa using this
theorem MA.pushA {y x:Keyed} (h:MA val T a b out ia ib) (sb:SIn val b 0 b.size) (hy:b[ib]? = some y) (hx:a[ia]? = some x) (hle:val x≤val y):MA val T a b (out.push x) (ia+1) ib:=by
 unfold MA at h ⊢;rw [zc6 hx] at h;have:=MI.takeA (l1:=[x]) h fun p hp q hq=>by
  rw [aS.mp hp];exact bU hle (zc7 sb hy hq)
 simpa using this
theorem zi1 (xs:Array Keyed) (i k:Nat):xs.toList.drop i=(xs.extract i (i+k)).toList++xs.toList.drop (i+k):=by
 rw [cC];have:(xs.toList.extract i (i+k))=(xs.toList.drop i).take k:=by
  simp [cP] <;> lia
 rw [this,← iM,cO]
theorem zc8 {xs:Array Keyed} {i k:Nat} {p:Keyed} (h:p∈(xs.extract i (i+k)).toList):∃ j,j < k∧xs[i+j]? = some p:=by
 have e0:(xs.extract i (i+k)).toList=(xs.toList.drop i).take k:=by
  rw [cC];simp [cP] <;> lia
 rw [e0] at h
 (obtain⟨j,hj,e⟩:=dJ h)
 have n4:j < k∧j < (xs.toList.drop i).length:=by
  rw [aL] at hj;lia
 refine⟨j,n4.1,?_⟩;rw [← be,← eZ,ak n4.2,← e,gI]
theorem MA.takeA {y:Keyed} {k:Nat} (h:MA val T a b out ia ib) (sb:SIn val b 0 b.size) (hy:b[ib]? = some y) (hle:∀ i,i < k→Vk val a (ia+i)≤val y):MA val T a b (out++a.extract ia (ia+k)) (ia+k) ib:=by
 unfold MA at h ⊢;rw [zi1 a ia k] at h;have:=MI.takeA h fun p hp q hq=>by
  obtain⟨j,hj,e⟩:=zc8 hp;have:=hle j hj;rw [zH e] at this;exact bU this (zc7 sb hy hq)
 simpa using this
theorem MA.takeB {x:Keyed} {k:Nat} (h:MA val T a b out ia ib) (sa:SIn val a 0 a.size) (hx:a[ia]? = some x) (hle:∀ i,i < k→Vk val b (ib+i)≤val x):MA val T a b (out++b.extract ib (ib+k)) ia (ib+k):=by
 unfold MA at h ⊢;rw [zi1 b ib k] at h;have:=MI.takeB h fun p hp q hq=>by
  obtain⟨j,hj,e⟩:=zc8 hp;have:=hle j hj;rw [zH e] at this;exact bU this (zc7 sa hx hq)
 simpa using this
theorem zbX (xs:Array Keyed) (i:Nat):(xs.extract i xs.size).toList=xs.toList.drop i:=by
 rw [cC];simp only [cP]
 (exact aQ #[M])
theorem MA.doneB (h:MA val T a b out ia ib) (e:ib=b.size):Good val T (out++a.extract ia a.size++b.extract ib b.size).toList:=by
 unfold MA at h;rw [show b.toList.drop ib = [] from da (by simp [e])] at h;have:=h.doneA;rw [bv,bv,zbX,zbX,show b.toList.drop ib = [] from da (by simp [e]),ci];exact this
theorem MA.doneA (h:MA val T a b out ia ib) (e:ia=a.size):Good val T (out++a.extract ia a.size++b.extract ib b.size).toList:=by
 unfold MA at h;rw [show a.toList.drop ia = [] from da (by simp [e])] at h;have:=h.doneB;rw [bv,bv,zbX,zbX,show a.toList.drop ia = [] from da (by simp [e]),ci];exact this
theorem MA.last (h:MA val T a b out ia ib) (e:ia+1=a.size) (hl:∀ i,i < b.size→Vk val b i≤Vk val a (a.size - 1)):Good val T (out++b.extract ib b.size++a.extract ia a.size).toList:=by
 unfold MA at h;have hx:a[ia]? = some (a[ia]'#[O]):=getElem?_pos a ia #[O];have:=h.last fun p hp q hq=>by
  rw [zc6 hx,show a.toList.drop (ia+1) = [] from da (by simp [e])] at hq;rw [aS.mp hq];obtain⟨j,hj,ej⟩:=dJ (fZ hp);have mS:j < b.size:=by simpa using hj
  have:=hl j mS;rw [zH (getElem?_pos b j mS),show a.size - 1=ia by lia,zH hx] at this;rw [← ej];simpa using this
 rw [bv,bv,zbX,zbX];exact this
end
end Srt
end
section
namespace Srt
open PySem PyProof.Rows
section
variable {prog:Program} {w:World} {A:Around} {E:Value→Shared→Prop} {s:Shared} {a₀:Array Keyed} {κ:SortKind} {val:Keyed→Int}
theorem zcq {st:SortSt} {g:Nat} {Q:Unit→SortSt→Prop} (h:Q () (zZ st g)):wpS (model prog w) A E s (zb9 g) Q st:=by
 rw [zcJ];exact eF h
theorem zaf {g:Prop} {xs:Array Keyed} {i:Nat} (h:i < xs.size) (k:∀ p,xs[i]? = some p→p∈xs.toList→g):g:=k _ (getElem?_pos xs i h) #[M]
theorem zbs {key:Keyed} {arr:Array Keyed} {base i:Nat} (h:bB val true key arr base i=true):Vk val arr (base+i) < val key:=by
 unfold bB at h;simpa using h
theorem zcr {key:Keyed} {arr:Array Keyed} {base i:Nat} (h:bB val false key arr base i=true):Vk val arr (base+i)≤val key:=by
 unfold bB at h;simp at h;lia
theorem zcd {key:Keyed} {arr:Array Keyed} {base i:Nat} (h:bB val true key arr base i=false):val key≤Vk val arr (base+i):=by
 unfold bB at h;simp at h;lia
theorem zc9 {key:Keyed} {arr:Array Keyed} {base i:Nat} (h:bB val false key arr base i=false):val key < Vk val arr (base+i):=by
 unfold bB at h;simp at h;exact h
theorem SIn.sub {xs:Array Keyed} {lo hi lo' lA:Nat} (h:SIn val xs lo hi) (h1:lo≤lo') (h2:lA≤hi):SIn val xs lo' lA:=fun i j a b c=>h i j #[O] b #[O]
theorem zn {σ α:Type} {M:Model} {c:Prop} {inst:Decidable c} {x y:StateT σ Sem α} {Q:α→σ→Prop} {st:σ} (h:c) (k:wpS M A E s x Q st):wpS M A E s (@ite _ c inst x y) Q st:=by rw [if_pos h]; exact k
theorem zo {σ α:Type} {M:Model} {c:Prop} {inst:Decidable c} {x y:StateT σ Sem α} {Q:α→σ→Prop} {st:σ} (h:¬ c) (k:wpS M A E s y Q st):wpS M A E s (@ite _ c inst x y) Q st:=by rw [if_neg h]; exact k
theorem dup {P X:Prop} (h:P→P→X) (k:P):X:=h k k
theorem zmS {P X:Prop} (h:(Unit→P)→(Unit→P)→X) (k:P):X:=h (fun _=>k) (fun _=>k)
theorem fr5 {σ β A1 A2 A3 A4 A5:Type} {M:Model} {lo hi:Nat} {f:Nat→β→StateT σ Sem (ForInStep β)} {Q:β→σ→Prop} {c:β} {st:σ} (pq:A1→A2→A3→A4→A5→β) (qI:A1→A2→A3→A4→A5→σ) (J:Nat→A1→A2→A3→A4→A5→Prop) (start:∃ a1 a2 a3 a4 a5,st=qI a1 a2 a3 a4 a5∧c=pq a1 a2 a3 a4 a5∧J lo a1 a2 a3 a4 a5) (fin:∀ a1 a2 a3 a4 a5,J (max lo hi) a1 a2 a3 a4 a5→Q (pq a1 a2 a3 a4 a5) (qI a1 a2 a3 a4 a5))
  (step:∀ x a1 a2 a3 a4 a5,lo≤x→x < hi→J x a1 a2 a3 a4 a5→wpS M A E s (f x (pq a1 a2 a3 a4 a5)) (fun r kQ=>match r with | .done c'=>Q c' kQ | .yield c'=>∃ a1 a2 a3 a4 a5,kQ=qI a1 a2 a3 a4 a5∧c'=pq a1 a2 a3 a4 a5∧J (x+1) a1 a2 a3 a4 a5) (qI a1 a2 a3 a4 a5)):wpS M A E s (forIn [lo:hi] c f) Q st:=by
 refine cq (I:=fun x c kQ=>∃ a1 a2 a3 a4 a5,kQ=qI a1 a2 a3 a4 a5∧c=pq a1 a2 a3 a4 a5∧J x a1 a2 a3 a4 a5) ?_ ?_ start
 ·rintro x c kQ h1 h2 ⟨a1,a2,a3,a4,a5,rfl,rfl,j⟩;exact step x _ _ _ _ _ h1 h2 j
 ·rintro c kQ ⟨a1,a2,a3,a4,a5,rfl,rfl,j⟩;exact fin _ _ _ _ _ j
theorem fr7 {σ β A1 A2 A3 A4 A5 A6 A7:Type} {M:Model} {lo hi:Nat} {f:Nat→β→StateT σ Sem (ForInStep β)} {Q:β→σ→Prop} {c:β} {st:σ} (pq:A1→A2→A3→A4→A5→A6→A7→β) (qI:A1→A2→A3→A4→A5→A6→A7→σ) (J:Nat→A1→A2→A3→A4→A5→A6→A7→Prop) (start:∃ a1 a2 a3 a4 a5 a6 a7,st=qI a1 a2 a3 a4 a5 a6 a7∧c=pq a1 a2 a3 a4 a5 a6 a7∧J lo a1 a2 a3 a4 a5 a6 a7) (fin:∀ a1 a2 a3 a4 a5 a6 a7,J (max lo hi) a1 a2 a3 a4 a5 a6 a7→Q (pq a1 a2 a3 a4 a5 a6 a7) (qI a1 a2 a3 a4 a5 a6 a7))
  (step:∀ x a1 a2 a3 a4 a5 a6 a7,lo≤x→x < hi→J x a1 a2 a3 a4 a5 a6 a7→wpS M A E s (f x (pq a1 a2 a3 a4 a5 a6 a7)) (fun r kQ=>match r with | .done c'=>Q c' kQ | .yield c'=>∃ a1 a2 a3 a4 a5 a6 a7,kQ=qI a1 a2 a3 a4 a5 a6 a7∧c'=pq a1 a2 a3 a4 a5 a6 a7∧J (x+1) a1 a2 a3 a4 a5 a6 a7) (qI a1 a2 a3 a4 a5 a6 a7)):wpS M A E s (forIn [lo:hi] c f) Q st:=by
 refine cq (I:=fun x c kQ=>∃ a1 a2 a3 a4 a5 a6 a7,kQ=qI a1 a2 a3 a4 a5 a6 a7∧c=pq a1 a2 a3 a4 a5 a6 a7∧J x a1 a2 a3 a4 a5 a6 a7) ?_ ?_ start
 ·rintro x c kQ h1 h2 ⟨a1,a2,a3,a4,a5,a6,a7,rfl,rfl,j⟩;exact step x _ _ _ _ _ _ _ h1 h2 j
 ·rintro c kQ ⟨a1,a2,a3,a4,a5,a6,a7,rfl,rfl,j⟩;exact fin _ _ _ _ _ _ _ j
theorem zkT {σ α γ δ A1 A2 A3 A4 A5:Type} {M:Model} {x:StateT σ Sem (Option γ×δ)} {k:Option γ×δ→StateT σ Sem α} {R:α→σ→Prop} {st:σ} (pq:A1→A2→A3→A4→A5→Option γ×δ) (G:γ→Prop) (J:A1→A2→A3→A4→A5→Prop) (Ao:σ) (hx:wpS M A E s x (fun c kQ=>kQ=Ao∧((∃ r o,c=(some r,o)∧G r)∨∃ a1 a2 a3 a4 a5,c=pq a1 a2 a3 a4 a5∧J a1 a2 a3 a4 a5)) st) (h1:∀ r o,G r→wpS M A E s (k (some r,o)) R Ao) (h:∀ a1 a2 a3 a4 a5,J a1 a2 a3 a4 a5→wpS M A E s (k (pq a1 a2 a3 a4 a5)) R Ao):wpS M A E s (x >>= k) R st:=by
 refine ao (c8 hx ?_);rintro c kQ ⟨rfl,⟨r,o,rfl,g⟩ | ⟨a1,a2,a3,a4,a5,rfl,j⟩⟩
 ·exact h1 _ _ g
 ·exact h _ _ _ _ _ j
theorem zau {σ α:Type} {M:Model} {c:Prop} {inst:Decidable c} {x y:StateT σ Sem α} {Q:α→σ→Prop} {st:σ} (h:c→wpS M A E s x Q st) (k:¬ c→wpS M A E s y Q st):wpS M A E s (@ite _ c inst x y) Q st:=by
 by_cases hc:c
 ·rw [if_pos hc]; exact h hc
 ·rw [if_neg hc]; exact k hc
theorem zhO {st:SortSt} {a b:Array Keyed} {Q:Array Keyed→SortSt→Prop} (hC:Cmp prog w A s κ val a₀) (hk:kindOf st=κ) (ma:∀ p∈a.toList,p∈a₀.toList) (mb:∀ p∈b.toList,p∈a₀.toList)
  (sa:SIn val a 0 a.size) (sb:SIn val b 0 b.size) (h1:1≤a.size) (h2:1≤b.size) (hf:Vk val b 0≤Vk val a 0) (hl:∀ i,i < b.size→Vk val b i≤Vk val a (a.size - 1))
  (h:∀ out g,Good val (a.toList++b.toList) out.toList→Q out (zZ st g)):wpS (model prog w) A E s (ziY a b) Q st:=by
 refine zeT ?_
 wp_delta
 wp_delta
 refine zeU ?_
 (refine ao (gf (cB ⟨rfl,?_⟩)))
 refine zaf (xs:=b) (i:=0) #[O] fun y0 rE Ap=>?_
 refine zaf (xs:=a) (i:=0) #[O] fun x0 rG Aq=>?_
 refine ao (zC rE ?_);have I0:MA val (a.toList++b.toList) a b #[] 0 0:=⟨#[M],fB,zcp sa 0,zcp sb 0,fun x hx=>by simp at hx,fun x hx=>by simp at hx⟩;have I1:MA val (a.toList++b.toList) a b #[y0] 0 1:=I0.pushB sa rE rG (by rw [zH rE,zH rG] at hf; exact hf);dsimp only;by_cases nO:1=b.size
 ·refine zn (by simpa using nO) ?_;exact ar (h _ (gallopOf st) (I1.doneB nO))
 refine zo (by simpa using nO) ?_;by_cases qe:0+1=a.size
 ·refine zn (by simpa using qe) ?_;exact ar (h _ (gallopOf st) (I1.last #[O] hl))
 refine zo (by simpa using qe) ?_;refine ao (fj ?_);refine ao (c8 (fr5 (fun g out ia ib mg=>(none,out,ia,ib,mg)) (fun g out ia ib mg=>zZ st g) (fun x g out ia ib mg=>MA val (a.toList++b.toList) a b out ia ib∧ia+1 < a.size∧ib < b.size∧x+1≤ia+ib)
  (Q:=fun c kQ=>∃ g r o,kQ=zZ st g∧c=(some r,o)∧Good val (a.toList++b.toList) r.toList) ⟨gallopOf st,#[y0],0,1,gallopOf st,rfl,rfl,I1,#[O],#[O],#[O]⟩ ?fin ?step) ?post)
 case post =>
  rintro c kQ ⟨g,r,o,rfl,rfl,hG⟩;exact ar (h _ g hG)
 case fin =>
  rintro g out ia ib mg ⟨hI,b1,b2,b3⟩;lia
 case step =>
  intro x g out ia ib mg Ar hx J;have hI:=J.1;have b1:=J.2.1;have b2:=J.2.2.1;have b3:=J.2.2.2;dsimp only;refine zkT (fun kW lJ lC ac bc=>(none,kW,lJ,lC,ac,bc)) (fun r=>Good val (a.toList++b.toList) r.toList) (fun kW lJ lC ac bc=>MA val (a.toList++b.toList) a b kW lJ lC∧lJ+1 < a.size∧lC < b.size∧ia+ib+1≤lJ+lC) (zZ st g) (fr5 (fun kW lJ lC ac bc=>(none,kW,lJ,lC,ac,bc)) (fun kW lJ lC ac bc=>zZ st g) (fun x kW lJ lC ac bc=>MA val (a.toList++b.toList) a b kW lJ lC∧lJ+1 < a.size∧lC < b.size∧ia+ib+x≤lJ+lC) ⟨out,ia,ib,0,0,rfl,rfl,hI,b1,b2,#[O]⟩ ?fin1 ?step1) (fun r o hG=>ar ⟨g,r,_,rfl,rfl,hG⟩) ?post1
  case fin1 =>
   rintro kW lJ lC ac bc ⟨hI,b1,b2,b3⟩;exact⟨rfl,.inr ⟨kW,lJ,lC,ac,bc,rfl,hI,b1,b2,#[O]⟩⟩
  case step1 =>
   intro x1 kW lJ lC ac bc wq qf J;have hI:=J.1;have b1:=J.2.1;have b2:=J.2.2.1;have b3:=J.2.2.2;dsimp only;refine zaf (xs:=b) (i:=lC) #[O] fun y ey my=>?_
   refine zaf (xs:=a) (i:=lJ) #[O] fun z ez mz=>?_
   refine ao (zC ey (ao (zC ez (ao (ziV hC hk (mb y my) (ma z mz) ?_)))));dsimp only;by_cases wu:val y < val z
   ·refine zn (by simpa using wu) ?_;refine ao (zC ey ?_);have mO:=hI.pushB sa ey ez #[O];by_cases e1:lC+1=b.size
    ·refine zn (by simpa using e1) ?_;exact ar ⟨rfl,.inl ⟨_,_,rfl,mO.doneB e1⟩⟩
    refine zo (by simpa using e1) ?_;refine zau (fun _=>?_) (fun _=>?_)
    ·exact ar ⟨rfl,.inr ⟨_,_,_,_,_,rfl,mO,b1,#[O],#[O]⟩⟩
    ·exact ar ⟨_,_,_,_,_,rfl,rfl,mO,b1,#[O],#[O]⟩
   ·refine zo (by simpa using wu) ?_;refine ao (zC ez ?_);have mO:=hI.pushA sb ey ez #[O];by_cases e1:lJ+1+1=a.size
    ·refine zn (by simpa using e1) ?_;exact ar ⟨rfl,.inl ⟨_,_,rfl,mO.last e1 hl⟩⟩
    refine zo (by simpa using e1) ?_;refine zau (fun _=>?_) (fun _=>?_)
    ·exact ar ⟨rfl,.inr ⟨_,_,_,_,_,rfl,mO,#[O],b2,#[O]⟩⟩
    ·exact ar ⟨_,_,_,_,_,rfl,rfl,mO,#[O],b2,#[O]⟩
  case post1 =>
   intro uq As Au Av Aw J;have Ax:=J.1;have c1:=J.2.1;have c2:=J.2.2.1;have c3:=J.2.2.2;dsimp only
   (refine ao (gf (cB ⟨rfl,?_⟩)))
   refine ao (c8 (fr7 (fun g kW lJ lC mg ac bc=>(none,kW,lJ,lC,mg,ac,bc)) (fun g kW lJ lC mg ac bc=>zZ st g) (fun x g kW lJ lC mg ac bc=>MA val (a.toList++b.toList) a b kW lJ lC∧lJ+1 < a.size∧lC < b.size∧As+Au≤lJ+lC)
    (Q:=fun c kQ=>∃ g,kQ=zZ st g∧((∃ r o,c=(some r,o)∧Good val (a.toList++b.toList) r.toList)∨∃ kW lJ lC mg ac bc,c=(none,kW,lJ,lC,mg,ac,bc)∧MA val (a.toList++b.toList) a b kW lJ lC∧lJ+1 < a.size∧lC < b.size∧As+Au≤lJ+lC)) ⟨g,uq,As,Au,_,Av,Aw,rfl,rfl,Ax,c1,c2,ag _⟩ ?fin2 ?step2) ?post2)
   case fin2 =>
    rintro g kW lJ lC mg ac bc ⟨hI,b1,b2,b3⟩;exact⟨g,rfl,.inr ⟨kW,lJ,lC,mg,ac,bc,rfl,hI,b1,b2,b3⟩⟩
   case post2 =>
    rintro c kQ ⟨g,rfl,hc⟩;rcases hc with ⟨r,o,rfl,hG⟩ | ⟨ur,ia2,ib2,mg2,ac2,bc2,rfl,mO,d1,d2,d3⟩
    ·exact ar ⟨g,r,_,rfl,rfl,hG⟩
    dsimp only;refine ao (zcq (ar ⟨_,ur,ia2,ib2,_,rfl,rfl,mO,d1,d2,#[O]⟩))
   case step2 =>
    intro x2 g kW lJ lC uu ac bc tF qJ J;have hI:=J.1;have b1:=J.2.1;have b2:=J.2.2.1;have b3:=J.2.2.2;dsimp only;refine zaf (xs:=b) (i:=lC) #[O] fun y ey my=>?_
    apply dup
    ·intro k1 k2;by_cases pD:uu > 1
     ·refine zn pD ?_;clear pD;generalize uu - 1=m0
      revert m0
      exact k1
     ·refine zo pD ?_;clear pD;generalize uu=m0
      revert m0
      exact k2
    intro mg0;refine ao (zcq (ao (zC ey (ao (zaL hC hk (mb y my) (fun i hi=>(by
     refine zaf (xs:=a) (i:=lJ+i) #[O] fun p ep mp=>?_
     exact⟨p,ep,ma p mp⟩)) (sa.sub #[O] #[O]) #[O] fun k uv nK tG=>?_)))))
    dsimp only;have mO:=hI.takeA (k:=k) sb ey fun i hi=>zcr (nK i hi)
    by_cases qc:k > 0
    ·refine zn qc ?_;by_cases e1:lJ+k+1=a.size
     ·refine zn (by simpa using e1) ?_;exact ar ⟨_,rfl,.inl ⟨_,_,rfl,mO.last e1 hl⟩⟩
     refine zo (by simpa using e1) ?_;by_cases e2:lJ+k=a.size
     ·refine zn (by simpa using e2) ?_;exact ar ⟨_,rfl,.inl ⟨_,_,rfl,mO.doneA e2⟩⟩
     refine zo (by simpa using e2) ?_;refine ao (zC ey ?_);refine zaf (xs:=a) (i:=lJ+k) #[O] fun z ez mz=>?_
     have oJ:=mO.pushB sa ey ez (by have:=zc9 (tG k (ag _) #[O]); rw [zH ez] at this; lia);by_cases e3:lC+1=b.size
     ·refine zn (by simpa using e3) ?_;exact ar ⟨_,rfl,.inl ⟨_,_,rfl,oJ.doneB e3⟩⟩
     refine zo (by simpa using e3) ?_;refine ao (zC ez (ao (zaL hC hk (ma z mz) (fun i hi=>(by
      refine zaf (xs:=b) (i:=lC+1+i) #[O] fun p ep mp=>?_
      exact⟨p,ep,mb p mp⟩)) (sb.sub #[O] #[O]) #[O] fun j si n4 qK=>?_)))
     dsimp only;have pI:=oJ.takeB (k:=j) sa ez fun i hi=>dZ (zbs (n4 i hi))
     by_cases mV:j > 0
     ·refine zn mV ?_;by_cases e4:lC+1+j=b.size
      ·refine zn (by simpa using e4) ?_;exact ar ⟨_,rfl,.inl ⟨_,_,rfl,pI.doneB e4⟩⟩
      refine zo (by simpa using e4) ?_;refine zaf (xs:=b) (i:=lC+1+j) #[O] fun y2 mW uw=>?_
      refine ao (zC ez ?_);have l0:=pI.pushA sb mW ez (by have:=zcd (qK j (ag _) #[O]); rw [zH mW] at this; exact this);by_cases e9:lJ+k+1+1=a.size
      ·refine zn (by simpa using e9) ?_;exact ar ⟨_,rfl,.inl ⟨_,_,rfl,l0.last e9 hl⟩⟩
      refine zo (by simpa using e9) ?_;refine zau (fun _=>?_) (fun _=>?_)
      ·exact ar ⟨_,rfl,.inr ⟨_,_,_,_,_,_,rfl,l0,#[O],#[O],#[O]⟩⟩
      ·exact ar ⟨_,_,_,_,_,_,_,rfl,rfl,l0,#[O],#[O],#[O]⟩
     ·refine zo mV ?_;have ux:j=0:=by lia
      subst ux;refine zaf (xs:=b) (i:=lC+1) #[O] fun y2 mW uw=>?_
      refine ao (zC ez ?_);have l0:=oJ.pushA sb mW ez (by have:=zcd (qK 0 (ag _) #[O]); rw [cV,zH mW] at this; exact this);by_cases e9:lJ+k+1+1=a.size
      ·refine zn (by simpa using e9) ?_;exact ar ⟨_,rfl,.inl ⟨_,_,rfl,l0.last e9 hl⟩⟩
      refine zo (by simpa using e9) ?_;refine zau (fun _=>?_) (fun _=>?_)
      ·exact ar ⟨_,rfl,.inr ⟨_,_,_,_,_,_,rfl,l0,#[O],#[O],#[O]⟩⟩
      ·exact ar ⟨_,_,_,_,_,_,_,rfl,rfl,l0,#[O],#[O],#[O]⟩
    ·refine zo qc ?_;have Ay:k=0:=by lia
     subst Ay;refine ao (zC ey ?_);refine zaf (xs:=a) (i:=lJ) #[O] fun z ez mz=>?_
     have oJ:=hI.pushB sa ey ez (by have:=zc9 (tG 0 (ag _) #[O]); rw [cV,zH ez] at this; lia);by_cases e3:lC+1=b.size
     ·refine zn (by simpa using e3) ?_;exact ar ⟨_,rfl,.inl ⟨_,_,rfl,oJ.doneB e3⟩⟩
     refine zo (by simpa using e3) ?_;refine ao (zC ez (ao (zaL hC hk (ma z mz) (fun i hi=>(by
      refine zaf (xs:=b) (i:=lC+1+i) #[O] fun p ep mp=>?_
      exact⟨p,ep,mb p mp⟩)) (sb.sub #[O] #[O]) #[O] fun j si n4 qK=>?_)))
     dsimp only;have pI:=oJ.takeB (k:=j) sa ez fun i hi=>dZ (zbs (n4 i hi))
     by_cases mV:j > 0
     ·refine zn mV ?_;by_cases e4:lC+1+j=b.size
      ·refine zn (by simpa using e4) ?_;exact ar ⟨_,rfl,.inl ⟨_,_,rfl,pI.doneB e4⟩⟩
      refine zo (by simpa using e4) ?_;refine zaf (xs:=b) (i:=lC+1+j) #[O] fun y2 mW uw=>?_
      refine ao (zC ez ?_);have l0:=pI.pushA sb mW ez (by have:=zcd (qK j (ag _) #[O]); rw [zH mW] at this; exact this);by_cases e9:lJ+1+1=a.size
      ·refine zn (by simpa using e9) ?_;exact ar ⟨_,rfl,.inl ⟨_,_,rfl,l0.last e9 hl⟩⟩
      refine zo (by simpa using e9) ?_;refine zau (fun _=>?_) (fun _=>?_)
      ·exact ar ⟨_,rfl,.inr ⟨_,_,_,_,_,_,rfl,l0,#[O],#[O],#[O]⟩⟩
      ·exact ar ⟨_,_,_,_,_,_,_,rfl,rfl,l0,#[O],#[O],#[O]⟩
     ·refine zo mV ?_;have ux:j=0:=by lia
      subst ux;refine zaf (xs:=b) (i:=lC+1) #[O] fun y2 mW uw=>?_
      refine ao (zC ez ?_);have l0:=oJ.pushA sb mW ez (by have:=zcd (qK 0 (ag _) #[O]); rw [cV,zH mW] at this; exact this);by_cases e9:lJ+1+1=a.size
      ·refine zn (by simpa using e9) ?_;exact ar ⟨_,rfl,.inl ⟨_,_,rfl,l0.last e9 hl⟩⟩
      refine zo (by simpa using e9) ?_;refine zau (fun _=>?_) (fun _=>?_)
      ·exact ar ⟨_,rfl,.inr ⟨_,_,_,_,_,_,rfl,l0,#[O],#[O],#[O]⟩⟩
      ·exact ar ⟨_,_,_,_,_,_,_,rfl,rfl,l0,#[O],#[O],#[O]⟩
end
end Srt
end
section
namespace Srt
open PySem PyProof.Rows
structure MH (val:Keyed→Int) (T l r o:List Keyed):Prop where
 perm:(l++r++o).Perm T
 so:Ris val o
 sl:Ris val l
 sr:Ris val r
 lo:Le val l o
 ro:Le val r o
section
variable {val:Keyed→Int} {T o l l1 l2 r r1 r2:List Keyed}
theorem MH.takeA (h:MH val T (l1++l2) r o) (hle:Le val r l2):MH val T l1 r (l2++o):=by
 obtain⟨a1,a2,a3⟩:=zag.mp h.sl;refine⟨?_,zag.mpr ⟨a2,h.so,h.lo.right⟩,a1,h.sr,a3.app' h.lo.left,hle.app' h.ro⟩;refine eU ?_ h.perm;have:(r++l2).Perm (l2++r):=List.perm_append_comm;have:=(this.append_left l1).append_right o;simpa [bm] using this
theorem MH.takeB (h:MH val T l (r1++r2) o) (hle:Le val l r2):MH val T l r1 (r2++o):=by
 obtain⟨a1,a2,a3⟩:=zag.mp h.sr;exact⟨by have:=h.perm; simpa [bm] using this,zag.mpr ⟨a2,h.so,h.ro.right⟩,h.sl,a1,hle.app' h.lo,a3.app' h.ro.left⟩
theorem MH.doneA (h:MH val T [] r o):Good val T (r++o):=⟨by have:=h.perm; simpa using this,zag.mpr ⟨h.sr,h.so,h.ro⟩⟩
theorem MH.doneB (h:MH val T l [] o):Good val T (l++o):=⟨by have:=h.perm; simpa using this,zag.mpr ⟨h.sl,h.so,h.lo⟩⟩
theorem MH.first (h:MH val T l r o) (hle:Le val r l):Good val T (r++l++o):=by
 refine⟨eU (List.perm_append_comm.append_right _) h.perm,?_⟩;exact zag.mpr ⟨zag.mpr ⟨h.sr,h.sl,hle⟩,h.so,h.ro.app h.lo⟩
end
section
variable {val:Keyed→Int} {T:List Keyed} {a b out:Array Keyed} {na nb:Nat}
abbrev MB (val:Keyed→Int) (T:List Keyed) (a b out:Array Keyed) (na nb:Nat):Prop:=MH val T (a.toList.take na) (b.toList.take nb) out.toList.reverse
theorem zgV {xs:Array Keyed} {n:Nat} {p:Keyed} (h:xs[n]? = some p):xs.toList.take (n+1)=xs.toList.take n++[p]:=by
 rw [List.take_succ,be,h];rfl
theorem zfA {xs:Array Keyed} (h:SIn val xs 0 xs.size) (i:Nat):Ris val (xs.toList.take i):=by
 have:=zcp h 0;rw [d6] at this;exact iL (gE _ _) this
theorem zdy {xs:Array Keyed} {n:Nat} {p:Keyed} (h:p∈xs.toList.take n):∃ j,j < n∧j < xs.size∧xs[j]? = some p:=by
 (obtain⟨j,hj,e⟩:=dJ h)
 have n4:j < n∧j < xs.toList.length:=by
  rw [aL] at hj;lia
 refine⟨j,n4.1,by simpa using n4.2,?_⟩;rw [← be,ak n4.2,← e,gI]
theorem zda {xs:Array Keyed} {n:Nat} {p q:Keyed} (h:SIn val xs 0 xs.size) (hp:xs[n]? = some p) (hq:q∈xs.toList.take (n+1)):val q≤val p:=by
 obtain⟨j,hj,qB,e⟩:=zdy hq;have hn:=(cL.mp hp).1;have:=h j n (bj _) #[O] hn;rw [zH e,zH hp] at this;exact this
theorem MB.pushA {y x:Keyed} (h:MB val T a b out (na+1) nb) (sb:SIn val b 0 b.size) (hn:1≤nb) (hy:b[nb - 1]? = some y) (hx:a[na]? = some x) (hle:val y≤val x):MB val T a b (out.push x) na nb:=by
 unfold MB at h ⊢;rw [zgV hx] at h;have:=MH.takeA h fun p hp q hq=>by
  rw [aS.mp hq];exact bU (zda sb hy (by rw [show nb - 1+1=nb by lia]; exact hp)) hle
 simpa using this
theorem MB.pushB {y x:Keyed} (h:MB val T a b out na (nb+1)) (sa:SIn val a 0 a.size) (hn:1≤na) (hy:b[nb]? = some y) (hx:a[na - 1]? = some x) (hle:val x≤val y):MB val T a b (out.push y) na nb:=by
 unfold MB at h ⊢;rw [zgV hy] at h;have:=MH.takeB h fun p hp q hq=>by
  rw [aS.mp hq];exact bU (zda sa hx (by rw [show na - 1+1=na by lia]; exact hp)) hle
 simpa using this
theorem zgW (xs:Array Keyed) {i n:Nat} (h:i≤n):xs.toList.take n=xs.toList.take i++(xs.extract i n).toList:=by
 rw [cC];simp only [cP];rw [← cO i (xs.toList.take n),List.take_take,dP h,List.drop_take]
theorem MB.takeA {y:Keyed} {at':Nat} (h:MB val T a b out na nb) (sb:SIn val b 0 b.size) (lQ:at'≤na) (hn:1≤nb) (hy:b[nb - 1]? = some y) (hle:∀ i,at'≤i→i < na→val y≤Vk val a i):MB val T a b (out++(a.extract at' na).reverse) at' nb:=by
 unfold MB at h ⊢;rw [zgW a lQ] at h;have:=MH.takeA h fun p hp q hq=>by
  have pF:q∈(a.extract at' (at'+(na - at'))).toList:=by rw [show at'+(na - at')=na by lia]; exact hq
  obtain⟨j,hj,e⟩:=zc8 pF;have:=hle (at'+j) #[O] #[O];rw [zH e] at this;exact bU (zda sb hy (by rw [show nb - 1+1=nb by lia]; exact hp)) this
 simpa using this
theorem MB.takeB {x:Keyed} {at':Nat} (h:MB val T a b out na nb) (sa:SIn val a 0 a.size) (lQ:at'≤nb) (hn:1≤na) (hx:a[na - 1]? = some x) (hle:∀ i,at'≤i→i < nb→val x≤Vk val b i):MB val T a b (out++(b.extract at' nb).reverse) na at':=by
 unfold MB at h ⊢;rw [zgW b lQ] at h;have:=MH.takeB h fun p hp q hq=>by
  have pF:q∈(b.extract at' (at'+(nb - at'))).toList:=by rw [show at'+(nb - at')=nb by lia]; exact hq
  obtain⟨j,hj,e⟩:=zc8 pF;have:=hle (at'+j) #[O] #[O];rw [zH e] at this;exact bU (zda sa hx (by rw [show na - 1+1=na by lia]; exact hp)) this
 simpa using this
theorem zbf (xs:Array Keyed) (n:Nat):(xs.extract 0 n).toList=xs.toList.take n:=by
 rw [cC];simp [cP]
theorem MB.doneA (h:MB val T a b out na nb) (e:na=0):Good val T (a.extract 0 na++b.extract 0 nb++out.reverse).toList:=by
 unfold MB at h;subst e;have:=MH.doneA h;rw [bv,bv,zbf,zbf,iN,kb,f9];exact this
theorem MB.doneB (h:MB val T a b out na nb) (e:nb=0):Good val T (a.extract 0 na++b.extract 0 nb++out.reverse).toList:=by
 unfold MB at h;subst e;have:=MH.doneB h;rw [bv,bv,zbf,zbf,iN,ci,f9];exact this
theorem MB.first (h:MB val T a b out na nb) (e:nb=1) (sa:SIn val a 0 a.size) (h2:1≤b.size) (hf:Vk val b 0≤Vk val a 0):Good val T (b.extract 0 nb++a.extract 0 na++out.reverse).toList:=by
 unfold MB at h;subst e;have:=MH.first h fun p hp q hq=>by
  obtain⟨j,hj,qB,ej⟩:=zdy hp;have mV:j=0:=by lia
  subst mV;obtain⟨i,hi,his,ei⟩:=zdy hq;have:=sa 0 i (bj _) (bj _) his;rw [zH ei] at this;rw [zH ej] at hf;lia
 rw [bv,bv,zbf,zbf,f9];exact this
end
section
variable {prog:Program} {w:World} {A:Around} {E:Value→Shared→Prop} {s:Shared} {a₀:Array Keyed} {κ:SortKind} {val:Keyed→Int}
theorem zhP {st:SortSt} {a b:Array Keyed} {Q:Array Keyed→SortSt→Prop} (hC:Cmp prog w A s κ val a₀) (hk:kindOf st=κ) (ma:∀ p∈a.toList,p∈a₀.toList) (mb:∀ p∈b.toList,p∈a₀.toList)
  (sa:SIn val a 0 a.size) (sb:SIn val b 0 b.size) (h1:1≤a.size) (h2:1≤b.size) (hf:Vk val b 0≤Vk val a 0) (hl:∀ i,i < b.size→Vk val b i≤Vk val a (a.size - 1))
  (h:∀ out g,Good val (a.toList++b.toList) out.toList→Q out (zZ st g)):wpS (model prog w) A E s (ziZ a b) Q st:=by
 refine zeT ?_
 wp_delta
 wp_delta
 refine zeU ?_
 (refine ao (gf (cB ⟨rfl,?_⟩)))
 refine zaf (xs:=a) (i:=a.size - 1) #[O] fun x0 rG Aq=>?_
 refine zaf (xs:=b) (i:=b.size - 1) #[O] fun y0 rE Ap=>?_
 refine ao (zC rG ?_);have I0:MB val (a.toList++b.toList) a b #[] (a.size - 1+1) b.size:=by
  refine⟨?_,fB,zfA sa _,zfA sb _,fun x _ y hy=>by simp at hy,fun x _ y hy=>by simp at hy⟩;rw [show a.size - 1+1=a.size by lia,aQ #[M],aQ #[M]];simp
 have I1:MB val (a.toList++b.toList) a b #[x0] (a.size - 1) b.size:=I0.pushA sb h2 rE rG (by have:=hl (b.size - 1) #[O]; rw [zH rE,zH rG] at this; exact this);dsimp only;by_cases qe:a.size - 1=0
 ·refine zn (by simpa using qe) ?_;exact ar (h _ (gallopOf st) (I1.doneA qe))
 refine zo (by simpa using qe) ?_;by_cases nO:b.size=1
 ·refine zn (by simpa using nO) ?_;exact ar (h _ (gallopOf st) (I1.first nO sa h2 hf))
 refine zo (by simpa using nO) ?_;refine ao (fj ?_);refine ao (c8 (fr5 (fun g out na nb mg=>(none,na,nb,out,mg)) (fun g out na nb mg=>zZ st g) (fun x g out na nb mg=>MB val (a.toList++b.toList) a b out na nb∧1≤na∧2≤nb∧na≤a.size∧nb≤b.size∧x+na+nb+1≤a.size+b.size)
  (Q:=fun c kQ=>∃ g r o,kQ=zZ st g∧c=(some r,o)∧Good val (a.toList++b.toList) r.toList) ⟨gallopOf st,#[x0],a.size - 1,b.size,gallopOf st,rfl,rfl,I1,#[O],#[O],#[O],#[O],#[O]⟩ ?fin ?step) ?post)
 case post =>
  rintro c kQ ⟨g,r,o,rfl,rfl,hG⟩;exact ar (h _ g hG)
 case fin =>
  rintro g out na nb mg ⟨hI,b1,b2,b3⟩;lia
 case step =>
  intro x g out na nb mg Ar hx J;have hI:=J.1;have b1:=J.2.1;have b2:=J.2.2.1;have b4:=J.2.2.2.1;have b5:=J.2.2.2.2.1;have b3:=J.2.2.2.2.2;dsimp only;refine zkT (fun kW lO lP ac bc=>(none,lO,lP,kW,ac,bc)) (fun r=>Good val (a.toList++b.toList) r.toList) (fun kW lO lP ac bc=>MB val (a.toList++b.toList) a b kW lO lP∧1≤lO∧2≤lP∧lO≤a.size∧lP≤b.size∧1+lO+lP≤na+nb) (zZ st g) (fr5 (fun kW lO lP ac bc=>(none,lO,lP,kW,ac,bc)) (fun kW lO lP ac bc=>zZ st g) (fun x kW lO lP ac bc=>MB val (a.toList++b.toList) a b kW lO lP∧1≤lO∧2≤lP∧lO≤a.size∧lP≤b.size∧x+lO+lP≤na+nb) ⟨out,na,nb,0,0,rfl,rfl,hI,b1,b2,b4,b5,#[O]⟩ ?fin1 ?step1) (fun r o hG=>ar ⟨g,r,_,rfl,rfl,hG⟩) ?post1
  case fin1 =>
   rintro kW lO lP ac bc ⟨hI,b1,b2,b4,b5,b3⟩;exact⟨rfl,.inr ⟨kW,lO,lP,ac,bc,rfl,hI,b1,b2,b4,b5,#[O]⟩⟩
  case step1 =>
   intro x1 kW lO lP ac bc wq qf J;have hI:=J.1;have b1:=J.2.1;have b2:=J.2.2.1;have b4:=J.2.2.2.1;have b5:=J.2.2.2.2.1;have b3:=J.2.2.2.2.2;dsimp only;obtain⟨n1,rfl⟩:∃ n1,lO=n1+1:=⟨lO - 1,#[O]⟩;obtain⟨m1,rfl⟩:∃ m1,lP=m1+1:=⟨lP - 1,#[O]⟩;simp only [b9];refine zaf (xs:=b) (i:=m1) #[O] fun y ey my=>?_
   refine zaf (xs:=a) (i:=n1) #[O] fun z ez mz=>?_
   refine ao (zC ey (ao (zC ez (ao (ziV hC hk (mb y my) (ma z mz) ?_)))));dsimp only;by_cases wu:val y < val z
   ·refine zn (by simpa using wu) ?_;refine ao (zC ez ?_);have mO:=hI.pushA sb #[O] ey ez #[O];by_cases e1:n1=0
    ·refine zn (by simpa using e1) ?_;exact ar ⟨rfl,.inl ⟨_,_,rfl,mO.doneA e1⟩⟩
    refine zo (by simpa using e1) ?_;refine zau (fun _=>?_) (fun _=>?_)
    ·exact ar ⟨rfl,.inr ⟨_,_,_,_,_,rfl,mO,#[O],#[O],#[O],#[O],#[O]⟩⟩
    ·exact ar ⟨_,_,_,_,_,rfl,rfl,mO,#[O],#[O],#[O],#[O],#[O]⟩
   ·refine zo (by simpa using wu) ?_;refine ao (zC ey ?_);have mO:=hI.pushB sa #[O] ey ez #[O];by_cases e1:m1=1
    ·refine zn (by simpa using e1) ?_;exact ar ⟨rfl,.inl ⟨_,_,rfl,mO.first e1 sa h2 hf⟩⟩
    refine zo (by simpa using e1) ?_;refine zau (fun _=>?_) (fun _=>?_)
    ·exact ar ⟨rfl,.inr ⟨_,_,_,_,_,rfl,mO,#[O],#[O],#[O],#[O],#[O]⟩⟩
    ·exact ar ⟨_,_,_,_,_,rfl,rfl,mO,#[O],#[O],#[O],#[O],#[O]⟩
  case post1 =>
   intro uq Az AA Av Aw J;have Ax:=J.1;have c1:=J.2.1;have c2:=J.2.2.1;have c4:=J.2.2.2.1;have c5:=J.2.2.2.2.1;have c3:=J.2.2.2.2.2;dsimp only
   (refine ao (gf (cB ⟨rfl,?_⟩)))
   refine ao (c8 (fr7 (fun g kW lO lP mg ac bc=>(none,lO,lP,kW,mg,ac,bc)) (fun g kW lO lP mg ac bc=>zZ st g) (fun x g kW lO lP mg ac bc=>MB val (a.toList++b.toList) a b kW lO lP∧1≤lO∧2≤lP∧lO≤a.size∧lP≤b.size∧lO+lP≤Az+AA)
    (Q:=fun c kQ=>∃ g,kQ=zZ st g∧((∃ r o,c=(some r,o)∧Good val (a.toList++b.toList) r.toList)∨∃ kW lO lP mg ac bc,c=(none,lO,lP,kW,mg,ac,bc)∧MB val (a.toList++b.toList) a b kW lO lP∧1≤lO∧2≤lP∧lO≤a.size∧lP≤b.size∧lO+lP≤Az+AA)) ⟨g,uq,Az,AA,_,Av,Aw,rfl,rfl,Ax,c1,c2,c4,c5,ag _⟩ ?fin2 ?step2) ?post2)
   case fin2 =>
    rintro g kW lO lP mg ac bc ⟨hI,b1,b2,b4,b5,b3⟩;exact⟨g,rfl,.inr ⟨kW,lO,lP,mg,ac,bc,rfl,hI,b1,b2,b4,b5,b3⟩⟩
   case post2 =>
    rintro c kQ ⟨g,rfl,hc⟩;rcases hc with ⟨r,o,rfl,hG⟩ | ⟨ur,na2,nb2,mg2,ac2,bc2,rfl,mO,d1,d2,d4,d5,d3⟩
    ·exact ar ⟨g,r,_,rfl,rfl,hG⟩
    dsimp only;refine ao (zcq (ar ⟨_,ur,na2,nb2,_,rfl,rfl,mO,d1,d2,d4,d5,#[O]⟩))
   case step2 =>
    intro x2 g kW lO lP uu ac bc tF qJ J;have hI:=J.1;have b1:=J.2.1;have b2:=J.2.2.1;have b4:=J.2.2.2.1;have b5:=J.2.2.2.2.1;have b3:=J.2.2.2.2.2;dsimp only;obtain⟨m1,rfl⟩:∃ m1,lP=m1+1:=⟨lP - 1,#[O]⟩;simp only [b9];refine zaf (xs:=b) (i:=m1) #[O] fun y ey my=>?_
    apply dup
    ·intro k1 k2;by_cases pD:uu > 1
     ·refine zn pD ?_;clear pD;generalize uu - 1=m0
      revert m0
      exact k1
     ·refine zo pD ?_;clear pD;generalize uu=m0
      revert m0
      exact k2
    intro mg0;refine ao (zcq (ao (zC ey (ao (zaL hC hk (mb y my) (fun i hi=>(by
     refine zaf (xs:=a) (i:=0+i) #[O] fun p ep mp=>?_
     exact⟨p,ep,ma p mp⟩)) (sa.sub #[O] #[O]) #[O] fun k uv nK tG=>?_)))))
    dsimp only;have mO:=hI.takeA (at':=k) sb uv #[O] ey fun i h1 h2=>dZ (by have:=zc9 (tG i h1 h2); rwa [bE] at this)
    by_cases qc:lO - k > 0
    ·refine zn qc ?_;by_cases e1:k=0
     ·refine zn (by simpa using e1) ?_;exact ar ⟨_,rfl,.inl ⟨_,_,rfl,mO.doneA e1⟩⟩
     refine zo (by simpa using e1) ?_;obtain⟨n1,rfl⟩:∃ n1,k=n1+1:=⟨k - 1,#[O]⟩;simp only [b9];refine ao (zC ey ?_);refine zaf (xs:=a) (i:=n1) #[O] fun z ez mz=>?_
     have oJ:=mO.pushB sa #[O] ey (show a[n1+1 - 1]? = some z by rw [b9]; exact ez) (by have:=zcr (nK n1 #[O]); rw [bE,zH ez] at this; exact this);by_cases e3:m1=1
     ·refine zn (by simpa using e3) ?_;exact ar ⟨_,rfl,.inl ⟨_,_,rfl,oJ.first e3 sa h2 hf⟩⟩
     refine zo (by simpa using e3) ?_;refine ao (zC ez (ao (zaL hC hk (ma z mz) (fun i hi=>(by
      refine zaf (xs:=b) (i:=0+i) #[O] fun p ep mp=>?_
      exact⟨p,ep,mb p mp⟩)) (sb.sub #[O] #[O]) #[O] fun j si n4 qK=>?_)))
     dsimp only;have pI:=oJ.takeB (at':=j) sa si #[O] (show a[n1+1 - 1]? = some z by rw [b9]; exact ez) fun i h1 h2=>(by have:=zcd (qK i h1 h2); rwa [bE] at this)
     by_cases mV:m1 - j > 0
     ·refine zn mV ?_;by_cases e4:j=1
      ·refine zn (by simpa using e4) ?_;exact ar ⟨_,rfl,.inl ⟨_,_,rfl,pI.first e4 sa h2 hf⟩⟩
      refine zo (by simpa using e4) ?_;by_cases e5:j=0
      ·refine zn (by simpa using e5) ?_;exact ar ⟨_,rfl,.inl ⟨_,_,rfl,pI.doneB e5⟩⟩
      refine zo (by simpa using e5) ?_;refine zaf (xs:=b) (i:=j - 1) #[O] fun y2 mW uw=>?_
      refine ao (zC ez ?_);have l0:=pI.pushA sb #[O] mW ez (by have:=zbs (n4 (j - 1) #[O]); rw [bE,zH mW] at this; lia);by_cases e9:n1=0
      ·refine zn (by simpa using e9) ?_;exact ar ⟨_,rfl,.inl ⟨_,_,rfl,l0.doneA e9⟩⟩
      refine zo (by simpa using e9) ?_;refine zau (fun _=>?_) (fun _=>?_)
      ·exact ar ⟨_,rfl,.inr ⟨_,_,_,_,_,_,rfl,l0,#[O],#[O],#[O],#[O],#[O]⟩⟩
      ·exact ar ⟨_,_,_,_,_,_,_,rfl,rfl,l0,#[O],#[O],#[O],#[O],#[O]⟩
     ·refine zo mV ?_;have AB:j=m1:=by lia
      subst AB;refine zaf (xs:=b) (i:=j - 1) #[O] fun y2 mW uw=>?_
      refine ao (zC ez ?_);have l0:=oJ.pushA sb #[O] mW ez (by have:=zbs (n4 (j - 1) #[O]); rw [bE,zH mW] at this; lia);by_cases e9:n1=0
      ·refine zn (by simpa using e9) ?_;exact ar ⟨_,rfl,.inl ⟨_,_,rfl,l0.doneA e9⟩⟩
      refine zo (by simpa using e9) ?_;refine zau (fun _=>?_) (fun _=>?_)
      ·exact ar ⟨_,rfl,.inr ⟨_,_,_,_,_,_,rfl,l0,#[O],#[O],#[O],#[O],#[O]⟩⟩
      ·exact ar ⟨_,_,_,_,_,_,_,rfl,rfl,l0,#[O],#[O],#[O],#[O],#[O]⟩
    ·refine zo qc ?_;have x9:k=lO:=by lia
     subst x9;obtain⟨n1,rfl⟩:∃ n1,k=n1+1:=⟨k - 1,#[O]⟩;simp only [b9];refine ao (zC ey ?_);refine zaf (xs:=a) (i:=n1) #[O] fun z ez mz=>?_
     have oJ:=hI.pushB sa #[O] ey (show a[n1+1 - 1]? = some z by rw [b9]; exact ez) (by have:=zcr (nK n1 #[O]); rw [bE,zH ez] at this; exact this);by_cases e3:m1=1
     ·refine zn (by simpa using e3) ?_;exact ar ⟨_,rfl,.inl ⟨_,_,rfl,oJ.first e3 sa h2 hf⟩⟩
     refine zo (by simpa using e3) ?_;refine ao (zC ez (ao (zaL hC hk (ma z mz) (fun i hi=>(by
      refine zaf (xs:=b) (i:=0+i) #[O] fun p ep mp=>?_
      exact⟨p,ep,mb p mp⟩)) (sb.sub #[O] #[O]) #[O] fun j si n4 qK=>?_)))
     dsimp only;have pI:=oJ.takeB (at':=j) sa si #[O] (show a[n1+1 - 1]? = some z by rw [b9]; exact ez) fun i h1 h2=>(by have:=zcd (qK i h1 h2); rwa [bE] at this)
     by_cases mV:m1 - j > 0
     ·refine zn mV ?_;by_cases e4:j=1
      ·refine zn (by simpa using e4) ?_;exact ar ⟨_,rfl,.inl ⟨_,_,rfl,pI.first e4 sa h2 hf⟩⟩
      refine zo (by simpa using e4) ?_;by_cases e5:j=0
      ·refine zn (by simpa using e5) ?_;exact ar ⟨_,rfl,.inl ⟨_,_,rfl,pI.doneB e5⟩⟩
      refine zo (by simpa using e5) ?_;refine zaf (xs:=b) (i:=j - 1) #[O] fun y2 mW uw=>?_
      refine ao (zC ez ?_);have l0:=pI.pushA sb #[O] mW ez (by have:=zbs (n4 (j - 1) #[O]); rw [bE,zH mW] at this; lia);by_cases e9:n1=0
      ·refine zn (by simpa using e9) ?_;exact ar ⟨_,rfl,.inl ⟨_,_,rfl,l0.doneA e9⟩⟩
      refine zo (by simpa using e9) ?_;refine zau (fun _=>?_) (fun _=>?_)
      ·exact ar ⟨_,rfl,.inr ⟨_,_,_,_,_,_,rfl,l0,#[O],#[O],#[O],#[O],#[O]⟩⟩
      ·exact ar ⟨_,_,_,_,_,_,_,rfl,rfl,l0,#[O],#[O],#[O],#[O],#[O]⟩
     ·refine zo mV ?_;have AB:j=m1:=by lia
      subst AB;refine zaf (xs:=b) (i:=j - 1) #[O] fun y2 mW uw=>?_
      refine ao (zC ez ?_);have l0:=oJ.pushA sb #[O] mW ez (by have:=zbs (n4 (j - 1) #[O]); rw [bE,zH mW] at this; lia);by_cases e9:n1=0
      ·refine zn (by simpa using e9) ?_;exact ar ⟨_,rfl,.inl ⟨_,_,rfl,l0.doneA e9⟩⟩
      refine zo (by simpa using e9) ?_;refine zau (fun _=>?_) (fun _=>?_)
      ·exact ar ⟨_,rfl,.inr ⟨_,_,_,_,_,_,rfl,l0,#[O],#[O],#[O],#[O],#[O]⟩⟩
      ·exact ar ⟨_,_,_,_,_,_,_,rfl,rfl,l0,#[O],#[O],#[O],#[O],#[O]⟩
end
end Srt
end
section
namespace Srt
open PySem PyProof.Rows
def wb (sa:Nat) (l:List (Keyed×Nat)) (xs:Array Keyed):Array Keyed:=l.foldl (fun a (p,j)=>a.setIfInBounds (sa+j) p) xs
theorem zi2 (sa:Nat):∀ (l:List Keyed) (n:Nat) (xs:Array Keyed) (k:Nat),sa+n+l.length≤xs.size→(wb sa (l.zipIdx n) xs)[k]? = if sa+n≤k∧k < sa+n+l.length then l[k - (sa+n)]? else xs[k]?
 | [],n,xs,k,h=>by
  rw [if_neg (by simp only [kf]; lia)];rfl
 | p :: l,n,xs,k,h=>by
  have hl:(p :: l).length=l.length+1:=rfl;rw [hl] at h ⊢;show (wb sa (l.zipIdx (n+1)) (xs.setIfInBounds (sa+n) p))[k]? = _;rw [zi2 sa l (n+1) _ k (by rw [gZ]; lia)];by_cases h1:sa+(n+1)≤k∧k < sa+(n+1)+l.length
  ·rw [if_pos h1,if_pos #[O],show k - (sa+n)=k - (sa+(n+1))+1 by lia,dL]
  ·rw [if_neg h1,Array.getElem?_setIfInBounds];by_cases h2:sa+n=k
   ·rw [if_pos h2,if_pos #[O],if_pos #[O],show k - (sa+n)=0 by lia];rfl
   ·rw [if_neg h2,if_neg #[O]]
theorem zki {sa:Nat} {m xs:Array Keyed} (h:sa+m.size≤xs.size):(wb sa m.toList.zipIdx xs).toList=xs.toList.take sa++m.toList++xs.toList.drop (sa+m.size):=by
 have hm:m.toList.length=m.size:=by simp
 have hx:xs.toList.length=xs.size:=by simp
 refine cG fun k=>?_
 rw [be,zi2 sa m.toList 0 xs k (by rw [hm]; lia),hm,cV];by_cases h1:k < sa
 ·rw [if_neg #[O],bm,bI (by rw [aL]; lia),eW h1,be]
 ·by_cases h2:k < sa+m.size
  ·rw [if_pos #[O],bm,bG (by rw [aL]; lia),aL,hx,show min sa xs.size=sa by lia,bI #[O]]
  ·rw [if_neg #[O],bG (by rw [aA,aL]; lia),aA,aL,hx,show min sa xs.size=sa by lia,hm,eZ,show sa+m.size+(k - (sa+m.size))=k by lia,be]
theorem zhQ (xs:List Keyed) {i j k:Nat} (h1:i≤j) (h2:j≤k):xs=xs.take i++((xs.drop i).take (j - i)++(xs.drop j).take (k - j))++xs.drop k:=by
 have e1:xs.drop i=(xs.drop i).take (j - i)++xs.drop j:=by
  have:=(cO (j - i) (xs.drop i)).symm
  rwa [iM,show i+(j - i)=j by lia] at this
 have e2:xs.drop j=(xs.drop j).take (k - j)++xs.drop k:=by
  have:=(cO (k - j) (xs.drop j)).symm
  rwa [iM,show j+(k - j)=k by lia] at this
 have e0:=(cO i xs).symm;rw [e1,e2] at e0;rw [bm,bm];exact e0
theorem zcs (xs:Array Keyed) (i j:Nat):(xs.extract i j).toList=(xs.toList.drop i).take (j - i):=by
 rw [cC]
theorem zkj {sa sb e:Nat} {m xs:Array Keyed} (h1:sa≤sb) (h2:sb≤e) (h3:e≤xs.size) (hp:m.toList.Perm ((xs.extract sa sb).toList++(xs.extract sb e).toList)):(wb sa m.toList.zipIdx xs).Perm xs:=by
 have sk:m.size=e - sa:=by
  have:=hp.length_eq;rw [aA,zcs,zcs,aL,aL,cM,cM] at this;have hx:xs.toList.length=xs.size:=by simp
  have hm:m.toList.length=m.size:=by simp
  lia
 rw [eM,zki #[O],show sa+m.size=e by lia];refine eU ((hp.append_left _).append_right _) ?_;rw [zcs,zcs,← zhQ xs.toList h1 h2]
section
variable {prog:Program} {w:World} {A:Around} {E:Value→Shared→Prop} {s:Shared} {a₀:Array Keyed} {κ:SortKind} {val:Keyed→Int}
theorem zce {xs:Array Keyed} {i j k:Nat} (h:k < j - i) (hj:j≤xs.size):(xs.extract i j)[k]? = xs[i+k]?:=by
 rw [← be,zcs,eW h,eZ,be]
theorem zct {xs:Array Keyed} {i j:Nat} (hj:j≤xs.size):(xs.extract i j).size=j - i:=by rw [jA,dP hj]
theorem zgX {xs:Array Keyed} {i j:Nat} (hj:j≤xs.size) (h:SIn val xs i j):SIn val (xs.extract i j) 0 (xs.extract i j).size:=by
 rw [zct hj];intro p q _ hpq hq;rw [zU (zce #[O] hj),zU (zce hq hj)];exact h _ _ #[O] #[O] #[O]
theorem zdb {xs:Array Keyed} {i j:Nat} (hj:j≤xs.size) {p:Keyed} (h:p∈(xs.extract i j).toList):∃ k,i≤k∧k < j∧xs[k]? = some p:=by
 obtain⟨k,hk,e⟩:=dJ h;have nF:k < j - i:=by
  rwa [aG,zct hj] at hk
 refine⟨i+k,#[O],#[O],?_⟩;rw [← zce nF hj,← be,ak hk,e]
theorem zhR {st:SortSt} {i sa na pw sb nb pw2:Nat} {Q:Bool→SortSt→Prop} (hC:Cmp prog w A s κ val a₀) (hB:SB κ a₀ st) (e1:(pendingOf st)[i]? = some (sa,na,pw)) (e2:(pendingOf st)[i+1]? = some (sb,nb,pw2))
  (oG:sb=sa+na) (hna:1≤na) (hnb:1≤nb) (hsz:sb+nb≤a₀.size) (sA:SIn val (arrOf st) sa (sa+na)) (sB:SIn val (arrOf st) sb (sb+nb))
  (h:∀ kQ,SB κ a₀ kQ→pendingOf kQ=((pendingOf st).setIfInBounds i (sa,na+nb,pw)).eraseIdxIfInBounds (i+1)→(∀ k,(k < sa∨sb+nb≤k)→(arrOf kQ)[k]? = (arrOf st)[k]?)→SIn val (arrOf kQ) sa (sb+nb)→Q true kQ) :
  wpS (model prog w) A E s (mergeAt' i) Q st:=by
 refine zeT ?_
 wp_delta
 wp_delta
 refine zeU ?_;refine ao (fj ?_);rw [e1,e2];dsimp only;have wx:=hB.size;obtain⟨y0,rE,Ap⟩:=hB.mem (i:=sb) #[O];generalize uy:(sortPriv% PySem.Builtin.SortState.mk) (kindOf st) (arrOf st) (((pendingOf st).setIfInBounds i (sa,na+nb,pw)).eraseIdxIfInBounds (i+1)) (gallopOf st) (failedOf st)=n5;have qL:SB κ a₀ n5:=by subst uy; exact⟨hB.perm,hB.kind,hB.failed⟩
 have oK:pendingOf n5=((pendingOf st).setIfInBounds i (sa,na+nb,pw)).eraseIdxIfInBounds (i+1):=by subst uy; rfl
 have qe:arrOf n5=arrOf st:=by subst uy; rfl
 have su:∀ n,n < a₀.size→∃ p,(arrOf st)[n]? = some p∧p∈a₀.toList:=fun n hn=>hB.mem hn
 refine ao (show wpS _ _ _ _ (set n5) _ st from eF (f:=fun _=>n5) ?_);refine ao (zC rE (ao (zaL (arr:=arrOf st) hC qL.kind Ap (fun j hj=>su (sa+j) #[O]) sA #[O] fun k uv nK tG=>?_)));dsimp only;have wy:∀ j,sa≤j→j < sa+k→Vk val (arrOf st) j≤Vk val (arrOf st) sb:=fun j h1 h2=>by
  have:=zcr (nK (j - sa) #[O])
  rwa [show sa+(j - sa)=j by lia,← zH (val:=val) rE] at this
 by_cases qc:na - k=0
 ·rw [if_pos (by simpa using qc)];refine ar (h n5 qL oK (fun _ _=>by rw [qe]) ?_);rw [qe];intro p q h1 h2 h3;by_cases hq:q < sa+na
  ·exact sA p q h1 h2 hq
  ·by_cases hp:p < sa+na
   ·exact bU (wy p h1 #[O]) (sB sb q #[O] #[O] h3)
   ·exact sB p q #[O] h2 h3
 rw [if_neg (by simpa using qc)];have wz:sa+k+(na - k) - 1=sa+na - 1:=by lia
 rw [wz];obtain⟨x0,rG,Aq⟩:=hB.mem (i:=sa+na - 1) #[O];refine ao (zC rG (ao (zaL (arr:=arrOf st) hC qL.kind Aq (fun j hj=>su (sb+j) #[O]) sB #[O] fun m qG rD AD=>?_)));dsimp only;have tH:∀ j,sb+m≤j→j < sb+nb→Vk val (arrOf st) (sa+na - 1)≤Vk val (arrOf st) j:=fun j h1 h2=>by
  have:=zcd (AD (j - sb) #[O] #[O])
  rwa [show sb+(j - sb)=j by lia,← zH (val:=val) rG] at this
 have AE:∀ j,sb≤j→j < sb+m→Vk val (arrOf st) j < Vk val (arrOf st) (sa+na - 1):=fun j h1 h2=>by
  have:=zbs (rD (j - sb) #[O])
  rwa [show sb+(j - sb)=j by lia,← zH (val:=val) rG] at this
 by_cases hm0:m=0
 ·rw [if_pos (by simpa using hm0)];refine ar (h n5 qL oK (fun _ _=>by rw [qe]) ?_);rw [qe];intro p q h1 h2 h3;by_cases hq:q < sa+na
  ·exact sA p q h1 h2 hq
  ·by_cases hp:p < sa+na
   ·exact bU (sA p (sa+na - 1) h1 #[O] #[O]) (tH q #[O] h3)
   ·exact sB p q #[O] h2 h3
 rw [if_neg (by simpa using hm0)];have zx:(arrOf st).size=a₀.size:=wx;have z1:=zct (xs:=arrOf st) (i:=sa+k) (j:=sb) #[O];have z2:=zct (xs:=arrOf st) (i:=sb) (j:=sb+m) #[O];have hf:Vk val ((arrOf st).extract sb (sb+m)) 0≤Vk val ((arrOf st).extract (sa+k) sb) 0:=by
  rw [zU (zce #[O] #[O]),zU (zce (xs:=arrOf st) (i:=sa+k) (j:=sb) (k:=0) #[O] #[O])];have:=zc9 (tG k (ag _) #[O]);rw [← zH (val:=val) rE] at this;simp only [cV] at this ⊢;lia
 have hl:∀ j,j < ((arrOf st).extract sb (sb+m)).size→Vk val ((arrOf st).extract sb (sb+m)) j≤Vk val ((arrOf st).extract (sa+k) sb) (((arrOf st).extract (sa+k) sb).size - 1):=by
  intro j hj;rw [z2] at hj;rw [z1,zU (zce #[O] #[O]),zU (zce (xs:=arrOf st) (i:=sa+k) (j:=sb) #[O] #[O])];have:=AE (sb+j) #[O] #[O];rw [show sa+k+(sb - (sa+k) - 1)=sa+na - 1 by lia];lia
 have fin:∀ (out:Array Keyed) (g:Nat),Good val (((arrOf st).extract (sa+k) sb).toList++((arrOf st).extract sb (sb+m)).toList) out.toList →
   wpS (model prog w) A E s (do
    modify fun s=>setArr s (out.toList.zipIdx.foldl (fun a (p,j)=>a.setIfInBounds (sa+k+j) p) (arrOf s))
    let s' ← get
    pure (failedOf s').isNone) Q (zZ n5 g):=by
  intro out g hG;refine ao (eF (ao (fj ?_)));have sk:out.size=sb+m - (sa+k):=by
   have:=hG.1.length_eq;rw [aA] at this;have e1:out.toList.length=out.size:=by simp
   have e2:((arrOf st).extract (sa+k) sb).toList.length=sb - (sa+k):=by rw [aG,z1]
   have e3:((arrOf st).extract sb (sb+m)).toList.length=sb+m - sb:=by rw [aG,z2]
   lia
  have nG:=zkj (xs:=arrOf st) (sa:=sa+k) (sb:=sb) (e:=sb+m) #[O] #[O] #[O] hG.1;have lQ:∀ n,(wb (sa+k) out.toList.zipIdx (arrOf st))[n]? = if sa+k≤n∧n < sb+m then out[n - (sa+k)]? else (arrOf st)[n]?:=fun n=>by
   have:=zi2 (sa+k) out.toList 0 (arrOf st) n (by rw [aG]; lia);rw [aG,cV,sk,show sa+k+(sb+m - (sa+k))=sb+m by lia,be] at this;exact this
  have vO:(failedOf (setArr (zZ n5 g) (wb (sa+k) out.toList.zipIdx (arrOf st)))).isNone=true:=by
   show (failedOf n5).isNone=true;rw [qL.failed];rfl
  have AF:arrOf (zZ n5 g)=arrOf st:=qe;show wpS _ _ _ _ (pure (failedOf (setArr (zZ n5 g) (wb (sa+k) out.toList.zipIdx (arrOf (zZ n5 g))))).isNone) Q (setArr (zZ n5 g) (wb (sa+k) out.toList.zipIdx (arrOf (zZ n5 g))));rw [AF,vO];refine ar (h _ ⟨nG.trans hB.perm,qL.kind,qL.failed⟩ oK (fun n hn=>?_) ?_)
  ·show (wb (sa+k) out.toList.zipIdx (arrOf st))[n]? = _;rw [lQ,if_neg #[O]]
  ·show SIn val (wb (sa+k) out.toList.zipIdx (arrOf st)) sa (sb+nb);have nM:∀ n,sa+k≤n→n < sb+m→∃ q,sa+k≤q∧q < sb+m∧Vk val (wb (sa+k) out.toList.zipIdx (arrOf st)) n=Vk val (arrOf st) q:=fun n h1 h2=>by
    have ho:n - (sa+k) < out.size:=by lia
    have o8:out[n - (sa+k)]? = some out[n - (sa+k)]:=getElem?_pos out _ ho;have lx:out[n - (sa+k)]∈((arrOf st).extract (sa+k) sb).toList++((arrOf st).extract sb (sb+m)).toList:=hG.1.mem_iff.mp #[M];have hv:Vk val (wb (sa+k) out.toList.zipIdx (arrOf st)) n=val out[n - (sa+k)]:=zH (by rw [lQ,if_pos ⟨h1,h2⟩,o8]);rcases aT.mp lx with lx | lx
    ·obtain⟨q,q1,q2,q3⟩:=zdb #[O] lx;exact⟨q,q1,#[O],by rw [hv,zH q3]⟩
    ·obtain⟨q,q1,q2,q3⟩:=zdb #[O] lx;exact⟨q,#[O],q2,by rw [hv,zH q3]⟩
   have nP:∀ n,¬ (sa+k≤n∧n < sb+m)→Vk val (wb (sa+k) out.toList.zipIdx (arrOf st)) n=Vk val (arrOf st) n:=fun n hn=>zU (by rw [lQ,if_neg hn])
   intro p q h1 h2 h3;by_cases hp:p < sa+k
   ·rw [nP p #[O]];by_cases hq:q < sa+k
    ·rw [nP q #[O]];exact sA p q h1 h2 #[O]
    ·have key:∀ q',sa+k≤q'→q' < sb+nb→Vk val (arrOf st) p≤Vk val (arrOf st) q':=fun q' a1 a2=>by
      by_cases oM:q' < sb
      ·exact sA p q' h1 #[O] #[O]
      ·exact bU (wy p h1 hp) (sB sb q' #[O] #[O] a2)
     by_cases pF:q < sb+m
     ·obtain⟨q',q1,q2,q3⟩:=nM q #[O] pF;rw [q3];exact key q' q1 #[O]
     ·rw [nP q #[O]];exact key q #[O] h3
   ·by_cases mR:p < sb+m
    ·by_cases pF:q < sb+m
     ·have tI:p - (sa+k) < out.size:=by lia
      have o8:q - (sa+k) < out.size:=by lia
      rw [zH (p:=out[p - (sa+k)]) (by rw [lQ,if_pos #[O]]; exact getElem?_pos out _ tI),zH (p:=out[q - (sa+k)]) (by rw [lQ,if_pos #[O]]; exact getElem?_pos out _ o8)];by_cases hpq:p=q
      ·subst hpq;exact bF _
      ·have:=du.mp hG.2 (p - (sa+k)) (q - (sa+k)) (by simpa using tI) (by simpa using o8) #[O];simpa using this
     ·obtain⟨p',p1,p2,p3⟩:=nM p #[O] mR;rw [p3,nP q #[O]];by_cases pf:p' < sb
      ·exact bU (sA p' (sa+na - 1) #[O] #[O] #[O]) (tH q #[O] h3)
      ·exact sB p' q #[O] #[O] h3
    ·rw [nP p #[O],nP q #[O]];exact sB p q #[O] h2 h3
 have ma:∀ p∈((arrOf st).extract (sa+k) sb).toList,p∈a₀.toList:=fun p hp=>by
  obtain⟨q,q1,q2,q3⟩:=zdb #[O] hp;obtain⟨p',e,m'⟩:=su q #[O];rw [q3] at e;cases e;exact m'
 have mb:∀ p∈((arrOf st).extract sb (sb+m)).toList,p∈a₀.toList:=fun p hp=>by
  obtain⟨q,q1,q2,q3⟩:=zdb #[O] hp;obtain⟨p',e,m'⟩:=su q #[O];rw [q3] at e;cases e;exact m'
 have ss1:=zgX (val:=val) (xs:=arrOf st) (i:=sa+k) (j:=sb) #[O] (sA.sub #[O] #[O]);have ss2:=zgX (val:=val) (xs:=arrOf st) (i:=sb) (j:=sb+m) #[O] (sB.sub #[O] #[O]);by_cases hle:na - k≤m
 ·rw [if_pos hle];exact ao (zhO (a:=(arrOf st).extract (sa+k) sb) (b:=(arrOf st).extract sb (sb+m)) hC qL.kind ma mb ss1 ss2 #[O] #[O] hf hl fin)
 ·rw [if_neg hle];exact ao (zhP (a:=(arrOf st).extract (sa+k) sb) (b:=(arrOf st).extract sb (sb+m)) hC qL.kind ma mb ss1 ss2 #[O] #[O] hf hl fin)
end
end Srt
end
section
namespace Srt
open PySem PyProof.Rows
def Runs (val:Keyed→Int) (xs:Array Keyed):List (Nat×Nat×Nat)→Nat→Nat→Prop
 | [],lo,hi=>lo=hi
 | (s,n,_) :: r,lo,hi=>s=lo∧1≤n∧SIn val xs lo (lo+n)∧Runs val xs r (lo+n) hi
section
variable {val:Keyed→Int}
theorem Runs.le {xs:Array Keyed}:∀ {p:List (Nat×Nat×Nat)} {lo hi:Nat},Runs val xs p lo hi→lo+p.length≤hi
 | [],lo,hi,h=>by
  have h:lo=hi:=h;simp only [kf];lia
 | (s,n,w) :: r,lo,hi,h=>by
  obtain⟨_,h1,_,h2⟩:=h;have:=h2.le;simp only [bM];lia
theorem Runs.append {xs:Array Keyed}:∀ {p q:List (Nat×Nat×Nat)} {lo hi:Nat},Runs val xs (p++q) lo hi↔∃ mid,Runs val xs p lo mid∧Runs val xs q mid hi
 | [],q,lo,hi=>⟨fun h=>⟨lo,rfl,h⟩,fun ⟨mid,h1,h2⟩=>by
   have h1:lo=mid:=h1;subst h1;exact h2⟩
 | (s,n,w) :: p,q,lo,hi=>by
  constructor
  ·rintro⟨h1,h2,h3,h4⟩;obtain⟨mid,h5,h6⟩:=Runs.append.mp h4;exact⟨mid,⟨h1,h2,h3,h5⟩,h6⟩
  ·rintro⟨mid,⟨h1,h2,h3,h5⟩,h6⟩;exact⟨h1,h2,h3,Runs.append.mpr ⟨mid,h5,h6⟩⟩
theorem Runs.keep {xs ys:Array Keyed}:∀ {p:List (Nat×Nat×Nat)} {lo hi:Nat},Runs val xs p lo hi→(∀ k,lo≤k→k < hi→ys[k]? = xs[k]?)→Runs val ys p lo hi
 | [],lo,hi,h,_=>h
 | (s,n,w) :: p,lo,hi,h,e=>by
  obtain⟨h1,h2,h3,h4⟩:=h;have:=h4.le;refine⟨h1,h2,fun i j a b c=>?_,h4.keep fun k a b=>e k #[O] b⟩;rw [zU (e i #[O] #[O]),zU (e j #[O] #[O])];exact h3 i j a b c
theorem zi3 {α:Type} (p q:List α) (x y v:α):((p++x :: y :: q).toArray.setIfInBounds p.length v).eraseIdxIfInBounds (p.length+1)=(p++v :: q).toArray:=by
 simp [Array.eraseIdxIfInBounds];rw [List.eraseIdx_append_of_length_le #[O],show p.length+1 - p.length=1 by lia];rfl
theorem zi4 {α:Type} (q:List α) (z:α) (f:α→α):(q++[z]).toArray.modify ((q++[z]).toArray.size - 1) f=(q++[f z]).toArray:=by
 apply Array.ext';simp;induction q with
 | nil=>rfl
 | cons a q ih =>
  show (a :: (q++[z])).modify (q.length+1) f=a :: (q++[f z]);rw [List.modify_succ_cons,ih]
theorem zgY {xs:Array Keyed} {p:List (Nat×Nat×Nat)} {n:Nat} (hl:p.length≤1) (hn:1≤n) (h:Runs val xs p 0 n):SIn val xs 0 n:=by
 match p,hl,h with
 | [],_,h =>
  have h:0=n:=h;lia
 | [(a,b,c)],_,h =>
  obtain⟨_,_,h3,h4⟩:=h;have h4:0+b=n:=h4;rw [← h4];exact h3
 | _ :: _ :: _,hl,_=>simp at hl
theorem zhS {α:Type} {p:List α} {j:Nat} (h:j+2≤p.length):∃ pre x y post,p=pre++x :: y :: post∧pre.length=j:=by
 refine⟨p.take j,p[j],p[j+1],p.drop (j+2),?_,by rw [aL]; lia⟩;have e1:=(cO j p).symm;rw [dr (show j < p.length by lia),dr (show j+1 < p.length by lia)] at e1;exact e1
end
section
variable {prog:Program} {w:World} {A:Around} {E:Value→Shared→Prop} {s:Shared} {a₀:Array Keyed} {κ:SortKind} {val:Keyed→Int}
theorem zfB {st:SortSt} {pre post:List (Nat×Nat×Nat)} {x y:Nat×Nat×Nat} {hi:Nat} {Q:Bool→SortSt→Prop} (hC:Cmp prog w A s κ val a₀) (hB:SB κ a₀ st) (hp:pendingOf st=(pre++x :: y :: post).toArray) (hR:Runs val (arrOf st) (pre++x :: y :: post) 0 hi) (sj:hi≤a₀.size)
  (h:∀ kQ v,SB κ a₀ kQ→pendingOf kQ=(pre++v :: post).toArray→(∀ k,hi≤k→(arrOf kQ)[k]? = (arrOf st)[k]?)→Runs val (arrOf kQ) (pre++v :: post) 0 hi→Q true kQ) :
  wpS (model prog w) A E s (mergeAt' pre.length) Q st:=by
 obtain⟨sa,na,pw⟩:=x;obtain⟨sb,nb,pw2⟩:=y;obtain⟨mid,r1,r2⟩:=Runs.append.mp hR;obtain⟨rfl,q1,q2,rfl,q4,q5,r3⟩:=r2;have hle:=r3.le;refine zhR (i:=pre.length) (sa:=sa) (na:=na) (pw:=pw) (sb:=sa+na) (nb:=nb) (pw2:=pw2) hC hB (by rw [hp]; simp) (by rw [hp]; simp) rfl q1 q4 #[O] q2 q5 fun kQ lZ pf hk hs=>?_
 refine h kQ (sa,na+nb,pw) lZ (by rw [pf,hp,zi3]) (fun k nF=>hk k #[O]) ?_;refine Runs.append.mpr ⟨sa,r1.keep fun k _ b=>hk k #[O],rfl,#[O],?_,?_⟩
 ·rw [← Nat.add_assoc];exact hs
 ·rw [← Nat.add_assoc];exact r3.keep fun k a b=>hk k #[O]
theorem zkk {n:Nat} {c:Prop} [Decidable c] (h:¬ n≤1):(if c then n - 2 - 1 else n - 2)+2≤n:=by
 by_cases hc:c
 ·rw [if_pos hc];lia
 ·rw [if_neg hc];lia
theorem zi5 {st:SortSt} {p:List (Nat×Nat×Nat)} {j hi:Nat} {Q:Bool→SortSt→Prop} (hj:j+2≤p.length) (hC:Cmp prog w A s κ val a₀) (hB:SB κ a₀ st) (hp:pendingOf st=p.toArray) (hR:Runs val (arrOf st) p 0 hi) (sj:hi≤a₀.size)
  (h:∀ kQ p',SB κ a₀ kQ→pendingOf kQ=p'.toArray→Runs val (arrOf kQ) p' 0 hi→p'.length+1=p.length→Q true kQ):wpS (model prog w) A E s (mergeAt' j) Q st:=by
 obtain⟨pre,x,y,post,rfl,rfl⟩:=zhS hj;exact zfB hC hB hp hR sj fun kQ v a b _ d=>h kQ _ a b d (by simp only [aA,bM]; lia)
theorem zly {st:SortSt} {Q:Unit→SortSt→Prop} (hC:Cmp prog w A s κ val a₀) (hB:SB κ a₀ st) (hp:pendingOf st = #[]) (h2:1≤a₀.size)
  (h:∀ kQ,SB κ a₀ kQ→SIn val (arrOf kQ) 0 a₀.size→Q () kQ):wpS (model prog w) A E s sortRuns' Q st:=by
 rw [sortRuns'_eq];refine ao (fj ?_);dsimp only;rw [hB.size];generalize minRun' a₀.size a₀.size 0=mr;refine ao (c8 (cq (I:=fun x c kQ=>∃ lo p,c=(none,lo)∧SB κ a₀ kQ∧pendingOf kQ=p.toArray∧Runs val (arrOf kQ) p 0 lo∧lo≤a₀.size∧min x a₀.size≤lo)
  (Q:=fun c kQ=>∃ p,c=(none,a₀.size)∧SB κ a₀ kQ∧pendingOf kQ=p.toArray∧Runs val (arrOf kQ) p 0 a₀.size) ?step ?fin ⟨0,[],rfl,hB,hp,rfl,#[O],#[O]⟩) ?post)
 case fin =>
  rintro c kQ ⟨lo,p,rfl,lZ,pf,hR,mT,hx⟩;have:lo=a₀.size:=by lia
  subst this;exact⟨p,rfl,lZ,pf,hR⟩
 case step =>
  rintro x c kQ _ hx ⟨lo,p,rfl,lZ,pf,hR,mT,wA⟩;dsimp only;by_cases nr:lo≥a₀.size
  ·rw [if_pos nr];have:lo=a₀.size:=by lia
   subst this;exact ar ⟨p,rfl,lZ,pf,hR⟩
  rw [if_neg nr];refine ao (zkf hC #[O] #[O] (SF.refl lZ) fun m n5 hF1 qG rD hs1=>?_);dsimp only;apply zmS
  ·intro k1 k2;by_cases AG:m < mr
   ·rw [if_pos AG]
    (refine ao (gf (cB ⟨rfl,?_⟩)))
    refine ao (zml hC #[O] #[O] hF1 hs1 fun lR tJ pj=>?_);rw [if_neg #[D]];have pH:1≤min (a₀.size - lo) mr:=by lia
    have pZ:lo+min (a₀.size - lo) mr≤a₀.size:=by lia
    generalize min (a₀.size - lo) mr=n at pj pH pZ ⊢
    revert pZ; revert pH; revert pj; revert tJ; revert lR; revert n
    exact k1 ()
   ·rw [if_neg AG];have pZ:lo+m≤a₀.size:=by lia
    clear rD AG
    revert pZ; revert qG; revert hs1; revert hF1; revert n5; revert m
    exact k2 ()
  intro n lR tJ pj pH pZ;refine ao (fj ?_);have oK:pendingOf lR=p.toArray:=tJ.pend.trans pf;have vq:Runs val (arrOf lR) p 0 lo:=hR.keep fun k _ b=>tJ.low k b
  rcases iO p with rfl | ⟨q,z,rfl⟩
  ·rw [oK];show wpS _ _ _ _ (do
    modify fun s=>setPending s ((pendingOf s).push (lo,n,0)); pure (ck (none,lo+n))) _ _
   refine ao (eF (ar ⟨lo+n,[(lo,n,0)],rfl,⟨tJ.b.perm,tJ.b.kind,tJ.b.failed⟩,?_,?_,#[O],#[O]⟩))
   ·show (pendingOf lR).push _=_;rw [oK];rfl
   ·have h0:0=lo:=vq;subst h0;exact⟨rfl,pH,pj,rfl⟩
  obtain⟨s1,n1,w1⟩:=z;rw [oK,fT,show ((q++[(s1,n1,w1)]).toArray).back? = some (s1,n1,w1) by simp];rw [fT] at oK vq;dsimp only;generalize power' a₀.size (2*s1+n1) (2*s1+n1+n1+n) a₀.size=pw;refine ao (c8 (cq (I:=fun _ c kQ=>c=(none,())∧∃ q' z,SB κ a₀ kQ∧pendingOf kQ=(q'++[z]).toArray∧Runs val (arrOf kQ) (q'++[z]) 0 lo∧(∀ k,lo≤k→(arrOf kQ)[k]? = (arrOf lR)[k]?))
   (Q:=fun c kQ=>c=(none,())∧∃ q' z,SB κ a₀ kQ∧pendingOf kQ=(q'++[z]).toArray∧Runs val (arrOf kQ) (q'++[z]) 0 lo∧(∀ k,lo≤k→(arrOf kQ)[k]? = (arrOf lR)[k]?)) ?_ (fun _ _ hh=>hh) ⟨rfl,q,(s1,n1,w1),tJ.b,oK,vq,fun _ _=>rfl⟩) ?_)
  ·rintro x2 c lR _ qJ ⟨rfl,q',z,pv,mR,qM,nK⟩;refine ao (fj ?_);rcases iO q' with rfl | ⟨q2,y,rfl⟩
   ·rw [mR,if_neg #[M]];exact ar ⟨rfl,[],z,pv,mR,qM,nK⟩
   rw [fT,bm] at mR qM;have esz:(pendingOf lR).size - 2=q2.length:=by rw [mR]; simp
   have eel:(if (pendingOf lR).size > 1 then (pendingOf lR)[(pendingOf lR).size - 2]? else none)=some y:=by
    rw [if_pos (by rw [mR]; simp),esz,mR];simp
   rw [eel];obtain⟨y1,y2,y3⟩:=y;dsimp only;by_cases ho:y3≤pw
   ·rw [if_pos ho];exact ar ⟨rfl,q2++[(y1,y2,y3)],z,pv,by rw [mR,bm],by rw [bm]; exact qM,nK⟩
   ·rw [if_neg ho,esz];refine ao (zfB hC pv mR qM #[O] fun xV v AH rH tG AI=>?_);rw [if_neg #[D]];exact ar ⟨rfl,q2,v,AH,rH,AI,fun k hk=>(tG k hk).trans (nK k hk)⟩
  ·rintro c lR ⟨rfl,q',z,pv,mR,qM,nK⟩;obtain⟨z1,z2,z3⟩:=z;dsimp only;refine ao (eF (ao (eF (ar ⟨lo+n,q'++[(z1,z2,pw),(lo,n,0)],rfl,⟨pv.perm,pv.kind,pv.failed⟩,?_,?_,#[O],#[O]⟩))))
   ·show ((pendingOf lR).modify ((pendingOf lR).size - 1) fun x=>(x.fst,x.2.fst,pw)).push (lo,n,0)=_;rw [mR,zi4];simp
   ·show Runs val (arrOf lR) _ _ _;obtain⟨mid,r1,r2⟩:=Runs.append.mp qM;obtain⟨e1,e2,e3,e4⟩:=r2;have e4:mid+z2=lo:=e4;refine Runs.append.mpr ⟨mid,r1,e1,e2,e3,e4.symm,pH,?_,?_⟩
    ·intro i j a1 a2 a3;rw [zU (nK i #[O]),zU (nK j #[O])];exact pj i j #[O] a2 #[O]
    ·show mid+z2+n=lo+n;lia
 case post =>
  rintro c n5 ⟨p,rfl,qL,oK,vq⟩;dsimp only;have nq:=vq.le;refine ao (c8 (cq (I:=fun x c kQ=>c=(none,())∧∃ p,SB κ a₀ kQ∧pendingOf kQ=p.toArray∧Runs val (arrOf kQ) p 0 a₀.size∧p.length≤max 1 (a₀.size - x))
   (Q:=fun c kQ=>c=(none,())∧SB κ a₀ kQ∧SIn val (arrOf kQ) 0 a₀.size) ?_ ?_ ⟨rfl,p,qL,oK,vq,#[O]⟩) ?_)
  ·rintro x c lR _ hx ⟨rfl,p2,pv,mR,qM,rV⟩;refine ao (fj ?_);have hsz:(pendingOf lR).size=p2.length:=by rw [mR]; simp
   rw [hsz];by_cases hle:p2.length≤1
   ·rw [if_pos hle];exact ar ⟨rfl,pv,zgY hle h2 qM⟩
   rw [if_neg hle];refine ao (zi5 (p:=p2) (zkk hle) hC pv mR qM (ag _) fun xV p3 AH rH AI hl3=>?_);rw [if_neg #[D]];exact ar ⟨rfl,p3,AH,rH,AI,#[O]⟩
  ·rintro c lR ⟨rfl,p2,pv,mR,qM,rV⟩;exact⟨rfl,pv,zgY #[O] h2 qM⟩
  ·rintro c lR ⟨rfl,pv,hS⟩;exact ar (h lR pv hS)
end
end Srt
end
section
namespace Srt
open PySem PyProof.Rows
def num (B:Int):List Int→Int
 | []=>0
 | n :: r=>n*B ^ r.length+num B r
theorem num_rng {B:Int} (hB:1≤B):∀ {ns:List Int},(∀ n∈ns,0≤n∧n < B)→0≤num B ns∧num B ns < B ^ ns.length
 | [],_=>by simp [num]
 | n :: r,h=>by
  obtain⟨h1,h2⟩:=num_rng hB (ns:=r) fun m hm=>h m (av _ hm)
  obtain⟨a,b⟩:=h n #[M];have hp:0 < B ^ r.length:=Int.pow_pos #[O];have e:B ^ (n :: r).length=B ^ r.length*B:=by rw [bM,jB]
  show 0≤n*B ^ r.length+num B r∧n*B ^ r.length+num B r < _;rw [e];have h3:0≤n*B ^ r.length:=Int.mul_nonneg a #[O];have h4:n*B ^ r.length≤(B - 1)*B ^ r.length:=cW #[O] #[O];have h5:(B - 1)*B ^ r.length=B ^ r.length*B - B ^ r.length:=by rw [Int.sub_mul,Int.one_mul,jC]
  lia
def zfC:List Int→List Int→Bool
 | [],[]=>false
 | [],_ :: _=>true
 | _ :: _,[]=>false
 | x :: xs,y :: ys=>if x=y then zfC xs ys else decide (x < y)
theorem zbY (x y:Int) (xs ys:List Int):zfC (x :: xs) (y :: ys)=if x=y then zfC xs ys else decide (x < y):=rfl
theorem zgZ {B:Int} (hB:1≤B):∀ {ms ns:List Int},ms.length=ns.length→(∀ n∈ms,0≤n∧n < B)→(∀ n∈ns,0≤n∧n < B)→zfC ms ns=decide (num B ms < num B ns)
 | [],[],_,_,_=>by simp [zfC,num]
 | [],_ :: _,h,_,_=>by simp at h
 | _ :: _,[],h,_,_=>by simp at h
 | m :: ms,n :: ns,hl,h1,h2=>by
  have sU:ms.length=ns.length:=by simpa using hl
  have ih:=zgZ hB sU (fun x hx=>h1 x (av _ hx)) (fun x hx=>h2 x (av _ hx));obtain⟨a1,a2⟩:=num_rng hB fun x hx=>h1 x (av m hx)
  obtain⟨b1,b2⟩:=num_rng hB fun x hx=>h2 x (av n hx)
  rw [zbY];show _=decide (m*B ^ ms.length+num B ms < n*B ^ ns.length+num B ns);rw [sU] at a2 ⊢;have hp:0 < B ^ ns.length:=Int.pow_pos #[O];by_cases e:m=n
  ·rw [if_pos e,ih,e];rw [cg];simp only [decide_eq_true_eq];lia
  ·rw [if_neg e,cg];simp only [decide_eq_true_eq];have key:∀ x y:Int,x < y→x*B ^ ns.length+B ^ ns.length≤y*B ^ ns.length:=fun x y hxy=>by
    have:=cW (show x+1≤y by lia) (show 0≤B ^ ns.length by lia);rw [Int.add_mul,Int.one_mul] at this;exact this
   constructor
   ·intro h;have:=key m n h;lia
   ·intro h;rcases jL m n with h3 | h3 | h3
    ·exact h3
    ·exact absurd h3 e
    ·have:=key n m h3;lia
section
variable {prog:Program} {w:World} {A:Around} {E:Value→Shared→Prop} {s:Shared}
theorem zg0 {Q:Bool→Shared→Prop} {fin:Bool}:∀ {xs ys:List Value} {ms ns:List Int} (i:Nat),IntsAre xs ms→IntsAre ys ns→ms.length=ns.length→Q (if ms=ns then fin else zfC ms ns) s→PySem.W.KatLex prog w A true fin Q (xs.zip ys) i s
 | [],[],[],[],i,_,_,_,h=>PySem.W.kat_nil (by simpa using h)
 | _ :: _,_,[],_,_,hx,_,_,_=>by cases hx
 | [],_,_ :: _,_,_,hx,_,_,_=>by cases hx
 | _,[],_,_ :: _,_,_,hy,_,_=>by cases hy
 | _,_ :: _,_,[],_,_,hy,_,_=>by cases hy
 | x :: xs,y :: ys,m :: ms,n :: ns,i,hx,hy,hl,h=>by
  cases hx with
  | cons _ t hx =>
   cases hy with
   | cons _ u hy =>
    refine PySem.W.kat_cons (wpAny_eqBool_int ?_);by_cases e:m=n
    ·rw [show (m == n)=true by simpa using e];refine PySem.W.kat_yes (zg0 (i+1) hx hy (by simpa using hl) ?_);subst e;rw [zbY,if_pos rfl] at h;simpa using h
    ·rw [show (m == n)=false by simpa using e];have k4:¬ (m :: ms=n :: ns):=fun z=>e (List.cons.inj z).1
     rw [if_neg k4,zbY,if_neg e] at h;refine PySem.W.kat_no ?_;by_cases hi:i=0
     ·subst hi;exact oneLt_int h
     ·have hb:(true && i == 0)=false:=by simp [hi]
      rw [hb];exact PySem.W.kat_one _ _ (wpAny_lt_int h)
end
end Srt
end
section
namespace PySem
open PyProof.Rows
end PySem
end
section
namespace Srt
open PySem PyProof.Rows
section
variable {prog:Program} {w:World} {A:Around} {E:Value→Shared→Prop} {s:Shared} {κ:SortKind} {val:Keyed→Int}
theorem zcK {vs:List Value} {p:Keyed} (h:p∈(pairsOf vs).toList):p.1∈vs∧p.2=p.1:=by
 rw [iP] at h;obtain⟨i,hi,e⟩:=dJ h;rw [List.getElem_zip] at e;rw [← e];exact⟨c9 _,rfl⟩
theorem zlz {vs:List Value} {xs:Array Keyed} (hp:xs.Perm (pairsOf vs)) (hs:SIn val xs 0 (pairsOf vs).size):(xs.map (·.2)).toList.Perm vs∧(xs.map (·.2)).toList.Pairwise fun x y=>val (x,x)≤val (y,y):=by
 (have hl:xs.toList.Perm (vs.zip vs):=by rw [← iP]; exact eM.mp hp)
 have hm:∀ p∈xs.toList,p=(p.2,p.2):=fun p pf=>by
  have:=zcK (by rw [iP]; exact hl.mem_iff.mp pf);exact kK this.2.symm rfl
 constructor
 ·rw [g5];refine (hl.map (·.2)).trans ?_;rw [show (vs.zip vs).map (·.2)=vs from List.map_snd_zip (ag _)]
 ·rw [g5,cF,du];intro i j hi hj mE
  (have lA:i < xs.size:=by simpa using hi)
  (have mS:j < xs.size:=by simpa using hj)
  have h1:=hs i j (bj _) #[O] (by rw [← hp.size_eq]; exact mS);rw [zH (getElem?_pos xs i lA),zH (getElem?_pos xs j mS)] at h1;have e1:=hm xs.toList[i] (c9 _);have e2:=hm xs.toList[j] (c9 _);rw [← e1,← e2];simpa using h1
theorem zhT {a:Addr} {vs:List Value} {n:Nat} {P:PySem.Fin→Shared→Prop} (ho:s.heap.get? a=some (seqObj "list" vs.toArray n)) (kS:vs.length≤sizeLine)
  (n8:∀ h',(∀ b o,b≠a→s.heap.get? b=some o→h'.get? b=some o)→2≤vs.length→∀ (Q:SortKind→Shared→Prop) (E:Value→Shared→Prop),Q κ { s with heap:=h' }→wpAny (model prog w) A (keyKind' vs.toArray) Q E { s with heap:=h' })
  (oh:∀ h',(∀ b o,b≠a→s.heap.get? b=some o→h'.get? b=some o)→Cmp prog w A { s with heap:=h' } κ val (pairsOf vs))
  (h:∀ out:Array Value,out.toList.Perm vs→(out.toList.Pairwise fun x y=>val (x,x)≤val (y,y))→P (.done (.ret .none)) { s with heap:=sortedHeap s.heap a vs out }):wpAny (model prog w) A (Builtin.«list.sort» ⟨[.ref a],[]⟩) P E s:=by
 rw [list_sort_plain]
 (have ha:a < s.heap.objs.size:=aE ho)
 have hz:vs.toArray.size=vs.length:=ai;refine ae (listItems_at ho rfl (ae (jd ho rfl ?_ (hsz:=by rw [hz]; exact kS))))
 (obtain⟨e1,tI⟩:∃ e1,(s.heap.update a (cT fun _=>#[])).get? a=some (seqObj "list" #[] e1):=⟨_,get?_update_seq ho (fun _=>#[])⟩)
 refine ae (jR tI rfl (ae (wpAny_newTuple (ae (wpAny_newList (bK ?_))) (hsz:=kS))));have yb:(((s.heap.update a (cT fun _=>#[])).push (seqObj "tuple" vs.toArray 0)).push (seqObj "list" #[] 0)).get? a=some (seqObj "list" #[] e1):=am _ (am _ tI);have hk6:∀ b o,b≠a→s.heap.get? b=some o→(((s.heap.update a (cT fun _=>#[])).push (seqObj "tuple" vs.toArray 0)).push (seqObj "list" #[] 0)).get? b=some o:=fun b o hb e=>am _ (am _ ((jm _ _ _ _ hb).trans e))
 (show wpAny (model prog w) A _ P E { s with heap:=((s.heap.update a (cT fun _=>#[])).push (seqObj "tuple" vs.toArray 0)).push (seqObj "list" #[] 0) })
 dsimp only;have hcm:=oh _ hk6;have fin:∀ kQ:SortSt,SB κ (pairsOf vs) kQ∨(arrOf kQ=pairsOf vs∧failedOf kQ=none)→SIn val (arrOf kQ) 0 (pairsOf vs).size →
   P (.done (.ret .none)) { s with heap:=sortedHeap s.heap a vs ((arrOf kQ).map (·.2)) }:=fun kQ hB hs=>by
  have hp:(arrOf kQ).Perm (pairsOf vs):=by
   rcases hB with hB | hB
   ·exact hB.perm
   ·rw [hB.1]
  obtain⟨b1,b2⟩:=zlz hp hs;exact h _ b1 b2
 (by_cases h2:vs.toArray.size < 2)
 ·rw [if_pos h2,if_pos h2];refine ae (aj ?_); rw [StateT.run_pure]; refine ae (aj ?_);dsimp only;refine ae (jR yb rfl (ae (jd yb rfl ?_ (hsz2:=by rw [km]; show (pairsOf vs).size≤_; rw [g6]; lia))))
  (simp only [bne_self_eq_false,aO,if_false])
  refine aj (fin (ke general' (vs.toArray.zip vs.toArray) #[] 7 none) (.inr ⟨rfl,rfl⟩) fun i j _ mE hj=>?_);have e:i=j:=by rw [g6] at hj; lia
  rw [e];exact bF _
 ·rw [if_neg h2,if_neg h2];refine ae (n8 _ hk6 #[O] _ _ ?_);refine ae (cA (zly (a₀:=pairsOf vs) (κ:=κ) (val:=val) (st:=ke κ (vs.toArray.zip vs.toArray) #[] 7 none) (Q:=fun _ kQ=>SB κ (pairsOf vs) kQ∧SIn val (arrOf kQ) 0 (pairsOf vs).size)
   hcm ⟨Array.Perm.refl _,rfl,rfl⟩ rfl (by rw [g6]; lia) fun kQ a1 a2=>⟨a1,a2⟩) ?_ fun _ _ e=>e)
  rintro⟨⟨⟩,kQ⟩ s' ⟨rfl,hB,hs⟩;dsimp only;refine ae (jR yb rfl (ae (jd yb rfl ?_ (hsz2:=bd (Nat.le_of_eq ((km ..).trans (hB.perm.size_eq.trans (g6 _)))) #[O]))));rw [hB.failed]
  (simp only [bne_self_eq_false,aO,if_false])
  exact aj (fin kQ (.inl hB) hs)
theorem zhU {v:Value} {vs:List Value} {Q:Value→Shared→Prop} (kS:vs.length≤sizeLine)
  (AJ:∀ R:List Value→Shared→Prop,(∀ (h':Heap) (tk:Nat),(∀ b o,s.heap.get? b=some o→h'.get? b=some o)→R vs { s with heap:=h',toks:=tk })→wpAny (model prog w) A.in1 (collect v) R E s)
  (n8:∀ s',(∀ b o,s.heap.get? b=some o→s'.heap.get? b=some o)→2≤vs.length→∀ (A':Around) (Q:SortKind→Shared→Prop) (E:Value→Shared→Prop),Q κ s'→wpAny (model prog w) A' (keyKind' vs.toArray) Q E s')
  (oh:∀ s' A',(∀ b o,s.heap.get? b=some o→s'.heap.get? b=some o)→Cmp prog w A' s' κ val (pairsOf vs))
  (h:∀ (h':Heap) (tk:Nat) (out:Array Value) (e:Nat) (D:Addr),(∀ b o,s.heap.get? b=some o→h'.get? b=some o)→(∀ b o,s.heap.get? b=some o→b < D)→h'.get? D=some (seqObj "list" out e)→out.toList.Perm vs→(out.toList.Pairwise fun x y=>val (x,x)≤val (y,y))→Q (.ref D) { s with heap:=h',toks:=tk }) :
  wpAny (model prog w) A (call (.builtin "sorted") [v]) Q E s:=by
 refine Calls.call_function_entry kind_sorted plain_sorted entry_sorted (args_sorted1 _) ?_; unfold Builtin.«sorted»;refine ae (m:=checkCount "sorted" 1 1 _) (aj (ae (cA (AJ (fun us s'=>us=vs∧∃ (h':Heap) (tk:Nat),s' = { s with heap:=h',toks:=tk }∧∀ b o,s.heap.get? b=some o→h'.get? b=some o) fun h' tk k=>⟨rfl,h',tk,rfl,k⟩) ?_ fun _ _ e=>e)));rintro us s' ⟨rfl,h1,tk,rfl,kk⟩;refine ae (wpAny_newList ?_ (hsz:=kS));have vN:(h1.push (seqObj "list" us.toArray 0)).get? h1.objs.size=some (seqObj "list" us.toArray 0):=aK _ rfl;have kn:∀ b o,s.heap.get? b=some o→b≠h1.objs.size:=fun b o e=>a8 (aE (kk b o e))
 refine ae (bK (cn slot_list_sort ⟨_,vN,rfl⟩ entry_list_sort (zhT (κ:=κ) (val:=val) vN kS (fun h' hk h2 Q E hq=>n8 _ (fun b o e=>hk b o (kn b o e) (am _ (kk b o e))) h2 _ Q E hq) (fun h' hk=>oh _ _ fun b o e=>hk b o (kn b o e) (am _ (kk b o e))) fun out a1 a2=>⟨_,rfl,?_⟩) (args_list_sort _)));obtain⟨e,he⟩:=sortedHeap_at (out:=out) vN;refine aj ⟨_,rfl,h _ tk out e h1.objs.size (fun b o x=>?_) (fun b o x=>aE (kk _ _ x)) he a1 a2⟩;rw [sortedHeap_old (kn b o x) (by rw [bJ]; exact cZ (aE (kk _ _ x)))];exact am _ (kk _ _ x)
end
end Srt
end
section
namespace L2
open PySem PySem.Spec PyProof.Rows PySem.Builtin.Str
theorem Inv.above {X:Cx} {kN:List (Addr×Obj)} {σ:St} {H:Hp} {s:Shared} {h':Heap} {tk:Nat} {D:Addr} {o:HO} (I:Inv X kN σ H s) (k:∀ b o,s.heap.get? b=some o→h'.get? b=some o) (hD:∀ b o,s.heap.get? b=some o→b < D)
  (new:zai X.prog X.w (kR H D o) h' D o):H D=none∧Inv X kN σ (kR H D o) { s with heap:=h',toks:=tk }:=by
 have hn:H D=none:=by
  cases e:H D with
  | none=>rfl
  | some u =>
   obtain⟨ob,z⟩:=zlw (I.hok D u e);exact absurd (hD D ob z) (bQ _)
 have hL:X.env.locals < D:=by
  obtain⟨m,⟨o,es,ep,ho,_⟩,_⟩:=I.loc;exact hD _ _ ho
 have I1:Inv X kN σ H { s with heap:=h',toks:=tk }:=I.kept k;refine⟨hn,I1.track hn (gQ (jD I.ok.above hL)) (a8 hL) (fun x c e z=>?_) (fun p hp z=>?_) new⟩
 ·obtain⟨v,oc,q,_⟩:=I.cell x c e;exact absurd (hD c oc q) (by rw [z]; exact bQ _)
 ·exact absurd (hD p.1 _ (I.pin p hp).1) (by rw [z]; exact bQ _)
end L2
end
section
namespace L2
open PySem PySem.Spec PyProof.Rows Srt
def zi6 (xs:List V):List Int:=xs.filterMap fun x=>match x with
 | .int n=>some n
 | _=>none
theorem zhV (ns:List Int):zi6 (ns.map V.int)=ns:=by
 unfold zi6;rw [eY];induction ns with
 | nil=>rfl
 | cons n ns ih =>
  rw [cI];simp only [kA];rw [ih]
def zcu (H:Hp) (v:Value):List Int:=match v with
 | .ref a=>(match H a with
  | some (.tup xs)=>zi6 xs
  | _=>[])
 | _=>[]
theorem zdz {H:Hp} {a:Addr} {ns:List Int} (h:H a=some (.tup (ns.map V.int))):zcu H (.ref a)=ns:=by
 unfold zcu;simp only [h];exact zhV ns
def zkl (H:Hp) (k:Nat) (B:Int) (ps:List (Addr×List Int)):Prop:=∀ q∈ps,H q.1=some (.tup (q.2.map V.int))∧q.2.length=k∧∀ n∈q.2,0≤n∧n < B
theorem zen:∀ {ps:List (Addr×List Int)} {us:List Value},zw (ps.map fun q=>V.ref q.1) us→us=ps.map fun q=>aZ q.1
 | [],_,r=>by cases r; rfl
 | q :: ps,_,r=>by
  cases r with
  | cons r1 r2 =>
   cases r1;rw [zen r2];rfl
theorem zcv:∀ (ps:List (Addr×List Int)),zw (ps.map fun q=>V.ref q.1) (ps.map fun q=>aZ q.1)
 | []=>.nil
 | q :: ps=>.cons rfl (zcv ps)
section
variable {X:Cx} {kN:List (Addr×Obj)} {σ:St} {H:Hp} {s:Shared} {k:Nat} {B:Int} {ps:List (Addr×List Int)}
theorem zeV (I:Inv X kN σ H s) {q:Addr×List Int} (h:H q.1=some (.tup (q.2.map V.int))):∃ o kO n,s.heap.get? q.1=some o∧o.cls = .type "tuple"∧o.data = .seq kO n∧IntsAre kO.toList q.2:=by
 obtain⟨kO,r,⟨o,ho,hc,n,hd⟩,hz⟩:=I.tuple (kT.of h);exact⟨o,kO.toArray,n,ho,hc,hd,by simpa using intsAre_of r⟩
theorem zlA (I:Inv X kN σ H s) (hT:zkl H k B ps) (hk:1≤k) {s':Shared} (kk:∀ b o,s.heap.get? b=some o→s'.heap.get? b=some o):∃ fs:List Value,PySem.W.KatTups s'.heap (ps.map fun q=>aZ q.1) fs∧fs.length=ps.length∧∀ v∈fs,∃ n t,v=fQ n t:=by
 induction ps with
 | nil=>exact⟨[],trivial,rfl,fun v hv=>by cases hv⟩
 | cons q ps ih =>
  obtain⟨fs,h1,h2,h3⟩:=ih fun q' oM=>hT q' (av _ oM)
  obtain⟨hq,hl,_⟩:=hT q #[M];obtain⟨o,kO,n,ho,hc,hd,hi⟩:=zeV I hq;have kS:=hi.length;obtain⟨m,ms,e⟩:∃ m ms,q.2=m :: ms:=by
   cases e:q.2 with
   | nil=>rw [e] at hl; simp at hl; lia
   | cons m ms=>exact⟨m,ms,rfl⟩
  rw [e] at hi;cases e2:kO.toList with
  | nil=>rw [e2] at hi; cases hi
  | cons f fr =>
   rw [e2] at hi;cases hi with
   | cons _ t hi =>
    refine⟨.int m t :: fs,kM (kk _ _ ho) hc hd ?_ h1,by simp [h2],fun v hv=>?_⟩
    ·rw [← be,e2];rfl
    ·rcases (aN.mp hv) with rfl | hv
     ·exact⟨m,t,rfl⟩
     ·exact h3 v hv
theorem zeo:∀ ms:List Int,zfC ms ms=false
 | []=>rfl
 | m :: ms=>by rw [zbY,if_pos rfl,zeo ms]
theorem zlB (I:Inv X kN σ H s) (hT:zkl H k B ps) (hB:1≤B) {s':Shared} {A':Around} (kk:∀ b o,s.heap.get? b=some o→s'.heap.get? b=some o) :
  Cmp X.prog X.w A' s' (tuples' true) (fun p=>num B (zcu H p.1)) (pairsOf (ps.map fun q=>aZ q.1)):=by
 intro x y hx hy Q E hQ;obtain⟨qx,mx,ex⟩:=aJ.mp (zcK hx).1;obtain⟨qy,my,ey⟩:=aJ.mp (zcK hy).1;obtain⟨qf,qJ,hx3⟩:=hT qx mx;obtain⟨hy1,yc,hy3⟩:=hT qy my;obtain⟨ox,ix,nx,gx,cx,dx,ax⟩:=zeV I qf;obtain⟨oy,iy,ny,gy,cy,dy,ay⟩:=zeV I hy1;have ev:decide ((fun p:Keyed=>num B (zcu H p.1)) x < (fun p:Keyed=>num B (zcu H p.1)) y)=zfC qx.2 qy.2:=by
  rw [zgZ hB (qJ.trans yc.symm) hx3 hy3,← zdz qf,← zdz hy1];simp only [ex,ey]
 rw [ev] at hQ;rw [← ex,← ey];refine PySem.W.kat_lt (kk _ _ gx) dx (kk _ _ gy) dy (zg0 0 ax ay (qJ.trans yc.symm) ?_);have hsz:decide (ix.size < iy.size)=false:=by
  have e1:=ax.length;have e2:=ay.length;rw [aG] at e1 e2;exact decide_eq_false #[O]
 rw [hsz];by_cases e:qx.2=qy.2
 ·rw [if_pos e];rw [e,zeo] at hQ;exact hQ
 ·rw [if_neg e];exact hQ
theorem zi7 (hT:zkl H k B ps) {out:Array Value} (hp:out.toList.Perm (ps.map fun q=>aZ q.1)) (hs:out.toList.Pairwise fun x y=>num B (zcu H x)≤num B (zcu H y)) :
  ∃ mo:List (Addr×List Int),mo.Perm ps∧(mo.Pairwise fun a b=>num B a.2≤num B b.2)∧out.toList=mo.map fun q=>aZ q.1:=by
 let g:Value→Addr×List Int:=fun v=>match v with
  | .ref a=>(a,zcu H (.ref a))
  | _=>(0,[])
 have hg:∀ q∈ps,g (.ref q.1)=q:=fun q hq=>kK rfl (zdz (hT q hq).1)
 have hv:∀ v∈out.toList,∃ q∈ps,v = .ref q.1:=fun v hv=>by
  obtain⟨q,hq,e⟩:=aJ.mp (hp.mem_iff.mp hv);exact⟨q,hq,e.symm⟩
 refine⟨out.toList.map g,?_,?_,?_⟩
 ·refine (hp.map g).trans ?_;rw [dD];have:ps.map (g ∘ fun q=>aZ q.1)=ps:=by
   conv=>rhs; rw [← List.map_id ps]
   exact eP fun q hq=>hg q hq
  rw [this]
 ·rw [cF];refine g7 (fun {x y} hx hy h=>?_) hs;obtain⟨q,hq,rfl⟩:=hv x hx;obtain⟨q',oM,rfl⟩:=hv y hy;exact h
 ·rw [dD]
  conv=>lhs; rw [← List.map_id out.toList]
  refine eP fun v vt=>?_
  obtain⟨q,hq,rfl⟩:=hv v vt;rfl
end
theorem zhW {M:Model} {h:Heap} {n:Int} {t:Tok}:PySem.W.Looks M h (typeOf (.int n t)) (.type "int"):=PySem.W.Looks.of_pure rfl
theorem zbt {X:Cx}:zaD X (.builtin "sorted") (fun xs H Q=>∃ (p:Addr) (k:Nat) (B:Int) (ps:List (Addr×List Int)),xs = [.ref p]∧kP X.K H p (ps.map fun q=>V.ref q.1)∧zkl H k B ps∧1≤k∧1≤B ∧
  ∀ (l:Addr) (mo:List (Addr×List Int)),H l=none→mo.Perm ps→(mo.Pairwise fun a b=>num B a.2≤num B b.2)→Q (.ref l) (kR H l (.lst (mo.map fun q=>V.ref q.1)))):=by
 intro kN s σ H xs us Q I r h;obtain⟨p,k,B,ps,rfl,hq,hT,hk,hB,q⟩:=h;obtain⟨u,rfl,rx⟩:=vals1 r;cases rx;obtain⟨kO,rv,pl,hz⟩:=I.list hq;have ev:=zen rv;subst ev;rw [ab] at hz;refine zhU (vs:=ps.map fun q=>aZ q.1) (κ:=tuples' true) (val:=fun p=>num B (zcu H p.1)) (by rw [ab]; exact hz) (fun R hR=>?_) (fun s' kk h2 A' Q' E' oM=>?_) (fun s' A' kk=>zlB I hT hB kk) fun h' tk out e D kk hD AK hp hs=>?_
 ·exact collect_list pl.isList (hR _ _ fun b o e=>(jm _ _ _ _ (a8 (aE e))).trans (am _ e)) (by rw [ab]; exact hz)
 ·obtain⟨fs,k1,k2,k3⟩:=zlA I hT hk kk;exact PySem.W.kat_kind (T:=.type "int") k1 (by rw [ab] at h2; lia) (fun v hv=>by obtain⟨n,t,rfl⟩:=k3 v hv; exact zhW) rfl oM
 ·obtain⟨mo,p1,p2,p3⟩:=zi7 hT hp hs;have hl:=p1.length_eq;obtain⟨hn,I2⟩:=I.above (tk:=tk) (D:=D) (o:=.lst (mo.map fun q=>V.ref q.1)) kk hD ⟨by rw [ab]; lia,mo.map fun q=>aZ q.1,e,zcv mo,by rw [← p3]; exact AK⟩;exact⟨.ref D,_,I2,rfl,q D mo hn p1 p2⟩
end L2
end
section
namespace L2
open PySem PySem.Spec PyProof.Rows
section
variable {X:Cx} {elt t1 i1 t2 i2:Expr} {f1 f2:List Expr} {scope:Scope} {pos:Pos} {N':List Str} {ix:List (Option Nat)} {vw sv:List Nat} {g1 g2:TG} {yd vx:TT} {te:TE} {wB uz:TI}
theorem zi8 (hc:X.calm=true) (wC:GS sv g2) (vy:∀ s₃ H₃ ex kN,PI (zr X N' scope s₃ H₃ ex kN) t2 i2 uz)
  (tK:∀ s₃ H₃ ex kN,PG (zr X N' scope s₃ H₃ ex kN) t2 g2) (wD:∀ s₃ H₃ ex kN,zcl (zr X N' scope s₃ H₃ ex kN) f2 vx) (he:∀ s₃ H₃ ex kN,PE (zr X N' scope s₃ H₃ ex kN) elt te)
  (pj:∀ s₃ H₃ ex kN x,foldedSetIterable i2 (zr X N' scope s₃ H₃ ex kN).env x=pure x) :
  ∀ s₃ H₃ ex kN D,PM (zr X N' scope s₃ H₃ ex kN) D sv ((fun D env=>zgM (.ListComp elt [⟨t1,i1,f1,0⟩,⟨t2,i2,f2,0⟩] scope pos) i2 1 (.ref D) env) D (zr X N' scope s₃ H₃ ex kN).env) (zgO uz g2 vx (zgN te)):=by
 intro s₃ H₃ ex kN D;have h:=zlo (Y:=zr X N' scope s₃ H₃ ex kN) (D:=D) (js:=sv) (js':=[]) (elt:=elt) (gens:=[⟨t1,i1,f1,0⟩,⟨t2,i2,f2,0⟩]) (scope:=scope) (pos:=pos) (d:=1) (p:=i2.pos) hc rfl wC (fun _ _ z=>by cases z) (vy s₃ H₃ ex kN) (tK s₃ H₃ ex kN) (wD s₃ H₃ ex kN) (zgc rfl (he s₃ H₃ ex kN)) rfl (fun it=>zlp it D _) (pj s₃ H₃ ex kN);rw [ci] at h;exact h
theorem zkm (SC:CompSc X N' ix scope) (hc:X.calm=true) (AM:GS vw g1) (wC:GS sv g2) (mB:∀ j∈vw,j∉sv) (qB:∀ j∈vw++sv,ix[j]? = some none) (ye:PI X t1 i1 wB)
  (tL:∀ s₃ H₃ ex kN,PG (zr X N' scope s₃ H₃ ex kN) t1 g1) (AN:∀ s₃ H₃ ex kN,zcl (zr X N' scope s₃ H₃ ex kN) f1 yd) (vy:∀ s₃ H₃ ex kN,PI (zr X N' scope s₃ H₃ ex kN) t2 i2 uz)
  (tK:∀ s₃ H₃ ex kN,PG (zr X N' scope s₃ H₃ ex kN) t2 g2) (wD:∀ s₃ H₃ ex kN,zcl (zr X N' scope s₃ H₃ ex kN) f2 vx) (he:∀ s₃ H₃ ex kN,PE (zr X N' scope s₃ H₃ ex kN) elt te)
  (hs:∀ x,foldedSetIterable i1 X.env x=pure x:=by intro _; rfl) (pj:∀ s₃ H₃ ex kN x,foldedSetIterable i2 (zr X N' scope s₃ H₃ ex kN).env x=pure x:=by intros; rfl) :
  PE X (.ListComp elt [⟨t1,i1,f1,0⟩,⟨t2,i2,f2,0⟩] scope pos) (zeI ix wB g1 yd (zgO uz g2 vx (zgN te))) :=
 zfl SC hc AM mB qB ye tL AN (zi8 hc wC vy tK wD he pj) (fun it D env=>ziI it D env) hs
theorem zgi {i:Nat} {x:Str} {pos' mU:Pos} (hN:X.N.Nodup) (vY:X.N[i]? = some x) (hx:Loc X.env.scope x) (SC:CompSc X N' ix scope) (hc:X.calm=true) (AM:GS vw g1) (wC:GS sv g2) (mB:∀ j∈vw,j∉sv) (qB:∀ j∈vw++sv,ix[j]? = some none) (ye:PI X t1 i1 wB)
  (tL:∀ s₃ H₃ ex kN,PG (zr X N' scope s₃ H₃ ex kN) t1 g1) (AN:∀ s₃ H₃ ex kN,zcl (zr X N' scope s₃ H₃ ex kN) f1 yd) (vy:∀ s₃ H₃ ex kN,PI (zr X N' scope s₃ H₃ ex kN) t2 i2 uz)
  (tK:∀ s₃ H₃ ex kN,PG (zr X N' scope s₃ H₃ ex kN) t2 g2) (wD:∀ s₃ H₃ ex kN,zcl (zr X N' scope s₃ H₃ ex kN) f2 vx) (he:∀ s₃ H₃ ex kN,PE (zr X N' scope s₃ H₃ ex kN) elt te)
  (vZ:swapsWith (.ListComp elt [⟨t1,i1,f1,0⟩,⟨t2,i2,f2,0⟩] scope pos) (some (.Name x pos')) mU.line X.env=pure true:=by rfl)
  (hs:∀ x,foldedSetIterable i1 X.env x=pure x:=by intro _; rfl) (pj:∀ s₃ H₃ ex kN x,foldedSetIterable i2 (zr X N' scope s₃ H₃ ex kN).env x=pure x:=by intros; rfl) (hf:X.fn x=true∨X.env.scope.names.lookup x=some .local:=by first | exact .inl rfl | exact .inr rfl | assumption) :
  PS X (.Assign [.Name x pos'] (.ListComp elt [⟨t1,i1,f1,0⟩,⟨t2,i2,f2,0⟩] scope pos) mU) (zf3 (zeI ix wB g1 yd (zgO uz g2 vx (zgN te))) (zaI i)) :=
 zcP hN vY hx SC hc AM mB qB ye tL AN (zi8 hc wC vy tK wD he pj) (fun it D env=>ziI it D env) vZ hs hf
end
theorem zg1 {J:It} {n:Nat} {g:TG} {ts:TT} {tm:TM} {σ0:St} {Q:List V→Hp→Prop} {ys:List V} {H:Hp} (Pv:Nat→List V→Hp→Prop) (h0:Pv 0 ys H) (ue:∀ i ys H,i < n→Pv i ys H→J.go i H) (lG:∀ ys H,Pv n ys H→J.stop n H)
  (hs:∀ i x ys H H',i < n→Pv i ys H→J.yld i H x H'→g x σ0 H' fun σ2 H2=>ts σ2 H2 fun b H3=>if b=true then tm ys σ2 H3 (Pv (i+1)) else Pv (i+1) ys H3)
  (hd:∀ ys H,Pv n ys H→Q ys H):cIn g ts tm σ0 J Q ys H:=by
 refine⟨fun i m ys H=>m=n - i∧i≤n∧Pv i ys H,⟨n,#[M],bj _,h0⟩,?_⟩;rintro i m ys H ⟨rfl,hi,p⟩;by_cases kX:i < n
 ·exact .inr ⟨ue i ys H kX p,Pv (i+1),fun n9 H' p'=>⟨n - (i+1),#[O],rfl,kX,p'⟩,fun x H' y=>hs i x ys H H' kX p y⟩
 ·have e:i=n:=by lia
  subst e;exact .inl ⟨lG ys H p,hd ys H p⟩
def zlC (sc:Scope) (x:Str):Bool:=match sc.names.lookup x with
 | some .local=>true
 | some .cell=>true
 | some .free=>true
 | _=>false
theorem zkn {sc:Scope} {x:Str} (h:zlC sc x=true):Vis sc x:=by
 unfold zlC at h;unfold Vis;cases e:sc.names.lookup x with
 | none=>rw [e] at h; cases h
 | some k=>cases k <;> simp_all
def pvB (N:List Str) (sc:Scope) (i:Nat) (x:Str):Bool:=decide (N[i]? = some x) && zlC sc x && !(x == ("__debug__" : Str)) && !(x == ("__classdict__" : Str))
theorem pvx {X:Cx} (i:Nat) {x:Str} {pos:Pos} (h:pvB X.N X.env.scope i x=true):PE X (.Name x pos) (zl0 i):=by
 unfold pvB at h;simp only [cc,Bool.not_eq_true',decide_eq_true_eq] at h;exact zk7 h.1.1.1 (zkn h.1.1.2) h.1.2 h.2
end L2
end
section
namespace My
open PySem L2 PyProof.Rows
theorem zhX {α β:Type} {f:α→List β} {l:List α} {i:Nat} {c:α} (hc:l[i]? = some c):(l.take (i+1)).flatMap f=(l.take i).flatMap f++f c:=by
 rw [take_snoc hc,jn,gJ,List.flatMap_nil,ci]
theorem Paired.get {α β:Type} {F:α→β→Prop}:∀ {l₁:List α} {l₂:List β},Paired F l₁ l₂→∀ {i:Nat} {a:α},l₁[i]? = some a→∃ b,l₂[i]? = some b∧F a b
 | _,_,.nil,i,a,h=>by simp at h
 | _,_,.cons r t,0,a,h=>by
  (simp only [ie,jM] at h)
  subst h;exact⟨_,rfl,r⟩
 | _,_,.cons r t,i+1,a,h=>by
  rw [dL] at h;obtain⟨b,hb,f⟩:=Paired.get t h;exact⟨b,by rw [dL]; exact hb,f⟩
def quo (p r:Int):List Int→List Int
 | []=>[]
 | [_]=>[]
 | _ :: d :: cs=>zap p r (d :: cs) :: quo p r (d :: cs)
theorem zg2 (p r:Int):∀ (c:Int) (cs:List Int),(quo p r (c :: cs)).length=cs.length
 | _,[]=>rfl
 | _,d :: cs=>by
  show (quo p r (d :: cs)).length+1=cs.length+1;rw [zg2 p r d cs]
theorem zi9 {p r x:Int}:∀ d:List Int,Cg p (zap p x d - zap p r d) ((x - r)*zap p x (quo p r d))
 | []=>Cg.of_eq (by show (0:Int) - 0=(x - r)*0; lia)
 | [c]=>by
  have h1:Cg p (zap p x [c]) (c+x*0):=zay p x c [];have h2:Cg p (zap p r [c]) (c+r*0):=zay p r c [];refine (h1.sub h2).trans (Cg.of_eq ?_);show c+x*0 - (c+r*0)=(x - r)*0;lia
 | c :: d :: cs=>by
  have h1:=zay p x c (d :: cs);have h2:=zay p r c (d :: cs);have ih:=zi9 (p:=p) (r:=r) (x:=x) (d :: cs);have h3:Cg p (zap p x (quo p r (c :: d :: cs))) (zap p r (d :: cs)+x*zap p x (quo p r (d :: cs))):=zay p x _ _;have h4:=(Cg.refl p (x - r)).mul h3;have h5:=(Cg.refl p x).mul ih;refine (h1.sub h2).trans (Cg.symm (h4.trans ?_));refine (Cg.of_eq (show _=(x - r)*zap p r (d :: cs)+x*((x - r)*zap p x (quo p r (d :: cs))) by grind)).trans ?_;refine ((Cg.refl p ((x - r)*zap p r (d :: cs))).add h5.symm).trans (Cg.of_eq (by grind))
theorem zfD {p r:Int}:∀ d:List Int,Cg p (zap p r d) 0→(∀ c∈quo p r d,Cg p c 0)→∀ c∈d,Cg p c 0
 | [],_,_,c,hc=>by cases hc
 | [a],h,_,c,hc=>by
  obtain rfl:c=a:=by simpa using hc
  have h1:Cg p (zap p r [c]) (c+r*0):=zay p r c [];exact ((Cg.of_eq #[O]).trans h1.symm).trans h
 | a :: d :: cs,h,hq,c,hc=>by
  have h0:Cg p (zap p r (d :: cs)) 0:=hq _ aI;rcases (aN.mp hc) with rfl | hc
  ·have h1:=zay p r c (d :: cs);have h2:=(Cg.refl p r).mul h0;have h3:=(h1.symm.trans h).sub h2;exact (Cg.of_eq #[O]).trans (h3.trans (Cg.of_eq #[O]))
  ·exact zfD (d :: cs) h0 (fun c hc=>hq c (av _ hc)) c hc
theorem zhY {p a y:Int} (hp:p∈zK) (ha0:a % p≠0) (h:Cg p (a*y) 0):Cg p y 0:=by
 have rp:=zah hp;have g0:=aV a (show p≠0 by lia);have g1:=aP a (show 0 < p by lia);have hi:=ziP hp (h:=a % p) #[O] g1;have h1:Cg p (inv p (a % p)*(a % p)*y) (1*y):=hi.mul (Cg.refl p y);have h2:Cg p (inv p (a % p)*(a % p)*y) (inv p (a % p)*(a*y)):=by
  have:=((Cg.refl p (inv p (a % p))).mul (Cg.emod p a)).mul (Cg.refl p y);exact this.trans (Cg.of_eq (by grind))
 have h3:=(Cg.refl p (inv p (a % p))).mul h;exact (Cg.of_eq #[O]).trans (h1.symm.trans (h2.trans (h3.trans (Cg.of_eq #[O]))))
theorem zdA {p:Int} (hp:p∈zK):∀ (n:Nat) (d xs:List Int),d.length=n→n≤xs.length→xs.Nodup→(∀ x∈xs,0≤x∧x < p)→(∀ x∈xs,Cg p (zap p x d) 0)→∀ c∈d,Cg p c 0
 | 0,d,xs,hd,_,_,_,_,c,hc=>by
  rw [fu] at hd;subst hd;cases hc
 | n+1,d,[],hd,hx,_,_,_,c,hc=>by simp at hx
 | n+1,[],r :: xs,hd,hx,_,_,_,c,hc=>by cases hc
 | n+1,a :: cs,r :: xs,hd,hx,rJ,tN,hz,c,hc=>by
  have rp:=zah hp;obtain⟨r0,r1⟩:=tN r aI;have hr:=hz r aI;refine zfD (a :: cs) hr (zdA hp n (quo p r (a :: cs)) xs (by rw [zg2]; simpa using hd) (by simpa using hx) (cj.mp rJ).2 (fun x h=>tN x (av _ h)) fun x h=>?_) c hc;obtain⟨x0,x1⟩:=tN x (av _ h);have k4:x≠r:=fun e=>(cj.mp rJ).1 (e ▸ h)
  have he:=zi9 (p:=p) (r:=r) (x:=x) (a :: cs);have h0:=(hz x (av _ h)).sub hr;refine zhY hp (a:=x - r) (fun e=>?_) (he.symm.trans (h0.trans (Cg.of_eq #[O])));have:Cg p x r:=by
   have h1:Cg p (x - r) 0:=Cg.of_mod (by rw [e]; simp);have h2:=h1.add (Cg.refl p r);exact (Cg.of_eq #[O]).trans (h2.trans (Cg.of_eq #[O]))
  exact k4 (this.eq x0 x1 r0 r1)
def IsP (p:Int) (k:Nat) (q:List Int):Prop:=q.length=k∧∀ c∈q,0≤c∧c < p
def zfE (p:Int) (k:Nat) (qs:List (List Int)):Prop:=(∀ q∈qs,IsP p k q)∧qs.Pairwise fun a b=>Srt.num p a < Srt.num p b
theorem zg3 {B:Int} (hB:1≤B):∀ {a b:List Int},a.length=b.length→(∀ n∈a,0≤n∧n < B)→(∀ n∈b,0≤n∧n < B)→Srt.num B a=Srt.num B b→a=b
 | [],[],_,_,_,_=>rfl
 | c :: a,d :: b,h,ha,hb,e=>by
  have h':a.length=b.length:=by simpa using h
  have ra:=Srt.num_rng hB (ns:=a) fun n hn=>ha n (av _ hn)
  have rb:=Srt.num_rng hB (ns:=b) fun n hn=>hb n (av _ hn)
  have e':c*B ^ a.length+Srt.num B a=d*B ^ b.length+Srt.num B b:=e;rw [← h'] at e' rb;generalize B ^ a.length=M at e' ra rb;have hM:0 < M:=by lia
  have qr:c=d:=by
   have e2:(c - d)*M=Srt.num B b - Srt.num B a:=by
    rw [Int.sub_mul];lia
   rcases (jL c d) with kX | heq | hgt
   ·have:(c - d)*M≤(-1)*M:=cW #[O] #[O];lia
   ·exact heq
   ·have:1*M≤(c - d)*M:=cW #[O] #[O];lia
  subst qr;rw [zg3 hB h' (fun n hn=>ha n (av _ hn)) (fun n hn=>hb n (av _ hn)) #[O]]
 | [],_ :: _,h,_,_,_=>by simp at h
 | _ :: _,[],h,_,_,_=>by simp at h
theorem zg4 {p:Int} (hp:1≤p) {k:Nat} {qs:List (List Int)} (h1:∀ q∈qs,IsP p k q) (h2:qs.Nodup) (h3:qs.Pairwise fun a b=>Srt.num p a≤Srt.num p b):zfE p k qs:=by
 refine⟨h1,?_⟩;have h4:=h3.and h2;refine g7 (fun {a b} ha hb h=>?_) h4;have k4:Srt.num p a≠Srt.num p b:=fun e=>h.2 (zg3 hp ((h1 a ha).1.trans (h1 b hb).1.symm) (h1 a ha).2 (h1 b hb).2 e)
 have:=h.1;lia
theorem zfE.tail {p:Int} {k:Nat} {q:List Int} {qs:List (List Int)} (h:zfE p k (q :: qs)):zfE p k qs:=⟨fun x hx=>h.1 x (av _ hx),(fb.mp h.2).2⟩
theorem zeW {p:Int} {k:Nat}:∀ {as bs:List (List Int)},zfE p k as→zfE p k bs→(∀ q,q∈as↔q∈bs)→as=bs
 | [],[],_,_,_=>rfl
 | [],b :: bs,_,_,h=>by
  have:=(h b).mpr aI;cases this
 | a :: as,[],_,_,h=>by
  have:=(h a).mp aI;cases this
 | a :: as,b :: bs,ha,hb,h=>by
  have pa:=(fb.mp ha.2).1;have pb:=(fb.mp hb.2).1;have e:a=b:=by
   rcases (aN.mp ((h a).mp aI)) with e | ma
   ·exact e
   ·rcases (aN.mp ((h b).mpr aI)) with e | mb
    ·exact e.symm
    ·have:=pb a ma;have:=pa b mb;lia
  subst e;rw [zeW ha.tail hb.tail fun q=>?_];have hq:=h q;rw [aN,aN] at hq;constructor
  ·intro m;rcases (hq.mp (.inr m)) with rfl | z
   ·exact absurd (pa q m) #[O]
   ·exact z
  ·intro m;rcases (hq.mpr (.inr m)) with rfl | z
   ·exact absurd (pb q m) #[O]
   ·exact z
def sm:Nat→(Nat→Int)→Int
 | 0,_=>0
 | n+1,f=>sm n f+f n
theorem zbL {f g:Nat→Int}:∀ {n:Nat},(∀ i,i < n→f i=g i)→sm n f=sm n g
 | 0,_=>rfl
 | n+1,h=>by
  show sm n f+f n=sm n g+g n;rw [zbL (n:=n) fun i hi=>h i #[O],h n #[O]]
theorem zkU {p:Int} {f g:Nat→Int}:∀ {n:Nat},(∀ i,i < n→Cg p (f i) (g i))→Cg p (sm n f) (sm n g)
 | 0,_=>Cg.refl _ _
 | n+1,h=>(zkU (n:=n) fun i hi=>h i #[O]).add (h n #[O])
theorem zja {f g:Nat→Int}:∀ n:Nat,sm n (fun i=>f i+g i)=sm n f+sm n g
 | 0=>rfl
 | n+1=>by
  show sm n (fun i=>f i+g i)+(f n+g n)=sm n f+f n+(sm n g+g n);rw [zja n];lia
theorem zeX {c:Int} {f:Nat→Int}:∀ n:Nat,sm n (fun i=>c*f i)=c*sm n f
 | 0=>by show (0:Int)=c*0; lia
 | n+1=>by
  show sm n (fun i=>c*f i)+c*f n=c*(sm n f+f n);rw [zeX n,Int.mul_add]
theorem zeY {f:Nat→Int}:∀ {n:Nat},(∀ i,i < n→f i=0)→sm n f=0
 | 0,_=>rfl
 | n+1,h=>by
  show sm n f+f n=0;rw [zeY (n:=n) fun i hi=>h i #[O],h n #[O]];rfl
theorem zjb {f:Nat→Int} {j:Nat}:∀ {n:Nat},j < n→(∀ i,i < n→i≠j→f i=0)→sm n f=f j
 | 0,hj,_=>by lia
 | n+1,hj,h=>by
  show sm n f+f n=f j;by_cases e:j=n
  ·subst e;rw [zeY fun i hi=>h i #[O] #[O]];lia
  ·rw [zjb (n:=n) #[O] fun i hi k4=>h i #[O] k4,h n #[O] #[O]];lia
theorem zbu {f:Nat→Int}:∀ n:Nat,sm (n+1) f=f 0+sm n (fun i=>f (i+1))
 | 0=>by show (0:Int)+f 0=f 0+0; lia
 | n+1=>by
  show sm (n+1) f+f (n+1)=f 0+(sm n (fun i=>f (i+1))+f (n+1));rw [zbu n];lia
theorem zg5 {f:Nat→Int} {m:Nat}:∀ {n:Nat},m≤n→(∀ i,m≤i→i < n→f i=0)→sm n f=sm m f
 | 0,h,_=>by rw [show m=0 by lia]
 | n+1,h,hz=>by
  by_cases e:m=n+1
  ·rw [e]
  ·show sm n f+f n=_;rw [zg5 (n:=n) #[O] fun i h1 h2=>hz i h1 #[O],hz n #[O] #[O]];lia
def gl (w:List Int) (y:Nat):Int:=w.getD y 0
theorem zbg {w:List Int} {y:Nat} {c:Int} (h:w[y]? = some c):gl w y=c:=by
 unfold gl;rw [au,h];rfl
theorem zaQ {w:List Int} {y:Nat} (h:w.length≤y):gl w y=0:=by
 unfold gl;rw [au,bz h];rfl
theorem zbM {w:List Int} {y:Nat} (h:y < w.length):w[y]? = some (gl w y):=by
 rw [ak h,zbg (ak h)]
theorem zlD {v w:List Int} (hl:v.length=w.length) (h:∀ y,y < v.length→gl v y=gl w y):v=w:=by
 refine cG fun y=>?_
 by_cases hy:y < v.length
 ·rw [zbM hy,zbM #[O],h y hy]
 ·rw [bz #[O],bz #[O]]
theorem zg6 {p x:Int}:∀ q:List Int,Cg p (zap p x q) (sm q.length fun i=>gl q i*x ^ i)
 | []=>Cg.refl _ _
 | c :: q=>by
  refine (zay p x c q).trans ?_;rw [bM,zbu];have e:sm q.length (fun i=>gl (c :: q) (i+1)*x ^ (i+1))=x*sm q.length (fun i=>gl q i*x ^ i):=by
   rw [← zeX];refine zbL fun i _=>?_
   show gl q i*x ^ (i+1)=_;rw [jB];grind
  rw [e];refine Cg.add (Cg.of_eq ?_) ((Cg.refl p x).mul (zg6 q));show c=c*x ^ 0;rw [Int.pow_zero,Int.mul_one]
theorem zjc {p x:Int} {q:List Int} {n:Nat} (h:q.length≤n):Cg p (zap p x q) (sm n fun i=>gl q i*x ^ i):=by
 rw [zg5 h fun i h1 _=>by rw [zaQ h1,dE]];exact zg6 q
def PtB (H:Hp):List Addr→List (Int×Int)→Prop:=Paired fun b q=>H b=some (.tup [.int q.1,.int q.2])
theorem PtB.same {H H':Hp} (s:zt H H') {bs:List Addr} {pts:List (Int×Int)} (h:PtB H bs pts):PtB H' bs pts:=fI (fun _ _ z=>s _ _ z) h
def zal (H:Hp):List Addr→List (List Int)→Prop:=Paired fun r q=>H r=some (.tup (q.map V.int))
theorem zal.same {H H':Hp} (s:zt H H') {rs:List Addr} {qs:List (List Int)} (h:zal H rs qs):zal H' rs qs:=fI (fun _ _ z=>s _ _ z) h
theorem zal.of {H:Hp}:∀ {ps:List (Addr×List Int)},(∀ q∈ps,H q.1=some (.tup (q.2.map V.int)))→zal H (ps.map (·.1)) (ps.map (·.2))
 | [],_=>.nil
 | a :: ps,h=>.cons (h a aI) (zal.of fun q hq=>h q (av _ hq))
theorem zbb {α β:Type} {F:α→β→Prop}:∀ {a:List α} {b:List β} {c:List α} {d:List β},Paired F a b→Paired F c d→Paired F (a++c) (b++d)
 | _,_,_,_,.nil,h=>h
 | _,_,_,_,.cons r t,h=>.cons r (zbb t h)
def zbx (p:Int) (q:List Int):List (List Int):=(aD p.toNat).map fun n:Nat=>q++[(n:Int)]
theorem zhZ (p:Int) (q:List Int):(zbx p q).length=p.toNat:=by unfold zbx; rw [ab,aU]
theorem zjd {p:Int} {i:Nat} {q':List Int}:IsP p (i+1) q'↔∃ q,IsP p i q∧q'∈zbx p q:=by
 constructor
 ·rintro⟨h1,h2⟩;have k4:q'≠[]:=fun e=>by rw [e] at h1; simp at h1
  (have e:=d7 k4)
  refine⟨q'.dropLast,⟨by rw [List.length_dropLast]; lia,fun c hc=>h2 c (List.dropLast_subset _ hc)⟩,?_⟩;obtain⟨b0,b1⟩:=h2 _ (List.getLast_mem k4);unfold zbx;refine aJ.mpr ⟨(q'.getLast k4).toNat,bi.mpr #[O],?_⟩;rw [show (((q'.getLast k4).toNat:Nat):Int)=q'.getLast k4 by lia];exact e
 ·rintro⟨q,⟨h1,h2⟩,h⟩;unfold zbx at h;obtain⟨n,hn,rfl⟩:=aJ.mp h;have:=bi.mp hn;refine⟨by rw [aA,h1]; rfl,fun c hc=>?_⟩;rcases (aT.mp hc) with hc | hc
  ·exact h2 c hc
  ·rw [aS.mp hc];lia
theorem zje {p:Int} {i:Nat} {qs:List (List Int)} (h:∀ q,q∈qs↔IsP p i q):∀ q,q∈qs.flatMap (zbx p)↔IsP p (i+1) q:=fun q=>by
 rw [g8,zjd];constructor
 ·rintro⟨a,h1,h2⟩;exact⟨a,(h a).mp h1,h2⟩
 ·rintro⟨a,h1,h2⟩;exact⟨a,(h a).mpr h1,h2⟩
theorem zcw {p:Int}:∀ qs:List (List Int),(qs.flatMap (zbx p)).length=qs.length*p.toNat
 | []=>by simp
 | q :: qs=>by
  rw [gJ,aA,zhZ,zcw qs,bM,dW];lia
end My
end
section
namespace L2
open PySem PySem.Spec PyProof.Rows
def zlE (K:af):R2:=fun x y H Q=>∃ a b xs ys,x = .ref a∧y = .ref b∧kT K H a xs∧kT K H b ys∧ys≠[]∧xs.length+ys.length≤sizeLine ∧
 (xs = []→Q (.ref b) H)∧(xs≠[]→∀ p,H p=none→Q (.ref p) (kR H p (.tup (xs++ys))))
theorem zep {X:Cx} {K:af} (hK:X.K=K):OpR X (binaryOp .Add) (zlE K):=by
 subst hK;intro kN s σ H x y v u Q I rx ry h;obtain⟨a,b,xs,ys,rfl,rfl,ha,hb,hy,hz,q1,q2⟩:=h;by_cases hx:xs = []
 ·cases rx;cases ry;obtain⟨kO,r1,p1,_⟩:=I.tuple ha;obtain⟨mv,r2,p2,_⟩:=I.tuple hb;obtain⟨⟨cls,dd,data,sl⟩,ho,hc,n,hd⟩:=id p1;obtain⟨⟨yM,xW,data2,xX⟩,o8,vP,n2,hd2⟩:=id p2;simp only at hc hd vP hd2;subst hc hd vP hd2;exact jt ⟨_,ho,rfl⟩ ⟨_,o8,rfl⟩ gR jc fG fo (eX _ _)
   (tuple_addW0 a b kO.toArray mv.toArray n n2 dd xW sl xX (by simp [r1.nil_iff.mpr hx])) ⟨ho,o8,⟨.ref b,H,I,rfl,q1 hx⟩⟩
 ·exact zj4 kN s σ H _ _ v u Q I rx ry ⟨a,b,xs,ys,rfl,rfl,ha,hb,hx,hz,fun z=>absurd z hy,fun _=>q2 hx⟩
end L2
end
section
namespace My
open PySem L2 PyProof.Rows
theorem zjf {X:Cx} {st:Stmt} {ts:TS} (h:PS X st ts):PS X st (fun D σ H=>∃ Pv:L2.St→Hp→Prop,ts { D with nx:=Pv } σ H∧∀ σ' H',Pv σ' H'→D.nx σ' H'):=by
 intro kN s σ H D I hq;obtain⟨Pv,h1,h2⟩:=hq;refine thn (h kN s σ H _ I h1) fun f s1 q=>?_
 cases f with
 | next =>
  obtain⟨σ',H',I',p⟩:=q;exact⟨σ',H',I',h2 _ _ p⟩
 | ret v=>exact q
 | brk=>exact q
 | cont=>exact q
end My
end
section
namespace L2
open PySem PySem.Spec PyProof.Rows
theorem zko {X:Cx} {K:af} {tg l:Expr} {tl:TE} (hK:X.K=K) (hl:PE X l tl):PI X tg l (zl4 K tl):=by subst hK; exact zcH hl
end L2
end
section
namespace HT
open PySem PySem.Spec PyProof.Rows
section
variable {prog:Program} {w:World} {A:Around} {E:Value→Shared→Prop} {s:Shared}
theorem getItem_tuple_whole {t sl:Addr} {items:Array Value} {vl vu:Value} {lo hi:Option Int} {Q:Value→Shared→Prop} (ht:IsTup s.heap t items) (hs:s.heap.IsSliceOf sl vl vu .none) (pl:IsPart vl lo) (pu:IsPart vu hi)
  (hw:sIx items.size 0 lo=0∧sIx items.size items.size hi=items.size) (h:Q (.ref t) s):wpAny (model prog w) A (getItem (.ref t) (.ref sl)) Q E s:=by
 obtain⟨os,qu,xY,pY⟩:=id hs;have yN:s.TypeIs (.ref sl) "slice":=⟨os,qu,xY⟩;unfold getItem
 try with_reducible refine bK ?_
 first | refine ae (aj ?_) | skip
 refine ae (wpAny_sequenceKey ht.typeIs #[D] ?_);refine ae (cb (name:=bT "__getitem__") ht.typeIs cR
  (cn cR ht.typeIs ji ?_ (jv _ _)))
 show wpAny _ _ (gv (.ref t) >>= _) _ _ s;refine ae (tupleItemsOf_ ht ?_);refine ae (gS yN ?_);rw [if_pos #[D]];refine ae (zbd hs pl pu ?_);have AO:(((sIx items.size 0 lo:Nat):Int) == 0 && (1:Int) == 1 && (sIx items.size items.size hi - sIx items.size 0 lo) == items.size)=true:=by
  rw [hw.1,hw.2];simp
 show wpAny _ _ (if (((sIx items.size 0 lo:Nat):Int) == 0 && (1:Int) == 1 && (sIx items.size items.size hi - sIx items.size 0 lo) == items.size)=true then _ else _) _ _ s;rw [if_pos AO];refine ae (m:=Builtin.Tuple.tupleIsExact _) (ae (gS ht.typeIs (aj ?_)));rw [if_pos #[D]]
 first
  | exact ae (cB (aj ⟨_,rfl,aj h⟩))
  | exact ae (ae (cB (aj ⟨_,rfl,aj h⟩)))
end
end HT
namespace L2
open PySem PySem.Spec PyProof.Rows
theorem zjg {X:Cx} {K:af} {tg l:Expr} {tl:TE} (hK:X.K=K) (hl:PE X l tl):PI X tg l (zkN K tl):=by subst hK; exact zao hl
def zmT:V→Option Int→Option Int→Hp→VK→Prop:=fun x lo hi H Q=>∃ a xs,x = .ref a∧H a=some (.tup xs)∧∀ p H',zt H H'→H' p=some (.tup (zbm xs lo hi))→Q (.ref p) H'
theorem zkp {X:Cx}:SlR X zmT:=by
 intro kN s σ H x v vl vu lo hi sl Q I rx hs pl pu h;obtain⟨a,xs,rfl,hx,q⟩:=h;have hX:kT X.K H a xs:=kT.of hx;by_cases hw:HT.sIx xs.length 0 lo=0∧HT.sIx xs.length xs.length hi=xs.length
 ·cases rx;obtain⟨kO,r,ht,hz⟩:=I.tuple hX;have kS:kO.toArray.size=xs.length:=by rw [ai]; exact r.length.symm
  refine⟨"tuple",_,PyProof.Rows.slot_tuple_getitem.lookup,ht.typeIs,?_⟩;refine HT.getItem_tuple_whole ht hs pl pu (by rw [kS]; exact hw) ⟨.ref a,H,I,rfl,q a H (fun _ _ e=>e) ?_⟩;have e:zbm xs lo hi=xs:=by
   unfold zbm;rw [hw.1,hw.2,d6,d8,c7]
  rw [e];exact hx
 ·exact zlg kN s σ H (.ref a) v vl vu lo hi sl Q I rx hs pl pu ⟨a,xs,rfl,hX,hw,fun p hp=>q p _ (fun b o z=>by rw [zk (fun e=>by rw [e,hp] at z; cases z)]; exact z) zb⟩
def zmm:R2:=fun x y H Q=>∃ a b xs ys,x = .ref a∧y = .ref b∧H a=some (.tup xs)∧H b=some (.tup ys)∧xs.length+ys.length≤sizeLine∧ys≠[]∧∀ p H',zt H H'→H' p=some (.tup (xs++ys))→Q (.ref p) H'
theorem zkq {X:Cx}:OpR X (binaryOp .Add) zmm:=by
 intro kN s σ H x y v u Q I rx ry h;obtain⟨a,b,xs,ys,rfl,rfl,ha,hb,hz,hy,q⟩:=h;refine zep rfl kN s σ H _ _ v u Q I rx ry ⟨a,b,xs,ys,rfl,rfl,kT.of ha,kT.of hb,hy,hz,fun e=>?_,fun _ p hp=>q p _ (fun b o z=>by rw [zk (fun e=>by rw [e,hp] at z; cases z)]; exact z) zb⟩;subst e;exact q b H (fun _ _ e=>e) hb
end L2
end
section
namespace My
open PySem L2 PyProof.Rows
def LsA (H:Hp):List Addr→List (List Int)→Prop:=Paired fun b v=>H b=some (.lst (v.map V.int))
theorem LsA.same {H H':Hp} (s:zt H H') {bs:List Addr} {vv:List (List Int)} (h:LsA H bs vv):LsA H' bs vv:=fI (fun _ _ z=>s _ _ z) h
theorem zkr {xs:List V} {a b:Nat} (h:b≤xs.length):zbm xs (some (a:Int)) (some (b:Int))=(xs.drop a).take (b - a):=by
 unfold zbm;rw [HT.sIx_nat,HT.sIx_nat];by_cases ha:a≤xs.length
 ·rw [dP ha,dP h]
 ·rw [show min a xs.length=xs.length by lia,dP h,iE (ag _),iE (show xs.length≤a by lia),kB,kB]
theorem zlF {a b:List Int} (x:Nat):gl (a++b) x=if x < a.length then gl a x else gl b (x - a.length):=by
 unfold gl;rw [au,au,au];by_cases h:x < a.length
 ·rw [if_pos h,bI h]
 ·rw [if_neg h,bG #[O]]
theorem zal.put {H:Hp} {rs:List Addr} {qs:List (List Int)} {f:Addr} {xs:List V} {o:HO} (h:zal H rs qs) (hf:H f=some (.lst xs)):zal (kR H f o) rs qs:=fI (fun a q z=>by
 have:a≠f:=fun e=>by rw [e,hf] at z; cases z
 show kR H f o a=_;rw [zk this];exact z) h
end My
end
section
namespace L2
open PySem PySem.Spec PyProof.Rows
theorem zbZ {X:Cx} (hc:X.calm=true):zaD X (.builtin "max") (fun xs H Q=>∃ (p:Addr) (ns:List Int),xs = [.ref p]∧kP X.K H p (ns.map V.int)∧ns≠[]∧∀ M:Int,M∈ns→(∀ a∈ns,a≤M)→Q (.int M) H):=by
 intro kN s σ H xs us Q I r h;obtain⟨p,ns,rfl,hq,hn,q⟩:=h;obtain⟨u,rfl,rx⟩:=vals1 r;cases rx;obtain⟨kO,rv,pl,hz⟩:=I.list hq;have hi:IntsAre kO ns:=by simpa using intsAre_of rv
 (obtain⟨xs,e⟩:=hi.allInts.items)
 have pd:ns=xs.toList.map (·.1):=by rw [← hi.numsOf,← je,← e]
 have hsz:0 < xs.size:=by
  have h3:=gb.mpr hn;rw [pd,ab,aG] at h3;exact h3
 have hl:=pl.isList;rw [e] at hl;refine max_intList (I.ok.hd hc) hl hsz fun v h' tk hv hk=>?_
 (obtain⟨t,rfl⟩:=gi hv)
 (obtain⟨h1,h2⟩:=argBest_gt (numAt xs) (xs.size - 1))
 refine⟨.int _,H,I.kept hk,⟨_,rfl⟩,q _ ?_ fun a ha=>?_⟩
 ·(rw [pd,hJ]; exact getD_mem (by rw [ab,aG]; lia))
 ·rw [pd] at ha
  (obtain⟨j,hj,rfl⟩:=mem_getD ha)
  (rw [ab,aG] at hj)
  (rw [← hJ]; exact h2 j #[O])
end L2
end
section
namespace PySem
open PyProof.Rows
section
variable {prog:Program} {w:World} {A:Around} {E:Value→Shared→Prop} {s:Shared}
theorem zdB {id:String} {b:Builtin} {args:List Value} {kw:List (Str×Value)} {Q:Value→Shared→Prop} (hk:builtinKind id=none) (hp:plainId id=true) (hb:entryFor table id=some b) (ha:argsOk id ⟨args,kw⟩)
  (hc:wpAny (model prog w) A.in1 (b ⟨args,kw⟩) (fun fin s'=>match fin with
   | .done fl=>(match (Except.ok fl:Result) with | .ok (.ret v)=>Q v s' | .ok _=>False | .error e=>E e s')
   | .again c'=>c'.quiet=true∧codeAny (model prog w) A c' (fun r s'=>match r with | .ok (.ret v)=>Q v s' | .ok _=>False | .error e=>E e s') s') E s):wpAny (model prog w) A (call (.builtin id) args kw) Q E s:=by
 refine (j5 (i3 hp hb ?_))
 (simp only [checkBuiltinCall,hk])
 cases hs:Manifest.signature? id with
 | none=>exact (aj hc)
 | some sg =>
  have a2:Bind.checkArgs id sg ⟨args,kw⟩=pure ():=by simpa only [argsOk,hs] using ha
  simp only [a2];exact (aj hc)
def Mm (nm lp:String) (op:CmpOp):Prop:=(nm = "max"∧lp = "max.loop"∧op = .Gt)∨(nm = "min"∧lp = "min.loop"∧op = .Lt)
theorem zjh {nm lp:String} {op:CmpOp} (hb:Mm nm lp op) (x d:Value):argsOk nm ⟨[x],[(bT "default",d)]⟩:=by rcases hb with ⟨rfl,_,_⟩ | ⟨rfl,_,_⟩ <;> (unfold argsOk; kernel_rfl)
theorem zks {nm lp:String} {op:CmpOp} {R:Result→Shared→Prop} {I:Addr} {fp wr:List Addr} {n:Nat} {P:Nat→Value→Prop} {St:Nat→Heap→Prop} {kw:List (Str×Value)} (hb:Mm nm lp op) (W:Walks prog w A.in1 I fp wr n P St) (bt:Nat→Nat→Bool) (oh:CmpOf prog w A.in1 op P bt) (S:Addr) (sy:S∉fp) :
  ∀ (k j:Nat) (s:Shared) (vb:Value) (c:Nat),n - (j+1)=k→j+1≤n→St (j+1) s.heap→P (argBest bt j) vb→s.heap.get? S=some { cls:=.type "list",dict:=none,data:=.seq #[vb,vb] c,slots:=#[] }→(∀ v h' tk,P (argBest bt (n - 1)) v→(∀ b o,b∉wr→b≠S→s.heap.get? b=some o→h'.get? b=some o)→R (.ok (.ret v)) { s with heap:=h',toks:=tk })→codeAny (model prog w) A (.builtin lp ⟨[.ref I,.none,.ref S],kw⟩) R s:=by
 have hw:S∉wr:=fun h=>sy (W.sub _ h)
 have e1:(toString "max"++toString ".loop" : String) = "max.loop":=by decide
 have e2:(toString "min"++toString ".loop" : String) = "min.loop":=by decide
 intro k;induction k with
 | zero =>
  (intro j s vb c hk hj lG wF hS hR)
  obtain rfl:j+1=n:=by lia
  rcases hb with ⟨rfl,rfl,rfl⟩ | ⟨rfl,rfl,rfl⟩
  case' inl=>(have en:=fM; have pl:=fN; have ee:=e1)
  case' inr=>(have en:=fO; have pl:=fP; have ee:=e2)
  all_goals
   (refine cX en ?_
    rw [cD pl _];show wpAny _ A.in1 (seqItems? (aZ S) >>= _) _ _ s; refine (ae (dz hS rfl ?_));show wpAny _ A.in1 (tryCatch (pyNext (aZ I)) _ >>= _) _ _ s; refine (ae (ed (W.done s _ _ lG fun h' tk q=>?_)));show wpAny _ A.in1 (updateSeq S (fun _=>(#[]:Array Value)) >>= _) _ _ _; refine (ae (io (q S _ hw hS) rfl (ae (iF (aj ?_)))));exact (hR vb _ tk wF fun b o h1 h2 e=>(bW _ _ (cJ h2)).trans (q b o h1 e)))
 | succ k ih =>
  (intro j s vb c hk hj lG wF hS hR)
  (have kX:j+1 < n:=by lia)
  rcases hb with ⟨rfl,rfl,rfl⟩ | ⟨rfl,rfl,rfl⟩
  case' inl=>(have en:=fM; have pl:=fN; have ee:=e1)
  case' inr=>(have en:=fO; have pl:=fP; have ee:=e2)
  all_goals
   (refine cX en ?_
    rw [cD pl _];show wpAny _ A.in1 (seqItems? (aZ S) >>= _) _ _ s; refine (ae (dz hS rfl ?_));show wpAny _ A.in1 (tryCatch (pyNext (aZ I)) _ >>= _) _ _ s; refine (ae (ed (W.item (j+1) s _ _ kX lG fun v h' tk hP oe q=>?_)));have uA:=q S _ hw hS
    first
     | show wpAny _ A.in1 (tryCatch (holding [v,v] (richCompare CmpOp.Gt v vb >>= _)) _ >>= _) _ _ _; refine (ae (ed (bK (ae (oh (j+1) (argBest bt j) v vb _ _ _ hP wF ?_)))))
     | show wpAny _ A.in1 (tryCatch (holding [v,v] (richCompare CmpOp.Lt v vb >>= _)) _ >>= _) _ _ _; refine (ae (ed (bK (ae (oh (j+1) (argBest bt j) v vb _ _ _ hP wF ?_)))))
    refine (ae (bK (fw (ae (iF (aj ?_))))));cases eb:bt (j+1) (argBest bt j)
    ·(simp only [aO,if_false])
     refine (ae (iF ?_));rw [ee];refine (aj ⟨dM pl _,ih (j+1) _ vb c #[O] kX oe (by simp only [argBest,eb,aO,if_false]; exact wF) uA fun v' h2 wG p2 q2=>?_⟩);exact (hR v' h2 wG p2 fun b o i1 i2 e=>q2 b o i1 i2 (q b o i1 e))
    ·simp only [if_true];refine (ae (io uA rfl (ae (iF ?_))));rw [ee];refine (aj ⟨dM pl _,ih (j+1) _ v _ #[O] kX (W.frame _ _ _ oe fun b AQ o e=>?_) (by simp only [argBest,eb,if_true]; exact hP) (cm _ uA rfl) fun v' h2 wG p2 q2=>?_⟩)
     ·exact (bW _ _ (fun h:S=b=>sy (h ▸ AQ))).trans e
     ·exact (hR v' h2 wG p2 fun b o i1 i2 e=>q2 b o i1 i2 ((bW _ _ (cJ i2)).trans (q b o i1 e))))
theorem zji {nm lp:String} {op:CmpOp} {R:Result→Shared→Prop} {I:Addr} {fp wr:List Addr} {n:Nat} {P:Nat→Value→Prop} {St:Nat→Heap→Prop} {ds:Str} {d:Value} (hb:Mm nm lp op) (W:Walks prog w A.in1 I fp wr n P St) (bt:Nat→Nat→Bool) (oh:CmpOf prog w A.in1 op P bt) (S:Addr) (sy:S∉fp) {c:Nat} (lG:St 0 s.heap) (hS:s.heap.get? S=some { cls:=.type "list",dict:=none,data:=.seq #[] c,slots:=#[] })
  (hR:∀ v h' tk,(0 < n→P (argBest bt (n - 1)) v)→(n=0→v=d)→(∀ b o,b∉wr→b≠S→s.heap.get? b=some o→h'.get? b=some o)→R (.ok (.ret v)) { s with heap:=h',toks:=tk }) :
  codeAny (model prog w) A (.builtin lp ⟨[.ref I,.none,.ref S],[(ds,d)]⟩) R s:=by
 have hw:S∉wr:=fun h=>sy (W.sub _ h)
 have e1:(toString "max"++toString ".loop" : String) = "max.loop":=by decide
 have e2:(toString "min"++toString ".loop" : String) = "min.loop":=by decide
 have L:=@zks prog w A nm lp op R I fp wr n P St [(ds,d)] hb W bt oh S sy;rcases hb with ⟨rfl,rfl,rfl⟩ | ⟨rfl,rfl,rfl⟩
 case' inl=>(have en:=fM; have pl:=fN; have ee:=e1)
 case' inr=>(have en:=fO; have pl:=fP; have ee:=e2)
 all_goals
  (refine cX en ?_
   rw [cD pl _];show wpAny _ A.in1 (seqItems? (aZ S) >>= _) _ _ s; refine (ae (dz hS rfl ?_));rcases Nat.eq_zero_or_pos n with hn | hn
   ·show wpAny _ A.in1 (tryCatch (pyNext (aZ I)) _ >>= _) _ _ s; refine (ae (ed (W.done s _ _ (hn ▸ lG) fun h' tk q=>?_)));show wpAny _ A.in1 (rule _ >>= fun _=>pure (Fin.done (Flow.ret d))) _ _ _
    (refine ae (cB (aj ?_)))
    exact hR d h' tk #[O] (fun _=>rfl) fun b o i1 _ e=>q b o i1 e
   ·show wpAny _ A.in1 (tryCatch (pyNext (aZ I)) _ >>= _) _ _ s; refine (ae (ed (W.item 0 s _ _ hn lG fun v h' tk hP oe q=>?_)));show wpAny _ A.in1 (updateSeq S (fun _=>(#[v,v]:Array Value)) >>= _) _ _ _; refine (ae (io (q S _ hw hS) rfl ?_));rw [ee];refine (aj ⟨dM pl _,L _ 0 _ v _ rfl hn (W.frame _ _ _ oe fun b AQ o e=>?_) hP (cm _ (q S _ hw hS) rfl) fun v' h2 wG p2 q2=>?_⟩)
    ·exact (bW _ _ (fun h:S=b=>sy (h ▸ AQ))).trans e
    ·exact (hR v' h2 wG (fun _=>p2) #[O] fun b o i1 i2 e=>q2 b o i1 i2 ((bW _ _ (cJ i2)).trans (q b o i1 e))))
theorem zjj {nm lp:String} {op:CmpOp} {x d:Value} {Q:Value→Shared→Prop} (hb:Mm nm lp op)
  (h:wpAny (model prog w) A.in1 (pyIter x) (fun it s₂=>∃ I fp wr n P St bt,it = .ref I∧Walks prog w A.in1 I fp wr n P St∧St 0 s₂.heap∧(∀ b∈fp,b < s₂.heap.objs.size)∧CmpOf prog w A.in1 op P bt ∧
   ∀ v h' tk,(0 < n→P (argBest bt (n - 1)) v)→(n=0→v=d)→(∀ b o,b∉wr→s₂.heap.get? b=some o→h'.get? b=some o)→Q v { s₂ with heap:=h',toks:=tk }) E s) :
  wpAny (model prog w) A (call (.builtin nm) [x] [(bT "default",d)]) Q E s:=by
 have aa:=zjh hb x d;have mi:=hb;have e1:(toString "max"++toString ".loop" : String) = "max.loop":=by decide
 have e2:(toString "min"++toString ".loop" : String) = "min.loop":=by decide
 rcases hb with ⟨rfl,rfl,rfl⟩ | ⟨rfl,rfl,rfl⟩
 case' inl=>(have en:=fM; have pl:=fN; have ee:=e1)
 case' inr=>(have en:=fO; have pl:=fP; have ee:=e2)
 case' inl =>
  refine zdB F.kind_max F.plain_max F.entry_max aa ?_;show wpAny _ A.in1 (de "max" ["key","default"] 0 ⟨[],[(bT "default",d)]⟩ >>= _) _ _ s;refine ae (b7 (show de "max" ["key","default"] 0 ⟨[],[(bT "default",d)]⟩=pure [none,some d] by kernel_rfl) ?_)
 case' inr =>
  refine zdB F.kind_min F.plain_min F.entry_min aa ?_;show wpAny _ A.in1 (de "min" ["key","default"] 0 ⟨[],[(bT "default",d)]⟩ >>= _) _ _ s;refine ae (b7 (show de "min" ["key","default"] 0 ⟨[],[(bT "default",d)]⟩=pure [none,some d] by kernel_rfl) ?_)
 all_goals
  (refine (ae (aj (ae (cA h (fun it s₂ h2=>?_) fun _ _ e=>e))))
   obtain⟨I,fp,wr,n,P,St,bt,rfl,W,lG,yf,hc,q⟩:=h2;refine (ae (bN ?_));rw [ee];refine (aj ⟨dM pl _,zji mi W bt hc s₂.heap.objs.size (fun hm=>bQ _ (yf _ hm)) (W.frame _ _ _ lG fun b _ o e=>am _ e) (aK _ rfl) fun v h' tk p1 p2 hk=>?_⟩);exact (q v h' tk p1 p2 fun b o i1 e=>hk b o i1 (a8 (aE e)) (am _ e)))
end
end PySem
namespace L2
open PySem PySem.Spec PyProof.Rows
def zmU (K:af) (gt:Bool) (d:Int) (td:TE):TE:=fun σ H Q=>td σ H fun x H1=>∃ (p:Addr) (ns:List Int),x = .ref p∧kP K H1 p (ns.map V.int) ∧
 ∀ M:Int,(ns = []→M=d)→(ns≠[]→M∈ns∧∀ a∈ns,if gt=true then a≤M else M≤a)→Q (.int M) H1
def mmN (gt:Bool):String:=if gt=true then "max" else "min"
theorem zmV (gt:Bool):Mm (mmN gt) (if gt=true then "max.loop" else "min.loop") (if gt=true then .Gt else .Lt):=by cases gt <;> simp [Mm,mmN]
theorem zmn {prog:Program} {w:World} {A:Around} (gt:Bool) (xs:Array (Int×Tok)):CmpOf prog w A (if gt=true then .Gt else .Lt) (fun i v=>(intItems xs)[i]? = some v) (fun i j=>if gt=true then decide (numAt xs i > numAt xs j) else decide (numAt xs i < numAt xs j)):=by
 cases gt
 ·exact CmpOf.ints_lt (numAt xs) (fun _ _=>gi)
 ·exact CmpOf.ints_gt (numAt xs) (fun _ _=>gi)
theorem zlG (gt:Bool) (f:Nat→Int):∀ n,argBest (fun i j=>if gt=true then decide (f i > f j) else decide (f i < f j)) n≤n∧∀ j,j≤n→if gt=true then f j≤f (argBest (fun i j=>if gt=true then decide (f i > f j) else decide (f i < f j)) n) else f (argBest (fun i j=>if gt=true then decide (f i > f j) else decide (f i < f j)) n)≤f j:=by
 cases gt
 ·exact fun n=>argBest_lt f n
 ·exact fun n=>argBest_gt f n
theorem zlH {X:Cx} (gt:Bool) {x:Str} {elt ev:Expr} {gs:List Comprehension} {sc:Scope} {cp:Pos} {d:Int} {td:TE} {p pos kp:Pos} (hc:X.calm=true) (hx:bootBuiltins x=some (.builtin (mmN gt))) (hg:Gl X x) (hm:X.mg x=none) (hv:PE X ev (tC (.int d))) (ho:PE X (.ListComp elt gs sc cp) td)
  (hn:x≠"__name__":=by decide) (t9:(x == ("__debug__" : Str))=false:=by decide) :
  PE X (.Call (.Name x p) [.ListComp elt gs sc cp] [⟨some "default",ev,kp⟩] pos) (zmU X.K gt d td):=by
 intro kN s σ H Q I h;refine db (zaP I hg hm hx ?_ hn t9);refine callWith_kw ?_;show wpAny _ _ (spliced ((false,eval (.ListComp elt gs sc cp) X.env) :: [])) _ _ s;refine gk (thn (ho kN s σ H _ I h) fun v s1 ⟨y,H1,I1,r1,q⟩=>?_);refine gD (kws_cons (thn (hv kN s1 σ H1 (fun z H2=>z = .int d∧H2=H1) I1 ⟨rfl,rfl⟩) fun u s2 ⟨z,H2,I2,r2,e1,e2⟩=>kws_nil ?_));subst e1 e2;obtain⟨a,ns,rfl,hq,q⟩:=q;cases r1;obtain⟨kO,rv,pl,hz⟩:=I2.list hq;have hi:IntsAre kO ns:=by simpa using intsAre_of rv
 obtain⟨xs,ex⟩:=hi.allInts.items;have pd:ns=xs.toList.map (·.1):=by rw [← hi.numsOf,← je,← ex]
 have hl:=pl.isList;rw [ex] at hl;show wpAny _ _ (call (.builtin (mmN gt)) [.ref a] [(bT "default",u)]) _ _ _;refine zjj (zmV gt) (iter_intList hl fun s₂ e st yf hlI=>?_);subst e;refine⟨_,_,_,_,_,_,_,rfl,kg (A:=X.A.in1) (I2.ok.hd hc) _ a hlI (intItems xs),st,yf,zmn gt xs,fun v h' tk p1 p2 hk=>?_⟩
 (have hsz:(intItems xs).size=xs.size:=by simp [intItems])
 have kS:ns.length=xs.size:=by rw [pd,ab,aG]
 have I3:Inv X kN σ H2 { s2 with heap:=h',toks:=tk }:=I2.kept (old_kept hk);obtain⟨t2,rfl⟩:=r2;by_cases h0:xs.size=0
 ·obtain rfl:=p2 (by rw [hsz]; exact h0);refine⟨.int d,H2,I3,⟨_,rfl⟩,q d (fun _=>rfl) fun k4=>absurd (List.eq_nil_of_length_eq_zero #[O]) k4⟩
 ·have vt:=p1 #[O];rw [hsz] at vt;obtain⟨t,rfl⟩:=gi vt;obtain⟨h1,h2⟩:=zlG gt (numAt xs) (xs.size - 1);refine⟨.int _,H2,I3,⟨_,rfl⟩,q _ (fun h=>by rw [h] at kS; simp at kS; lia) fun _=>⟨?_,fun b hb=>?_⟩⟩
  ·(rw [pd,hJ]; exact getD_mem (by rw [ab,aG]; lia))
  ·rw [pd] at hb;obtain⟨j,hj,rfl⟩:=mem_getD hb
   (rw [ab,aG] at hj)
   (rw [← hJ]; exact h2 j #[O])
theorem zh0 {X:Cx} (hc:X.calm=true):zaD X (.builtin "min") (fun xs H Q=>∃ (p:Addr) (ns:List Int),xs = [.ref p]∧kP X.K H p (ns.map V.int)∧ns≠[]∧∀ M:Int,M∈ns→(∀ a∈ns,M≤a)→Q (.int M) H):=by
 intro kN s σ H xs us Q I r h;obtain⟨p,ns,rfl,hq,hn,q⟩:=h;obtain⟨u,rfl,rx⟩:=vals1 r;cases rx;obtain⟨kO,rv,pl,hz⟩:=I.list hq;have hi:IntsAre kO ns:=by simpa using intsAre_of rv
 (obtain⟨xs,e⟩:=hi.allInts.items)
 have pd:ns=xs.toList.map (·.1):=by rw [← hi.numsOf,← je,← e]
 have hsz:0 < xs.size:=by
  have h3:=gb.mpr hn;rw [pd,ab,aG] at h3;exact h3
 have hl:=pl.isList;rw [e] at hl;refine min_intList (I.ok.hd hc) hl hsz fun v h' tk hv hk=>?_
 (obtain⟨t,rfl⟩:=gi hv)
 (obtain⟨h1,h2⟩:=argBest_lt (numAt xs) (xs.size - 1))
 refine⟨.int _,H,I.kept hk,⟨_,rfl⟩,q _ ?_ fun a ha=>?_⟩
 ·(rw [pd,hJ]; exact getD_mem (by rw [ab,aG]; lia))
 ·rw [pd] at ha
  (obtain⟨j,hj,rfl⟩:=mem_getD ha)
  (rw [ab,aG] at hj)
  (rw [← hJ]; exact h2 j #[O])
theorem zbN {X:Cx} {K:af} (hK:X.K=K):zaD X (.type "tuple") (fun xs H Q=>∃ p ys,xs = [.ref p]∧((kP K H p ys∧∀ l,H l=none→Q (.ref l) (kR H l (.tup ys)))∨(kT K H p ys∧Q (.ref p) H))):=by subst hK; exact zam
theorem zcf {X:Cx} {K:af} (hK:X.K=K) (hc:X.calm=true):zaD X (.builtin "max") (fun xs H Q=>∃ (p:Addr) (ns:List Int),xs = [.ref p]∧kP K H p (ns.map V.int)∧ns≠[]∧∀ M:Int,M∈ns→(∀ a∈ns,a≤M)→Q (.int M) H):=by subst hK; exact zbZ hc
end L2
end
section
namespace PySem
end PySem
end
section
namespace PySem
end PySem
namespace L2
open PySem PySem.Spec PyProof.Rows
end L2
end
section
namespace PySem
end PySem
namespace L2
open PySem PySem.Spec PyProof.Rows
end L2
end
section
namespace My
open PySem L2 PyProof.Rows
section
variable {K:af}
theorem LsA.off {H:Hp} {l:Addr} {ls:List Addr} {vv:List (List Int)} (h:LsA H ls vv) (hl:H l=some (.lst (ls.map V.ref))):∀ (i:Nat) (b:Addr),ls[i]? = some b→b≠l:=by
 rintro i b hb rfl;obtain⟨v,_,hv⟩:=Paired.get h hb;rw [hl] at hv;cases ls with
 | nil=>simp at hb
 | cons x r =>
  cases v with
  | nil=>simp at hv
  | cons y z=>simp at hv
theorem LsA.setAt {H:Hp} {l D:Addr} {ls:List Addr} {vv:List (List Int)} {v:List Int} {j:Nat} (h:LsA H ls vv) (hl:H l=some (.lst (ls.map V.ref))) (hD:H D=some (.lst (v.map V.int))) (hn:D≠l) {o:HO}:LsA (kR H l o) (ls.set j D) (vv.set j v):=by
 have off:=h.off hl;clear hl;induction h generalizing j with
 | nil=>cases j <;> exact .nil
 | @cons b u bs us h1 h2 ih =>
  cases j with
  | zero =>
   refine .cons (by rw [zk hn]; exact hD) ?_;have ih0:LsA (kR H l o) bs us:=by
    have:=ih (j:=bs.length) fun i b' hb=>off (i+1) b' (by simpa using hb)
    rw [hU (ag _),hU (by rw [bn h2]; exact ag _)] at this;exact this
   exact ih0
  | succ j=>exact .cons (by rw [zk (off 0 b #[M])]; exact h1) (ih fun i b' hb=>off (i+1) b' (by simpa using hb))
theorem zcS {many:Nat} {base:Int} {ds:List Int} (h:zeQ many base ds) {i:Int} (h0:0≤i) (h1:i < many):∃ d,atI (ds.map V.int) i=some (.int d)∧0≤d∧d < base:=by
 obtain⟨n,rfl⟩:∃ n:Nat,i=n:=⟨i.toNat,#[O]⟩;have hn:n < ds.length:=by rw [h.1]; lia
 refine⟨ds[n]'hn,zaH (by rw [ah,ak hn]; rfl),h.2 _ (c9 hn)⟩
theorem zg7 {H:Hp} {ls:List Addr} {vv:List (List Int)} (h:LsA H ls vv) {D:Addr} (hD:H D=none):D∉ls:=fun hm=>by
 obtain⟨i,hi⟩:=bY.mp hm;obtain⟨v,_,hv⟩:=Paired.get h hi;rw [hD] at hv;cases hv
theorem zeZ {H H':Hp} {ls:List Addr} {vv:List (List Int)} {D:Addr} (hD:D∉ls) (k:∀ b o,b≠D→H b=some o→H' b=some o) (h:LsA H ls vv):LsA H' ls vv:=by
 induction h with
 | nil=>exact .nil
 | cons h1 _ ih=>exact .cons (k _ _ (fun e=>hD (by rw [← e]; exact aI)) h1) (ih fun z=>hD (av _ z))
theorem zcT {α β:Type} {R:α→β→Prop}:∀ {as:List α} {bs:List β} {x:α} {y:β},Paired R (as++[x]) (bs++[y])→Paired R as bs∧R x y
 | [],[],_,_,h=>by cases h with | cons h1 _=>exact⟨.nil,h1⟩
 | [],b :: bs,_,_,h=>by have:=bn h; simp at this
 | a :: as,[],_,_,h=>by have:=bn h; simp at this
 | a :: as,b :: bs,_,_,h=>by
  cases h with
  | cons h1 h2 =>
   obtain⟨p1,p2⟩:=zcT h2;exact⟨.cons h1 p1,p2⟩
theorem zjk {H:Hp} {d:Nat} {x:V} (hx:zec x=true):EqD K H d x x true:=by
 have h:=EqD.flat (K:=K) (H:=H) (d:=d) (x:=x) (y:=x) hx hx;have e:eqV x x=true:=by
  cases x <;> simp_all [eqV,zec]
 rw [e] at h;exact h
theorem zkt {H:Hp} {a b:Addr} {ms:List Int} (ha:H a=some (.tup (ms.map V.int))) (hb:H b=some (.tup (ms.map V.int))):EqD K H 8 (.ref a) (.ref b) true:=by
 by_cases k4:a=b
 ·subst k4;exact .same
 ·have h:=EqD.tups (K:=K) (H:=H) (d:=7) (e:=fun _=>true) k4 (kT.of ha) (kT.of hb) fun j x y h1 h2=>by
   rw [h1] at h2;cases h2;obtain⟨z,rfl,_⟩:=zaB h1;exact zjk rfl
  have e:((aD (min (ms.map V.int).length (ms.map V.int).length)).all (fun _=>true) && (ms.map V.int).length == (ms.map V.int).length)=true:=by simp
  rw [e] at h;exact h
theorem ze0 {H:Hp} {rs rs':List Addr} {qs:List (List Int)} (h1:zal H rs qs) (h2:zal H rs' qs):∀ (j:Nat) x y,(rs.map V.ref)[j]? = some x→(rs'.map V.ref)[j]? = some y→EqD K H 8 x y true:=fun j x y e1 e2=>by
 obtain⟨a,rfl,ha⟩:=zG e1;obtain⟨b,rfl,hb⟩:=zG e2;obtain⟨q,g1,g2⟩:=Paired.get h1 ha;obtain⟨q',g3,g4⟩:=Paired.get h2 hb;rw [g1] at g3;cases g3;exact zkt g2 g4
def trm (j:Nat) (r:List Int) (m:Nat):List (Int×Int):=((aD m).filter fun i=>gl r i≠0).map fun i:Nat=>((i:Int),(j:Int))
def zbh (rows:List (List Int)) (m:Nat):List (Int×Int):=(aD m).flatMap fun j=>trm j (rows.getD j []) (rows.getD j []).length
theorem zfF (j:Nat) (r:List Int) (m:Nat):trm j r (m+1)=if gl r m≠0 then trm j r m++[((m:Int),(j:Int))] else trm j r m:=by
 unfold trm;rw [dQ,dO,aw];by_cases h:gl r m=0 <;> simp [h]
theorem zeq (rows:List (List Int)) (m:Nat):zbh rows (m+1)=zbh rows m++trm m (rows.getD m []) (rows.getD m []).length:=by
 unfold zbh;rw [dQ,jn];simp
theorem zg8 (j:Nat) (r:List Int) (m:Nat):(trm j r m).length≤m:=by
 unfold trm;rw [ab];exact bd (cN _ _) #[M]
def RwA (H:Hp):List Addr→List (List Int)→Prop:=Paired fun b v=>H b=some (.lst (v.map V.int))∨H b=some (.tup (v.map V.int))
def wd (rows:List (List Int)):Nat:=rows.foldr (fun r m=>max r.length m) 0
theorem zg9 {rows:List (List Int)} {r:List Int} (h:r∈rows):r.length≤wd rows:=by
 induction rows with
 | nil=>cases h
 | cons a l ih =>
  show r.length≤max a.length (wd l);rcases (aN.mp h) with rfl | h
  ·exact Nat.le_max_left _ _
  ·exact bd (ih h) (Nat.le_max_right _ _)
theorem ze1:∀ {rows:List (List Int)},rows≠[]→∃ r∈rows,r.length=wd rows
 | [],h=>absurd rfl h
 | a :: l,_=>by
  by_cases e:l = []
  ·subst e; exact⟨a,aI,by show _=max a.length 0; lia⟩
  ·obtain⟨r,hr,er⟩:=ze1 e;by_cases h:wd l≤a.length
   ·exact⟨a,aI,by show _=max a.length (wd l); lia⟩
   ·exact⟨r,av _ hr,by show _=max a.length (wd l); lia⟩
def zM (rows:List (List Int)):List Int:=rows.map fun r=>(r.length:Int)
theorem zdC (rows:List (List Int)):(zM rows).length=rows.length:=by simp [zM]
theorem zmo {rows:List (List Int)} {M:Int} (h0:zM rows = []→M=0) (h1:zM rows≠[]→M∈zM rows∧∀ a∈zM rows,if true=true then a≤M else M≤a):M=(wd rows:Int):=by
 by_cases e:rows = []
 ·subst e; exact h0 rfl
 ·obtain⟨m1,m2⟩:=h1 (by simpa [zM] using e);obtain⟨r,hr,rfl⟩:=aJ.mp m1;obtain⟨r',k8,e'⟩:=ze1 e;have b1:=zg9 hr;have b2:=m2 _ (aJ.mpr ⟨r',k8,rfl⟩);rw [if_pos rfl] at b2;lia
theorem ze2 {xs:List V} {v:V}:atI (xs++[v]) (-1)=some v:=by
 unfold atI ixN;rw [if_neg #[D],if_pos (by rw [aA]; show -((xs.length+1:Nat):Int)≤-1; lia)];show (xs++[v])[(-1+((xs++[v]).length:Int)).toNat]? = some v;rw [aA,show (-1+((xs.length + [v].length:Nat):Int)).toNat=xs.length by show (-1+((xs.length+1:Nat):Int)).toNat=_; lia,bG (ag _),fc];rfl
end
def sh (b:Int):Nat→(Nat→Int)→Nat→Int
 | 0,_,_=>0
 | n+1,l,0=>l 0+b*sh b n (fun t=>l (t+1)) 0
 | n+1,l,j+1=>sh b n (fun t=>l (t+1)) j+b*sh b n (fun t=>l (t+1)) (j+1)
theorem ze3 {b:Int}:∀ {n:Nat} {l:Nat→Int} {j:Nat},n≤j→sh b n l j=0
 | 0,_,_,_=>by simp [sh]
 | n+1,l,0,h=>by lia
 | n+1,l,j+1,h=>by
  rw [sh,ze3 #[O],ze3 #[O]]; simp
theorem ze4 {b:Int}:∀ {n:Nat} {u v:Nat→Int} {j:Nat},sh b n (fun t=>u t+v t) j=sh b n u j+sh b n v j
 | 0,_,_,_=>by simp [sh]
 | n+1,u,v,0=>by
  have h:=ze4 (b:=b) (n:=n) (u:=fun t=>u (t+1)) (v:=fun t=>v (t+1)) (j:=0);simp only [sh,h]; grind
 | n+1,u,v,j+1=>by
  have h:=ze4 (b:=b) (n:=n) (u:=fun t=>u (t+1)) (v:=fun t=>v (t+1)) (j:=j);have h':=ze4 (b:=b) (n:=n) (u:=fun t=>u (t+1)) (v:=fun t=>v (t+1)) (j:=j+1);simp only [sh,h,h']; grind
theorem zcg {b c:Int}:∀ {n:Nat} {u:Nat→Int} {j:Nat},sh b n (fun t=>c*u t) j=c*sh b n u j
 | 0,_,_=>by simp [sh]
 | n+1,u,0=>by
  have h:=zcg (b:=b) (c:=c) (n:=n) (u:=fun t=>u (t+1)) (j:=0);simp only [sh,h]; grind
 | n+1,u,j+1=>by
  have h:=zcg (b:=b) (c:=c) (n:=n) (u:=fun t=>u (t+1)) (j:=j);have h':=zcg (b:=b) (c:=c) (n:=n) (u:=fun t=>u (t+1)) (j:=j+1);simp only [sh,h,h']; grind
theorem zcx {b:Int}:∀ {n:Nat} {u v:Nat→Int} {j:Nat},(∀ t,t < n→u t=v t)→sh b n u j=sh b n v j
 | 0,_,_,_,_=>by simp [sh]
 | n+1,u,v,0,h=>by
  rw [sh,sh,h 0 #[O],zcx (n:=n) (v:=fun t=>v (t+1)) fun t ht=>h (t+1) #[O]]
 | n+1,u,v,j+1,h=>by
  have e:=fun i=>zcx (b:=b) (n:=n) (u:=fun t=>u (t+1)) (v:=fun t=>v (t+1)) (j:=i) fun t ht=>h (t+1) #[O]
  rw [sh,sh,e j,e (j+1)]
theorem zha {p b b':Int} (hb:Cg p b b'):∀ {n:Nat} {u v:Nat→Int} {j:Nat},(∀ t,t < n→Cg p (u t) (v t))→Cg p (sh b n u j) (sh b' n v j)
 | 0,_,_,_,_=>by simp only [sh]; exact Cg.refl _ _
 | n+1,u,v,0,h=>by
  simp only [sh];exact (h 0 #[O]).add (hb.mul (zha hb fun t ht=>h (t+1) #[O]))
 | n+1,u,v,j+1,h=>by
  simp only [sh];exact (zha hb fun t ht=>h (t+1) #[O]).add (hb.mul (zha hb fun t ht=>h (t+1) #[O]))
theorem zgj {b:Int}:∀ {n:Nat} {f:Nat→Int} {j:Nat},f n=0→sh b (n+1) f j=sh b n f j
 | 0,f,0,h=>by simp [sh,h]
 | 0,f,j+1,h=>by simp [sh]
 | n+1,f,0,h=>by
  rw [sh,zgj (n:=n) (f:=fun t=>f (t+1)) h]; simp only [sh]
 | n+1,f,j+1,h=>by
  have e:=fun i=>zgj (b:=b) (n:=n) (f:=fun t=>f (t+1)) (j:=i) h
  rw [sh,e j,e (j+1)]; simp only [sh]
theorem zhb:∀ {n:Nat} {l:Nat→Int} {j:Nat},j < n→sh 0 n l j=l j
 | 0,_,_,h=>by lia
 | n+1,l,0,_=>by simp [sh]
 | n+1,l,j+1,h=>by
  rw [sh,zhb (n:=n) (l:=fun t=>l (t+1)) #[O]]; simp
theorem zkV {b b':Int}:∀ {n:Nat} {l:Nat→Int} {j:Nat},sh b' n (sh b n l) j=sh (b+b') n l j
 | 0,_,_=>by simp [sh]
 | n+1,l,j=>by
  have hz:sh b n (fun t=>l (t+1)) n=0:=ze3 (ag _);have ih:=fun i=>zkV (b:=b) (b':=b') (n:=n) (l:=fun t=>l (t+1)) (j:=i)
  have e:sh b' (n+1) (sh b (n+1) l) j=sh b' (n+1) (fun t=>(if t=0 then l 0 else sh b n (fun t=>l (t+1)) (t - 1))+b*sh b n (fun t=>l (t+1)) t) j:=by
   refine zcx fun t _=>?_
   cases t <;> simp [sh]
  rw [e,ze4,zcg,zgj hz,ih];cases j with
  | zero =>
   simp only [sh,if_true];have e2:sh b' n (fun t=>if t+1=0 then l 0 else sh b n (fun t=>l (t+1)) (t+1 - 1)) 0=sh (b+b') n (fun t=>l (t+1)) 0:=by
    rw [← ih]; exact zcx fun t _=>by simp
   rw [e2]; grind
  | succ j =>
   simp only [sh];have e2:∀ i,sh b' n (fun t=>if t+1=0 then l 0 else sh b n (fun t=>l (t+1)) (t+1 - 1)) i=sh (b+b') n (fun t=>l (t+1)) i:=fun i=>by
    rw [← ih]; exact zcx fun t _=>by simp
   rw [e2,e2]; grind
def vl:Nat→(Nat→Int)→Int→Int
 | 0,_,_=>0
 | n+1,l,y=>l 0+y*vl n (fun t=>l (t+1)) y
def hs (b:Int):Nat→(Nat→Int)→Nat→Int
 | 0,_,_=>0
 | n+1,l,0=>l 0+b*hs b n (fun t=>l (t+1)) 0
 | n+1,l,j+1=>hs b n (fun t=>l (t+1)) j
theorem ze5 {b:Int}:∀ {n:Nat} {l:Nat→Int} {j:Nat},n≤j→hs b n l j=0
 | 0,_,_,_=>by simp [hs]
 | n+1,l,0,h=>by lia
 | n+1,l,j+1,h=>by rw [hs,ze5 #[O]]
theorem zdc {b:Int}:∀ {n:Nat} {l:Nat→Int} {j:Nat},j < n→hs b n l j=l j+b*hs b n l (j+1)
 | 0,_,_,h=>by lia
 | n+1,l,0,h=>by simp only [hs]
 | n+1,l,j+1,h=>by
  rw [hs,zdc (n:=n) (l:=fun t=>l (t+1)) #[O]]; rfl
theorem zjl {b:Int}:∀ {n:Nat} {l:Nat→Int},sh b (n+1) l 0=hs b (n+1) l 0∧∀ j,sh b (n+1) l (j+1)=sh b n (fun t=>hs b (n+1) l (t+1)) j
 | 0,l=>by simp [sh,hs]
 | n+1,l=>by
  obtain⟨h0,h1⟩:=zjl (b:=b) (n:=n) (l:=fun t=>l (t+1));refine⟨?_,fun j=>?_⟩
  ·rw [sh,h0]; simp only [hs]
  ·rw [sh];have e:sh b (n+1) (fun t=>hs b (n+2) l (t+1)) j=sh b (n+1) (fun t=>hs b (n+1) (fun t=>l (t+1)) t) j:=zcx fun t _=>by rw [hs]
   rw [e];cases j with
   | zero=>rw [h0,h1 0]; simp only [sh]
   | succ j=>rw [h1 j,h1 (j+1)]; simp only [sh]
def qo (b:Int) (n:Nat) (l:Nat→Int):Nat→Nat→Int
 | 0=>l
 | f+1=>fun t=>hs b (n - f) (qo b n l f) (t+1)
theorem zkW {b:Int} {n:Nat} {l:Nat→Int}:∀ {f:Nat},f≤n→∀ j,sh b n l (f+j)=sh b (n - f) (qo b n l f) j
 | 0,_,j=>by rw [bE]; rfl
 | f+1,h,j=>by
  have ih:=zkW (b:=b) (n:=n) (l:=l) (f:=f) #[O] (j+1);have e:f+1+j=f+(j+1):=by lia
  have e2:n - f=(n - (f+1))+1:=by lia
  rw [e,ih,e2,(zjl).2 j];refine zcx fun t _=>?_
  rw [qo,e2]
theorem zjm {b:Int} {n:Nat} {l:Nat→Int} {f:Nat} (h:f < n):sh b n l f=hs b (n - f) (qo b n l f) 0:=by
 have ih:=zkW (b:=b) (n:=n) (l:=l) (f:=f) #[O] 0;have e2:n - f=(n - (f+1))+1:=by lia
 rw [cV] at ih;rw [ih,e2,(zjl).1]
theorem zkX {y:Int}:∀ {n:Nat} {l:Nat→Int},vl n l y=sm n fun t=>l t*y ^ t
 | 0,_=>rfl
 | n+1,l=>by
  rw [vl,zkX,zbu,← zeX];congr 1
  ·simp
  ·exact zbL fun t _=>by rw [jB]; grind
def zv (n w:Nat) (g:Nat→Nat→Int):List (List Int):=(aD n).map fun j=>(aD w).map fun i=>g j i
theorem zaa {n w j:Nat} {g:Nat→Nat→Int} (h:j < n):(zv n w g)[j]? = some ((aD w).map fun i=>g j i):=by
 unfold zv;rw [ah,bw h];rfl
theorem zaM {n w:Nat} {g g':Nat→Nat→Int} (h:∀ j i,j < n→i < w→g j i=g' j i):zv n w g=zv n w g':=by
 unfold zv;refine eP fun j hj=>eP fun i hi=>?_
 exact h j i (bi.mp hj) (bi.mp hi)
theorem zh1 {n w j:Nat} {g:Nat→Nat→Int} {v:Nat→Int}:(zv n w g).set j ((aD w).map v)=zv n w (fun j' i=>if j'=j then v i else g j' i):=by
 refine cG fun k=>?_
 rw [jN];by_cases hk:k < n
 ·rw [zaa hk,zaa hk];by_cases e:j=k
  ·subst e;have hl:j < (zv n w g).length:=by unfold zv; rw [ab,aU]; exact hk
   simp [hl]
  ·simp [e,cJ e]
 ·have h1:(zv n w g)[k]? = none:=bX.mpr (by unfold zv; rw [ab,aU]; lia);have h2:(zv n w (fun j' i=>if j'=j then v i else g j' i))[k]? = none:=bX.mpr (by unfold zv; rw [ab,aU]; lia);have h3:(zv n w g).length=n:=by unfold zv; rw [ab,aU]
  rw [h1,h2,h3];split
  ·rw [if_neg #[O]]
  ·rfl
theorem zh2 {w:Nat} {u v:Nat→Int} {f:Int→Int→Int}:dY f ((aD w).map u) ((aD w).map v)=(aD w).map fun i=>f (u i) (v i):=by
 rw [List.zipWith_map,List.zipWith_self]
def rst (p b:Int) (n:Nat) (c:Nat→Nat→Int) (f idx j i:Nat):Int :=
 (if j < f then sh b n (fun t=>c t i) j else if n≤idx+1+j then hs b (n - f) (qo b n (fun t=>c t i) f) (j - f) else qo b n (fun t=>c t i) f (j - f)) % p
theorem zh3 {p b:Int} {n:Nat} {c:Nat→Nat→Int} {j i:Nat} (hj:j < n):rst p b n c 0 0 j i=c j i % p:=by
 unfold rst;rw [if_neg #[O]];split
 ·rw [d8,d8,zdc hj,ze5 #[O]];simp [qo]
 ·rfl
theorem zjn {p b:Int} {n:Nat} {c:Nat→Nat→Int} {j i:Nat} (hj:j < n):rst p b n c n 0 j i=sh b n (fun t=>c t i) j % p:=by
 unfold rst;rw [if_pos hj]
theorem zjo {p b:Int} {n f:Nat} {c:Nat→Nat→Int} {j i:Nat} (hf:f < n) (hj:j < n):rst p b n c f (n - 1 - f) j i=rst p b n c (f+1) 0 j i:=by
 unfold rst;by_cases h1:j < f
 ·rw [if_pos h1,if_pos #[O]]
 ·rw [if_neg h1,if_pos #[O]];by_cases h2:j=f
  ·subst h2;rw [if_pos #[O],fc,zjm hf]
  ·rw [if_neg #[O]];have e1:j - f=(j - (f+1))+1:=by lia
   have e2:qo b n (fun t=>c t i) (f+1) (j - (f+1))=hs b (n - f) (qo b n (fun t=>c t i) f) (j - f):=by rw [e1]; rfl
   split
   ·rw [zdc (n:=n - (f+1)) (j:=j - (f+1)) #[O],ze5 (n:=n - (f+1)) (j:=j - (f+1)+1) #[O],e2]; simp
   ·rw [e2]
theorem zjp {p b:Int} {n f idx:Nat} {c:Nat→Nat→Int} {j i:Nat} (hi:idx < n - 1 - f) (hj:j < n):rst p b n c f (idx+1) j i=if j=n - 2 - idx then (rst p b n c f idx (n - 2 - idx) i+b*rst p b n c f idx (n - 2 - idx+1) i) % p else rst p b n c f idx j i:=by
 by_cases h:j=n - 2 - idx
 ·rw [if_pos h,← h];unfold rst;rw [if_neg #[O],if_pos #[O],if_neg #[O],if_neg #[O],if_neg #[O],if_pos #[O],zdc #[O]];have e:j+1 - f=j - f+1:=by lia
  rw [e];exact ((Cg.emod p _).symm.add ((Cg.refl p b).mul (Cg.emod p _).symm)).mod_eq
 ·rw [if_neg h];unfold rst;split
  ·rfl
  ·by_cases h2:n≤idx+1+j
   ·rw [if_pos h2,if_pos #[O]]
   ·rw [if_neg h2,if_neg #[O]]
abbrev Ps:=Nat→Int
structure Add (B:Ps→Ps):Prop where
 a:∀ u v,B (fun i=>u i+v i)=fun i=>B u i+B v i
def shO (B:Ps→Ps):Nat→(Nat→Ps)→Nat→Ps
 | 0,_,_=>fun _=>0
 | n+1,F,0=>fun i=>F 0 i+B (shO B n (fun t=>F (t+1)) 0) i
 | n+1,F,j+1=>fun i=>shO B n (fun t=>F (t+1)) j i+B (shO B n (fun t=>F (t+1)) (j+1)) i
theorem Add.z {B:Ps→Ps} (h:Add B):B (fun _=>0)=fun _=>0:=by
 have:=h.a (fun _=>0) (fun _=>0);funext i;have e:=congrFun this i;have e2:(fun _:Nat=>(0:Int)+0)=fun _=>0:=by funext i; rfl
 rw [e2] at e;lia
theorem zdD {B:Ps→Ps} (h:Add B):∀ {n:Nat} {F:Nat→Ps} {j:Nat},n≤j→shO B n F j=fun _=>0
 | 0,_,_,_=>by simp [shO]
 | n+1,F,0,hj=>by lia
 | n+1,F,j+1,hj=>by
  rw [shO,zdD h #[O],zdD h #[O],h.z];funext i;simp
theorem zdd {B:Ps→Ps} (h:Add B):∀ {n:Nat} {F G:Nat→Ps} {j:Nat},shO B n (fun t i=>F t i+G t i) j=fun i=>shO B n F j i+shO B n G j i
 | 0,_,_,_=>by simp [shO]
 | n+1,F,G,0=>by
  have e:=zdd h (n:=n) (F:=fun t=>F (t+1)) (G:=fun t=>G (t+1)) (j:=0);simp only [shO];rw [e,h.a];funext i;dsimp only;lia
 | n+1,F,G,j+1=>by
  have e:=fun j=>zdd h (n:=n) (F:=fun t=>F (t+1)) (G:=fun t=>G (t+1)) (j:=j)
  simp only [shO];rw [e,e,h.a];funext i;dsimp only;lia
theorem zb0 {B C:Ps→Ps} (hC:Add C) (hc:∀ l,C (B l)=B (C l)):∀ {n:Nat} {F:Nat→Ps} {j:Nat},shO B n (fun t=>C (F t)) j=C (shO B n F j)
 | 0,_,_=>by simp [shO,hC.z]
 | n+1,F,0=>by
  have e:=zb0 hC hc (n:=n) (F:=fun t=>F (t+1)) (j:=0);simp only [shO];rw [e,← hc,← hC.a]
 | n+1,F,j+1=>by
  have e:=fun j=>zb0 hC hc (n:=n) (F:=fun t=>F (t+1)) (j:=j)
  simp only [shO];rw [e,e,← hc,← hC.a]
theorem zde {B:Ps→Ps} (h:Add B):∀ {n:Nat} {F:Nat→Ps} {j:Nat},F n=(fun _=>0)→shO B (n+1) F j=shO B n F j
 | 0,F,0,e=>by simp [shO,e,h.z]
 | 0,F,j+1,e=>by simp [shO,h.z]
 | n+1,F,0,e=>by
  rw [shO,zde h (n:=n) (F:=fun t=>F (t+1)) e]; simp only [shO]
 | n+1,F,j+1,e=>by
  have g:=fun i=>zde h (n:=n) (F:=fun t=>F (t+1)) (j:=i) e
  rw [shO,g j,g (j+1)]; simp only [shO]
theorem zjq {B:Ps→Ps} {n:Nat} {F G:Nat→Ps} {j:Nat} (h:∀ t,F t=G t):shO B n F j=shO B n G j:=by
 rw [funext h]
theorem zhc {B B':Ps→Ps} (h:Add B) (h':Add B') (hc:∀ l,B (B' l)=B' (B l)):∀ {n:Nat} {F:Nat→Ps} {j:Nat},shO B' n (shO B n F) j=shO (fun l i=>B l i+B' l i) n F j
 | 0,_,_=>by simp [shO]
 | n+1,F,j=>by
  have hz:shO B n (fun t=>F (t+1)) n=fun _=>0:=zdD h (ag _)
  have ih:=fun i=>zhc h h' hc (n:=n) (F:=fun t=>F (t+1)) (j:=i)
  have e:shO B' (n+1) (shO B (n+1) F) j=shO B' (n+1) (fun t i=>(if t=0 then F 0 else shO B n (fun t=>F (t+1)) (t - 1)) i+B (shO B n (fun t=>F (t+1)) t) i) j:=by
   refine zjq fun t=>?_
   cases t <;> simp [shO]
  rw [e,zdd h',zb0 h hc (F:=shO B n (fun t=>F (t+1))),zde h' hz,ih];have e2:∀ i,shO B' n (fun t=>if t+1=0 then F 0 else shO B n (fun t=>F (t+1)) (t+1 - 1)) i=shO (fun l i=>B l i+B' l i) n (fun t=>F (t+1)) i:=fun i=>by
   rw [← ih]; exact zjq fun t=>by simp
  cases j with
  | zero =>
   simp only [shO,if_true];rw [e2];funext i;lia
  | succ j =>
   simp only [shO];rw [e2,e2];funext i;lia
def Xl (l:Ps):Ps:=fun i=>if i=0 then 0 else l (i - 1)
def mq (a:Int):Nat→Ps→Ps→Ps
 | 0,_,_=>fun _=>0
 | n+1,b,l=>fun i=>b 0*l i+(Xl (mq a n (fun t=>b (t+1)) l) i+a*mq a n (fun t=>b (t+1)) l i)
theorem ze6 (u v:Ps):Xl (fun i=>u i+v i)=fun i=>Xl u i+Xl v i:=by
 funext i;unfold Xl;split
 ·rfl
 ·rfl
theorem zgk (c:Int) (u:Ps):Xl (fun i=>c*u i)=fun i=>c*Xl u i:=by
 funext i;unfold Xl;split
 ·lia
 ·rfl
theorem zaX (a:Int):∀ (n:Nat) (b:Ps),Add (mq a n b)
 | 0,_=>⟨fun _ _=>by funext i; simp [mq]⟩
 | n+1,b=>⟨fun u v=>by
  have ih:=(zaX a n (fun t=>b (t+1))).a u v;funext i;simp only [mq];rw [ih,ze6];grind⟩
theorem ze7 (a c:Int):∀ (n:Nat) (b l:Ps),mq a n b (fun i=>c*l i)=fun i=>c*mq a n b l i
 | 0,_,_=>by funext i; simp [mq]
 | n+1,b,l=>by
  have ih:=ze7 a c n (fun t=>b (t+1)) l;funext i;simp only [mq];rw [ih,zgk];grind
def Dg (l:Ps) (w:Nat):Prop:=∀ i,w≤i→l i=0
theorem Dg.le {l:Ps} {w w':Nat} (h:Dg l w) (hw:w≤w'):Dg l w':=fun i hi=>h i #[O]
theorem zgl:∀ {n:Nat} {b l:Ps} {w:Nat},Dg l w→Dg (mq 0 n b l) (w+(n - 1))
 | 0,_,_,_,_=>fun i _=>by simp [mq]
 | n+1,b,l,w,h=>fun i hi=>by
  have ih:=zgl (n:=n) (b:=fun t=>b (t+1)) h;simp only [mq,dE,bV];rw [h i #[O],dF,et];unfold Xl;split
  ·rfl
  ·cases n with
   | zero=>simp [mq]
   | succ n=>exact ih _ #[O]
def Od (p:Int) (l:Ps) (r:Nat):Prop:=∀ i,i < r→Cg p (l i) 0
theorem Od.le {p:Int} {l:Ps} {r r':Nat} (h:Od p l r) (hr:r'≤r):Od p l r':=fun i hi=>h i #[O]
theorem Od.add {p:Int} {u v:Ps} {r:Nat} (h:Od p u r) (h':Od p v r):Od p (fun i=>u i+v i) r:=fun i hi=>((h i hi).add (h' i hi)).trans (Cg.of_eq #[M])
theorem Od.mul {p:Int} {u:Ps} {r:Nat} (c:Int) (h:Od p u r):Od p (fun i=>c*u i) r:=fun i hi=>((Cg.refl p c).mul (h i hi)).trans (Cg.of_eq #[M])
theorem Od.Xl {p:Int} {u:Ps} {r:Nat} (h:Od p u r):Od p (Xl u) (r+1):=fun i hi=>by
 unfold My.Xl;split
 ·exact Cg.refl _ _
 ·exact h _ #[O]
theorem Od.mq {p a:Int}:∀ {n:Nat} {b l:Ps} {r:Nat},Od p l r→Od p (mq a n b l) r
 | 0,_,_,_,_=>fun i _=>by simp only [My.mq]; exact Cg.refl _ _
 | n+1,b,l,r,h=>by
  have ih:=Od.mq (a:=a) (n:=n) (b:=fun t=>b (t+1)) h;exact (h.mul (b 0)).add ((ih.Xl.le (iC _)).add (ih.mul a))
theorem zfG {k1:Nat} {b:Ps}:∀ {n:Nat} {F:Nat→Ps} {S v:Nat},(∀ t,Dg (F t) (S - k1*t))→Dg (shO (mq 0 (k1+1) b) n F v) (S - k1*v)
 | 0,_,_,_,_=>fun i _=>by simp [shO]
 | n+1,F,S,v,h=>by
  have h':∀ t,Dg (F (t+1)) (S - k1 - k1*t):=fun t=>(h (t+1)).le (by rw [f']; lia)
  have ih:=fun v=>zfG (k1:=k1) (b:=b) (n:=n) (F:=fun t=>F (t+1)) (S:=S - k1) (v:=v) h'
  have hz:∀ v,S≤k1*(v+1)→(shO (mq 0 (k1+1) b) n (fun t=>F (t+1)) v)=fun _=>0:=fun v hv=>by
   funext i;exact ih v i (by rw [f'] at hv; lia)
  have hb:∀ v,Dg (mq 0 (k1+1) b (shO (mq 0 (k1+1) b) n (fun t=>F (t+1)) v)) (S - k1*v):=fun v=>by
   by_cases hv:S≤k1*(v+1)
   ·rw [hz v hv,(zaX 0 (k1+1) b).z];exact fun i _=>rfl
   ·exact (zgl (ih v)).le (by rw [f'] at hv; lia)
  cases v with
  | zero =>
   intro i hi;simp only [shO];rw [h 0 i hi,hb 0 i hi];rfl
  | succ v =>
   intro i hi;simp only [shO];rw [ih v i (by rw [f'] at hi; lia),hb (v+1) i hi];rfl
theorem zhd {c:Int}:∀ {n:Nat} {F:Nat→Ps} {v i:Nat},shO (fun l i=>c*l i) n F v i=sh c n (fun t=>F t i) v
 | 0,_,_,_=>by simp [shO,sh]
 | n+1,F,0,i=>by simp only [shO,sh]; rw [zhd]
 | n+1,F,v+1,i=>by simp only [shO,sh]; rw [zhd,zhd]
theorem zb1 {p a:Int} {n:Nat} {b l:Ps} (h:∀ i,Cg p (l i) 0) (i:Nat):Cg p (mq a n b l i) 0:=Od.mq (r:=i+1) (fun j _=>h j) i (fL _)
def AL (k:Nat) (f:Ps) (n:Nat) (F:Nat→Ps):Ps:=shO (mq 0 k f) n F 0
def Zr (p:Int) (l:Ps):Prop:=∀ i,Cg p (l i) 0
theorem zkY:∀ {n:Nat} {f g:Ps} (l:Ps),(∀ i,i < n→f i=g i)→mq 0 n f l=mq 0 n g l
 | 0,_,_,_,_=>rfl
 | n+1,f,g,l,h=>by
  have ih:=zkY (n:=n) (f:=fun t=>f (t+1)) (g:=fun t=>g (t+1)) l fun i hi=>h (i+1) #[O]
  funext i;simp only [mq];rw [ih,h 0 #[O]]
theorem zkZ {k n:Nat} {f g:Ps} {F:Nat→Ps} (h:∀ i,i < k→f i=g i):AL k f n F=AL k g n F:=by
 unfold AL;have:mq 0 k f=mq 0 k g:=funext fun l=>zkY l h
 rw [this]
theorem zhe:∀ (n:Nat) (b l:Ps),Xl (mq 0 n b l)=mq 0 n b (Xl l)
 | 0,b,l=>by
  funext i;unfold Xl mq;split <;> rfl
 | n+1,b,l=>by
  have ih:=zhe n (fun t=>b (t+1)) l;have e:mq 0 (n+1) b l=fun i=>b 0*l i+Xl (mq 0 n (fun t=>b (t+1)) l) i:=by
   funext i;simp only [mq,dE,bV]
  have e2:mq 0 (n+1) b (Xl l)=fun i=>b 0*Xl l i+Xl (mq 0 n (fun t=>b (t+1)) (Xl l)) i:=by
   funext i;simp only [mq,dE,bV]
  rw [e,e2,ze6,zgk,ih]
theorem AX:Add Xl:=⟨ze6⟩
theorem zmW {k n:Nat} {f:Ps} {F:Nat→Ps}:AL k f n (fun j=>Xl (F j))=Xl (AL k f n F):=zb0 AX (zhe k f)
theorem zmX {p:Int} {l:Ps}:Zr p (Xl l)↔Zr p l:=by
 constructor
 ·intro h i;have:=h (i+1);simpa [Xl] using this
 ·intro h i;unfold Xl;split
  ·exact Cg.refl _ _
  ·exact h _
theorem zdE {B:Ps→Ps}:∀ {n:Nat} {F G:Nat→Ps} {j:Nat},(∀ t,t < n→F t=G t)→shO B n F j=shO B n G j
 | 0,_,_,_,_=>rfl
 | n+1,F,G,0,h=>by
  simp only [shO];rw [h 0 #[O],zdE (n:=n) (F:=fun t=>F (t+1)) (G:=fun t=>G (t+1)) fun t ht=>h (t+1) #[O]]
 | n+1,F,G,j+1,h=>by
  simp only [shO];rw [zdE (n:=n) (F:=fun t=>F (t+1)) (G:=fun t=>G (t+1)) (j:=j) fun t ht=>h (t+1) #[O],zdE (n:=n) (F:=fun t=>F (t+1)) (G:=fun t=>G (t+1)) (j:=j+1) fun t ht=>h (t+1) #[O]]
theorem ze8 {p:Int} {k n:Nat} {f:Ps}:∀ {s:Nat} {F:Nat→Ps},(∀ j i,j < n→i < s→F j i=0)→(Zr p (AL k f n F)↔Zr p (AL k f n fun j i=>F j (i+s)))
 | 0,F,_=>Iff.rfl
 | s+1,F,h=>by
  have e:AL k f n F=AL k f n fun j=>Xl fun i=>F j (i+1):=zdE fun t ht=>by
   funext i;unfold Xl;split
   ·next h0=>rw [h0]; exact h t 0 ht #[O]
   ·next h0 =>
    show F t i=F t (i - 1+1);rw [show i - 1+1=i by lia]
  rw [e,zmW,zmX,ze8 (s:=s) (F:=fun j i=>F j (i+1)) fun j i hj hi=>h j (i+1) hj #[O]];have e2:(fun (j:Nat) (i:Nat)=>F j (i+s+1))=fun j i=>F j (i+(s+1)):=rfl
  rw [e2]
def nxc (b:Int) (n:Nat) (F:Nat→Ps) (j i:Nat):Int:=if i < j then 0 else sh b n (fun t=>F t (i - j)) j
def Xp:Nat→Ps→Ps
 | 0,l=>l
 | s+1,l=>Xl (Xp s l)
theorem zcU:∀ (s:Nat) (l:Ps) (i:Nat),Xp s l i=if i < s then 0 else l (i - s)
 | 0,l,i=>by rw [if_neg #[O]]; rfl
 | s+1,l,i=>by
  show Xl (Xp s l) i=_;unfold Xl;split
  ·next h=>rw [h,if_pos #[O]]
  ·next h =>
   rw [zcU s l (i - 1)];by_cases h1:i - 1 < s
   ·rw [if_pos h1,if_pos #[O]]
   ·rw [if_neg h1,if_neg #[O],show i - 1 - s=i - (s+1) by lia]
theorem zk0 {M:Ps→Ps} (hM:∀ l,Xl (M l)=M (Xl l)):∀ {n:Nat} {G:Nat→Ps},shO (fun l=>Xl (M l)) n G 0=shO M n (fun j=>Xp j (G j)) 0
 | 0,_=>rfl
 | n+1,G=>by
  have ih:=zk0 hM (n:=n) (G:=fun t=>G (t+1));have e:shO M n (fun t=>Xp (t+1) (G (t+1))) 0=Xl (shO M n (fun t=>Xp t (G (t+1))) 0):=zb0 (C:=Xl) AX hM (F:=fun t=>Xp t (G (t+1)));simp only [shO];rw [ih];funext i;show G 0 i+Xl (M (shO M n (fun j=>Xp j (G (j+1))) 0)) i=G 0 i+M (shO M n (fun t=>Xp (t+1) (G (t+1))) 0) i;rw [e,hM]
theorem zku {k n:Nat} {f:Ps} {F:Nat→Ps}:AL (k+1) f n F=AL k (fun t=>f (t+1)) n (nxc (f 0) n F):=by
 have aC:Add (fun (l:Ps) i=>f 0*l i):=⟨fun u v=>by funext i; exact Int.mul_add _ _ _⟩;have aM:=zaX 0 k fun t=>f (t+1)
 have aX:Add (fun l=>Xl (mq 0 k (fun t=>f (t+1)) l)):=⟨fun u v=>by rw [aM.a,ze6]⟩;have e:mq 0 (k+1) f=fun (l:Ps) i=>(fun (l:Ps) i=>f 0*l i) l i+(fun l=>Xl (mq 0 k (fun t=>f (t+1)) l)) l i:=by
  funext l i;simp only [mq,dE,bV]
 unfold AL;rw [e,← zhc aC aX fun l=>by
  funext i;show f 0*Xl (mq 0 k (fun t=>f (t+1)) l) i=Xl (mq 0 k (fun t=>f (t+1)) (fun i=>f 0*l i)) i;rw [ze7,zgk],zk0 (zhe k _)]
 refine zdE fun j hj=>?_
 funext i;rw [zcU];unfold nxc;split
 ·rfl
 ·rw [zhd]
theorem zjr {p:Int} {n:Nat} {b l l':Ps} (h:∀ i,Cg p (l i) (l' i)) (i:Nat):Cg p (mq 0 n b l i) (mq 0 n b l' i):=by
 induction n generalizing b i with
 | zero=>exact Cg.refl _ _
 | succ n ih =>
  simp only [mq,dE,bV];refine ((Cg.refl p _).mul (h i)).add ?_;unfold Xl;split
  ·exact Cg.refl _ _
  ·exact ih _
theorem zhf {p:Int} {k n:Nat} {f:Ps} {F G:Nat→Ps} (h:∀ j i,j < n→Cg p (F j i) (G j i)) (i:Nat):Cg p (AL k f n F i) (AL k f n G i):=by
 unfold AL;induction n generalizing F G i with
 | zero=>exact Cg.refl _ _
 | succ n ih =>
  simp only [shO];exact (h 0 i #[O]).add (zjr (fun i=>ih (fun j i hj=>h (j+1) i #[O]) i) i)
theorem zjs {p:Int} {u v:Ps} (h:∀ i,Cg p (u i) (v i)):Zr p u↔Zr p v:=⟨fun z i=>(h i).symm.trans (z i),fun z i=>(h i).trans (z i)⟩
theorem zlI {k n:Nat} {f:Ps} {F:Nat→Ps}:AL (k+1) f n F 0=vl n (fun j=>F j 0) (f 0):=by
 unfold AL;induction n generalizing F with
 | zero=>rfl
 | succ n ih =>
  have ih:=ih (F:=fun t=>F (t+1));have e:∀ l:Ps,mq 0 (k+1) f l 0=f 0*l 0:=fun l=>by simp [mq,Xl]
  show F 0 0+mq 0 (k+1) f (shO (mq 0 (k+1) f) n (fun t=>F (t+1)) 0) 0=_;rw [e,ih];rfl
theorem zlJ {n:Nat} {f:Ps} {F:Nat→Ps}:AL 0 f (n+1) F=F 0:=by
 unfold AL;funext i;simp [shO,mq]
theorem zmp {p b:Int} {n:Nat} {l:Nat→Int} (h:∀ j,j < n→Cg p (sh b n l j) 0):∀ j,j < n→Cg p (l j) 0:=fun j hj=>by
 have e:sh (-b) n (sh b n l) j=l j:=by
  rw [zkV,show b + -b=0 by lia,zhb hj]
 rw [← e];refine (zha (Cg.refl p (-b)) fun t ht=>h t ht).trans (Cg.of_eq ?_);have:=zcg (b:=-b) (c:=0) (n:=n) (u:=fun _=>0) (j:=j);simpa using this
def cns (b:Int) (g:Ps):Ps:=fun i=>if i=0 then b else g (i - 1)
def apl (known:List Int) (g:Ps):Ps:=fun i=>if i < known.length then gl known i else g (i - known.length)
theorem zjt (known:List Int) (b:Int) (g:Ps):apl (known++[b]) g=apl known (cns b g):=by
 funext i;unfold apl cns;rw [aA,zlF];show (if i < known.length+1 then (if i < known.length then gl known i else gl [b] (i - known.length)) else g (i - (known.length+1)))=_;by_cases h:i < known.length
 ·rw [if_pos #[O],if_pos h,if_pos h]
 ·by_cases h1:i=known.length
  ·subst h1;rw [if_pos #[O],if_neg h,if_neg h,fc,if_pos rfl];rfl
  ·rw [if_neg #[O],if_neg h,if_neg #[O],show i - known.length - 1=i - (known.length+1) by lia]
structure RS (p:Int) (n:Nat) (F0:Nat→Ps) (s:Nat) (known:List Int) (w:Nat) (c:Nat→Nat→Int):Prop where
 kn:IsP p s known
 dg:∀ j i,w≤i→c j i=0
 rg:∀ j i,0≤c j i∧c j i < p
 nz:∃ j i,j < n∧i < w∧c j i≠0
 is:∀ m g,Zr p (AL (s+m) (apl known g) n F0)↔Zr p (AL m g n c)
def Lea (n w:Nat) (c:Nat→Nat→Int) (e:Nat):Prop:=(∀ j i,j < n→i < e→c j i=0)∧∃ j,j < n∧e < w∧c j e≠0
def zdX (p b:Int) (n e:Nat) (c:Nat→Nat→Int) (j i:Nat):Int:=if j < n∧j≤i then sh b n (fun t=>c t (i - j+e)) j % p else 0
theorem zkv {p:Int} (hp:p∈zK) {n:Nat} {F0:Nat→Ps} {s w:Nat} {known:List Int} {c:Nat→Nat→Int} (R:RS p n F0 s known w c) {e:Nat} (L:Lea n w c e) {b:Int} (hb:0≤b∧b < p):RS p n F0 (s+1) (known++[b]) (w - e+(n - 1)) (zdX p b n e c):=by
 have rp:=zah hp;have p0:0 < p:=by lia
 refine⟨⟨by rw [aA,R.kn.1]; rfl,fun x hx=>?_⟩,fun j i hi=>?_,fun j i=>?_,?_,fun m g=>?_⟩
 ·rcases aT.mp hx with h | h
  ·exact R.kn.2 x h
  ·rw [aS.mp h]; exact hb
 ·unfold zdX;split
  ·next h =>
   have e0:sh b n (fun t=>c t (i - j+e)) j=sh b n (fun _=>0) j:=zcx fun t _=>R.dg t _ #[O]
   have e1:sh b n (fun _=>(0:Int)) j=0:=by
    have:=zcg (b:=b) (c:=0) (n:=n) (u:=fun _=>0) (j:=j);simpa using this
   rw [e0,e1];rfl
  ·rfl
 ·unfold zdX;split
  ·exact⟨aV _ #[O],aP _ p0⟩
  ·lia
 ·obtain⟨j0,mV,AR,k4⟩:=L.2;refine aW fun yO=>k4 ?_
  have hz:∀ j,j < n→Cg p (sh b n (fun t=>c t e) j) 0:=fun j hj=>by
   have:zdX p b n e c j j=0:=aW fun h=>yO ⟨j,j,hj,#[O],h⟩
   unfold zdX at this;rw [if_pos ⟨hj,ag _⟩,fc,bE] at this;exact (Cg.emod p _).symm.trans (Cg.of_eq this)
  have:=zmp hz j0 mV;obtain⟨a0,a1⟩:=R.rg j0 e;exact Cg.eq this a0 a1 (bF 0) p0
 ·have h1:=R.is (m+1) (cns b g);rw [show s+(m+1)=s+1+m by lia,← zjt] at h1;rw [h1,ze8 (s:=e) L.1,zku];have eg:(fun t=>cns b g (t+1))=g:=by
   funext t;unfold cns;rw [if_neg #[O],b9]
  have eb:cns b g 0=b:=rfl;rw [eg,eb];refine zjs fun i=>zhf (fun j i hj=>?_) i
  unfold nxc zdX;by_cases h:i < j
  ·rw [if_pos h,if_neg #[O]];exact Cg.refl _ _
  ·rw [if_neg h,if_pos ⟨hj,#[O]⟩];exact (Cg.emod p _).symm
theorem zlK {p:Int} {n w:Nat} {c:Nat→Nat→Int} {e m:Nat} {f:Ps} (L:Lea n w c e) (h:Zr p (AL (m+1) f n c)):Cg p (vl n (fun j=>c j e) (f 0)) 0:=by
 have h1:=(ze8 (s:=e) L.1).mp h 0;rw [zlI] at h1;simpa using h1
theorem zlL {p:Int} (hp:p∈zK) {n:Nat} {F0:Nat→Ps} {s w:Nat} {known:List Int} {c:Nat→Nat→Int} (R:RS p (n+1) F0 s known w c):Zr p (AL s (gl known) (n+1) F0)↔∀ i,i < w→c 0 i=0:=by
 have rp:=zah hp;have h:=R.is 0 (fun _=>0);rw [zlJ,cV] at h;have e:AL s (apl known fun _=>0) (n+1) F0=AL s (gl known) (n+1) F0:=zkZ fun i hi=>by
  unfold apl;rw [if_pos (by rw [R.kn.1]; exact hi)]
 rw [e] at h;rw [h];constructor
 ·intro z i _;obtain⟨a0,a1⟩:=R.rg 0 i;exact Cg.eq (z i) a0 a1 (bF 0) #[O]
 ·intro z i;by_cases hi:i < w
  ·rw [z i hi]; exact Cg.refl _ _
  ·rw [R.dg 0 i #[O]]; exact Cg.refl _ _
theorem zkw {p:Int} {n:Nat} {F0:Nat→Ps} {s w m:Nat} {known f:List Int} {c:Nat→Nat→Int} (R:RS p n F0 s known w c) (hf:f.length=s+m) (hk:known=f.take s) (h:Zr p (AL (s+m) (gl f) n F0)):Zr p (AL m (fun i=>gl f (s+i)) n c):=by
 refine (R.is m _).mp ?_;have e:AL (s+m) (gl f) n F0=AL (s+m) (apl known fun i=>gl f (s+i)) n F0:=zkZ fun i hi=>by
  unfold apl;rw [R.kn.1];split
  ·next h1 =>
   rw [hk];unfold gl;rw [au,au,gq,if_pos h1]
  ·next h1 =>
   show gl f i=gl f (s+(i - s));rw [show s+(i - s)=i by lia]
 rw [← e];exact h
theorem zlM {j:Nat} {r:List Int} {m:Nat} {q:Int×Int} (h:q∈trm j r m):∃ i:Nat,q=((i:Int),(j:Int))∧i < m∧gl r i≠0:=by
 unfold trm at h
 (obtain⟨i,hi,rfl⟩:=aJ.mp h)
 obtain⟨h1,h2⟩:=bS.mp hi;exact⟨i,rfl,bi.mp h1,of_decide_eq_true h2⟩
theorem zhg {n w:Nat} {c:Nat→Nat→Int} {j i:Nat} (hj:j < n) (hi:i < w):gl ((zv n w c).getD j []) i=c j i:=by
 have e:(zv n w c).getD j []=(aD w).map fun i=>c j i:=by rw [au,zaa hj]; rfl
 rw [e];exact zbg (by rw [ah,bw hi]; rfl)
theorem zfH {n w:Nat} {c:Nat→Nat→Int} {j:Nat} (hj:j < n):((zv n w c).getD j []).length=w:=by
 rw [au,zaa hj];show ((aD w).map fun i=>c j i).length=w;rw [ab,aU]
theorem zar (n w:Nat) (g:Nat→Nat→Int):(zv n w g).length=n:=by unfold zv; rw [ab,aU]
theorem zdF {n w:Nat} {c:Nat→Nat→Int} {r:List Int} (h:r∈zv n w c):r.length=w:=by
 unfold zv at h;obtain⟨j,_,rfl⟩:=aJ.mp h;rw [ab,aU]
theorem zb2 {n w:Nat} {c:Nat→Nat→Int} {q:Int×Int}:q∈zbh (zv n w c) n↔∃ i j:Nat,q=((i:Int),(j:Int))∧j < n∧i < w∧c j i≠0:=by
 unfold zbh;rw [g8];constructor
 ·rintro⟨j,hj,h⟩;have hj:=bi.mp hj;rw [zfH hj] at h;obtain⟨i,rfl,h1,h2⟩:=zlM h;rw [zhg hj h1] at h2;exact⟨i,j,rfl,hj,h1,h2⟩
 ·rintro⟨i,j,rfl,hj,hi,h⟩;refine⟨j,bi.mpr hj,?_⟩;rw [zfH hj];unfold trm;exact aJ.mpr ⟨i,bS.mpr ⟨bi.mpr hi,decide_eq_true (by rw [zhg hj hi]; exact h)⟩,rfl⟩
theorem zlN {n w:Nat} {c:Nat→Nat→Int} {M:Int} (h1:M∈(zbh (zv n w c) n).map (·.1)) (h2:∀ a∈(zbh (zv n w c) n).map (·.1),M≤a):∃ e:Nat,M=e∧Lea n w c e:=by
 obtain⟨q,hq,rfl⟩:=aJ.mp h1;obtain⟨i,j,rfl,hj,hi,hc⟩:=zb2.mp hq;refine⟨i,rfl,fun j' i' mS lA=>aW fun k4=>?_,j,hj,hi,hc⟩;have:=h2 _ (aJ.mpr ⟨_,zb2.mpr ⟨i',j',rfl,mS,#[O],k4⟩,rfl⟩);have:(i:Int)≤(i':Int):=this;lia
def zbc (n e:Nat) (c:Nat→Nat→Int):List Int:=(aD n).map fun j=>c j e
theorem zcy (n e:Nat) (c:Nat→Nat→Int):(zbc n e c).length=n:=by unfold zbc; rw [ab,aU]
theorem zlO {n e j:Nat} {c:Nat→Nat→Int} (h:j < n):gl (zbc n e c) j=c j e:=zbg (by unfold zbc; rw [ah,bw h]; rfl)
def nums (p:Int) (n e:Nat) (c:Nat→Nat→Int) (m:Nat):List Int:=((aD m).map fun b:Nat=>(b:Int)).filter fun b=>decide (zap p b (zbc n e c)=0)
theorem zer (p:Int) (n e:Nat) (c:Nat→Nat→Int) (m:Nat):nums p n e c (m+1)=nums p n e c m++if zap p (m:Int) (zbc n e c)=0 then [(m:Int)] else []:=by
 unfold nums;rw [dQ,aw,dO];congr 1;rw [eK,jw,jY,ip];by_cases h:zap p (m:Int) (zbc n e c)=0
 ·rw [if_pos h,if_pos (decide_eq_true h)]
 ·rw [if_neg h,if_neg (by simpa using h)]
theorem zcz {p:Int} {n e m:Nat} {c:Nat→Nat→Int} {b:Int}:b∈nums p n e c m↔(0≤b∧b < m)∧zap p b (zbc n e c)=0:=by
 unfold nums;rw [bS,aJ];constructor
 ·rintro⟨⟨x,hx,rfl⟩,h⟩;have:=bi.mp hx;exact⟨⟨#[O],#[O]⟩,of_decide_eq_true h⟩
 ·rintro⟨⟨h1,h2⟩,h⟩;exact⟨⟨b.toNat,bi.mpr #[O],#[O]⟩,decide_eq_true h⟩
theorem zdG (p:Int) (n e:Nat) (c:Nat→Nat→Int) (m:Nat):(nums p n e c m).Nodup:=List.Pairwise.filter _ (cF.mpr (gK (fun {a b} vo e=>vo #[O]) gX))
theorem zju {p x:Int} {n e:Nat} {c:Nat→Nat→Int}:Cg p (zap p x (zbc n e c)) (vl n (fun j=>c j e) x):=by
 rw [zkX];refine (zjc (by rw [zcy]; exact ag _)).trans (Cg.of_eq (zbL fun i hi=>?_));rw [zlO hi]
theorem zjv {p:Int} (hp:p∈zK) {n w e m:Nat} {c:Nat→Nat→Int} (hm:(m:Int)≤p) (hr:∀ j i,0≤c j i∧c j i < p) (L:Lea n w c e):(nums p n e c m).length < n:=by
 have rp:=zah hp;refine aW fun nr=>?_
 have hz:=zdA hp n (zbc n e c) (nums p n e c m) (zcy _ _ _) #[O] (zdG p n e c m) (fun x hx=>?_) (fun x hx=>?_)
 ·obtain⟨j,hj,_,k4⟩:=L.2;have h1:=hz (c j e) (aJ.mpr ⟨j,bi.mpr hj,rfl⟩);obtain⟨a0,a1⟩:=hr j e;exact k4 (Cg.eq h1 a0 a1 (bF 0) #[O])
 ·have:=(zcz.mp hx).1;lia
 ·exact Cg.of_eq (zcz.mp hx).2
theorem zgm {α β:Type} {out:List (List α×β)} {done:List (List α)} {qs:List α} {L:List α} (f:α→β) (nd:(out.map (·.1)).Nodup) (hd:∀ o∈out,o.1.dropLast∈done) (hq:qs∉done) (hL:L.Nodup) :
  ((out++L.map fun q=>(qs++[q],f q)).map (·.1)).Nodup∧∀ o∈out++L.map (fun q=>(qs++[q],f q)),o.1.dropLast∈done++[qs]:=by
 constructor
 ·rw [aw,dD];have h1:(L.map ((fun x:List α×β=>x.1) ∘ fun q=>(qs++[q],f q))).Nodup:=cF.mpr (gK (fun {a b} vo e=>vo (by
   have e:qs++[a]=qs++[b]:=e;have:=ig e;injection this)) hL)
  refine di.mpr ⟨nd,h1,fun a ha b hb e=>?_⟩;obtain⟨o,ho,rfl⟩:=aJ.mp ha;obtain⟨q,oM,rfl⟩:=aJ.mp hb;have h1:=hd o ho;have e:o.1=qs++[q]:=e;rw [e,i4] at h1;exact hq h1
 ·intro o ho;rcases aT.mp ho with h | h
  ·exact aT.mpr (.inl (hd o h))
  ·obtain⟨q,_,rfl⟩:=aJ.mp h;refine aT.mpr (.inr ?_);show (qs++[q]).dropLast∈[qs];rw [i4];exact aS.mpr rfl
end My
end
section
namespace My
end My
end
section
namespace My
open PySem L2 PyProof.Rows
theorem zdf (n:Nat) (b l:Ps):mq 0 (n+1) b l=fun i=>b 0*l i+Xl (mq 0 n (fun t=>b (t+1)) l) i:=by
 funext i;simp only [mq,dE,bV]
theorem zdg:∀ (n:Nat) (b:Ps) (m:Nat) (c l:Ps),mq 0 n b (mq 0 m c l)=mq 0 m c (mq 0 n b l)
 | 0,b,m,c,l=>by
  have:mq 0 0 b l=fun _=>0:=rfl
  rw [this,(zaX 0 m c).z];rfl
 | n+1,b,m,c,l=>by
  rw [zdf,zdf,(zaX 0 m c).a,ze7,← zhe,zdg n _ m c l]
def zcA:Ps:=fun i=>if i=0 then 1 else 0
theorem zhh:∀ (n:Nat) (b:Ps) (i:Nat),mq 0 n b zcA i=if i < n then b i else 0
 | 0,b,i=>by rw [if_neg #[O]]; rfl
 | n+1,b,i=>by
  rw [zdf];show b 0*zcA i+Xl (mq 0 n (fun t=>b (t+1)) zcA) i=_;unfold Xl zcA;by_cases h:i=0
  ·subst h;rw [if_pos rfl,if_pos rfl,if_pos #[O]];lia
  ·rw [if_neg h,if_neg h];have:=zhh n (fun t=>b (t+1)) (i - 1);unfold zcA at this;rw [this];by_cases h2:i < n+1
   ·rw [if_pos #[O],if_pos h2,show i - 1+1=i by lia];lia
   ·rw [if_neg #[O],if_neg h2];lia
theorem zdh {n:Nat} {b:Ps} (h:Dg b n):mq 0 n b zcA=b:=by
 funext i;rw [zhh];split
 ·rfl
 ·rw [h i #[O]]
theorem zhi {n m:Nat} {b c:Ps} (hb:Dg b n) (hc:Dg c m):mq 0 n b c=mq 0 m c b:=by
 rw [← zdh hc,zdg,zdh hb,zdh hc]
theorem zes:∀ (n:Nat) (b l:Ps) (x:Nat),mq 0 n b l x=sm n fun t=>b t*Xp t l x
 | 0,b,l,x=>rfl
 | n+1,b,l,x=>by
  rw [zdf,zbu];show b 0*l x+Xl (mq 0 n (fun t=>b (t+1)) l) x=b 0*l x+_;congr 1;unfold Xl;by_cases h:x=0
  ·rw [if_pos h];refine (zeY fun i _=>?_).symm;rw [zcU,if_pos #[O],dF]
  ·rw [if_neg h,zes n _ l (x - 1)];refine zbL fun i _=>?_
   rw [zcU,zcU];by_cases h2:x - 1 < i
   ·rw [if_pos h2,if_pos #[O]]
   ·rw [if_neg h2,if_neg #[O],show x - 1 - i=x - (i+1) by lia]
def itq (k:Nat) (f:Ps):Nat→Ps→Ps
 | 0,l=>l
 | t+1,l=>mq 0 k f (itq k f t l)
theorem zfI (k:Nat) (f:Ps) (n:Nat) (b:Ps):∀ (t:Nat) (l:Ps),mq 0 n b (itq k f t l)=itq k f t (mq 0 n b l)
 | 0,_=>rfl
 | t+1,l=>by
  show mq 0 n b (mq 0 k f (itq k f t l))=mq 0 k f (itq k f t (mq 0 n b l));rw [zdg,zfI k f n b t l]
theorem zjw (k:Nat) (f:Ps):∀ (n:Nat) (G:Nat→Ps) (x:Nat),mq 0 k f (fun y=>sm n fun t=>G t y) x=sm n fun t=>mq 0 k f (G t) x
 | 0,G,x=>by
  have:(fun y=>sm 0 fun t=>G t y)=fun _=>(0:Int):=rfl
  rw [this,(zaX 0 k f).z];rfl
 | n+1,G,x=>by
  have e:(fun y=>sm (n+1) fun t=>G t y)=fun y=>(fun y=>G 0 y) y+(fun y=>sm n fun t=>G (t+1) y) y:=by
   funext y;rw [zbu]
  rw [e,(zaX 0 k f).a,zbu];show mq 0 k f (fun y=>G 0 y) x+mq 0 k f (fun y=>sm n fun t=>G (t+1) y) x=_;rw [zjw k f n]
theorem zjx {k:Nat} {f:Ps}:∀ (n:Nat) (F:Nat→Ps) (x:Nat),AL k f n F x=sm n fun t=>itq k f t (F t) x
 | 0,F,x=>rfl
 | n+1,F,x=>by
  have ih:AL k f n (fun t=>F (t+1))=fun y=>sm n fun t=>itq k f t (F (t+1)) y:=funext fun y=>zjx n _ y
  show F 0 x+mq 0 k f (AL k f n fun t=>F (t+1)) x=_;rw [ih,zjw,zbu];rfl
theorem zkx {p:Int} {f:Nat→Int} {j n:Nat} (hj:j < n) (h:∀ i,i < n→i≠j→Cg p (f i) 0):Cg p (sm n f) (f j):=by
 have e:=zjb (f:=fun i=>if i=j then f j else 0) hj (fun i _ hi=>if_neg hi);rw [show (if j=j then f j else 0)=f j from if_pos rfl] at e;rw [← e];refine zkU fun i hi=>?_
 by_cases mE:i=j
 ·rw [if_pos mE,mE];exact Cg.refl _ _
 ·rw [if_neg mE];exact h i hi mE
theorem zlP {p:Int} (hp:p∈zK) {n:Nat} {b l:Ps} (hb:∃ t,t < n∧¬ Cg p (b t) 0) (h:Zr p (mq 0 n b l)):Zr p l:=by
 obtain⟨a,⟨ha,hna⟩,qF⟩:∃ a,(a < n∧¬ Cg p (b a) 0)∧∀ t,t < a→Cg p (b t) 0:=by
  obtain⟨t0,h0,h1⟩:=hb;induction t0 using iq with
  | ind t0 ih =>
   by_cases hc:∃ t,t < t0∧¬ Cg p (b t) 0
   ·obtain⟨t,ht,hn⟩:=hc;exact ih t ht #[O] hn
   ·exact⟨t0,⟨h0,h1⟩,fun t ht=>aW fun hn=>hc ⟨t,ht,hn⟩⟩
 intro i;induction i using iq with
 | ind i ih =>
  have e:=h (a+i);rw [zes] at e;have e2:=zkx (p:=p) (f:=fun t=>b t*Xp t l (a+i)) ha (fun t ht k4=>by
   show Cg p (b t*Xp t l (a+i)) 0;by_cases hta:t < a
   ·exact ((qF t hta).mul (Cg.refl p _)).trans (Cg.of_eq (dE _))
   ·rw [zcU];split
    ·exact Cg.of_eq (dF _)
    ·exact ((Cg.refl p _).mul (ih (a+i - t) #[O])).trans (Cg.of_eq (dF _)))
  have e3:Cg p (b a*Xp a l (a+i)) 0:=e2.symm.trans e;rw [zcU,if_neg #[O],show a+i - a=i by lia] at e3;rcases zft hp e3 with z | z
  ·exact absurd z hna
  ·exact z
theorem zky (n:Nat) (b l:Ps):mq 0 n b (fun i=>-1*l i)=fun i=>-1*mq 0 n b l i:=ze7 0 (-1) n b l
theorem zhj (n:Nat) (b c l:Ps) (x:Nat):mq 0 n (fun i=>b i - c i) l x=mq 0 n b l x - mq 0 n c l x:=by
 rw [zes,zes,zes];have e:(fun t=>(b t - c t)*Xp t l x)=fun t=>b t*Xp t l x + -1*(c t*Xp t l x):=by
  funext t;grind
 rw [e,zja,zeX];lia
def wr (k:Nat) (f:Ps) (F:Nat→Ps):Nat→Ps
 | 0=>fun i=>0 + -1*mq 0 k f (F 0) i
 | j+1=>fun i=>F j i + -1*mq 0 k f (F (j+1)) i
def sft (F:Nat→Ps):Nat→Ps
 | 0=>fun _=>0
 | j+1=>F j
theorem zmq (k:Nat) (f:Ps) (F:Nat→Ps):wr k f F=fun t i=>sft F t i+(fun t=>(fun i=>-1*mq 0 k f (F t) i)) t i:=by
 funext t i;cases t <;> rfl
theorem zjy {k n:Nat} {f g:Ps} {F:Nat→Ps} (hF:F n=fun _=>0) (x:Nat):AL k g (n+1) (wr k f F) x=mq 0 k (fun i=>g i - f i) (AL k g n F) x:=by
 have hB:=zaX 0 k g;have hC:Add (fun l i=>-1*mq 0 k f l i):=⟨fun u v=>by
  rw [(zaX 0 k f).a];funext i;grind⟩
 have e1:AL k g (n+1) (sft F) x=mq 0 k g (AL k g n F) x:=by
  show 0+mq 0 k g (shO (mq 0 k g) n (fun t=>sft F (t+1)) 0) x=_;rw [et];rfl
 have e2:AL k g (n+1) (fun t i=>-1*mq 0 k f (F t) i)=fun i=>-1*mq 0 k f (AL k g (n+1) F) i:=zb0 hC (fun l=>by
  show (fun i=>-1*mq 0 k f (mq 0 k g l) i)=mq 0 k g (fun i=>-1*mq 0 k f l i);rw [zky,zdg])
 have e3:AL k g (n+1) F=AL k g n F:=zde hB hF;have e4:AL k g (n+1) (wr k f F)=fun i=>AL k g (n+1) (sft F) i+AL k g (n+1) (fun t i=>-1*mq 0 k f (F t) i) i:=by
  rw [zmq];exact zdd hB
 rw [e4];show AL k g (n+1) (sft F) x+AL k g (n+1) (fun t i=>-1*mq 0 k f (F t) i) x=_;rw [e1,e2,e3,zhj];show mq 0 k g (AL k g n F) x + -1*mq 0 k f (AL k g n F) x=_;lia
theorem zkz {p:Int} {k n:Nat} {f:Ps} {F:Nat→Ps} (hF:F n=fun _=>0):Zr p (AL k f (n+1) (wr k f F)):=fun x=>by
 rw [zjy hF,zhj];exact Cg.of_eq #[O]
theorem zkA {p:Int} {k n:Nat} {f g:Ps} {F:Nat→Ps} (hF:F n=fun _=>0) (h:Zr p (AL k g n F)):Zr p (AL k g (n+1) (wr k f F)):=fun x=>by
 rw [zjy hF];exact zb1 h x
theorem zmr {p:Int} {k n:Nat} {f:Ps} {F:Nat→Ps} (hF:∀ t,n≤t→F t=fun _=>0) (h:∃ j i,¬ Cg p (F j i) 0):∃ j i,¬ Cg p (wr k f F j i) 0:=by
 refine aW fun hc=>?_
 have hz:∀ j i,Cg p (wr k f F j i) 0:=fun j i=>aW fun hn=>hc ⟨j,i,hn⟩
 have lH:∀ d j,n≤j+d→∀ i,Cg p (F j i) 0:=fun d=>by
  induction d with
  | zero =>
   intro j hj i;rw [hF j #[O]];exact Cg.refl _ _
  | succ d ih =>
   intro j hj i;have e:=hz (j+1) i;have e2:Cg p (mq 0 k f (F (j+1)) i) 0:=zb1 (ih (j+1) #[O]) i;have e3:F j i=wr k f F (j+1) i+mq 0 k f (F (j+1)) i:=by
    show F j i=F j i + -1*mq 0 k f (F (j+1)) i+mq 0 k f (F (j+1)) i;lia
   rw [e3];exact e.add e2
 obtain⟨j,i,hn⟩:=h;exact hn (lH n j #[O] i)
theorem zh4 {p:Int} {k:Nat} {f g:List Int} (hf:IsP p k f) (hg:IsP p k g) (k4:g≠f):∃ t,t < k∧¬ Cg p (gl g t - gl f t) 0:=by
 refine aW fun hc=>k4 (zlD (hg.1.trans hf.1.symm) fun t ht=>?_)
 have rT:t < k:=by rw [← hg.1]; exact ht
 have h1:Cg p (gl g t - gl f t) 0:=aW fun hn=>hc ⟨t,rT,hn⟩
 have h2:Cg p (gl g t) (gl f t):=(h1.add (Cg.refl p (gl f t))).trans (Cg.of_eq #[O]) |> (Cg.of_eq #[O]).trans
 have tK:=hg.2 _ (az (zbM (w:=g) (y:=t) ht));have hf2:=hf.2 _ (az (zbM (w:=f) (y:=t) (by rw [hf.1]; exact rT)));exact h2.eq tK.1 tK.2 hf2.1 hf2.2
theorem zdH {p:Int} (hp:p∈zK) {k:Nat}:∀ (n:Nat) (F:Nat→Ps) (L:List (List Int)),L.Nodup→(∀ f∈L,IsP p k f∧Zr p (AL k (gl f) n F))→(∃ j,j < n∧∃ i,¬ Cg p (F j i) 0)→L.length < n
 | 0,_,_,_,_,⟨j,hj,_⟩=>absurd hj (Nat.not_lt_zero _)
 | n+1,F,[],_,_,_=>ga _
 | n+1,F,f :: L,hd,hL,hz=>by
  let G:Nat→Ps:=fun j=>AL k (gl f) (n - j) (fun t=>F (t+(j+1)))
  have hG:∀ j,n≤j→G j=fun _=>0:=fun j hj=>by
   show AL k (gl f) (n - j) _=_;rw [show n - j=0 by lia];rfl
  have AS:∀ j,j < n→∀ i,G j i=F (j+1) i+mq 0 k (gl f) (G (j+1)) i:=fun j hj i=>by
   show AL k (gl f) (n - j) (fun t=>F (t+(j+1))) i=F (j+1) i+mq 0 k (gl f) (AL k (gl f) (n - (j+1)) fun t=>F (t+(j+1+1))) i;rw [show n - j=n - (j+1)+1 by lia];show F (0+(j+1)) i+mq 0 k (gl f) (AL k (gl f) (n - (j+1)) fun t=>F (t+1+(j+1))) i=_;rw [bE];have e:(fun t=>F (t+1+(j+1)))=fun t=>F (t+(j+1+1)):=by
    funext t;congr 1;lia
   rw [e]
  have h0:∀ i,AL k (gl f) (n+1) F i=F 0 i+mq 0 k (gl f) (G 0) i:=fun i=>rfl
  have hf:=hL f aI;have hFw:∀ j i,j < n+1→Cg p (F j i) (wr k (gl f) G j i):=fun j i hj=>by
   cases j with
   | zero =>
    show Cg p (F 0 i) (0 + -1*mq 0 k (gl f) (G 0) i);have:=hf.2 i;rw [h0] at this;exact (Cg.of_eq #[O]).trans (this.sub (Cg.refl p (mq 0 k (gl f) (G 0) i))) |>.trans (Cg.of_eq #[O])
   | succ j =>
    show Cg p (F (j+1) i) (G j i + -1*mq 0 k (gl f) (G (j+1)) i);rw [AS j #[O]];exact Cg.of_eq #[O]
  have pJ:∃ j,j < n∧∃ i,¬ Cg p (G j i) 0:=by
   refine aW fun hc=>?_
   have AU:∀ j i,Cg p (G j i) 0:=fun j i=>by
    by_cases hj:j < n
    ·exact aW fun hn=>hc ⟨j,hj,i,hn⟩
    ·rw [hG j #[O]];exact Cg.refl _ _
   obtain⟨j,hj,i,hn⟩:=hz;refine hn ((hFw j i hj).trans ?_);cases j with
   | zero =>
    show Cg p (0 + -1*mq 0 k (gl f) (G 0) i) 0;exact ((Cg.refl p 0).add ((Cg.refl p (-1)).mul (zb1 (AU 0) i))).trans (Cg.of_eq #[O])
   | succ j =>
    show Cg p (G j i + -1*mq 0 k (gl f) (G (j+1)) i) 0;exact ((AU j i).add ((Cg.refl p (-1)).mul (zb1 (AU (j+1)) i))).trans (Cg.of_eq #[O])
  have:=zdH hp n G L (cj.mp hd).2 (fun g hg=>by
   have uB:=hL g (av _ hg);refine⟨uB.1,zlP hp (zh4 hf.1 uB.1 fun e=>(cj.mp hd).1 (e ▸ hg)) (l:=AL k (gl g) n G) fun x=>?_⟩;rw [← zjy (hG n (ag _))];exact (zhf (fun j i hj=>(hFw j i hj).symm) x).trans (uB.2 x)) pJ
  exact Nat.succ_lt_succ this
theorem zms {k n W:Nat} {f:Ps} {F:Nat→Ps} (hk:1≤k) (hF:∀ t,t < n→Dg (F t) W) (hz:∀ t,n≤t→F t=fun _=>0):Dg (AL k f n F) (W+n*k):=by
 obtain⟨k1,rfl⟩:∃ k1,k=k1+1:=⟨k - 1,#[O]⟩;have h:Dg (AL (k1+1) f n F) (W+k1*n - k1*0):=zfG fun t=>by
  by_cases ht:t < n
  ·refine (hF t ht).le ?_;have:k1*t≤k1*n:=Nat.mul_le_mul_left _ #[O];lia
  ·rw [hz t #[O]];exact fun _ _=>rfl
 refine h.le ?_;rw [Nat.mul_zero,f',Nat.mul_comm k1 n];lia
end My
end
section
namespace My
open PySem PySem.Spec L2 PyProof.Rows
noncomputable def isAt (H:Hp) (q:List Int) (u:Value):Bool:=@decide (∃ b,u = .ref b∧H b=some (.tup (q.map V.int))) (fv _)
theorem zhk {p q:List Int} (h:some (HO.tup (p.map V.int))=some (HO.tup (q.map V.int))):p=q :=
 (List.map_inj_right fun a b z=>by simpa using z).mp (HO.tup.inj (bf h))
theorem zhl {H:Hp} {q q':List Int} {b:Addr} (h:H b=some (.tup (q'.map V.int))):isAt H q (.ref b)=decide (q'=q):=by
 unfold isAt;rw [cg,@decide_eq_true_iff _ (fv _),decide_eq_true_iff];constructor
 ·rintro⟨b',eb,hb⟩;cases eb;exact zhk (h.symm.trans hb)
 ·rintro rfl;exact⟨b,rfl,h⟩
theorem zcV {H:Hp} {q:List Int}:∀ {rs:List Addr} {qs:List (List Int)} {us:List Value},zal H rs qs→zw (rs.map V.ref) us→us.any (isAt H q)=decide (q∈qs)
 | _,_,_,.nil,.nil=>by simp
 | r :: rs,q' :: qs,u :: us,.cons h t,.cons ru tu=>by
  have ih:=zcV (q:=q) t tu;cases ru;rw [jf,ih,zhl h,cg,bA,decide_eq_true_iff,decide_eq_true_iff,decide_eq_true_iff,aN];exact⟨fun z=>z.imp Eq.symm id,fun z=>z.imp Eq.symm id⟩
theorem zh5 {X:Cx} {K:af} (hK:X.K=K) (hu:X.A.units+20 < cLine):OpR X (compareOp .NotIn) (fun x y H Q=>∃ (a l:Addr) (q:List Int) (rs:List Addr) (qs:List (List Int)),x = .ref a∧y = .ref l∧H a=some (.tup (q.map V.int))∧kP K H l (rs.map V.ref)∧zal H rs qs∧Q (.bl (!decide (q∈qs))) H):=by
 subst hK;intro kN s σ H x y v u Q I rx ry h;obtain⟨a,l,q,rs,qs,rfl,rfl,ha,hl,hT,hQ⟩:=h;cases rx;cases ry;obtain⟨kO,r,pl,hz⟩:=I.list hl;refine SeqAt.notIn_listAt (isAt H q) pl.isList (fun w hw=>?_) ⟨.bl _,H,I,rfl,?_⟩
 ·have hw:w∈kO:=by simpa using hw
  obtain⟨j,hj⟩:=bY.mp hw;obtain⟨si,n4⟩:=bg.mp hj;obtain⟨z,qE,rz⟩:=r.getE (j:=j) si;obtain⟨b,rfl,hb⟩:=zG qE;obtain⟨q',oM,hH⟩:=Paired.get hT hb;have qK:kO.toArray[j]=w:=by simpa using n4
  rw [qK] at rz;cases rz;have hH:H b=some (.tup (q'.map V.int)):=hH;rw [zhl hH];by_cases e:b=a
  ·subst e;rw [zhk (hH.symm.trans ha),decide_eq_true rfl];exact (EqD.same (K:=X.K) (H:=H) (d:=8) (a:=b)).at I X.A.in1 (.ref b) (.ref b) rfl rfl (by simp only [ce]; lia)
  ·have e2:=(EqD.tups (d:=8) e (kT.of hH) (kT.of ha) ziL).at I X.A.in1 (.ref b) (.ref a) rfl rfl (by simp only [ce]; lia);have e4:((aD (min (q'.map V.int).length (q.map V.int).length)).all (fun j=>decide (q'[j]? = q[j]?)) && (q'.map V.int).length == (q.map V.int).length)=decide (q'=q):=by
    rw [ab,ab,cg];simp only [cc,eE,bi,decide_eq_true_eq,beq_iff_eq];constructor
    ·rintro⟨h1,h2⟩;refine cG fun j=>?_
     by_cases hj:j < q'.length
     ·exact h1 j #[O]
     ·rw [bz #[O],bz #[O]]
    ·rintro rfl;exact⟨fun _ _=>rfl,rfl⟩
   rw [← e4];exact e2
 ·rw [List.any_toArray,zcV hT r];exact hQ
end My
end
section
namespace L2
open PySem PySem.Spec PyProof.Rows
theorem zcB:∀ (ns:List Int),(aD ns.length).any (fun i=>ns.getD i 0 != 0)=ns.any (· != 0)
 | []=>rfl
 | b :: bs=>by
  rw [bM,fH,jf,List.any_map,jf];have ih:=zcB bs;have e:((fun i=>(b :: bs).getD i 0 != 0) ∘ Nat.succ)=fun i=>bs.getD i 0 != 0:=by funext i; rfl
  rw [e,ih];rfl
theorem zh6 {X:Cx} {K:af} (hK:X.K=K) (hc:X.calm=true):zaD X (.builtin "any") (fun xs H Q=>∃ (p:Addr) (ns:List Int),xs = [.ref p]∧kP K H p (ns.map V.int)∧Q (.bl (ns.any (· != 0))) H):=by
 subst hK;intro kN s σ H xs us Q I r h;obtain⟨p,bs,rfl,hq,q⟩:=h;obtain⟨u,rfl,rx⟩:=vals1 r;cases rx;obtain⟨kO,rv,pl,hz⟩:=I.list hq;have hl:=rv.length;rw [ab] at hl;have kX:p < s.heap.objs.size:=by obtain⟨_,_,e,_⟩:=pl; exact aE e
 refine call_any_walk (fz pl.isList ?_);refine⟨s.heap.objs.size,_,_,kO.toArray.size,_,_,fun i=>bs.getD i 0 != 0,rfl,kg (by simp [I.ok.hd hc]) s.heap.objs.size p (a8 kX) kO.toArray,⟨⟨_,aK _ rfl,rfl,rfl⟩,pl.isList.push _⟩,fun i v s' Q' E' hP hQ=>?_,fun h' tk kk=>?_⟩
 ·have e1:kO[i]? = some v:=by simpa using hP
  obtain⟨hi,_⟩:=bg.mp e1;have lA:i < bs.length:=by lia
  obtain⟨u,hu,ru⟩:=rv.get (i:=i) (x:=V.int bs[i]) (by rw [ah,ak lA]; rfl);rw [e1] at hu;cases hu;obtain⟨tk,ru⟩:=(show ∃ t,v=fQ bs[i] t from ru);subst ru;have e2:bs.getD i 0=bs[i]:=by simp [lA]
  have hQ:Q' (bs.getD i 0 != 0) s':=hQ;rw [e2] at hQ;exact PyProof.Rows.truthy_int hQ
 ·rw [ai,← hl,zcB];exact⟨.bl (bs.any (· != 0)),H,I.kept fun b o e=>kk b o (fun z=>by
   have z:b=s.heap.objs.size:=by simpa using z
   exact absurd (aE e) (by rw [z]; exact bQ _)) (am _ e),rfl,q⟩
end L2
end
section
namespace PySem
open PyProof.Rows
theorem zcZ:isSubtype (.type "range_iterator") (.type "reversed")=pure false:=by rw [dw]; kernel_rfl
abbrev zfJ (a b:Int):Obj:={ cls:=.type "range_iterator",data:=.fields #[rawInt (a+(bo a b 1 - 1)*1),rawInt (bo a b 1),rawInt (-1)] }
theorem zjz (r:Addr) (a b:Int) (t u v:Tok) (hs:(ba a && ba b && ba 1 && ba (-1) && ba (a - 1) && ba (bo a b 1))=true) :
  Meets (Builtin.«range.__reversed__» ⟨[.ref r],[]⟩) (fun _ R s=>s.heap.get? r=some { cls:=.type "range",dict:=none,data:=.fields #[.int a t,.int b u,.int 1 v],slots:=#[] }∧R (.ok (.ret (aZ s.heap.objs.size))) { s with heap:=s.heap.push (zfJ a b) }) :=
 .of_wp fun prog w A R s h=>by
  (obtain⟨hp,g,d,tk,os⟩:=s)
  obtain⟨hl,h⟩:=h
  wp_walk
  rw [hs];exact⟨_,rfl,h⟩
section
variable {prog:Program} {w:World} {A:Around} {E:Value→Shared→Prop} {s:Shared}
theorem zkB {r:Addr} {a b:Int} {t u v:Tok} {Q:Value→Shared→Prop} (hr:IsRange s.heap r a b 1 t u v) (ha:-1000000≤a∧a < 1000000∧-1000000≤b∧b < 1000000)
  (h:Q (.ref s.heap.objs.size) { s with heap:=s.heap.push (zfJ a b) }):wpAny (model prog w) A (call (.type "reversed") [.ref r]) Q E s:=by
 have hs:(ba a && ba b && ba 1 && ba (-1) && ba (a - 1) && ba (bo a b 1))=true:=by
  have hz:0≤bo a b 1∧bo a b 1≤2000000:=by
   (unfold bo)
   rw [if_pos #[D],ju];split <;> lia
  generalize bo a b 1=z at hz ⊢;unfold ba
  (simp only [cc,decide_eq_true_eq])
  lia
 (have hT:s.TypeIs (.ref r) "range":=⟨_,hr,rfl⟩)
 refine callType_other (U:="range_iterator") (Q₁:=fun obj s₁=>obj = .ref s.heap.objs.size∧s₁ = { s with heap:=s.heap.push (zfJ a b) }) #[N] F.create_reversed ⟨_,_,F.mro_reversed⟩ F.made_reversed zcZ (iJ _) ?_ ?_
 ·refine fX ?_;show wpAny _ A.in1.in1 (do checkBuiltinCall "reversed.__new__" ⟨[.type "reversed",.ref r],[]⟩; again (.builtin "reversed.__new__" ⟨[.type "reversed",.ref r],[]⟩)) _ _ s;refine (ae (b7 (iW _) (aj ⟨dM i5 _,cX iY ?_⟩)))
  (rw [cD i5 _])
  (unfold Builtin.«reversed.__new__»)
  refine (ae (b7 (newClass_reversed _) ?_))
  try dsimp only
  refine (ae (b7 (a:=()) (by first | rfl | kernel_rfl) (ae (b7 (a:=()) (by first | rfl | kernel_rfl) ?_))))
  try dsimp only
  refine (ae (eS hT F.slot_range_reversed.lookup ?_))
  try dsimp only
  refine (ae (b7 (F.slot_range_reversed.bind _) ?_))
  try dsimp only
  show wpAny _ _ (if (kC "range.__reversed__" == dj)=true then _ else _) _ _ _;rw [if_neg (show ¬ ((kC "range.__reversed__" == dj)=true) from aR)];refine (ae (cB ?_));refine ae (m:=runValue (.call (.builtin "range.__reversed__") ⟨[.ref r],[]⟩)) (show wpAny _ _ (call (.builtin "range.__reversed__") [.ref r]) _ _ _ from fh F.slot_range_reversed hT F.entry_range_reversed (F.args_range_reversed_1 _) (zjz r a b t u v hs) ⟨hr,?_⟩)
  first
  | exact aj ⟨rfl,rfl⟩
  | exact ae (aj (aj ⟨rfl,rfl⟩))
 ·rintro obj s₁ ⟨rfl,rfl⟩
  (exact⟨⟨_,aK _ rfl,rfl⟩,h⟩)
end
end PySem
namespace L2
open PySem PySem.Spec PyProof.Rows
theorem zfK {X:Cx}:zaD X (.type "range") (fun xs H Q=>∃ i j:Int,xs = [.int i,.int j]∧∀ l,H l=none→Q (.ref l) (kR H l (.rng i j))):=by
 intro kN s σ H xs us Q I r h;obtain⟨i,j,rfl,q⟩:=h;cases r with
 | cons r1 r =>
  cases r with
  | cons r2 r =>
   cases r;obtain⟨t,rfl⟩:=r1;obtain⟨t',rfl⟩:=r2;refine call_range_2 ?_;exact⟨.ref s.heap.objs.size,_,I.laid (o:=.rng i j) (fun b o e=>am _ e) (ag _) ⟨_,_,_,aK _ rfl⟩,rfl,q _ I.fresh⟩
def zmt (ta:TA):TI:=fun σ H R=>ta σ H fun vs H1=>∃ (a:Addr) (i j:Int),vs = [.ref a]∧H1 a=some (.rng i j)∧(-1000000≤i∧i < 1000000∧-1000000≤j∧j < 1000000)∧R (zhN (i+((j - i).toNat:Int) - 1) (j - i).toNat) H1
theorem zkC {X:Cx} {tg:Expr} {p pos:Pos} {a:Expr} {ta:TA} (hg:Gl X "reversed") (hm:X.mg "reversed" = none) (ha:PA X [a] ta) (hs:starEach [a] X.env = [(false,eval a X.env)]:=by rfl) :
  PI X tg (.Call (.Name "reversed" p) [a] [] pos) (zmt ta):=by
 intro kN s σ H R I h;refine Call_ (zaP I hg hm boot_reversed (bD (thn (ha pos kN s σ H _ I h) fun us s1 ⟨vs,H1,I1,r1,q1⟩=>?_) hs rfl));obtain⟨l,i,j,e,hq,hb,q⟩:=q1;subst e;cases r1 with
 | cons r rr =>
  cases rr;cases r;obtain⟨t,u,v,hr⟩:=(show zai X.prog X.w H1 s1.heap l (.rng i j) from I1.hok l _ hq);refine zkB hr hb ?_;have hsz:bo i j 1=((j - i).toNat:Int):=by
   (unfold bo)
   rw [if_pos #[D],ju];split <;> lia
  have I2:Inv X kN σ H1 { s1 with heap:=s1.heap.push (zfJ i j) }:=I1.kept (t':=s1.toks) fun b o e=>am _ e
  have hit:IsRangeIter (s1.heap.push (zfJ i j)) s1.heap.objs.size ((i+((j - i).toNat:Int) - 1)+((0:Nat):Int)*(-1)) ((((j - i).toNat:Nat):Int) - ((0:Nat):Int)) (-1):=by
   have e1:(i+((j - i).toNat:Int) - 1)+((0:Nat):Int)*(-1)=i+(bo i j 1 - 1)*1:=by rw [hsz]; lia
   have e2:(((j - i).toNat:Nat):Int) - ((0:Nat):Int)=bo i j 1:=by rw [hsz]; lia
   rw [e1,e2];exact aK _ rfl
  refine fF hit ?_;refine⟨_,[s1.heap.objs.size],_,zhN (i+((j - i).toNat:Int) - 1) (j - i).toNat,H1,rfl,I2,zfw _ _ _,hit,fun b hb=>?_,q⟩;have z:b=s1.heap.objs.size:=by simpa using hb
  subst z;exact I1.fpOk (ag _) (I1.hok.fresh (ag _))
end L2
end
section
namespace L2
open PySem PySem.SetTable
def Rs (xs:Array Nat):Prop:=xs.toList.Pairwise (· < ·)
theorem Rs.lt {xs:Array Nat} (h:Rs xs) {i j:Nat} (hj:j < xs.size) (mE:i < j):xs[i]'#[O] < xs[j]:=by
 have:=(du.mp h) i j (by simpa using (by lia:i < xs.size)) (by simpa using hj) mE;simpa using this
theorem zdI {xs:Array Nat} (h:Rs xs) {j:Nat}:∀ fuel lo hi,hi - lo≤fuel→lo≤hi→hi≤xs.size→(∀ i (lA:i < xs.size),i < lo→xs[i] < j)→(∀ i (lA:i < xs.size),hi≤i→j≤xs[i]) →
  below.go xs j fuel lo hi≤xs.size∧(∀ i (lA:i < xs.size),i < below.go xs j fuel lo hi→xs[i] < j)∧(∀ i (lA:i < xs.size),below.go xs j fuel lo hi≤i→j≤xs[i])
 | 0,lo,hi,hf,hl,hs,h1,h2=>by
  have e:lo=hi:=by lia
  subst e;exact⟨hs,h1,h2⟩
 | fuel+1,lo,hi,hf,hl,hs,h1,h2=>by
  rw [below.go];by_cases kX:lo < hi
  ·rw [if_pos kX];have hm:(lo+hi) / 2 < xs.size:=by lia
   have e:xs.getD ((lo+hi) / 2) j=xs[(lo+hi) / 2]:=by simp [i6,hm]
   dsimp only;rw [e];by_cases hc:xs[(lo+hi) / 2] < j
   ·rw [if_pos hc];refine zdI h fuel _ hi #[O] #[O] hs (fun i lA hlt'=>?_) h2;by_cases e2:i=(lo+hi) / 2
    ·subst e2; exact hc
    ·exact Nat.lt_trans (h.lt hm #[O]) hc
   ·rw [if_neg hc];refine zdI h fuel lo _ #[O] #[O] #[O] h1 (fun i lA hle=>?_);by_cases e2:i=(lo+hi) / 2
    ·subst e2; lia
    ·have:=h.lt lA (show (lo+hi) / 2 < i by lia); lia
  ·rw [if_neg kX];have e:lo=hi:=by lia
   subst e;exact⟨hs,h1,h2⟩
theorem zfL {xs:Array Nat} (h:Rs xs) (j:Nat):below xs j≤xs.size∧(∀ i (lA:i < xs.size),i < below xs j→xs[i] < j)∧(∀ i (lA:i < xs.size),below xs j≤i→j≤xs[i]) :=
 zdI h _ _ _ #[O] #[O] (ag _) (fun i _ hi=>absurd hi #[O]) (fun i lA hle=>absurd lA #[O])
theorem zh7 {xs:Array Nat} (h:Rs xs) {j:Nat} (hn:xs[below xs j]?≠some j):Rs (insertAt xs (below xs j) j):=by
 obtain⟨a,b,c⟩:=zfL h j;unfold Rs insertAt;simp only [bv,jO,cC,List.extract_eq_drop_take,d8,d6];have hsz:xs.toList.length=xs.size:=by simp
 have e1:List.take (xs.size - below xs j) (List.drop (below xs j) xs.toList)=List.drop (below xs j) xs.toList:=aQ (by rw [cM]; lia);rw [e1,bm];have hp:(xs.toList.take (below xs j)).Pairwise (· < ·):=h.sublist (gE _ _);have hq:(xs.toList.drop (below xs j)).Pairwise (· < ·):=h.sublist (jK _ _);have ht:∀ x∈xs.toList.take (below xs j),x < j:=fun x hx=>by
  obtain⟨i,hi,rfl⟩:=i7.mp hx;rw [aL] at hi;rw [gI];have:=b i #[O] #[O];simpa using this
 have hd:∀ x∈xs.toList.drop (below xs j),j < x:=fun x hx=>by
  obtain⟨i,hi,rfl⟩:=i7.mp hx;rw [cM] at hi;rw [List.getElem_drop];have h1:below xs j < xs.size:=by lia
  have h2:=c (below xs j) h1 (ag _);have h3:xs[below xs j]≠j:=fun e=>hn (by rw [dv h1,e])
  have h4:=c (below xs j+i) #[O] #[O];by_cases e:i=0
  ·subst e;have:j < xs[below xs j]:=by lia
   simpa using this
  ·have:=h.lt (show below xs j+i < xs.size by lia) (show below xs j < below xs j+i by lia);have:j < xs[below xs j+i]:=by lia
   simpa using this
 refine iZ.mpr ⟨hp,?_,?_⟩
 ·show (j :: xs.toList.drop (below xs j)).Pairwise (· < ·);exact fb.mpr ⟨hd,hq⟩
 ·intro x hx y hy;rcases (aN.mp hy) with rfl | hy
  ·exact ht x hx
  ·exact Nat.lt_trans (ht x hx) (hd y hy)
structure Tb (led:Bool) (t:SetTable):Prop where
 r:Rs t.place
 d:t.dummies = #[]
 l:t.led=led
theorem Tb.fresh (f m:Nat) (led:Bool):Tb led (SetTable.fresh f m led):=⟨fB,rfl,rfl⟩
theorem Tb.standIn {led:Bool} {t:SetTable} (h:Tb led t) (n:Nat):Tb led (t.standIn n):=⟨by
 show (Array.range n).toList.Pairwise (· < ·);rw [Array.toList_range];exact iG,rfl,h.l⟩
theorem ze9 (j:Nat):has #[] j=false:=by
 unfold has;simp
theorem Tb.put {led:Bool} {t:SetTable} (h:Tb led t) {j:Nat} (hn:t.place[below t.place j]?≠some j):Tb led (t.put j).1:=⟨zh7 h.r hn,by
 show (if has t.dummies j=true then _ else t.dummies) = #[];rw [h.d,ze9];rfl,h.l⟩
theorem Tb.relay {led:Bool} {t:SetTable} (h:Tb led t) (es:Array (Int×Value)) (wanted:Nat):Tb led (relayAll t es wanted).2.1:=by
 unfold relayAll;split
 ·next t' o he =>
  have ht:Tb led t':=by
   unfold SetTable.relaid SetTable.laid at he;cases hl:layClean (sizeAbove wanted - 1) (es.map (·.1)) with
   | none=>rw [hl] at he; simp at he
   | some ow =>
    rw [hl] at he;simp only [Option.pure_def,Option.bind_eq_bind,Option.bind_some,jM,Prod.mk.injEq] at he;obtain⟨rfl,_⟩:=he;refine⟨?_,rfl,h.l⟩;show (List.toArray _).toList.Pairwise (· < ·);rw [jE];refine List.Pairwise.filterMap _ ?_ iG;intro a a' haa b hb b' mi;simp at hb mi;obtain⟨_,_,rfl⟩:=hb;obtain⟨_,_,rfl⟩:=mi;exact haa
  dsimp only;split
  ·exact ht
  ·exact h.standIn _
 ·exact h.standIn _
end L2
end
section
namespace L2
open PySem PySem.Spec PyProof.Rows
end L2
end
section
namespace L2
open PySem PySem.SetTable
def tM (mask:Nat):SetTable:={ mask:=mask,place:=#[],dummies:=#[],finger:=0,led:=true,moves:=0,plain:=true }
theorem zjA (t:SetTable) (p:Probe):t.advance p=(tM t.mask).advance p:=rfl
def rch (mask:Nat):Nat→Probe→Nat→Bool
 | 0,_,_=>false
 | n+1,p,j=>p.j == j || rch mask n ((tM mask).advance p) j
theorem zjB {mask i:Nat} (h:i≤mask):i+(runEnd mask i - i)≤mask:=by
 unfold runEnd;split <;> lia
theorem zjC {t:SetTable} {p:Probe} (h:p.j+p.more≤t.mask):(t.advance p).j+(t.advance p).more≤t.mask:=by
 unfold advance;split
 ·show p.j+1+(p.more - 1)≤t.mask;lia
 ·exact zjB (gL (fm _ (ga _)))
theorem zet {t:SetTable} {p:Probe} (h:p.dummy=none):(t.advance p).dummy=none:=by
 unfold advance;split <;> exact h
theorem zgn {t:SetTable} (hd:t.dummies = #[]) {j:Nat} (hn:j∉t.place.toList):t.slot j = .empty:=by
 unfold slot;dsimp only;rw [hd,ze9,if_neg,if_neg #[M]];intro hc;have hc:t.place[below t.place j]? = some j:=by simpa using hc
 exact hn (by rw [dm]; exact Array.mem_of_getElem? hc)
theorem zjD {t:SetTable} (hd:t.dummies = #[]) (hs:t.place.size≤t.mask):∃ j,j≤t.mask∧t.slot j = .empty:=by
 (refine aW fun hn=>?_)
 have pG:aD (t.mask+1) ⊆ t.place.toList:=fun j hj=>aW fun hc=>hn ⟨j,by have:=bi.mp hj; lia,zgn hd hc⟩
 have:=List.nodup_range.length_le_of_subset pG;rw [aU,aG] at this;lia
structure Pb (led:Bool) (t:SetTable) (n:Nat):Prop where
 b:Tb led t
 p:t.plain=true
 z:t.place.size=n
 i:∀ j∈t.place.toList,j≤t.mask
 m:t.mask=7∧n≤4∨t.mask=31∧n≤18
theorem zfM {α:Type} {xs:Array α} {p:Nat} {x:α} (hp:p≤xs.size):(insertAt xs p x).size=xs.size+1:=by
 unfold insertAt;simp only [Array.size_append,Array.size_push,jA];lia
def rF (mask:Nat):Nat→Nat→Nat→Nat→Bool
 | 0,_,_,_=>false
 | n+1,i,q,j=>(decide (i≤j) && decide (j≤runEnd mask i)) || rF mask n (leap mask i q).1 (leap mask i q).2 j
theorem zeu {ow:Array (Option Nat)} {mask j0:Nat} (hz:ow.size=mask+1) (h0:ow[j0]? = some none):∀ fuel i q,i≤mask→rF mask fuel i q j0=true→∃ j,layClean.free mask ow fuel i q=some j∧ow[j]? = some none
 | 0,i,q,_,h=>by simp [rF] at h
 | fuel+1,i,q,hi,h=>by
  rw [layClean.free];cases hf:(aD (runEnd mask i+1 - i)).find? (fun k=>(ow.getD (i+k) (some 0)).isNone) with
  | some k =>
   refine⟨i+k,rfl,?_⟩;have hk:=List.find?_some hf;have hk:(ow.getD (i+k) (some 0)).isNone=true:=hk;by_cases hs:i+k < ow.size
   ·rw [dv hs];have:ow.getD (i+k) (some 0)=ow[i+k]:=by simp [i6,hs]
    rw [this] at hk;rw [Option.isNone_iff_eq_none.mp hk]
   ·have:ow.getD (i+k) (some 0)=some 0:=by simp [i6,hs]
    rw [this] at hk;cases hk
  | none =>
   dsimp only;have hn:=List.find?_eq_none.mp hf;rw [rF,bA,cc,decide_eq_true_eq,decide_eq_true_eq] at h;rcases h with ⟨h1,h2⟩ | h
   ·exfalso;refine hn (j0 - i) (bi.mpr #[O]) ?_;have kX:j0 < ow.size:=by
     rcases Nat.lt_or_ge j0 ow.size with h | h
     ·exact h
     ·rw [iH h] at h0; cases h0
    have e:ow[j0]=none:=by rw [dv kX] at h0; injection h0
    have:ow.getD (i+(j0 - i)) (some 0)=none:=by rw [show i+(j0 - i)=j0 by lia]; simp [i6,kX,e]
    rw [this];rfl
   ·exact zeu hz h0 fuel _ _ (gL (fm _ (ga _))) h
theorem zjE {k:Nat}:∀ {l:List (Option Nat)} {j:Nat},l[j]? = some none→((l.set j (some k)).filterMap id).Perm (k :: l.filterMap id)
 | [],j,h=>by simp at h
 | a :: l,0,h=>by
  simp at h;subst h;simp
 | a :: l,j+1,h=>by
  (simp only [dL] at h)
  have ih:=zjE (k:=k) h;cases a with
  | none=>simpa using ih
  | some a =>
   simp only [List.set_cons_succ,cI,id];exact (ih.cons a).trans (.swap k a _)
theorem zhm:∀ {l:List (Option Nat)},(l.filterMap id).length < l.length→∃ j:Nat,l[j]? = some none
 | [],h=>by simp at h
 | none :: l,_=>⟨0,rfl⟩
 | some a :: l,h=>by
  simp only [cI,id,bM] at h;obtain⟨j,hj⟩:=zhm (l:=l) #[O];exact⟨j+1,by simpa using hj⟩
def Ow (ow:Array (Option Nat)) (k:Nat):Prop:=ow.size=32∧(ow.toList.filterMap id).Perm (aD k)
theorem range_getD {α:Type} {d:α}:∀ (l:List α),(aD l.length).map (fun j=>l.getD j d)=l:=fun l=>by
 refine List.ext_getElem #[M] fun i h1 h2=>?_
 simp [au,ak h2]
theorem zh8 {ow:Array (Option Nat)} (hz:ow.size=32):((aD 32).filterMap fun j=>(ow.getD j none).map (j,·)).map (·.2)=ow.toList.filterMap id:=by
 have e:ow.toList.filterMap id=((aD 32).map fun j=>ow.toList.getD j none).filterMap id:=by
  have:=range_getD (d:=(none:Option Nat)) ow.toList;rw [aG,hz] at this;rw [this]
 rw [e,jE,eY];congr 1;funext j;have:ow.toList.getD j none=ow.getD j none:=by
  rw [au,be,Array.getD_eq_getD_getElem?]
 simp only [kA,id];rw [this];cases ow.getD j none <;> rfl
theorem zh9 {α:Type} (es:Array α):(aD es.size).filterMap (fun i=>es[i]?)=es.toList:=by
 have h:∀ (l:List α),(aD l.length).filterMap (fun i=>l[i]?)=l:=fun l=>by
  induction l with
  | nil=>rfl
  | cons a l ih =>
   rw [bM,fH,cI];simp only [ie];rw [eY];show a :: _=_;congr 1
 have:=h es.toList;rw [aG] at this;simpa using this
def lr (mask:Nat):Nat→Nat→Nat→Nat→Bool
 | 0,i,_,j=>i == j
 | n+1,i,q,j=>i == j || lr mask n (leap mask i q).1 (leap mask i q).2 j
theorem lr7:∀ i,i < 8→∀ j,j < 8→lr 7 7 i 0 j=true:=by decide +kernel
theorem zmu:∀ i,i < 32→∀ j,j < 32→lr 31 31 i 0 j=true:=by decide +kernel
theorem zdi {mask j m:Nat} (hb:∀ i,i < mask+1→∀ j,j < mask+1→lr mask m i 0 j=true) (hj:j < mask+1):∀ n i q,i < mask+1→q < 32 ^ n→lr mask (n+m) i q j=true
 | 0,i,q,hi,hq=>by
  obtain rfl:q=0:=by lia
  rw [bE];exact hb i hi j hj
 | n+1,i,q,hi,hq=>by
  rw [show n+1+m=n+m+1 by lia,lr,bA];refine .inr (zdi hb hj n _ _ (fm _ (ga _)) ?_);show q / 32 < 32 ^ n;rw [hV] at hq;lia
theorem zfa (h:Int):bits h < 32 ^ 13:=by
 unfold bits;have h1:=aP h (show (0:Int) < 2 ^ 64 by decide);have h0:=aV h (show (2:Int) ^ 64≠0 by decide);have:(2:Int) ^ 64=18446744073709551616:=by decide
 have h2:(32:Nat) ^ 13=36893488147419103232:=by decide
 lia
def zjF (mask i q:Nat):Probe:={ j:=i,more:=runEnd mask i - i,i:=i,perturb:=q,dummy:=none }
theorem zcC {mask j:Nat}:∀ {n:Nat} {p:Probe} {m:Nat},n≤m→rch mask n p j=true→rch mask m p j=true
 | 0,p,m,_,h=>by simp [rch] at h
 | n+1,p,0,hm,h=>by lia
 | n+1,p,m+1,hm,h=>by
  rw [rch,bA] at h ⊢;rcases h with h | h
  ·exact .inl h
  ·exact .inr (zcC #[O] h)
theorem zhn {mask j:Nat}:∀ (d:Nat) (p:Probe) (n:Nat),p.more=d→rch mask n (zjF mask (leap mask p.i p.perturb).1 (leap mask p.i p.perturb).2) j=true→p.dummy=none→rch mask (n+d+1) p j=true
 | 0,p,n,hd,h,hp=>by
  rw [cV,rch,bA];refine .inr ?_;have:(tM mask).advance p=zjF mask (leap mask p.i p.perturb).1 (leap mask p.i p.perturb).2:=by
   unfold advance;rw [if_neg #[O]];show ({ p with j:=(leap mask p.i p.perturb).1,more:=runEnd mask (leap mask p.i p.perturb).1 - (leap mask p.i p.perturb).1,i:=(leap mask p.i p.perturb).1,perturb:=(leap mask p.i p.perturb).2 }:Probe)=_;rw [hp];rfl
  rw [this];exact h
 | d+1,p,n,hd,h,hp=>by
  rw [rch,bA];refine .inr ?_;have:(tM mask).advance p = { p with j:=p.j+1,more:=p.more - 1 }:=by
   unfold advance;rw [if_pos #[O]]
  rw [this];exact zhn d _ n (by show p.more - 1=d; lia) h hp
theorem zjG (mask i:Nat):runEnd mask i - i≤9:=by
 unfold runEnd;split <;> lia
theorem zgo {mask j:Nat}:∀ (n i q:Nat),lr mask n i q j=true→rch mask (10*n+1) (zjF mask i q) j=true
 | 0,i,q,h=>by
  rw [Nat.mul_zero,bE,rch,bA];exact .inl h
 | n+1,i,q,h=>by
  rw [lr,bA] at h;rcases h with h | h
  ·rw [show 10*(n+1)+1=10*n+10+1 by lia,rch,bA];exact .inl h
  ·have h9:=zjG mask i;exact zcC (show 10*n+1+(runEnd mask i - i)+1≤10*(n+1)+1 by lia) (zhn _ (zjF mask i q) (10*n+1) rfl (zgo n _ _ h) rfl)
theorem zho {mask j:Nat}:∀ {n m i q:Nat},n≤m→rF mask n i q j=true→rF mask m i q j=true
 | 0,m,i,q,_,h=>by simp [rF] at h
 | n+1,0,i,q,hm,h=>by lia
 | n+1,m+1,i,q,hm,h=>by
  rw [rF,bA] at h ⊢;rcases h with h | h
  ·exact .inl h
  ·exact .inr (zho #[O] h)
theorem zjH (mask i:Nat):i≤runEnd mask i:=by
 unfold runEnd;split <;> lia
theorem zk1 {mask j:Nat}:∀ (n i q:Nat),lr mask n i q j=true→rF mask (n+1) i q j=true
 | 0,i,q,h=>by
  rw [rF,bA];have h:i=j:=by rw [lr] at h; exact beq_iff_eq.mp h
  have:=zjH mask i;exact .inl (by rw [cc]; exact⟨decide_eq_true #[O],decide_eq_true #[O]⟩)
 | n+1,i,q,h=>by
  rw [lr,bA] at h;rw [rF,bA];rcases h with h | h
  ·have h:i=j:=beq_iff_eq.mp h;have:=zjH mask i;exact .inl (by rw [cc]; exact⟨decide_eq_true #[O],decide_eq_true #[O]⟩)
  ·exact .inr (zk1 n _ _ h)
theorem zkD {t:SetTable} (hm:t.mask=7∨t.mask=31) (h:Int) {j:Nat} (hj:j≤t.mask):rch t.mask (10*turns t.mask) (t.probeStart h) j=true:=by
 have e:t.probeStart h=zjF t.mask (bits h % (t.mask+1)) (bits h):=rfl;rw [e];rcases hm with m | m
 ·rw [m] at hj ⊢;exact zcC #[D] (zgo _ _ _ (zdi lr7 (show j < 7+1 by lia) 13 (bits h % (7+1)) (bits h) (fm _ #[D]) (zfa h)))
 ·rw [m] at hj ⊢;exact zcC #[D] (zgo _ _ _ (zdi zmu (show j < 31+1 by lia) 13 (bits h % (31+1)) (bits h) (fm _ #[D]) (zfa h)))
theorem zlQ (h:Int) {j:Nat} (hj:j < 32):rF 31 46 (bits h % 32) (bits h) j=true :=
 zho #[D] (zk1 _ _ _ (zdi zmu (show j < 31+1 from hj) 13 (bits h % (31+1)) (bits h) (fm _ #[D]) (zfa h)))
theorem zjI {ow:Array (Option Nat)} {k:Nat} (O:Ow ow k) (hk:k < 32) (h:Int):∃ j,layClean.free 31 ow (turns 31) (bits h % (31+1)) (bits h)=some j∧Ow (ow.setIfInBounds j (some k)) (k+1):=by
 obtain⟨j0,h0⟩:=zhm (l:=ow.toList) (by rw [O.2.length_eq,aU,aG,O.1]; exact hk);rw [be] at h0;have mV:j0 < 32:=by
  rcases Nat.lt_or_ge j0 ow.size with h | h
  ·rw [← O.1]; exact h
  ·rw [iH h] at h0; cases h0
 obtain⟨j,e,hj⟩:=zeu (mask:=31) O.1 h0 46 (bits h % 32) (bits h) #[O] (zlQ h mV);refine⟨j,e,by rw [gZ]; exact O.1,?_⟩;rw [Array.toList_setIfInBounds];refine (zjE (by rw [be]; exact hj)).trans ?_;rw [dQ];exact (O.2.cons k).trans (List.perm_append_singleton k (aD k)).symm
theorem zkE {hs:List Int} (hl:hs.length≤31):∃ ow,layClean 31 hs.toArray=some ow∧Ow ow hs.length:=by
 have key:∀ (hs:List Int) (ow:Array (Option Nat)) (k:Nat),k+hs.length≤31→Ow ow k→∃ yg,hs.foldl (fun (acc:Option (Array (Option Nat)×Nat)) (h:Int)=>do
   let (owner,k) ← acc
   let j ← layClean.free 31 owner (turns 31) (bits h % (31+1)) (bits h)
   pure (owner.setIfInBounds j (some k),k+1)) (some (ow,k))=some (yg,k+hs.length)∧Ow yg (k+hs.length):=by
  intro hs;induction hs with
  | nil=>intro ow k _ O; exact⟨ow,rfl,O⟩
  | cons h hs ih =>
   intro ow k hl O;rw [bM] at hl;obtain⟨j,e,O2⟩:=zjI O #[O] h;obtain⟨yg,e2,O3⟩:=ih _ (k+1) #[O] O2;refine⟨yg,?_,by rw [bM,show k+(hs.length+1)=k+1+hs.length by lia]; exact O3⟩;rw [j9,bM,show k+(hs.length+1)=k+1+hs.length by lia,← e2];congr 1;show (layClean.free 31 ow (turns 31) (bits h % (31+1)) (bits h)).bind _=_;rw [e];rfl
 obtain⟨ow,e,O⟩:=key hs (Array.replicate 32 none) 0 #[O] ⟨#[M],by
  rw [Array.toList_replicate,List.range_zero];have:∀ n,(ap n (none:Option Nat)).filterMap id = []:=fun n=>by
   induction n with
   | zero=>rfl
   | succ n ih=>simp [c6,ih]
  rw [this]⟩
 rw [bE] at e O;refine⟨ow,?_,O⟩;unfold layClean;rw [← Array.foldl_toList];rw [e];rfl
theorem Pb.relayG {led:Bool} {t:SetTable} {n wanted:Nat} {es:Array (Int×Value)} (T:Tb led t) (hp:t.plain=true) (he:es.size=n) (hn:n≤18) (hw:sizeAbove wanted=32) :
  ∃ t' order,t.relaid (es.map (·.1)) wanted=some (t',order)∧order.toList.Perm (aD n)∧(order.filterMap (es[·]?)).size=n∧(order.filterMap (es[·]?)).toList.Perm es.toList∧Pb led t' n:=by
 have hT:=T.relay es wanted;have hl:(es.toList.map (·.1)).length=n:=by rw [ab,aG,he]
 have eh:es.map (·.1)=(es.toList.map (·.1)).toArray:=by
  refine Array.toList_inj.mp ?_;rw [g5]
 obtain⟨ow,e,O⟩:=zkE (hs:=es.toList.map (·.1)) #[O];rw [hl] at O;obtain⟨live,AV⟩:∃ live,live=(aD 32).filterMap fun j=>(ow.getD j none).map (j,·):=⟨_,rfl⟩
 have hv:(live.map (·.2)).Perm (aD n):=by rw [AV,zh8 O.1]; exact O.2
 have qg:live.length=n:=by rw [← ab (f:=(·.2)),hv.length_eq,aU]
 have er:t.relaid (es.map (·.1)) wanted=some ({ mask:=31,place:=(live.map (·.1)).toArray,dummies:=#[],finger:=t.finger,led:=t.led,moves:=t.movedTo 31,plain:=t.plain },(live.map (·.2)).toArray):=by
  unfold relaid laid;rw [hw,eh];show (layClean 31 (es.toList.map (·.1)).toArray).bind _=_;rw [e,AV];rfl
 have hpm:((live.map (·.2)).toArray.filterMap (es[·]?)).toList.Perm es.toList:=by
  rw [Array.toList_filterMap];refine (hv.filterMap _).trans ?_;rw [← he,zh9]
 have qC:((live.map (·.2)).toArray.filterMap (es[·]?)).size=n:=by
  rw [← aG,hpm.length_eq,aG,he]
 have hc:coversAll (live.map (·.2)).toArray n=true:=by
  unfold coversAll;exact List.isPerm_iff.mpr hv
 unfold relayAll at hT;rw [er] at hT;dsimp only at hT;have hf:jg { mask:=31,place:=(live.map (·.1)).toArray,dummies:=#[],finger:=t.finger,led:=t.led,moves:=t.movedTo 31,plain:=t.plain } n=true:=by
  unfold fits fill;simp [qg];lia
 rw [qC,he,hc,hf] at hT;refine⟨_,_,er,hv,qC,hpm,hT,hp,by simp [qg],fun j hj=>?_,.inr ⟨rfl,hn⟩⟩;have hj:j∈live.map (·.1):=hj;obtain⟨q,hq,rfl⟩:=aJ.mp hj;rw [AV] at hq;obtain⟨j',mS,e'⟩:=gj.mp hq;have:=bi.mp mS;cases h:ow.getD j' none with
 | none=>rw [h] at e'; cases e'
 | some v =>
  rw [h] at e';injection e' with e'
  subst e';show j'≤31;lia
theorem Pb.fitsG {led:Bool} {t:SetTable} {n:Nat} (P:Pb led t n):t.fits n=true:=by
 unfold jg jh;rw [P.b.d,P.z];rcases P.m with m | m <;> simp <;> lia
theorem Pb.nextG {led:Bool} {t1:SetTable} {n:Nat} (T:Tb led t1) (hp:t1.plain=true) (hz:t1.place.size=n) (hi:∀ j∈t1.place.toList,j≤t1.mask) (hm:t1.mask=7∧n≤5∨t1.mask=31∧n≤18) :
  (t1.tooFull=true→n=5)∧(t1.tooFull=false→Pb led t1 n):=by
 have ef:t1.fill=n:=by unfold jh; rw [T.d,hz]; rfl
 constructor
 ·intro h;unfold tooFull at h;rw [ef] at h;simp at h;rcases hm with ⟨m,h2⟩ | ⟨m,h2⟩ <;> rw [m] at h <;> lia
 ·intro h;unfold tooFull at h;rw [ef] at h;simp at h;refine⟨T,hp,hz,hi,?_⟩;rcases hm with ⟨m,h2⟩ | ⟨m,h2⟩ <;> rw [m] at h
  ·exact .inl ⟨m,#[O]⟩
  ·exact .inr ⟨m,h2⟩
theorem zjJ {t:SetTable} (hd:t.dummies = #[]) {hashAt:Nat→Int} {h:Int} {j0:Nat} (h0:t.slot j0 = .empty):∀ fuel F p,F≤fuel→p.dummy=none→p.j+p.more≤t.mask→rch t.mask F p j0=true →
  (∃ j,probe.go t hashAt h fuel p=some (.empty j none)∧j≤t.mask∧t.slot j = .empty) ∨
  (∃ j i p' F',probe.go t hashAt h fuel p=some (.candidate j i p')∧t.slot j = .live i∧hashAt i=h∧F' < F∧rch t.mask F' p' j0=true∧p'.dummy=none∧p'.j+p'.more≤t.mask)
 | fuel,0,p,_,_,_,hr=>by simp [rch] at hr
 | 0,F+1,p,hF,_,_,_=>by lia
 | fuel+1,F+1,p,hF,hp,hm,hr=>by
  rw [probe.go];split
  ·next hs=>exact .inl ⟨p.j,by rw [hp],#[O],hs⟩
  ·next hs =>
   exfalso;unfold slot at hs;dsimp only at hs;rw [hd,ze9] at hs;split at hs
   ·cases hs
   ·simp at hs
  ·next i hs =>
   rw [rch,bA] at hr;have tF:rch t.mask F (t.advance p) j0=true:=by
    rcases hr with hr | hr
    ·rw [beq_iff_eq.mp hr,h0] at hs;cases hs
    ·rw [zjA]; exact hr
   by_cases hh:(hashAt i == h)=true
   ·rw [if_pos hh];exact .inr ⟨_,_,_,F,rfl,hs,beq_iff_eq.mp hh,fL _,tF,zet hp,zjC hm⟩
   ·rw [if_neg hh];rcases zjJ hd (hashAt:=hashAt) (h:=h) h0 fuel F _ #[O] (zet hp) (zjC hm) tF with r | ⟨j,i',p',F',e1,e2,e3,e4,e5⟩
    ·exact .inl r
    ·exact .inr ⟨j,i',p',F',e1,e2,e3,#[O],e5⟩
end L2
end
section
namespace L2
open PySem PySem.Spec PyProof.Rows PySem.SetTable
section
variable {prog:Program} {w:World} {A:Around} {E:Value→Shared→Prop} {s:Shared}
abbrev tkH (prog:Program) (w:World) (ks:List Int):Int:=tupleKeyHash (intKind prog w) ks
abbrev zaY (prog:Program) (w:World) (h:Heap) (ks:List Int) (a:Addr):Prop:=IsTupleKey (intKind prog w) h ks a
theorem items_int {ks:List Int} {vs:List Value} (h:ItemsAre (intKind prog w) ks vs):∀ v∈vs,∃ n t,v = .int n t:=by
 induction h with
 | nil=>intro v hv; cases hv
 | cons h1 _ ih =>
  intro v hv;rcases (aN.mp hv) with rfl | hv
  ·have h:jQ _ _=true:=h1;cases v with
   | int i t=>exact⟨i,t,rfl⟩
   | _=>exact absurd h (by unfold jQ; simp)
  ·exact ih v hv
theorem zia {ks:List Int} {b:Addr} {Q:Bool→Shared→Prop} (hk:zaY prog w s.heap ks b) (h:Q true s):wpAny (model prog w) A (hashByValue 8 (.ref b)) Q E s:=by
 have hT:=hk.typeIs
 (obtain⟨o,items,n,ho,_,hd,hi⟩:=hk)
 unfold hashByValue
 (refine ae (eS hT F.slot_tuple_hash.lookup ?_))
 show wpAny _ _ (seqItems? (.ref b) >>= _) _ _ s
 (refine ae (dz ho hd ?_))
 refine ae ?_
 (show wpAny _ _ (forIn items _ _) _ _ s)
 rw [← jF];refine h7 _ (fun rest r s'=>r.1=none∧s'=s∧∀ v∈rest,∃ n t,v=fQ n t) _ ?_ ?_ _ _ ⟨rfl,rfl,items_int hi⟩
 ·(rintro v rest r s' ⟨hr,rfl,lH⟩)
  obtain⟨m,tk,rfl⟩:=lH v aI;rw [hashByValue_scannable 7 (x:=.int m tk) rfl];refine ae (aj ?_);rw [show plainKind (.int m tk)=true from rfl]
  (simp only [eL,aO,if_false])
  (exact aj ⟨rfl,rfl,fun u wH=>lH u (av _ wH)⟩)
 ·(rintro⟨r1,r2⟩ s' ⟨hr,rfl,_⟩)
  simp only at hr;subst hr;exact aj h
theorem zew {ks:List Int} {b:Addr} {Q:Bool→Shared→Prop} (hk:zaY prog w s.heap ks b) (h:Q false s):wpAny (model prog w) A (ofAClassStatement 8 (.ref b)) Q E s:=by
 have hT:=hk.typeIs
 (obtain⟨o,items,n,ho,_,hd,hi⟩:=hk)
 unfold ofAClassStatement
 (refine ae (gS hT ?_))
 dsimp only;rw [if_pos #[D]];refine ae (aj ?_)
 (simp only [eL,aO,if_false])
 (refine ae (dz ho hd ?_))
 refine ae ?_
 (show wpAny _ _ (forIn items _ _) _ _ s)
 rw [← jF];refine h7 _ (fun rest r s'=>r.1=none∧s'=s∧∀ v∈rest,∃ n t,v=fQ n t) _ ?_ ?_ _ _ ⟨rfl,rfl,items_int hi⟩
 ·(rintro v rest r s' ⟨hr,rfl,lH⟩)
  obtain⟨m,tk,rfl⟩:=lH v aI;have e:ofAClassStatement 7 (.int m tk)=pure false:=by unfold ofAClassStatement; rfl
  rw [e];refine ae (aj ?_)
  (simp only [aO,if_false])
  (exact aj ⟨rfl,rfl,fun u wH=>lH u (av _ wH)⟩)
 ·(rintro⟨r1,r2⟩ s' ⟨hr,rfl,_⟩)
  simp only at hr;subst hr;exact aj h
theorem zjK {ks:List Int} {b:Addr} {ys:List Value} {Q:Bool→Shared→Prop} (hk:zaY prog w s.heap ks b) (hy:∀ v∈ys,∃ k' b',v = .ref b'∧zaY prog w s.heap k' b') (h:Q false s):wpAny (model prog w) A (searchCouldBeSeen (.ref b) ys) Q E s:=by
 unfold searchCouldBeSeen;refine ae ?_;refine h7 _ (fun rest r s'=>r.1=none∧s'=s∧∀ v∈rest,∃ k' b',v = .ref b'∧zaY prog w s.heap k' b') _ ?_ ?_ _ _ ⟨rfl,rfl,hy⟩
 ·(rintro v rest r s' ⟨hr,rfl,lH⟩)
  obtain⟨k',b',rfl,nF⟩:=lH v aI;have hnx:∀ u∈rest,∃ k' b',u = .ref b'∧zaY prog w s'.heap k' b':=fun u wH=>lH u (av _ wH)
  dsimp only;by_cases hv:(b == b')=true
  ·rw [hv];exact aj ⟨rfl,rfl,hnx⟩
  ·rw [show (b == b')=false by simpa using hv];show wpAny _ _ (eqIsQuiet 8 (.ref b) >>= _) _ _ s';refine ae (iQ hk ?_)
   (simp only [eL,aO,if_false])
   refine ae (iQ nF ?_)
   (simp only [eL,aO,if_false])
   refine ae (zew hk ?_)
   (simp only [aO,if_false])
   refine ae (zew nF ?_)
   (simp only [aO,if_false])
   exact aj ⟨rfl,rfl,hnx⟩
 ·(rintro⟨r1,r2⟩ s' ⟨hr,rfl,_⟩)
  simp only at hr;subst hr;exact aj h
structure SetU (prog:Program) (w:World) (led:Bool) (h:Heap) (a:Addr) (ms:List (List Int×Addr)) (o:Obj) (es:Array (Int×Value)) (ep:Nat) (t:SetTable):Prop where
 g:h.get? a=some o
 ex:o.ExactSet
 dt:o.data = .set es ep t
 pm:es.toList.Perm (ms.map fun q=>(tkH prog w q.1,aZ q.2))
 ky:∀ q∈ms,zaY prog w h q.1 q.2
 pb:Pb led t es.size
theorem zib {t:SetTable} {j i:Nat} (h:t.slot j = .live i):t.place[i]? = some j:=by
 unfold slot at h;dsimp only at h;split at h
 ·next hc =>
  injection h with h
  rw [← h];simpa using hc
 ·split at h <;> cases h
theorem zgp {a b:Addr} {led:Bool} {ms:List (List Int×Addr)} {o:Obj} {es:Array (Int×Value)} {ep:Nat} {t:SetTable} {ks:List Int} {Q:SetFound→Shared→Prop} (hu:A.units < cLine) (S:SetU prog w led s.heap a ms o es ep t) (hk:zaY prog w s.heap ks b)
  (qA:∀ q∈ms,q.1≠ks) {j0:Nat} (h0:t.slot j0 = .empty) (hq:∀ j,j≤t.mask→t.slot j = .empty→Q (.free j false) s):∀ F fuel (st:Option Probe),F < fuel→F≤10*turns t.mask→(st.getD (t.probeStart (tkH prog w ks))).dummy=none→(st.getD (t.probeStart (tkH prog w ks))).j+(st.getD (t.probeStart (tkH prog w ks))).more≤t.mask→rch t.mask F (st.getD (t.probeStart (tkH prog w ks))) j0=true →
   wpAny (model prog w) A (setSearchFrom a (.ref b) (tkH prog w ks) true fuel st) Q E s:=by
 intro F;induction F using iq with
 | ind F ih =>
  intro fuel st hF hT hd nM hr;obtain⟨fuel,rfl⟩:∃ f,fuel=f+1:=⟨fuel - 1,#[O]⟩;have hf:=S.pb.fitsG;rw [setSearchFrom];refine ae (dS S.g S.dt hf ?_);dsimp only;have hg:t.gaveWay=false:=by
   unfold gaveWay;rcases S.pb.m with ⟨m,_⟩ | ⟨m,_⟩ <;> rw [m] <;> decide
  rw [hg]
  (simp only [aO,if_false])
  generalize rK:t.probe _ (tkH prog w ks) (st.getD (t.probeStart (tkH prog w ks)))=pr;rcases zjJ S.pb.b.d (hashAt:=fun i=>(es[i]?.map (·.1)).getD 0) (h:=tkH prog w ks) h0 (10*turns t.mask) F _ hT hd nM hr with ⟨j,e,hj,hs⟩ | ⟨j,i,p',F',e,hs,hh,kX,k8,rA,AW⟩
  ·obtain rfl:some (Met.empty j none)=pr:=e.symm.trans rK;exact aj (hq j hj hs)
  ·obtain rfl:some (Met.candidate j i p')=pr:=e.symm.trans rK;dsimp only;have nq:=zib hs;have hi:i < es.size:=by
    rw [← S.pb.z];exact (cL.mp nq).1
   have lx:es[i]∈ms.map fun q=>(tkH prog w q.1,aZ q.2):=S.pm.mem_iff.mp (by rw [dm]; exact Array.getElem_mem hi)
   obtain⟨q,wI,eq⟩:=aJ.mp lx;have lH:∀ v∈(es.filter (·.1 == tkH prog w ks)).toList.map (·.2),∃ k' b',v = .ref b'∧zaY prog w s.heap k' b':=fun v hv=>by
    obtain⟨e',tD,rfl⟩:=aJ.mp hv;rw [dm] at tD;obtain⟨q',oM,rfl⟩:=aJ.mp (S.pm.mem_iff.mp (by rw [dm]; exact (Array.mem_filter.mp tD).1));exact⟨q'.1,q'.2,rfl,S.ky q' oM⟩
   have wJ:wpAny (model prog w) A (setSearchFrom a (.ref b) (tkH prog w ks) true fuel (some p')) Q E s:=ih F' kX fuel (some p') #[O] #[O] rA AW k8;have qC:es[i]? = some (tkH prog w q.1,aZ q.2):=by rw [dv hi,← eq]
   have k4:decide (q.1=ks)=false:=decide_eq_false (qA q wI);have wj:t.sameMemory t.moves t.mask=some true:=by unfold sameMemory; rw [if_pos #[M]]
   by_cases wK:t.led=true;rw [wK]; simp only [eL,aO,if_false]; rotate_left;rw [show t.led=false by simpa using wK]; simp only [ko,if_true]; refine ae (zjK hk lH ?_); simp only [aO,if_false]
   all_goals (
    rw [qC];dsimp only;refine ae (bK (wpAny_eqBool_tuple hu (S.ky q wI) hk ?_));rw [k4];refine ae (dS S.g S.dt hf ?_);dsimp only;simp only [gd,aO,if_false];rw [wj];dsimp only;rw [if_pos rfl,hs];dsimp only;rw [qC];dsimp only;refine ae (wpAny_isSame_ref_self ?_);rw [if_pos rfl];exact ae (aj wJ))
end
section
variable {prog:Program} {w:World} {A:Around} {E:Value→Shared→Prop} {s:Shared}
abbrev zfb (prog:Program) (w:World) (led:Bool) (h:Heap) (a:Addr) (ms:List (List Int×Addr)):Prop:=∃ o es ep t,SetU prog w led h a ms o es ep t
theorem zfN {h h':Heap} {ks:List Int} {b a:Addr} {o:Obj} {es ep t} (x:zaY prog w h ks b) (ho:h.get? a=some o) (hd:o.data = .set es ep t) (hs:dU a h h'):zaY prog w h' ks b:=by
 (obtain⟨o',items,n,nZ,hc,rA,hi⟩:=x)
 have k4:b≠a:=by
  rintro rfl
  (obtain rfl:o'=o:=bf (nZ.symm.trans ho))
  (rw [hd] at rA; exact nomatch rA)
 exact⟨o',items,n,(hs.2 b k4).trans nZ,hc,rA,hi⟩
theorem zfO {h h':Heap} {ks:List Int} {b:Addr} (x:zaY prog w h ks b) (e:∀ o,h.get? b=some o→h'.get? b=some o):zaY prog w h' ks b:=by
 obtain⟨o',items,n,nZ,r⟩:=x;exact⟨o',items,n,e _ nZ,r⟩
theorem zhp {h:Heap} {a:Addr} {o:Obj} {es es':Array (Int×Value)} {ep:Nat} {t t':SetTable} (ho:h.get? a=some o) (hd:o.data = .set es ep t) :
  (h.update a (gN es' t')).get? a=some { o with data:=.set es' (ep+1) t' }:=by
 (have:=cm (gN es' t') ho (by rw [putSet_of es' t' hd]; rfl))
 rw [putSet_of es' t' hd] at this;exact this
theorem zjL {a b:Addr} {led:Bool} {ms:List (List Int×Addr)} {ks:List Int} {Q:Bool→Shared→Prop} (hu:A.units < cLine) (hS:zfb prog w led s.heap a ms) (tO:ms.length+1≤18) (hk:zaY prog w s.heap ks b) (qA:∀ q∈ms,q.1≠ks)
  (h:∀ h' r,dU a s.heap h'→zfb prog w led h' a (ms++[(ks,b)])→Q r { s with heap:=h' }) :
  wpAny (model prog w) A (setAddHashed a (.ref b) (tkH prog w ks)) Q E s:=by
 obtain⟨o,es,ep,t,S⟩:=hS;have hf:=S.pb.fitsG;have hn:es.size=ms.length:=by rw [← aG,S.pm.length_eq,ab]
 (unfold setAddHashed setAddHashedIn)
 refine bK (ae (dS S.g S.dt hf ?_));dsimp only;rw [show byScan (.ref b) es=false from rfl]
 (simp only [aO,if_false])
 obtain⟨j0,mV,h0⟩:=zjD S.pb.b.d (by have:=S.pb.z; rcases S.pb.m with m | m <;> lia);have x4:t.mask=7∨t.mask=31:=by rcases S.pb.m with ⟨m,_⟩ | ⟨m,_⟩ <;> simp [m]
 have lG:(t.probeStart (tkH prog w ks)).j+(t.probeStart (tkH prog w ks)).more≤t.mask:=zjB (gL (fm _ (ga _)));have AY:10*turns t.mask < 100000:=by unfold turns; rcases x4 with m | m <;> rw [m] <;> decide
 unfold setSearch;refine ae (zgp hu S hk qA h0 (fun j hj hs=>?_) (10*turns t.mask) 100000 none AY (ag _) rfl lG (zkD x4 _ mV));dsimp only;refine ae (dS S.g S.dt hf ?_);dsimp only;have hnp:t.place[below t.place j]?≠some j:=fun hc=>by
  unfold slot at hs;dsimp only at hs;rw [hc] at hs;simp at hs
 have hb:=(zfL S.pb.b.r j).1;have hT:=S.pb.b.put hnp;have hz:(t.put j).1.place.size=es.size+1:=by
  show (insertAt t.place (below t.place j) j).size=es.size+1;rw [zfM hb,S.pb.z]
 have nq:(t.put j).1.plain=true:=S.pb.p;have AZ:(t.put j).1.mask=t.mask:=rfl;have nM:∀ k∈(t.put j).1.place.toList,k≤(t.put j).1.mask:=fun k nF=>by
  rw [AZ];have nF:k∈(insertAt t.place (below t.place j) j).toList:=nF;rw [SetTable.toList_insertAt] at nF;rcases aT.mp nF with h1 | h1
  ·exact S.pb.i k (eG h1)
  ·rcases aN.mp h1 with rfl | h1
   ·exact hj
   ·exact S.pb.i k (fZ h1)
 obtain⟨px,e1⟩:∃ px,px=SetTable.insertAt es (t.put j).2 (tkH prog w ks,aZ b):=⟨_,rfl⟩;have oK:px.toList.Perm ((ms++[(ks,b)]).map fun q=>(tkH prog w q.1,aZ q.2)):=by
  rw [e1];refine (SetTable.insertAt_perm _ _ _).trans ?_;rw [jO,aw];exact S.pm.append (.refl _)
 have qE:px.size=es.size+1:=by rw [← aG,oK.length_eq,ab,aA,hn]; rfl
 rw [← e1];generalize (t.put j).1=t1 at hT hz nq AZ nM ⊢;rw [if_pos nq];refine ae (zia hk ?_);simp only [if_true,ko,Bool.true_and];have n0:sizeLine=16777216:=rfl;refine ae (wpAny_storeSet_of S.g S.dt ?_ #[O]);have tL:=zhp (es':=px) (t':=t1) S.g S.dt;have oG:=cf s.heap a (gN px t1);have qG:t1.mask=7∧es.size+1≤5∨t1.mask=31∧es.size+1≤18:=by
  rw [AZ];rcases S.pb.m with ⟨x,y⟩ | ⟨x,y⟩
  ·exact .inl ⟨x,#[O]⟩
  ·exact .inr ⟨x,#[O]⟩
 obtain⟨nx1,nx2⟩:=Pb.nextG hT nq hz nM qG;have hky:∀ {h'},dU a s.heap h'→∀ q∈ms++[(ks,b)],zaY prog w h' q.1 q.2:=fun {h'} lV q hq=>by
  rcases (aT.mp hq) with hq | hq
  ·exact zfN (S.ky q hq) S.g S.dt lV
  ·(rw [aS.mp hq])
   exact zfN hk S.g S.dt lV
 by_cases oO:t1.tooFull=true
 ·rw [if_pos oO];have h5:=nx1 oO;unfold setRelay;have hf1:t1.fits px.size=true:=by
   unfold jg jh;rw [hT.d,hz,qE];rcases qG with m | m <;> simp <;> lia
  refine ae (ae (dS (s:={ s with heap:=s.heap.update a (gN px t1) }) tL rfl hf1 ?_));dsimp only;have hw:sizeAbove (kq (es.size+1))=32:=by rw [h5]; decide
  rw [hw,if_neg #[O]];obtain⟨t3,order,er,hor,qu,hop,P3⟩:=Pb.relayG (wanted:=kq (es.size+1)) (es:=px) hT nq rfl #[O] hw;rw [er];obtain⟨wL,e2⟩:∃ wL,wL=order.filterMap (px[·]?):=⟨_,rfl⟩;rw [← e2] at qu hop;refine ae ?_;show wpAny _ _ (if ((order.filterMap (px[·]?)).size != px.size)=true then _ else _) _ _ _;rw [← e2,qu,if_neg #[M]]
  (refine ae (aj (aj ?_)))
  refine wpAny_storeSet_of (s:={ s with heap:=s.heap.update a (gN px t1) }) tL rfl ?_ (show wL.size≤sizeLine by lia);refine aj (h _ _ (oG.trans (cf _ a _)) ⟨_,wL,_,t3,zhp (es':=wL) (t':=t3) tL rfl,S.ex,rfl,hop.trans oK,hky (oG.trans (cf _ a _)),?_⟩);rw [qu];exact P3
 ·rw [if_neg oO];exact ae (aj (aj (h _ _ oG ⟨_,px,_,t1,tL,S.ex,rfl,oK,hky oG,by rw [qE]; exact nx2 (by simpa using oO)⟩)))
end
section
variable {St:Nat→Shared→Prop} {prog:Program} {w:World} {A:Around} {R:Result→Shared→Prop} {I:Addr} {fp wr:List Addr} {G:Array GenState→Array GenState→Prop} {n:Nat} {P:Nat→Value→Prop}
theorem zfb.at {led:Bool} {h h':Heap} {a:Addr} {ms:List (List Int×Addr)} (hS:zfb prog w led h a ms) (e:∀ o,h.get? a=some o→h'.get? a=some o) (hk:∀ q∈ms,zaY prog w h' q.1 q.2):zfb prog w led h' a ms:=by
 obtain⟨o,es,ep,t,S⟩:=hS;exact⟨o,es,ep,t,e o S.g,S.ex,S.dt,S.pm,hk,S.pb⟩
theorem zkF {α:Type} {l:List α} {i:Nat} {x:α} (h:l[i]? = some x):l.take (i+1)=l.take i++[x]:=by
 rw [gH,h];rfl
theorem zic (W:WalksS prog w A.in1 I fp wr G n P St) (S:Addr) (sy:S∉fp) (ms:List (List Int×Addr)) (A0:∀ i v,P i v→∃ q,ms[i]? = some q∧v = .ref q.2) (hb:ms.length≤17) (hn:ms.length=n) (nd:(ms.map (·.1)).Nodup) (hw:∀ q∈ms,q.2∉wr) (hSm:∀ q∈ms,q.2≠S) (hu:A.units+1 < cLine) {led:Bool} :
  ∀ (k i:Nat) (s:Shared),n - i=k→i≤n→St i s→zfb prog w led s.heap S (ms.take i)→(∀ q∈ms,zaY prog w s.heap q.1 q.2) →
   (∀ s',Moved (S :: wr) G s s'→zfb prog w led s'.heap S ms→R (.ok (.ret .none)) s')→codeAny (model prog w) A (.builtin "set.update.loop" ⟨[.ref S,.ref I],[]⟩) R s:=by
 (have hSw:S∉wr:=fun h=>sy (W.sub _ h))
 (have pG:∀ b∈wr,b∈S :: wr:=fun b hb=>av _ hb)
 intro k;induction k with
 | zero =>
  intro i s hk hi lG hS hK hR;obtain rfl:i=n:=by lia
  refine cX fe ?_;rw [cD df _]
  (refine ae (W.done s _ _ lG fun s' hm=>?_))
  rw [aQ #[O]] at hS;exact aj (hR s' (hm.mono pG) (hS.at (fun o e=>hm.heap S _ hSw e) fun q hq=>zfO (hK q hq) fun o e=>hm.heap _ _ (hw q hq) e))
 | succ k ih =>
  intro i s hk hi lG hS hK hR;have kX:i < n:=by lia
  refine cX fe ?_;rw [cD df _]
  (refine ae (W.item i s _ _ kX lG fun v s' hP oe hm=>?_))
  obtain⟨q,yh,rfl⟩:=A0 i v hP;have wI:=az yh;have yi:∀ q∈ms,zaY prog w s'.heap q.1 q.2:=fun q hq=>zfO (hK q hq) fun o e=>hm.heap _ _ (hw q hq) e
  have uA:=hS.at (h':=s'.heap) (fun o e=>hm.heap S _ hSw e) fun q hq=>yi q (eG hq)
  show wpAny _ A.in1 (holding [aZ q.2] (setAdd S (.ref q.2)) >>= _) _ _ s'
  (refine ae (bK ?_))
  unfold setAdd;have yj:A.in1.units < cLine:=by simp; lia
  refine bK (ae (wpAny_pyHash_tuple (knd:=intKind prog w) yj (yi q wI) ?_));have tO:(ms.take i).length+1≤18:=by rw [aL]; lia
  refine zjL (s:={ s' with toks:=s'.toks+(q.1.length+1) }) yj uA tO (yi q wI) (fun q' oM e=>?_) fun h' b oG wM=>?_
  ·obtain⟨i',lA⟩:=i8 oM;rw [gq] at lA;split at lA
   ·next hl =>
    have h1:(ms.map (·.1))[i']? = some q'.1:=by rw [ah,lA]; rfl
    have h2:(ms.map (·.1))[i]? = some q.1:=by rw [ah,yh]; rfl
    have:=(jP (j:=i) (bg.mp h1).1 nd).mp (by rw [h1,h2,e]);lia
   ·cases lA
  rw [← zkF yh] at wM;have hK2:∀ q∈ms,zaY prog w h' q.1 q.2:=fun q hq=>zfO (yi q hq) fun o e=>by rw [oG.2 _ (hSm q hq)]; exact e
  refine aj ⟨dM df _,ih (i+1) _ #[O] kX (W.frame _ s' _ _ oe (jZ _ _) fun b hb o e=>?_) wM hK2 fun ua A8 A9=>?_⟩
  ·(rw [oG.2 b (fun h:b=S=>sy (by rw [← h]; exact hb))]; exact e)
  ·refine hR ua (Moved.trans W.gtrans ((hm.mono pG).then_heap (jZ _ _) fun b o hb e=>?_) A8) A9
   (rw [oG.2 b (fun h:b=S=>hb (by rw [h]; exact aI))]; exact e)
end
def za4 (w:World):Bool:=!w.params.followText "set-order"
def zaS (led:Bool):Obj:={ cls:=.type "set",dict:=none,data:=.set #[] 0 (.fresh 0 0 led) }
section
variable {prog:Program} {w:World} {A:Around} {E:Value→Shared→Prop} {s:Shared}
theorem zjM (a:Value) {Q₁:Value→Shared→Prop} (h:Q₁ (.ref s.heap.objs.size) { s with heap:=s.heap.push (zaS (za4 w)) }):codeAny (model prog w) A (.call (.builtin "set.__new__") ⟨[.type "set",a],[]⟩) (wants Q₁ E) s:=by
 refine fX ?_;show wpAny _ A.in1 (checkBuiltinCall "set.__new__" ⟨[.type "set",a],[]⟩ >>= fun _=>again (.builtin "set.__new__" ⟨[.type "set",a],[]⟩)) _ _ s;refine ae (b7 (PySem.F.newCall_set_1 a) (aj ⟨dM iR _,cX PySem.F.entry_set_new ?_⟩));rw [cD iR _]
 (unfold Builtin.«set.__new__» kD)
 have pG:=sub_set_self
 (obtain⟨hp,g,d,tk,os⟩:=s)
 dsimp only
 wp_walk
 (refine wpAny_askSetting (aj ?_))
 dsimp only;simp only [newObj]
 (refine ae (wpAny_alloc (aj ?_)))
 exact aj h
theorem zfP {h:Heap} {a:Addr} {led:Bool} (ho:h.get? a=some (zaS led)):zfb prog w led h a [] :=
 ⟨_,#[],0,_,ho,⟨rfl,rfl,rfl⟩,rfl,.refl _,(fun q hq=>by cases hq),⟨.fresh _ _ _,rfl,rfl,(fun j hj=>by cases hj),.inl ⟨rfl,bj _⟩⟩⟩
theorem zmY:isSubtype (.type "list") (.type "set")=pure false:=by rw [dw]; kernel_rfl
theorem zmZ:isSubtype (.type "list") (.type "frozenset")=pure false:=by rw [dw]; kernel_rfl
abbrev zhq (prog:Program) (w:World) (s:Shared) (ms:List (List Int×Addr)) (h':Heap):Prop :=
 zfb prog w (za4 w) h' s.heap.objs.size ms∧∀ b o,b < s.heap.objs.size→s.heap.get? b=some o→h'.get? b=some o
theorem zid {l:Addr} {items:Array Value} {ms:List (List Int×Addr)} {R:Result→Shared→Prop} (hh:A.handled=none) (hu:A.units+8 < cLine) (hl:s.heap.IsList l items) (hi:items.toList=ms.map fun q=>aZ q.2) (hb:ms.length≤17) (nd:(ms.map (·.1)).Nodup) (hk:∀ q∈ms,zaY prog w s.heap q.1 q.2)
  (h:∀ h' tk,zhq prog w s ms h'→R (.ok (.ret .none)) { s with heap:=h',toks:=tk }) :
  wpAny (model prog w) A.in1 (Builtin.«set.__init__» ⟨[.ref s.heap.objs.size,.ref l],[]⟩) (fun fin s'=>match fin with | .done f=>R (.ok f) s' | .again c'=>c'.quiet=true∧codeAny (model prog w) A c' R s') (fun e s'=>R (.error e) s') { s with heap:=s.heap.push (zaS (za4 w)) }:=by
 have hzi:items.size=ms.length:=by rw [← aG,hi,ab]
 have hS:(s.heap.push (zaS (za4 w))).get? s.heap.objs.size=some (zaS (za4 w)):=aK _ rfl;have kX:l < s.heap.objs.size:=by obtain⟨o,ho,_⟩:=hl; exact aE ho
 have yk:∀ q∈ms,q.2 < s.heap.objs.size:=fun q hq=>by obtain⟨o,_,_,ho,_⟩:=hk q hq; exact aE ho
 have zz:(s.heap.push (zaS (za4 w))).objs.size=s.heap.objs.size+1:=bJ ..;have vn:(s.heap.push (zaS (za4 w))).IsList l items:=hl.push _;have hT:kE { s with heap:=s.heap.push (zaS (za4 w)) } (.ref s.heap.objs.size) "set":=⟨_,hS,rfl⟩;have uv:∀ q∈ms,zaY prog w (s.heap.push (zaS (za4 w))) q.1 q.2:=fun q hq=>zfO (hk q hq) fun o e=>am _ e
 have q1:=zmY;have q2:=zmZ;have q3:(iT "list" == iT "dict")=false:=by decide
 have wM:=zfP (prog:=prog) (w:=w) hS;unfold zhq at h;generalize za4 w=led at *;obtain⟨ol,yl,tq,nl,tP⟩:=id vn
 (obtain⟨ocls,odict,odata,Ba⟩:=ol)
 simp only at tq tP;subst tq tP;unfold Builtin.«set.__init__» noKeywords kr zaS;unfold zaS at hS hT yl vn zz wM uv;generalize hPI:pyIter=PI
 wp_walk
 subst hPI;refine fz vn (ae (wpAny_runValue ?_));have z0:s.heap.objs.size≠s.heap.objs.size+1:=a8 (fL _);refine zic (led:=led) ((kg (show A.in1.in1.handled=none by simp [hh]) (s.heap.push (zaS led)).objs.size l (by rw [bJ]; exact a8 (cZ kX)) items).toS) s.heap.objs.size (by
   rw [bJ];intro m;rcases (aN.mp m) with e | e
   ·exact z0 e
   ·exact jr kX (aS.mp e)) ms (fun i v hv=>by
    have hv:items.toList[i]? = some v:=by rw [be]; exact hv
    rw [hi,ah] at hv;obtain⟨q,hq,e⟩:=Option.map_eq_some_iff.mp hv;exact⟨q,hq,e.symm⟩) hb hzi.symm nd (fun q hq m=>by
    have:=yk q hq;have m:=aS.mp m;rw [bJ] at m;exact a8 (cZ this) m) (fun q hq=>a8 (yk q hq)) (by simp; lia) (items.size - 0) 0 _ rfl (bj _) ⟨⟨_,aK _ rfl,rfl,rfl⟩,vn.push _⟩
  (wM.at (fun o e=>am _ e) fun q hq=>by cases hq) (fun q hq=>zfO (uv q hq) fun o e=>am _ e) fun s' hm uA=>?_
 (obtain⟨h',g',d',tk',yL⟩:=s')
 obtain rfl:g'=s.gens:=hm.gens;obtain rfl:d'=s.drawn:=hm.drawn;obtain rfl:yL=s.os:=hm.os;refine aj ?_
 (show wpAny _ _ (ret dj) _ _ _)
 refine aj (h h' tk' ⟨uA,fun b o mi e=>?_⟩);refine hm.heap b o ?_ (am _ (am _ e));intro m;rcases (aN.mp m) with e | e
 ·exact a8 mi e
 ·have e:=aS.mp e;rw [bJ] at e;exact a8 (cZ mi) e
theorem zie {l:Addr} {items:Array Value} {ms:List (List Int×Addr)} {Q:Value→Shared→Prop} (hh:A.handled=none) (hu:A.units+16 < cLine) (hl:s.heap.IsList l items) (hi:items.toList=ms.map fun q=>aZ q.2) (hb:ms.length≤17) (nd:(ms.map (·.1)).Nodup) (hk:∀ q∈ms,zaY prog w s.heap q.1 q.2)
  (h:∀ h' tk,zhq prog w s ms h'→Q (.ref s.heap.objs.size) { s with heap:=h',toks:=tk }):wpAny (model prog w) A (call (.type "set") [.ref l]) Q E s:=by
 have ft:=PySem.F.called_set
 (obtain⟨c,tl,hmro⟩:=ft.mro)
 have p1:=ft.made;have p2:=ft.sub;have p3:=ft.notType;have p4:=ft.canCreate;have p5:=PySem.F.typeCall_set_1 (.ref l);refine j5 (fX ?_); show wpAny _ _ (callAny (.type "set") _) _ _ _;refine aj ⟨Code.quiet_builtin _ #[N],cX PySem.F.entry_type_call ?_⟩; rw [Around.under_plain (weight_type_call_type "set" [.ref l] []) rfl]; repeat (any_goals (first | assumption | wp_step))
 refine fV (zjM (.ref l) (E:=E) (Q₁:=fun obj s₁=>obj = .ref s.heap.objs.size∧s₁ = { s with heap:=s.heap.push (zaS (za4 w)) }) ⟨rfl,rfl⟩) fun r s₁ hr=>?_
 cases r with
 | error e=>exact hr
 | ok fl =>
  cases fl with
  | ret obj =>
   obtain⟨rfl,rfl⟩:=hr;have hS:(s.heap.push (zaS (za4 w))).get? s.heap.objs.size=some (zaS (za4 w)):=aK _ rfl;have hT:kE { s with heap:=s.heap.push (zaS (za4 w)) } (.ref s.heap.objs.size) "set":=⟨_,hS,rfl⟩;have p6:=ft.init.lookup;have p7:=ft.init.bind (.ref s.heap.objs.size); repeat (any_goals (first | assumption | wp_step))
   refine fV (i3 (R:=wants (fun r s₂=>r = .none∧∃ h' tk,s₂ = { s with heap:=h',toks:=tk }∧zhq prog w s ms h') E) ft.init.plain PySem.F.entry_set_init (check_set_init_1 hT (zid (A:=A.in1) (by simp [hh]) (by simp; lia) hl hi hb nd hk fun h' tk fl=>⟨rfl,h',tk,rfl,fl⟩))) fun r₂ s₂ hr₂=>?_
   cases r₂ with
   | error e=>exact hr₂
   | ok fl₂ =>
    cases fl₂ with
    | ret r =>
     obtain⟨rfl,h',tk,rfl,fl⟩:=hr₂; repeat (any_goals (first | assumption | wp_step))
     exact h _ _ fl
    | _=>exact hr₂.elim
  | _=>exact hr.elim
end
theorem zfQ {P:Program} {w:World}:∀ {ns:List Int} {us:List Value},zw (ns.map V.int) us→ItemsAre (intKind P w) ns us
 | [],us,r=>by cases r; exact .nil
 | n :: ns,us,r=>by
  cases r with
  | cons h t =>
   obtain⟨tk,rfl⟩:=h;exact .cons (intKind_is _ _ _ _) (zfQ t)
theorem Inv.tk {X:Cx} {kN:List (Addr×Obj)} {σ:St} {H:Hp} {s:Shared} {a:Addr} {ns:List Int} (I:Inv X kN σ H s) (h:H a=some (.tup (ns.map V.int))):zaY X.prog X.w s.heap ns a:=by
 obtain⟨kO,r,p,_⟩:=I.tuple (kT.of h);obtain⟨o,ho,hc,n,hd⟩:=p;exact⟨o,_,n,ho,hc,hd,by simpa using zfQ r⟩
theorem zfR:∀ {rs:List Addr} {us:List Value},zw (rs.map V.ref) us→us=rs.map aZ
 | [],us,r=>by cases r; rfl
 | a :: rs,us,r=>by
  cases r with
  | cons h t =>
   cases h;rw [zfR t];rfl
theorem zdJ {α β:Type} {R:α→β→Prop}:∀ {as:List α} {bs:List β},Paired R as bs→(bs.zip as).map (·.1)=bs∧(bs.zip as).map (·.2)=as∧∀ q∈bs.zip as,R q.2 q.1
 | _,_,.nil=>⟨rfl,rfl,fun q hq=>by cases hq⟩
 | _,_,.cons h t=>by
  obtain⟨e1,e2,e3⟩:=zdJ t;refine⟨by simp [e1],by simp [e2],fun q hq=>?_⟩;rcases (aN.mp hq) with rfl | hq
  ·exact h
  ·exact e3 q hq
def rLS (K:af):List V→Hp→VK→Prop:=fun xs H Q=>∃ (p:Addr) (rs:List Addr) (qs:List (List Int)),xs = [.ref p]∧H p=some (.lst (rs.map V.ref))∧Paired (fun r q=>H r=some (.tup (q.map V.int))) rs qs∧qs.Nodup∧qs.length≤17∧Q (.int (qs.length:Int)) H
theorem zif {X:Cx} {e:Expr} {t:TA} {p p' pos pos':Pos} (hc:X.calm=true) (hu:X.A.units+16 < cLine) (hg:Gl X "len") (hm:X.mg "len" = none) (uB:Gl X "set") (rC:X.mg "set" = none) (ha:PA X [e] t)
  (he:starEach [e] X.env = [(false,eval e X.env)]:=by rfl):PE X (.Call (.Name "len" p) [.Call (.Name "set" p') [e] [] pos'] [] pos) (tCB (rLS X.K) t):=by
 intro kN s σ H Q I h;refine db (zaP I hg hm (u:=.builtin "len") rfl ?_ #[D] #[D]);refine fW ?_ rfl rfl;show wpAny _ _ (spliced ((false,eval (.Call (.Name "set" p') [e] [] pos') X.env) :: [])) _ _ s;refine gk ?_;refine db (zaP I uB rC (u:=.type "set") rfl ?_ #[D] #[D]);refine bD (thn (ha pos' kN s σ H _ I h) fun us s1 ⟨vs,H1,I1,r1,q1⟩=>?_) he rfl;obtain⟨pa,rs,qs,rfl,hq,hP,nd,hn,q⟩:=q1;obtain⟨u,rfl,rx⟩:=vals1 r1;cases rx;obtain⟨kO,rv,pl,hz⟩:=I1.list (kP.of hq);obtain rfl:=zfR rv;obtain⟨e1,e2,e3⟩:=zdJ hP;have hl:=hP.length;refine zie (ms:=qs.zip rs) (I1.ok.hd hc) hu (show s1.heap.IsList pa (rs.map aZ).toArray from pl.isList) ?_ ?_ (by rw [e1]; exact nd) (fun q hq=>I1.tk (e3 q hq)) fun h' tk fl=>?_
 ·show rs.map aZ=(qs.zip rs).map (aZ ∘ fun q=>q.2);rw [← dD,e2]
 ·rw [← ab (f:=(·.1)),e1]; exact hn
 obtain⟨f1,f2⟩:=fl;have k:∀ b o,s1.heap.get? b=some o→h'.get? b=some o:=fun b o e=>f2 b o (aE e) e
 have I2:Inv X kN σ H1 { s1 with heap:=h',toks:=tk }:=I1.kept k;refine gD ?_;obtain⟨o,es,ep,t,S⟩:=f1;have qC:es.size=qs.length:=by rw [← aG,S.pm.length_eq,ab,← ab (f:=(·.1)),e1]
 have n0:sizeLine=16777216:=rfl;refine call_len_set (s:={ s1 with heap:=h',toks:=tk }) S.g S.ex S.dt S.pb.fitsG #[O] ?_;exact⟨.int es.size,_,I2.tok _,⟨_,rfl⟩,by rw [qC]; exact q⟩
end L2
end
section
namespace My
open PySem L2 PyProof.Rows
def top (i:Nat):Stmt:=PySem.Challenge.pw_slipcurve_k13_whole_roots.main.body.getD i (.Pass ⟨0,0,0,0⟩)
abbrev zbv:Stmt:=top 1
abbrev zaZ:Stmt:=top 3
abbrev zbO:Stmt:=top 4
abbrev za0:Stmt:=top 5
abbrev zbP:Stmt:=top 6
abbrev zaz:Stmt:=top 8
abbrev zaC:Stmt:=top 9
abbrev zaU:Stmt:=top 10
abbrev zaF:Stmt:=top 11
abbrev zcD:Stmt:=top 13
abbrev zb3:Stmt:=top 14
abbrev zbQ:Stmt:=top 15
abbrev zaV:Stmt:=top 16
abbrev zb4:Stmt:=top 17
abbrev zbi:Stmt:=top 18
abbrev zae:Stmt:=top 19
abbrev zcE:Stmt:=top 20
abbrev za5:Stmt:=top 21
structure Adr where
 value_at:Addr
 width_of:Addr
 filled:Addr
 terms_of:Addr
 raised:Addr
 without_x:Addr
 next_curve:Addr
 further:Addr
 roots_of:Addr
 l_cell:Addr
 l_draws:Addr
 l_code:Addr
 l_curve:Addr
 l_times:Addr
 l_along:Addr
 l_with_root:Addr
 l_all:Addr
 law:Addr
structure Txt (K:af) (mg:Str→Option Value) (t:Adr):Prop where
 len_:mg "len" = none
 range_:mg "range" = none
 list_:mg "list" = none
 tuple_:mg "tuple" = none
 min_:mg "min" = none
 max_:mg "max" = none
 isinstance_:mg "isinstance" = none
 zip_:mg "zip" = none
 enumerate_:mg "enumerate" = none
 reversed_:mg "reversed" = none
 int_:mg "int" = none
 sorted_:mg "sorted" = none
 any_:mg "any" = none
 set_:mg "set" = none
 m_value_at:mg "value_at" = some (.ref t.value_at)
 m_width_of:mg "width_of" = some (.ref t.width_of)
 m_filled:mg "filled" = some (.ref t.filled)
 m_terms_of:mg "terms_of" = some (.ref t.terms_of)
 m_raised:mg "raised" = some (.ref t.raised)
 m_without_x:mg "without_x" = some (.ref t.without_x)
 m_next_curve:mg "next_curve" = some (.ref t.next_curve)
 m_further:mg "further" = some (.ref t.further)
 m_roots_of:mg "roots_of" = some (.ref t.roots_of)
 m_l_cell:mg "_law_cell" = some (.ref t.l_cell)
 m_l_draws:mg "_law_draws" = some (.ref t.l_draws)
 m_l_code:mg "_law_code" = some (.ref t.l_code)
 m_l_curve:mg "_law_curve" = some (.ref t.l_curve)
 m_l_times:mg "_law_times" = some (.ref t.l_times)
 m_l_along:mg "_law_along" = some (.ref t.l_along)
 m_l_with_root:mg "_law_with_root" = some (.ref t.l_with_root)
 m_l_all:mg "_law_all" = some (.ref t.l_all)
 f_value_at:∃ fd,Fun K "value_at" "value_at" zbv t.value_at fd∧Binds K fd ["p","polynomial","x"] []
 f_width_of:∃ fd,Fun K "width_of" "width_of" zaZ t.width_of fd∧Binds K fd ["curve"] []
 f_filled:∃ fd,Fun K "filled" "filled" zbO t.filled fd∧Binds K fd ["p","curve"] []
 f_terms_of:∃ fd,Fun K "terms_of" "terms_of" za0 t.terms_of fd∧Binds K fd ["curve"] []
 f_raised:∃ fd,Fun K "raised" "raised" zbP t.raised fd∧Binds K fd ["p","lines","by"] []
 f_without_x:∃ fd,Fun K "without_x" "without_x" zaz t.without_x fd∧Binds K fd ["lines"] []
 f_next_curve:∃ fd,Fun K "next_curve" "next_curve" zaC t.next_curve fd∧Binds K fd ["p","lines","number"] []
 f_further:∃ fd,Fun K "further" "further" zaU t.further fd∧Binds K fd ["p","known","lines"] []
 f_roots_of:∃ fd,Fun K "roots_of" "roots_of" zaF t.roots_of fd∧Binds K fd ["p","k","curve"] []
 f_l_cell:∃ fd,Fun K "_law_cell" "_law_cell" zcD t.l_cell fd∧Binds K fd ["script","k"] []
 f_l_draws:∃ fd,Fun K "_law_draws" "_law_draws" zb3 t.l_draws fd∧Binds K fd ["script","k","many","base"] []
 f_l_code:∃ fd,Fun K "_law_code" "_law_code" zbQ t.l_code fd∧Binds K fd ["script","at","most_k","most_n"] []
 f_l_curve:∃ fd,Fun K "_law_curve" "_law_curve" zaV t.l_curve fd∧Binds K fd ["script","at","p","high","wide"] []
 f_l_times:∃ fd,Fun K "_law_times" "_law_times" zb4 t.l_times fd∧Binds K fd ["p","one","other"] []
 f_l_along:∃ fd,Fun K "_law_along" "_law_along" zbi t.l_along fd∧Binds K fd ["p","curve","polynomial"] []
 f_l_with_root:∃ fd,Fun K "_law_with_root" "_law_with_root" zae t.l_with_root fd∧Binds K fd ["p","curve","polynomial"] []
 f_l_all:∃ fd,Fun K "_law_all" "_law_all" zcE t.l_all fd∧Binds K fd ["p","k"] []
section
variable {P:Program} {w:World} {K:af} {mg:Str→Option Value} {base:Heap} {t:Adr}
theorem zig:FnScope ["script","k"] ["script","k"] (zh zcD):=#[S]
theorem zih {fd:FuncData} (T:Txt K mg t) (F:Fun K "_law_cell" "_law_cell" zcD t.l_cell fd):FnOk P w K mg base CX0 1 t.l_cell fd ["script","k"] (zhI K):=by
 refine F.ok zig (fun vs H Q E h=>?_) (fun lB A outer s H vs Q E hr h=>?_)
 ·obtain⟨a,ns,k,rfl,_⟩:=h; rfl
 ·obtain⟨a,ns,k,rfl,hS,kS,k0,k1,q⟩:=h;apply zbz; intro zX;refine⟨_,#[zf,#[za1,#[zJ,#[zgF],#[pvx,1],#[zl,#[zm],T.len_,bP,#[ya,#[pvx,0]]],(zV _)],#[zj,#[zQ,#[zI,#[zq],#[pvx,0],#[pvx,1]]]],#[zan]],#[zf,#[za1,#[zJ,#[zd5],#[zl,#[zm],T.len_,bP,#[ya,#[pvx,0]]],#[ze],(zV _)],#[zj,#[zQ,#[zg,#[zu],#[zg,#[z8],#[ze],#[pvx,1]],#[ze]]]],#[zan]],#[zj,#[zQ,#[zg,#[zu],#[zg,#[zB],#[zI,#[zq],#[pvx,0],#[zg,#[zB],#[pvx,1],#[zl,#[zm],T.len_,bP,#[ya,#[pvx,0]]]]],#[ze]],#[zg,#[z8],#[ze],#[pvx,1]]]]]]],?_⟩;apply zhC; intro qN oP;refine⟨_,rfl,_,rfl,a,_,rfl,.inl hS,_,_,rfl,rfl,_,rfl,?_⟩; rw [ab];refine zby (fun h=>?_) (fun h=>?_)
  ·have h:k < (ns.length:Int):=by simpa using h
   obtain⟨c,hc⟩:=zeP k0 h;exact⟨_,rfl,_,rfl,a,_,k,_,rfl,rfl,hS,hc,q c⟩
  ·have h:¬ k < (ns.length:Int):=by simpa using h
   refine⟨_,rfl,a,_,rfl,.inl hS,rfl,_,rfl,?_⟩;rw [ab];refine zby (fun h2=>?_) (fun h2=>?_)
   ·exact⟨_,rfl,_,_,rfl,rfl,.inl ⟨#[D],#[D]⟩,_,_,rfl,rfl,q _⟩
   ·have h2:¬ V.int (ns.length:Int)=V.int 0:=by simpa using h2
    have wN:0 < (ns.length:Int):=by
     have:(ns.length:Int)≠0:=fun z=>h2 (by rw [z])
     lia
    have m0:=aV k (show (ns.length:Int)≠0 by lia);have m1:=aP k wN;obtain⟨c,hc⟩:=zeP m0 m1;refine⟨_,rfl,_,rfl,_,rfl,a,_,rfl,.inl hS,_,_,rfl,rfl,by rw [ab]; exact wN,a,_,_,_,rfl,rfl,hS,by rw [ab]; exact hc,_,_,rfl,rfl,(by show (0:Int) < 1000003; decide),?_⟩;exact⟨_,rfl,_,_,rfl,rfl,.inl ⟨#[D],#[D]⟩,_,_,rfl,rfl,q _⟩
theorem zP:FnScope ["script","k","many","base","primes","cell","rest","row","j","mash"] ["script","k","many","base"] (zh zb3):=#[S]
theorem zch {fd:FuncData} (T:Txt K mg t) (F:Fun K "_law_draws" "_law_draws" zb3 t.l_draws fd):FnOk P w K mg base CX0 2 t.l_draws fd ["script","k","many","base"] (zgf K):=by
 obtain⟨pK,oj,mX⟩:=T.f_l_cell;have qO:=zih (P:=P) (w:=w) (base:=base) T oj;refine F.ok zP (fun vs H Q E h=>?_) (fun lB A outer s H vs Q E hr h=>?_)
 ·obtain⟨a,ns,k,many,base,rfl,_⟩:=h;rfl
 ·obtain⟨a,ns,k,many,bs,rfl,hS,kS,k0,k1,m0,m1,b0,b1,q⟩:=h;apply zbz; intro zX;refine⟨_,#[zf,#[zp,4,zP.nd,#[A],#[zbl,#[zfs,#[zfs,#[zfs,#[zfs,#[zfs,#[za,#[ze],#[za,#[ze],#[ya,#[ze]]]]]]]]]]],#[zf,#[zp,5,zP.nd,#[A],#[zF,qO,(hr.mono #[D]),T.m_l_cell,oj.kp,mX,#[zak],#[za,#[pvx,0],#[ya,#[pvx,1]]]]],#[zf,#[zp,6,zP.nd,#[A],#[ze]],#[zf,#[za1,#[zJ,(@zl8 _),#[pvx,5],#[zg,#[ziy],#[ze],#[ze]],(zV _)],#[zj,#[zp,6,zP.nd,#[A],#[pvx,5]]],#[zan]],#[zf,#[zp,7,zP.nd,#[A],#[zac,#[zd]]],#[zf,#[zaj,bp,#[zR,T.range_,#[ya,#[pvx,2]]],#[zi,8,zP.nd,#[A]],#[zf,#[zp,9,zP.nd,#[A],#[zg,#[z8],#[zg,#[zB],#[pvx,5],#[zI,#[zf9],#[pvx,4],#[zg,#[zB],#[pvx,8],#[ze]]]],#[zg,#[zu],#[ze],#[zg,#[z8],#[zg,#[z8],#[ze],#[pvx,8]],#[pvx,8]]]]],#[zf,#[zp,9,zP.nd,#[A],#[zg,#[zu],#[zg,#[zu],#[pvx,9],#[zg,#[z8],#[zg,#[z8],#[ze],#[zg,#[zu],#[pvx,8],#[ze]]],#[zg,#[zu],#[pvx,8],#[ze]]]],#[zg,#[z8],#[ze],#[pvx,1]]]],#[zf,#[zp,9,zP.nd,#[A],#[zg,#[zB],#[pvx,9],#[zI,#[zf9],#[pvx,4],#[zg,#[zB],#[zg,#[zu],#[zg,#[z8],#[ze],#[pvx,8]],#[pvx,1]],#[ze]]]]],#[zf,#[zp,9,zP.nd,#[A],#[zg,#[zB],#[zg,#[z8],#[zg,#[z8],#[pvx,9],#[pvx,9]],#[pvx,9]],#[zI,#[zf9],#[pvx,4],#[zg,#[zB],#[zg,#[zu],#[pvx,8],#[ze]],#[ze]]]]],#[zf,#[za1,#[zJ,#[zd6],#[pvx,6],#[ze],(zV _)],#[zj,#[zp,9,zP.nd,#[A],#[pvx,6]]],#[zan]],#[zf,#[zcj,#[zed,cE,dG,dH,#[zbT],#[pvx,7],#[ya,#[zg,#[zB],#[pvx,9],#[pvx,3]]]]],#[zj,#[zp,6,zP.nd,#[A],#[zg,(@zjZ _),#[pvx,6],#[pvx,3]]]]]]]]]]],#[zj,#[zQ,#[pvx,7]]]]]]]]],?_⟩;apply zmi; intro zN7 zN6 Bb wO qN oP;refine⟨by show 8≤sizeLine; rw [br]; decide,fun tp ht=>?_⟩;have s1:zt H (kR H tp (.tup zkc)):=zc ht;refine⟨_,rfl,_,rfl,a,ns,k,rfl,s1.seq hS,kS,k0,k1,fun c=>?_⟩;refine⟨_,rfl,_,_,rfl,rfl,⟨#[D],#[D],#[D]⟩,_,_,rfl,rfl,_,rfl,?_⟩;refine zby (fun _=>⟨_,rfl,?_⟩) (fun _=>?_)
  all_goals
   refine⟨bj _,fun l hl=>?_⟩;have Bc:H l=none:=zt.free s1 hl;have vz:tp≠l:=zA zb hl;refine⟨_,rfl,many,rfl,#[O],#[O],zad (lo:=0) (n:=many.toNat) (fun i σ H'=>∃ (r:Int) (v8 v9:Option V) (ds:List Int),σ = [some (.ref a),some (.int k),some (.int many),some (.int bs),some (.ref tp),some (.int c),some (.int r),some (.ref l),v8,v9]∧zeQ i bs ds∧zt H H'∧H' tp=some (.tup zkc)∧H' l=some (.lst (ds.map V.int)))
    ⟨_,none,none,[],rfl,⟨rfl,#[M]⟩,z9 s1 Bc,by rw [zk vz]; exact zb,zb⟩ ?_ ?_⟩
   ·rintro zD zT i σ H2 hi ⟨r,v8,v9,ds,rfl,hd,s2,wQ,nu⟩;obtain⟨q1,e1,q1p,q1l⟩:=zdu (0+(i:Int));obtain⟨q2,e2,q2p,q2l⟩:=zdu (3*(0+(i:Int))+k);obtain⟨q3,e3,q3p,q3l⟩:=zdu (0+(i:Int)+5);have c1:=aV c (show q1≠0 by lia);have c2:=aP c q1p;have lA:(i:Int) < 1000:=by lia
    refine⟨_,rfl,_,rfl,_,rfl,_,_,rfl,rfl,(by show (0:Int) < 8; decide),tp,_,_,_,rfl,rfl,kT.of wQ,e1,_,_,rfl,rfl,q1p,_,rfl,_,_,rfl,rfl,.inl ⟨#[D],#[D]⟩,_,rfl,_,_,rfl,rfl,.inl ⟨#[O],#[O]⟩,_,_,rfl,rfl,_,_,rfl,rfl,.inl ⟨#[O],#[O]⟩,?_⟩;refine⟨_,rfl,_,rfl,_,_,rfl,rfl,_,_,rfl,rfl,.inl ⟨#[D],#[D]⟩,_,rfl,_,_,rfl,rfl,_,_,rfl,rfl,.inl ⟨#[O],#[O]⟩,_,_,rfl,rfl,_,rfl,_,_,rfl,rfl,.inl ⟨#[D],#[D]⟩,_,_,rfl,rfl,?_⟩;refine⟨_,rfl,_,rfl,_,rfl,_,_,rfl,rfl,.inl ⟨#[D],#[D]⟩,_,rfl,_,_,rfl,rfl,_,_,rfl,rfl,(by show (0:Int) < 8; decide),tp,_,_,_,rfl,rfl,kT.of wQ,e2,_,_,rfl,rfl,q2p,?_⟩;generalize c % q1*(48271+2*(0+(i:Int))*(0+(i:Int)))+7919*(0+(i:Int)+1)*(0+(i:Int)+1)+104729*k=ms;have d1:=aV ms (show q2≠0 by lia);have d2:=aP ms q2p;refine⟨_,rfl,_,rfl,_,_,rfl,rfl,.inl ⟨#[O],#[O]⟩,_,rfl,_,_,rfl,rfl,.inr ⟨#[O],#[O]⟩,_,rfl,_,rfl,_,_,rfl,rfl,_,_,rfl,rfl,(by show (0:Int) < 8; decide),tp,_,_,_,rfl,rfl,kT.of wQ,e3,_,_,rfl,rfl,q3p,?_⟩;refine⟨_,rfl,_,_,rfl,rfl,_,rfl,?_⟩;have tP:=hd.1;refine zby (fun _=>⟨_,rfl,?_⟩) (fun _=>?_)
    all_goals
     refine⟨_,rfl,.inl ⟨rfl,_,kP.of nu⟩,_,rfl,_,rfl,_,_,rfl,rfl,b0,l,_,_,rfl,rfl,nu,zaE (by rw [ab]; lia),?_⟩;refine⟨_,rfl,_,rfl,_,_,rfl,rfl,⟨b0,b1⟩,?_⟩;refine⟨_,_,_,ds++[_],rfl,⟨by rw [aA,tP]; rfl,fun d hm=>?_⟩,z9 s2 Bc,by rw [zk vz]; exact wQ,by rw [zb,aw]; rfl⟩; rcases aT.mp hm with hm | hm
     ·exact hd.2 d hm
     ·have e:=aS.mp hm;rw [e];exact⟨aV _ #[O],aP _ b0⟩
   ·rintro σ H2 ⟨r,v8,v9,ds,rfl,hd,s2,wQ,nu⟩;exact⟨_,rfl,q l ds H2 Bc s2 hd nu⟩
theorem zaG:FnScope ["script","at","most_k","most_n","plan","primes","p","k","many","left"] ["script","at","most_k","most_n"] (zh zbQ):=#[S]
theorem zii {fd:FuncData} (T:Txt K mg t) (F:Fun K "_law_code" "_law_code" zbQ t.l_code fd):FnOk P w K mg base CX0 3 t.l_code fd ["script","at","most_k","most_n"] (zhJ K):=by
 obtain⟨l3,kY,kZ⟩:=T.f_l_draws;have lj:=zch (P:=P) (w:=w) (base:=base) T kY;refine F.ok zaG (fun vs H Q E h=>?_) (fun lB A outer s H vs Q E hr h=>?_)
 ·obtain⟨a,ns,at',mk,mn,rfl,_⟩:=h;rfl
 ·obtain⟨a,ns,at',mk,mn,rfl,hS,kS,a0,a1,k1,k5,kn,n16,q⟩:=h;apply zbz; intro zX;refine⟨_,#[zf,#[zp,4,zaG.nd,(eA rfl),#[zF,lj,(hr.mono #[D]),T.m_l_draws,kY.kp,kZ,#[zak],#[za,#[pvx,0],by exact #[za,#[pvx,1],#[za,#[ze],#[ya,#[ze]]]]]]],(by exact (@ziN _ 5 _ _ _ _ _ _ _ [5,7,11,13,17,19,23,29,31,37,41,43,47,53,59,61,67,71,73,79,83,89,97] #[N] zaG.nd rfl #[A] (by first | exact .inl rfl | exact .inr rfl) (by exact #[zf,#[zp,6,zaG.nd,#[A],#[zI,#[zq],#[zac,#[za,#[zI,#[zq],#[pvx,5],#[zg,#[zB],#[zI,#[zq],#[pvx,4],#[ze]],#[ze]]],#[ya,#[zI,#[zq],#[pvx,5],#[zg,#[zB],#[zI,#[zq],#[pvx,4],#[ze]],#[ze]]]]]],#[zg,#[zB],#[zI,#[zq],#[pvx,4],#[ze]],#[ze]]]],#[zf,#[zp,7,zaG.nd,#[A],#[zg,#[zu],#[ze],#[zg,#[zB],#[zI,#[zq],#[pvx,4],#[ze]],#[zl,#[zd7],T.min_,boot_min,#[za,#[pvx,2],#[ya,#[pvx,6]]]]]]],#[zf,#[zp,8,zaG.nd,#[A],#[zg,#[zu],#[pvx,7],#[zg,#[zB],#[zI,#[zq],#[pvx,4],#[ze]],#[zg,#[zu],#[zg,#[za8],#[zl,#[zd7],T.min_,boot_min,#[za,#[pvx,3],#[ya,#[pvx,6]]]],#[pvx,7]],#[ze]]]]],#[zf,#[zp,9,zaG.nd,(eA rfl),#[zO,(@zdW _ rfl),T.list_,fU,#[ya,#[zO,(@zfr _),T.range_,j4,#[ya,#[pvx,6]]]]]],#[zj,#[zQ,#[zbl,#[za,#[pvx,6],#[za,#[pvx,7],#[ya,#[zO,#[zam],T.tuple_,eH,#[ya,#[zS,(CompSc.of (N':=["j","left","plan"]) (ix:=[none,some 9,some 4]) (zh zbQ) ["script","at","most_k","most_n","plan","primes","p","k","many","left"] rfl rfl #[N]),#[z7],#[zR,T.range_,#[ya,#[pvx,8]]],(fun _ _ _ _=>#[zi,0,(nd_ ["j","left","plan"]),#[A]]),(fun _ _ _ _=>#[zE]),(fun _ _ _ _=>(@zlu _ (K) _ _ _ _ _ _ _ _ _ _ _ rfl cE PySem.F.slot_list_pop PySem.F.type_list_pop (@ziC _) #[pvx,1] #[ya,#[zg,#[zB],#[zI,#[zdt,(K)],#[pvx,2],#[zg,#[zu],#[ze],#[pvx,0]]],#[zl,#[zas,(K)],T.len_,bP,#[ya,#[pvx,1]]]]] (by rfl) (by rfl) (by rfl) (by rfl) (by rfl)))]]]]]]]]]]]]])))],?_⟩;apply zmi; intro zN7 zN6 Bb wO qN oP;refine⟨_,rfl,_,rfl,a,ns,at',20,27720,rfl,hS,kS,a0,a1,#[D],#[D],#[D],#[D],fun l ds H1 hl s1 hd nq=>?_⟩;have tP:ds.length=20:=hd.1;have dat:∀ m:Int,0≤m→m < 20→∃ c:Int,atI (ds.map V.int) m=some (.int c):=fun m h0 h1=>zeP h0 #[O]
  refine⟨by show 23≤sizeLine; rw [br]; decide,fun pr rK=>?_⟩;have Bd:l≠pr:=zA nq rK;obtain⟨d0,ym⟩:=dat 0 #[D] #[D];obtain⟨d1,ed1⟩:=dat 1 #[D] #[D];obtain⟨d2,ed2⟩:=dat 2 #[D] #[D];obtain⟨d3,ed3⟩:=dat 3 #[D] #[D];have mR:(kR H1 pr (.lst (zK.map V.int))) l=some (.lst (ds.map V.int)):=by rw [zk Bd]; exact nq
  obtain⟨p1,mp1,ep1⟩:=ziR (ns:=zK) (k:=d0 % 23) (aV _ #[D]) (aP _ #[D]);obtain⟨p2,mp2,ep2⟩:=ziR (ns:=zK) (k:=d0 % 3) (aV _ #[D]) (by have:=aP d0 (show (0:Int) < 3 by decide); have e:(zK.length:Int)=23:=rfl; lia);obtain⟨p,ep,hpp⟩:=zlv (x:=p1) (y:=p2) (m:=d1 % 2) (aV _ #[D]) (aP _ #[D]);have mp:p∈zK:=by rcases hpp with e | e <;> rw [e] <;> assumption
  have rp:=zah mp;refine⟨_,rfl,_,rfl,l,_,_,_,rfl,rfl,kP.of mR,ym,_,_,rfl,rfl,(by show (0:Int) < 23; decide),pr,_,_,_,rfl,rfl,kP.of zb,ep1,
   _,rfl,_,rfl,l,_,_,_,rfl,rfl,kP.of mR,ym,_,_,rfl,rfl,(by show (0:Int) < 3; decide),pr,_,_,_,rfl,rfl,kP.of zb,ep2,za3,fun l2 rV=>?_⟩
  have Be:l≠l2:=zA mR rV;have rH:(kR (kR H1 pr (.lst (zK.map V.int))) l2 (.lst [.int p1,.int p2])) l=some (.lst (ds.map V.int)):=by rw [zk Be]; exact mR
  refine⟨_,rfl,l,_,_,_,rfl,rfl,kP.of rH,ed1,_,_,rfl,rfl,(by show (0:Int) < 2; decide),l2,_,_,_,rfl,rfl,kP.of zb,ep,?_⟩;have qG:(0:Int) < (if p < mk then p else mk):=by split <;> lia
  have rD:(if p < mk then p else mk)≤mk:=by split <;> lia
  have AD:(if p < mk then p else mk)≤p:=by split <;> lia
  refine⟨_,rfl,l,_,_,_,rfl,rfl,kP.of rH,ed2,_,rfl,_,rfl,_,_,rfl,_,_,rfl,rfl,qG,_,_,rfl,rfl,?_⟩;generalize (if p < mk then p else mk)=mm at qG rD AD ⊢;have qc:=aV d2 (show mm≠0 by lia);have uv:=aP d2 qG;have pH:(if p < mn then p else mn)≤mn:=by split <;> lia
  have pZ:(if p < mn then p else mn)≤p:=by split <;> lia
  have hn3:mm≤(if p < mn then p else mn):=by split <;> lia
  refine⟨_,rfl,_,rfl,l,_,_,_,rfl,rfl,kP.of rH,ed3,_,rfl,_,rfl,_,_,rfl,_,rfl,_,_,rfl,rfl,_,_,rfl,rfl,_,_,rfl,rfl,#[O],_,_,rfl,rfl,?_⟩;generalize (if p < mn then p else mn)=nn at pH pZ hn3 ⊢;have hq0:=aV d3 (show nn - (1+d2 % mm)+1≠0 by lia);have ui:=aP d3 (show 0 < nn - (1+d2 % mm)+1 by lia);refine⟨_,rfl,p,rfl,fun r tF=>⟨r,p,rfl,zb,#[O],#[O],fun lf Bf=>?_⟩⟩;have vp:l≠r:=zA rH tF;have wR:l≠lf:=by
   refine zA (H:=kR (kR (kR H1 pr (.lst (zK.map V.int))) l2 (.lst [.int p1,.int p2])) r (.rng 0 p)) (o:=.lst (ds.map V.int)) ?_ Bf;rw [zk vp]; exact rH
  have sA:zt H (kR (kR H1 pr (.lst (zK.map V.int))) l2 (.lst [.int p1,.int p2])):=(s1.trans (zc rK)).trans (zc rV);have sB:=(sA.trans (zc (o:=.rng 0 p) tF)).trans (zc (o:=.lst ((zba 0 p.toNat).map V.int)) Bf);have Bg:H lf=none:=(sA.trans (zc (o:=.rng 0 p) tF)).free Bf;obtain⟨nd0,rg0⟩:=zhK p;refine⟨_,rfl,_,rfl,_,rfl,_,rfl,#[O],#[O],zY (n:=(1+d2 % mm+d3 % (nn - (1+d2 % mm)+1)).toNat) (fun i ys H'=>∃ xs ls:List Int,ys=xs.map V.int∧xs.length=i∧zt H H'∧H' l=some (.lst (ds.map V.int))∧H' lf=some (.lst (ls.map V.int))∧ls.length+i=p.toNat∧(xs++ls).Nodup∧∀ y∈xs++ls,0≤y∧y < p)
   ⟨[],zba 0 p.toNat,rfl,rfl,sB,by rw [zk wR,zk vp]; exact rH,zb,by rw [zb8]; rfl,by simpa using nd0,by simpa using rg0⟩ (fun i ys H' hi _=>hi) (fun ys H' _=>ag _) ?_ ?_⟩
  ·rintro i x ys H4 H5 hi ⟨xs,ls,rfl,wA,s4,uC,sC,qg,nd,rg⟩ ⟨rfl,rfl⟩;refine gY ?_;obtain⟨c,ec⟩:=dat (4+(0+(i:Int))) #[O] #[O];have lpos:0 < ls.length:=by lia
   have lm:((ls.map V.int).length:Int)=(ls.length:Int):=by rw [ab]
   have c0:=aV c (show (ls.length:Int)≠0 by lia);have c1:=aP c (show (0:Int) < ls.length by lia);have n0:=br;obtain⟨y,ey⟩:∃ y,ls[(c % (ls.length:Int)).toNat]? = some y:=⟨ls[(c % (ls.length:Int)).toNat]'#[O],#[M]⟩;refine⟨_,rfl,.inl ⟨rfl,_,kP.of sC⟩,_,rfl,_,rfl,_,_,rfl,rfl,l,_,_,_,rfl,rfl,kP.of uC,ec,_,rfl,lf,_,rfl,.inl (kP.of sC),_,_,rfl,rfl,(by rw [lm]; lia),lf,_,_,(c % (ls.length:Int)).toNat,.int y,rfl,rfl,sC,?_⟩;rw [lm];refine⟨#[O],#[O],by rw [ab]; exact gh c0 c1,by rw [ah,ey]; rfl,zaE (by rw [ab]; lia),xs++[y],ls.eraseIdx (c % (ls.length:Int)).toNat,by rw [aw]; rfl,by rw [aA,wA]; rfl,z9 s4 Bg,by rw [zk wR]; exact uC,by rw [zb,zek],?_,zke ey nd rg⟩;rw [List.length_eraseIdx];split <;> lia
  ·rintro ys H4 D ⟨xs,ls,rfl,wA,s4,uC,sC,qg,nd,rg⟩ hD;refine⟨D,_,rfl,.inl ⟨kP.of zb,fun tt htt=>⟨by show 3≤sizeLine; rw [br]; decide,fun c hc=>?_⟩⟩⟩;have s5:=(s4.trans (zc (o:=.lst (xs.map V.int)) hD)).trans (zc (o:=.tup (xs.map V.int)) htt);refine q c tt p _ xs _ (s5.free hc) (s5.trans (zc hc)) ⟨mp,#[O],#[O],#[O],#[O],(di.mp nd).1,fun y hy=>rg y (aY _ hy)⟩ zb ?_;rw [zk (zA zb hc)];exact zb
theorem za6:FnScope ["p","polynomial","x","value","number"] ["p","polynomial","x"] (zh zbv):=#[S]
theorem zfS {fd:FuncData} (T:Txt K mg t) (F:Fun K "value_at" "value_at" zbv t.value_at fd):FnOk P w K mg base CX0 1 t.value_at fd ["p","polynomial","x"] (zfu K):=by
 refine F.ok za6 (fun vs H Q E h=>?_) (fun lB A outer s H vs Q E hr h=>?_)
 ·obtain⟨p,x,a,cs,rfl,_⟩:=h;rfl
 ·obtain⟨p,x,a,cs,rfl,hS,p0,p1,x0,x1,q⟩:=h;apply zbz; intro zX;refine⟨_,#[zf,#[zp,3,za6.nd,#[A],#[ze]],#[zf,#[zaj,bp,(@zlq _ _ _ _ _ _ rfl T.reversed_ #[ya,#[pvx,1]] (by rfl)),#[zi,4,za6.nd,#[A]],#[zj,#[zp,3,za6.nd,#[A],#[zg,#[zB],#[zg,#[zu],#[zg,#[z8],#[pvx,3],#[pvx,2]],#[pvx,4]],#[pvx,0]]]]],#[zj,#[zQ,#[pvx,3]]]]],?_⟩;apply zhC; intro qN oP;refine⟨_,rfl,a,cs.map V.int,rfl,?_⟩;rcases hS with hS | hS
  ·refine .inl ⟨hS,?_⟩;rw [ab];refine zbU (n:=cs.length) (fun i σ H'=>H'=H∧∃ nb,σ = [some (.int p),some (.ref a),some (.int x),some (.int (zap p x (cs.drop (cs.length - i)))),nb]) ⟨rfl,none,by rw [d8,j1]; rfl⟩
    (fun i σ H' hi ⟨e,_⟩=>⟨hi,cs.map V.int,by rw [e]; exact hS,by rw [ab]⟩) (fun σ H' _=>ag _) ?_ ?_
   ·rintro zD zT i y σ H1 H2 hi ⟨rfl,nb,rfl⟩ ⟨rfl,hy⟩;obtain⟨c,rfl,hc⟩:=zaB (hy _ hS);have v0:=zeN (x:=x) p0 (cs.drop (cs.length - i));have v1:=zeO (x:=x) p0 (cs.drop (cs.length - i));refine⟨_,rfl,_,rfl,_,_,rfl,rfl,.inl ⟨#[O],#[O]⟩,_,rfl,_,_,rfl,rfl,_,rfl,_,_,rfl,rfl,p0,?_⟩;refine⟨rfl,some (.int c),?_⟩;rw [zel hi hc];show _ = [some (V.int p),_,_,some (V.int ((c+x*zap p x (cs.drop (cs.length - i))) % p)),_];rw [Int.add_comm c,jC x];rfl
   ·rintro σ H1 ⟨rfl,nb,rfl⟩;rw [fc,d6];exact⟨_,rfl,q⟩
  ·refine .inr ⟨hS,?_⟩;rw [ab];refine zbU (n:=cs.length) (fun i σ H'=>H'=H∧∃ nb,σ = [some (.int p),some (.ref a),some (.int x),some (.int (zap p x (cs.drop (cs.length - i)))),nb]) ⟨rfl,none,by rw [d8,j1]; rfl⟩
    (fun i σ H' hi ⟨e,_⟩=>⟨hi,cs.map V.int,by rw [e]; exact hS,by rw [ab]⟩) (fun σ H' _=>ag _) ?_ ?_
   ·rintro zD zT i y σ H1 H2 hi ⟨rfl,nb,rfl⟩ ⟨rfl,hy⟩;obtain⟨c,rfl,hc⟩:=zaB (hy _ hS);have v0:=zeN (x:=x) p0 (cs.drop (cs.length - i));have v1:=zeO (x:=x) p0 (cs.drop (cs.length - i));refine⟨_,rfl,_,rfl,_,_,rfl,rfl,.inl ⟨#[O],#[O]⟩,_,rfl,_,_,rfl,rfl,_,rfl,_,_,rfl,rfl,p0,?_⟩;refine⟨rfl,some (.int c),?_⟩;rw [zel hi hc];show _ = [some (V.int p),_,_,some (V.int ((c+x*zap p x (cs.drop (cs.length - i))) % p)),_];rw [Int.add_comm c,jC x];rfl
   ·rintro σ H1 ⟨rfl,nb,rfl⟩;rw [fc,d6];exact⟨_,rfl,q⟩
end
section
variable {P:Program} {w:World} {K:af} {mg:Str→Option Value} {base:Heap} {t:Adr}
def zfT (K:af):Sp:=fun vs H Q _=>∃ (a:Addr) (bs:List Addr) (rows:List (List Int)),vs = [.ref a]∧(kP K H a (bs.map V.ref)∨kT K H a (bs.map V.ref))∧RwA H bs rows∧rows.length≤1000 ∧
 ∀ H',zt H H'→Q (.int (wd rows)) H'
theorem zfU:FnScope ["curve"] ["curve"] (zh zaZ):=#[S]
theorem zfV {fd:FuncData} (T:Txt K mg t) (F:Fun K "width_of" "width_of" zaZ t.width_of fd):FnOk P w K mg base CX0 1 t.width_of fd ["curve"] (zfT K):=by
 refine F.ok zfU (fun vs H Q E h=>?_) (fun lB A outer s H vs Q E hr h=>?_)
 ·obtain⟨a,bs,rows,rfl,_⟩:=h;rfl
 ·obtain⟨a,bs,rows,rfl,ha,hb,hn,q⟩:=h;apply zbz; intro zX;refine⟨_,#[zj,#[zQ,(@zlH _ true _ _ _ _ _ _ _ _ _ _ _ rfl gg rfl T.max_ #[ze] #[zS,(CompSc.of (N':=["line"]) (ix:=[none]) (zh zaZ) ["curve"] rfl rfl #[N]),#[z7],(@zlt _ _ _ _ #[pvx,0]),(fun _ _ _ _=>#[zi,0,(nd_ ["line"]),#[A]]),(fun _ _ _ _=>#[zE]),(fun _ _ _ _=>#[zl,#[zas,(K)],T.len_,bP,#[ya,#[pvx,0]]])] #[D] #[D])]],?_⟩;have kS:=bn hb;have el:∀ (i:Nat) (x y:V),(bs.map V.ref)[i]? = some x→((zM rows).map V.int)[i]? = some y→∃ (b:Addr) (r:List Int),x = .ref b∧y = .int r.length∧(H b=some (.lst (r.map V.int))∨H b=some (.tup (r.map V.int))):=by
   intro i x y hx hy;obtain⟨b,rfl,hbi⟩:=zG hx;unfold zM at hy;rw [ah,ah] at hy;cases e:rows[i]? with
   | none=>rw [e] at hy; simp at hy
   | some r =>
    rw [e] at hy;obtain⟨v,hv,hr⟩:=Paired.get hb hbi;rw [e] at hv;cases hv;exact⟨b,r,rfl,by simpa using hy.symm,hr⟩
  have fin:∀ D,H D=none→∃ (p:Addr) (ns:List Int),V.ref D = .ref p∧kP K (kR H D (.lst ((zM rows).map V.int))) p (ns.map V.int)∧∀ M:Int,(ns = []→M=0)→(ns≠[]→M∈ns∧∀ a∈ns,if true=true then a≤M else M≤a)→Q (.int M) (kR H D (.lst ((zM rows).map V.int))):=fun D hD =>
   ⟨D,_,rfl,kP.of zb,fun M h0 h1=>by rw [zmo h0 h1]; exact q _ (zc hD)⟩
  rcases ha with ha | ha
  ·refine⟨_,rfl,a,rfl,.inl ⟨⟨_,ha⟩,zem (fs:=(zM rows).map V.int) ha (by simp [kS,zdC]) (by simp; lia) (fun i x y R B hx hy hR=>?_) fin⟩⟩;obtain⟨b,r,rfl,rfl,hr⟩:=el i x y hx hy;exact⟨_,rfl,b,_,rfl,hr.imp kP.of kT.of,by rw [ab]; exact hR⟩
  ·refine⟨_,rfl,a,rfl,.inr ⟨⟨_,ha⟩,zbV (fs:=(zM rows).map V.int) ha (by simp [kS,zdC]) (by simp; lia) (fun i x y R B hx hy hR=>?_) fin⟩⟩;obtain⟨b,r,rfl,rfl,hr⟩:=el i x y hx hy;exact⟨_,rfl,b,_,rfl,hr.imp kP.of kT.of,by rw [ab]; exact hR⟩
def zij (K:af):Sp:=fun vs H Q _=>∃ (p b:Int) (a:Addr) (bs:List Addr) (n w:Nat) (c:Nat→Nat→Int),vs = [.int p,.ref a,.int b]∧H a=some (.lst (bs.map V.ref))∧LsA H bs (zv n w c)∧n≤1000∧w≤1000∧5≤p∧p≤97∧0≤b∧b < p∧(∀ j i,j < n→i < w→0≤c j i∧c j i < p) ∧
 ∀ (l:Addr) (ls:List Addr) (H':Hp),H l=none→zt H H'→H' l=some (.lst (ls.map V.ref))→LsA H' ls (zv n w fun j i=>sh b n (fun t=>c t i) j % p)→Q (.ref l) H'
theorem zcL (n w:Nat) (g:Nat→Nat→Int):(zv n w g).length=n:=by unfold zv; rw [ab,aU]
theorem zb5:FnScope ["p","lines","by","first","at"] ["p","lines","by"] (zh zbP):=#[S]
theorem zik {fd:FuncData} (T:Txt K mg t) (F:Fun K "raised" "raised" zbP t.raised fd):FnOk P w K mg base CX0 1 t.raised fd ["p","lines","by"] (zij K):=by
 refine F.ok zb5 (fun vs H Q E h=>?_) (fun lB A outer s H vs Q E hr h=>?_)
 ·obtain⟨p,b,a,bs,n,w',c,rfl,_⟩:=h;rfl
 ·obtain⟨p,b,a,bs,n,wi,c,rfl,ha,hb,hn,hw,p5,rL,b0,b1,hc,q⟩:=h;apply zbz; intro zX;refine⟨_,#[zf,#[zp,1,zb5.nd,#[A],#[zO,#[zaA],T.list_,fU,#[ya,#[pvx,1]]]],#[zf,#[zaj,bp,#[zR,T.range_,#[ya,#[zl,#[zm],T.len_,bP,#[ya,#[pvx,1]]]]],#[zi,3,zb5.nd,#[A]],#[zj,#[zaj,bp,(@zkC _ _ _ _ _ _ rfl T.reversed_ #[ya,#[zO,(@zfK _),T.range_,j4,#[za,#[pvx,3],#[ya,#[zg,#[za8],#[zl,#[zm],T.len_,bP,#[ya,#[pvx,1]]],#[ze]]]]]] (by rfl)),#[zi,4,zb5.nd,#[A]],#[zj,#[zbB,#[zS,(CompSc.of (N':=["low","high","by","p"]) (ix:=[none,none,some 2,some 0]) (zh zbP) ["p","lines","by","first","at"] rfl rfl #[N]),#[zeJ,#[zaJ,#[zaJ,#[zc4]]]],(@zka _ _ _ _ _ _ _ _ _ rfl T.zip_ #[za,#[zI,#[zq],#[pvx,1],#[pvx,4]],#[ya,#[zI,#[zq],#[pvx,1],#[zg,#[zu],#[pvx,4],#[ze]]]]] (by rfl) (by rfl)),(fun _ _ _ _=>#[zbq,(K),2,#[zy,#[zi,0,(nd_ ["low","high","by","p"]),#[A]],#[zy,#[zi,1,(nd_ ["low","high","by","p"]),#[A]],#[zat]]]]),(fun _ _ _ _=>#[zE]),(fun _ _ _ _=>#[zg,#[zB],#[zg,#[zu],#[pvx,0],#[zg,#[z8],#[pvx,2],#[pvx,1]]],#[pvx,3]])],#[zcb,#[pvx,1],#[pvx,4],set_list]]]]]],#[zj,#[zQ,#[pvx,1]]]]],?_⟩;apply zhC; intro qN oP;have n0:=br;have hz:∀ {H':Hp} {ls:List Addr} {g:Nat→Nat→Int},LsA H' ls (zv n wi g)→((ls.map V.ref).length:Int)=(n:Int):=fun h=>by rw [ab,bn h,zcL]
  refine⟨_,rfl,a,_,rfl,.inl (kP.of ha),fun l hl=>?_⟩;refine⟨_,rfl,l,_,rfl,.inl (kP.of zb),_,rfl,?_⟩;rw [hz hb];refine⟨#[O],#[O],zad (lo:=0) (n:=(n:Int).toNat) (fun f σ H'=>∃ (ls:List Addr) (e3 e4:Option V),σ = [some (.int p),some (.ref l),some (.int b),e3,e4]∧zt H H'∧H' l=some (.lst (ls.map V.ref))∧LsA H' ls (zv n wi (rst p b n c f 0))) ⟨bs,none,none,rfl,zc hl,zb,?_⟩ ?_ ?_⟩
  ·rw [zaM (g':=c) fun j i hj hi=>by rw [zh3 hj]; exact fE (hc j i hj hi).1 (hc j i hj hi).2];exact hb.same (zc hl)
  ·rintro zD zT f σ H1 hf ⟨ls,e3,e4,rfl,s1,wU,lh⟩;have hf:f < n:=by lia
   refine⟨_,rfl,_,rfl,l,_,rfl,.inl (kP.of wU),_,_,rfl,rfl,?_⟩;rw [hz lh];refine⟨0+(f:Int),(n:Int) - 1,rfl,fun r hr=>⟨r,0+(f:Int),(n:Int) - 1,rfl,zb,⟨#[O],#[O],#[O],#[O]⟩,?_⟩⟩;have e0:(0+(f:Int))+((((n:Int) - 1 - (0+(f:Int))).toNat:Nat):Int) - 1=(n:Int) - 2:=by lia
   have e1:((n:Int) - 1 - (0+(f:Int))).toNat=n - 1 - f:=by lia
   rw [e0,e1];have rl:r≠l:=(zA wU hr).symm;refine zgg (hi:=(n:Int) - 2) (n:=n - 1 - f) (fun idx σ H'=>∃ (ls:List Addr) (e4:Option V),σ = [some (.int p),some (.ref l),some (.int b),some (.int (0+(f:Int))),e4]∧zt H H'∧H' l=some (.lst (ls.map V.ref))∧LsA H' ls (zv n wi (rst p b n c f idx))) ⟨ls,e4,rfl,s1.trans (zc hr),by rw [zk rl.symm]; exact wU,lh.same (zc hr)⟩ ?_ ?_
   ·rintro idx σ H2 hi ⟨ls,e4,rfl,s2,uD,lh⟩;have kS:ls.length=n:=by rw [bn lh,zcL]
    obtain⟨b1',nO⟩:∃ b',ls[n - 2 - idx]? = some b':=⟨ls[n - 2 - idx]'#[O],#[M]⟩;obtain⟨b2',qd⟩:∃ b',ls[n - 2 - idx+1]? = some b':=⟨ls[n - 2 - idx+1]'#[O],#[M]⟩;obtain⟨v1,g1,h1⟩:=Paired.get lh nO;obtain⟨v2,g2,h2⟩:=Paired.get lh qd;rw [zaa #[O]] at g1 g2;cases g1;cases g2;have at1:atI (ls.map V.ref) ((n:Int) - 2 - (idx:Int))=some (.ref b1'):=by
     have e:(n:Int) - 2 - (idx:Int)=((n - 2 - idx:Nat):Int):=by lia
     rw [e]; exact zaH (by rw [ah,nO]; rfl)
    have at2:atI (ls.map V.ref) ((n:Int) - 2 - (idx:Int)+1)=some (.ref b2'):=by
     have e:(n:Int) - 2 - (idx:Int)+1=((n - 2 - idx+1:Nat):Int):=by lia
     rw [e]; exact zaH (by rw [ah,qd]; rfl)
    refine⟨_,rfl,_,rfl,l,_,_,_,rfl,rfl,kP.of uD,at1,_,rfl,_,rfl,_,_,rfl,rfl,l,_,_,_,rfl,rfl,kP.of uD,at2,b1',b2',_,_,rfl,kP.of h1,kP.of h2,zhL (n:=wi) (f:=fun x y=>(x+b*y) % p) h1 h2 #[M] #[M] (.inl #[M]) #[O] ?_ ?_⟩
    ·intro j u w H6 T R B hu hv s6 hT hR;refine gY2 (kT.of zb) ?_;exact⟨_,rfl,_,rfl,_,rfl,_,_,rfl,rfl,.inl ⟨#[O],#[O]⟩,_,_,rfl,rfl,_,rfl,_,_,rfl,rfl,#[O],hR⟩
    ·intro D H6 s6 hD;rw [zh2];have Bh:=s6 _ _ uD;have dl:D≠l:=(zA Bh hD).symm;have hj:ixN (ls.map V.ref).length ((n:Int) - 2 - (idx:Int))=some (n - 2 - idx):=by
      unfold ixN;rw [ab,kS,if_pos #[O],if_pos #[O]];congr 1;lia
     refine⟨_,rfl,_,rfl,l,_,_,_,rfl,rfl,by rw [zk dl.symm]; exact Bh,hj,ls.set (n - 2 - idx) D,_,rfl,?_,?_,?_⟩
     ·exact z9 ((s2.trans s6).trans (zc hD)) hl
     ·rw [zb,eB]
     ·rw [zaM (g':=fun j i=>if j=n - 2 - idx then (rst p b n c f idx (n - 2 - idx) i+b*rst p b n c f idx (n - 2 - idx+1) i) % p else rst p b n c f idx j i) fun j i hj _=>zjp hi hj,← zh1];exact LsA.setAt (lh.same (s6.trans (zc hD))) (by rw [zk dl.symm]; exact Bh) zb dl
   ·rintro σ H2 ⟨ls,e4,rfl,s2,uD,lh⟩;rw [zaM (g':=rst p b n c (f+1) 0) fun j i hj _=>zjo hf hj] at lh;exact⟨ls,_,_,rfl,s2,uD,lh⟩
  ·rintro σ H1 ⟨ls,e3,e4,rfl,s1,wU,lh⟩;have e1:(n:Int).toNat=n:=by lia
   rw [e1,zaM (g':=fun j i=>sh b n (fun t=>c t i) j % p) fun j i hj hi=>zjn hj] at lh;exact⟨_,rfl,q l ls _ hl s1 wU lh⟩
theorem zlR {H:Hp} {bs:List Addr} {rows:List (List Int)} (h:zal H bs rows):RwA H bs rows:=fI (fun _ _ z=>.inr z) h
def zil (p:Int) (w:Nat) (r:List Int):List Int:=r.map (· % p)++ap (w - r.length) 0
theorem zkG {p:Int} {w:Nat} {r:List Int} (h:r.length≤w):zil p w r=(aD w).map fun i=>gl r i % p:=by
 unfold zil;refine cG fun i=>?_
 by_cases h1:i < r.length
 ·rw [bI (by rw [ab]; exact h1),ah,ah,bw #[O],ak h1];show some (r[i] % p)=some (gl r i % p);rw [zbg (ak h1)]
 ·rw [bG (by rw [ab]; lia),ab,ah];by_cases h2:i < w
  ·rw [bw h2,bO,if_pos #[O]];show some (0:Int)=some (gl r i % p);have:gl r i=0:=by unfold gl; rw [ir,bX.mpr #[O]]; rfl
   rw [this,Int.zero_emod]
  ·rw [bX.mpr (by rw [aH]; lia),bX.mpr (by rw [aU]; lia)];rfl
theorem zjN {p:Int} {w:Nat} {rows:List (List Int)} (h:∀ r∈rows,r.length≤w):rows.map (zil p w)=zv rows.length w fun j i=>gl (rows.getD j []) i % p:=by
 refine cG fun j=>?_
 by_cases hj:j < rows.length
 ·rw [zaa hj,ah,ak hj];show some (zil p w rows[j])=_;rw [zkG (h _ (c9 hj))];have:rows.getD j []=rows[j]:=by simp [ir,hj]
  rw [this]
 ·rw [bX.mpr (by rw [ab]; lia),bX.mpr (by rw [zcL]; lia)]
def zim (K:af):Sp:=fun vs H Q _=>∃ (p:Int) (a:Addr) (bs:List Addr) (rows:List (List Int)),vs = [.int p,.ref a]∧5≤p∧p≤97∧H a=some (.tup (bs.map V.ref))∧zal H bs rows∧rows.length≤100∧(∀ r∈rows,r.length≤100) ∧
 ∀ (l:Addr) (ls:List Addr) (H':Hp),H l=none→zt H H'→H' l=some (.lst (ls.map V.ref))→LsA H' ls (zv rows.length (wd rows) fun j i=>gl (rows.getD j []) i % p)→Q (.ref l) H'
theorem zex:FnScope ["p","curve","width"] ["p","curve"] (zh zbO):=#[S]
theorem zin {fd:FuncData} (T:Txt K mg t) (F:Fun K "filled" "filled" zbO t.filled fd):FnOk P w K mg base CX0 2 t.filled fd ["p","curve"] (zim K):=by
 obtain⟨om,mY,l4⟩:=T.f_width_of;have oQ:=zfV (P:=P) (w:=w) (base:=base) T mY;refine F.ok zex (fun vs H Q E h=>?_) (fun lB A outer s H vs Q E hr h=>?_)
 ·obtain⟨p,a,bs,rows,rfl,_⟩:=h;rfl
 ·obtain⟨p,a,bs,rows,rfl,p5,rL,ha,hb,hn,hw,q⟩:=h;apply zbz; intro zX;refine⟨_,#[zf,#[zp,2,zex.nd,(eA rfl),#[zF,oQ,(hr.mono #[D]),T.m_width_of,mY.kp,l4,#[zak],#[ya,#[pvx,1]]]],#[zj,#[zQ,#[zS,(CompSc.of (N':=["line","p","width"]) (ix:=[none,some 0,some 2]) (zh zbO) ["p","curve","width"] rfl rfl #[N]),#[z7],#[zcH,#[pvx,1]],(fun _ _ _ _=>#[zi,0,(nd_ ["line","p","width"]),#[A]]),(fun _ _ _ _=>#[zE]),(fun _ _ _ _=>#[zg,#[zeD],#[zS,(CompSc.of (N':=["number","p"]) (ix:=[none,some 1]) ({ kind:=.function,names:=[(".0",.local),("line",.local),("len",.globalImplicit),("p",.cell),("width",.cell)],isGenerator:=false,isCoroutine:=false }) ["line","p","width"] (by with_unfolding_all rfl) rfl #[N]),#[z7],(@zko _ (K) _ _ _ rfl #[pvx,0]),(fun _ _ _ _=>#[zi,0,(nd_ ["number","p"]),#[A]]),(fun _ _ _ _=>#[zE]),(fun _ _ _ _=>#[zg,#[zB],#[pvx,0],#[pvx,1]])],#[zg,#[zbF],#[zac,#[ya,#[ze]]],#[zg,#[za8],#[pvx,2],#[zl,#[zas,(K)],T.len_,bP,#[ya,#[pvx,0]]]]]])]]]],?_⟩;apply ziF; intro oP;have n0:=br;have kS:=bn hb;have wdl:wd rows≤100:=by
   by_cases e:rows = []
   ·subst e; exact bj _
   ·obtain⟨r,hr,er⟩:=ze1 e;rw [← er]; exact hw r hr
  refine⟨_,rfl,a,bs,rows,rfl,.inr (kT.of ha),zlR hb,#[O],fun H1 s1=>?_⟩;refine⟨_,rfl,a,rfl,⟨_,kT.of (s1 _ _ ha)⟩,zY (n:=rows.length) (fun m ys H'=>zt H H'∧∃ ls:List Addr,ys=ls.map V.ref∧LsA H' ls ((rows.take m).map (zil p (wd rows)))) ⟨s1,[],rfl,.nil⟩ ?_ ?_ ?_ ?_⟩
  ·rintro m ys H2 hm ⟨s2,_⟩;exact⟨_,.ref (bs[m]'#[O]),kT.of (s2 _ _ ha),by rw [ah,ak #[O]]; rfl⟩
  ·rintro ys H2 ⟨s2,_⟩;exact⟨_,kT.of (s2 _ _ ha),by rw [ab]; lia⟩
  ·rintro m x ys H2 H3 hm ⟨s2,ls,rfl,lh⟩ ⟨rfl,hx⟩;obtain⟨b,rfl,qP⟩:=zG (hx _ (kT.of (s2 _ _ ha)));obtain⟨r,hr,qQ⟩:=Paired.get hb qP;have tQ:=s2 _ _ qQ;have nQ:=hw r (az hr);have uE:=zg9 (az hr);refine gY ?_;refine⟨_,rfl,b,rfl,⟨_,kT.of tQ⟩,zbV (fs:=(r.map (· % p)).map V.int) (kT.of tQ) #[M] (by rw [ab]; lia) (fun i x y R B hx hy hR=>?_) (fun D hD=>?_)⟩
   ·obtain⟨c,rfl,hc⟩:=zaB hx;rw [ah,ah,hc] at hy;have hy:V.int (c % p)=y:=by simpa using hy
    subst hy;refine gY ?_;exact⟨_,rfl,_,rfl,_,_,rfl,rfl,#[O],hR⟩
   ·have sD:=zc (o:=.lst ((r.map (· % p)).map V.int)) hD;refine⟨by show 1≤sizeLine; lia,fun Z hZ=>?_⟩;have sZ:=zc (o:=.lst [V.int 0]) hZ;refine⟨_,rfl,_,rfl,b,_,rfl,.inr (kT.of ((sD.trans sZ) _ _ tQ)),_,_,rfl,rfl,?_⟩;have el:(r.map V.int).length=r.length:=ab ..;rw [el];have ek:((wd rows:Int) - (r.length:Int)).toNat=wd rows - r.length:=by lia
    refine⟨Z,_,_,rfl,rfl,zb,#[O],#[O],by rw [ek]; show 1*(wd rows - r.length)≤sizeLine; lia,fun Y hY=>?_⟩;rw [ek,bC];have sY:=zc (o:=.lst (ap (wd rows - r.length) (V.int 0))) hY;refine⟨D,Y,_,_,rfl,rfl,(sZ.trans sY) _ _ zb,zb,by rw [ab,ab,aH]; lia,fun W hW=>?_⟩;have sW:=((sD.trans sZ).trans sY).trans (zc (o:=.lst ((r.map (· % p)).map V.int++ap (wd rows - r.length) (V.int 0))) hW);have qg:ls.length=m:=by rw [bn lh,ab,aL]; lia
    refine⟨by rw [ab]; lia,s2.trans sW,ls++[W],by rw [aw]; rfl,?_⟩;rw [take_snoc hr,aw];refine b8 (lh.same sW) ?_;rw [zb];unfold zil;rw [aw,cr]
  ·rintro ys H2 D ⟨s2,ls,rfl,lh⟩ hD;rw [aQ (ag _),zjN fun r hr=>zg9 hr] at lh;exact q D ls _ (s2.free hD) (s2.trans (zc hD)) zb (lh.same (zc hD))
theorem zio {X:Cx} {K:af} {es:List Expr} {k:Nat} {oH p pos:Pos} {a:Expr} {ta:TA} (hK:X.K=K) (hg:Gl X "enumerate") (hm:X.mg "enumerate" = none) (ha:PA X [a] ta) (hs:starEach [a] X.env = [(false,eval a X.env)]:=by rfl) :
  PI X (.Tuple es k oH) (.Call (.Name "enumerate" p) [a] [] pos) (iEn (kP K) ta):=by subst hK; exact zbH hg hm ha hs
theorem zcM {rows:List (List Int)} (h:∀ r∈rows,r.length≤1000):∀ m,(zbh rows m).length≤1000*m
 | 0=>by simp [zbh]
 | m+1=>by
  have ih:=zcM h m;have hl:(rows.getD m []).length≤1000:=by
   cases e:rows[m]? with
   | none=>simp [ir,e]
   | some r=>simp only [ir,e,fK]; exact h r (az e)
  have h2:=zg8 m (rows.getD m []) (rows.getD m []).length;rw [zeq,aA];lia
def zfW (K:af):Sp:=fun vs H Q _=>∃ (a:Addr) (bs:List Addr) (rows:List (List Int)),vs = [.ref a]∧H a=some (.lst (bs.map V.ref))∧LsA H bs rows∧rows.length≤100∧(∀ r∈rows,r.length≤1000) ∧
 ∀ (l:Addr) (ts:List Addr) (H':Hp),H l=none→zt H H'→H' l=some (.lst (ts.map V.ref))→PtB H' ts (zbh rows rows.length)→Q (.ref l) H'
theorem zfX:FnScope ["curve"] ["curve"] (zh za0):=#[S]
theorem zcW {fd:FuncData} (T:Txt K mg t) (F:Fun K "terms_of" "terms_of" za0 t.terms_of fd):FnOk P w K mg base CX0 1 t.terms_of fd ["curve"] (zfW K):=by
 refine F.ok zfX (fun vs H Q E h=>?_) (fun lB A outer s H vs Q E hr h=>?_)
 ·obtain⟨a,bs,rows,rfl,_⟩:=h;rfl
 ·obtain⟨a,bs,rows,rfl,ha,hb,hn,hw,q⟩:=h;apply zbz; intro zX;refine⟨_,#[zj,#[zQ,(@zkm _ _ _ _ _ _ _ _ _ _ _ _ _ _ _ _ _ _ _ _ _ (CompSc.of (N':=["j","line","i","number"]) (ix:=[none,none,none,none]) (zh za0) ["curve"] rfl rfl #[N]) rfl (zeH (js:=[0,1]) (zaW (js:=[0,1]) (i:=0) #[D] (zaW (js:=[0,1]) (i:=1) #[D] (zc3 (js:=[0,1]))))) (zeH (js:=[2,3]) (zaW (js:=[2,3]) (i:=2) #[D] (zaW (js:=[2,3]) (i:=3) #[D] (zc3 (js:=[2,3]))))) #[D] #[D] #[zbH,T.enumerate_,#[ya,#[pvx,0]]] (fun _ _ _ _=>#[zbq,(K),2,#[zy,#[zi,0,(nd_ ["j","line","i","number"]),#[A]],#[zy,#[zi,1,(nd_ ["j","line","i","number"]),#[A]],#[zat]]]]) (fun _ _ _ _=>#[zE]) (fun _ _ _ _=>(zio (K:=K) rfl rfl T.enumerate_ #[ya,#[pvx,1]])) (fun _ _ _ _=>#[zbq,(K),2,#[zy,#[zi,2,(nd_ ["j","line","i","number"]),#[A]],#[zy,#[zi,3,(nd_ ["j","line","i","number"]),#[A]],#[zat]]]]) (fun _ _ _ _=>#[zbG,#[zJ,#[zkO],#[pvx,3],#[ze],(zV _)]]) (fun _ _ _ _=>#[zbl,#[za,#[pvx,2],#[ya,#[pvx,0]]]]) (by intro _; rfl) (by intros; rfl))]],?_⟩;have n0:=br;have kS:=bn hb;refine⟨_,rfl,a,_,rfl,kP.of ha,zg1 (n:=rows.length) (fun m ys H'=>∃ us:List Addr,ys=us.map V.ref∧zt H H'∧PtB H' us (zbh rows m)) ⟨[],rfl,fun _ _ e=>e,.nil⟩ ?_ ?_ ?_ ?_⟩
  ·rintro m ys H1 hm ⟨us,rfl,s1,k9⟩;exact⟨_,.ref (bs[m]'#[O]),kP.of (s1 _ _ ha),by rw [ah,ak #[O]]; rfl⟩
  ·rintro ys H1 ⟨us,rfl,s1,k9⟩;exact⟨_,kP.of (s1 _ _ ha),by rw [ab]; lia⟩
  ·rintro m y ys H1 H2 hm ⟨us,rfl,s1,k9⟩ ⟨T,v,hT,rfl,rfl,hv⟩;obtain⟨b,rfl,qP⟩:=zG (hv _ (kP.of (s1 _ _ ha)));obtain⟨r,hr,qQ⟩:=Paired.get hb qP;have nQ:=hw r (az hr);have er:rows.getD m []=r:=by simp [ir,hr]
   refine gY2 (kT.of zb) ?_;have sT:=s1.trans (zc (o:=.tup [.int m,.ref b]) hT);have usT:=k9.same (zc (o:=.tup [.int m,.ref b]) hT);generalize kR H1 T (.tup [.int m,.ref b])=H2 at sT usT ⊢;have tQ:=sT _ _ qQ;refine⟨_,rfl,b,_,rfl,kP.of tQ,zg1 (n:=r.length) (fun j ys H'=>∃ us:List Addr,ys=us.map V.ref∧zt H2 H'∧PtB H' us (zbh rows m++trm m r j)) ⟨us,rfl,fun _ _ e=>e,by simpa [trm] using usT⟩ ?_ ?_ ?_ ?_⟩
   ·rintro j ys H3 hj ⟨us,rfl,s3,_⟩;exact⟨_,.int (r[j]'hj),kP.of (s3 _ _ tQ),by rw [ah,ak hj]; rfl⟩
   ·rintro ys H3 ⟨us,rfl,s3,_⟩;exact⟨_,kP.of (s3 _ _ tQ),by rw [ab]; lia⟩
   ·rintro j z ys H3 H4 hj ⟨us,rfl,s3,sE⟩ ⟨T',v',hT',rfl,rfl,vt⟩;obtain⟨x,rfl,hx⟩:=zaB (vt _ (kP.of (s3 _ _ tQ)));have hgx:gl r j=x:=zbg hx;have Bi:=s3.trans (zc (o:=.tup [.int j,.int x]) hT');have Bj:=sE.same (zc (o:=.tup [.int j,.int x]) hT');have sF:us.length=(zbh rows m++trm m r j).length:=bn sE;have l1:=zcM hw m;have l2:=zg8 m r j;rw [aA] at sF;refine⟨T',_,rfl,kT.of zb,rfl,_,_,rfl,_,_,rfl,rfl,?_⟩;generalize kR H3 T' (.tup [.int j,.int x])=H4 at Bi Bj ⊢;refine⟨_,rfl,?_⟩;refine⟨rfl,_,rfl,?_⟩;refine zby (fun uF=>?_) (fun uF=>?_)
    ·have uF:x≠0:=by simpa using uF
     refine⟨_,rfl,_,rfl,by show 2≤sizeLine; lia,fun D hD=>⟨by rw [ab]; lia,us++[D],by rw [aw]; rfl,Bi.trans (zc hD),?_⟩⟩;rw [zfF,if_pos (by rw [hgx]; exact uF),← bm];exact b8 (Bj.same (zc hD)) zb
    ·have uF:x=0:=by simpa using uF
     refine⟨us,rfl,Bi,?_⟩;rw [zfF,if_neg (by rw [hgx,uF]; simp)];exact Bj
   ·rintro ys H3 ⟨us,rfl,s3,sE⟩;refine⟨us,rfl,sT.trans s3,?_⟩;rw [zeq,er];exact sE
  ·rintro ys H1 ⟨us,rfl,s1,k9⟩ D hD;exact q D us _ (s1.free hD) (s1.trans (zc hD)) zb (k9.same (zc hD))
end
section
variable {P:Program} {w:World} {K:af} {mg:Str→Option Value} {base:Heap} {t:Adr}
theorem zjO {xs:List V} {k:Nat} (h:k≤xs.length):zbm xs (some (k:Int)) none=xs.drop k:=by
 have e1:HT.sIx xs.length 0 (some (k:Int))=k:=by
  unfold HT.sIx;simp;split <;> lia
 have e2:HT.sIx xs.length xs.length none=xs.length:=rfl;unfold zbm;rw [e1,e2];exact aQ (by rw [cM]; exact ag _)
def zfc (K:af):Sp:=fun vs H Q _=>∃ (a:Addr) (bs:List Addr) (n wi:Nat) (c:Nat→Nat→Int),vs = [.ref a]∧H a=some (.lst (bs.map V.ref))∧LsA H bs (zv n wi c)∧n≤100∧wi≤1000∧(∃ j i,j < n∧i < wi∧c j i≠0) ∧
 ∀ (l:Addr) (ls:List Addr) (e:Nat) (H':Hp),H l=none→zt H H'→H' l=some (.lst (ls.map V.ref))→LsA H' ls (zv n (wi - e) fun j i=>c j (i+e))→Lea n wi c e→Q (.ref l) H'
theorem zcF:FnScope ["lines","least"] ["lines"] (zh zaz):=#[S]
theorem zfd {fd:FuncData} (T:Txt K mg t) (F:Fun K "without_x" "without_x" zaz t.without_x fd):FnOk P w K mg base CX0 2 t.without_x fd ["lines"] (zfc K):=by
 obtain⟨mP,ly,lz⟩:=T.f_terms_of;have l5:=zcW (P:=P) (w:=w) (base:=base) T ly;refine F.ok zcF (fun vs H Q E h=>?_) (fun lB A outer s H vs Q E hr h=>?_)
 ·obtain⟨a,bs,n,wi,c,rfl,_⟩:=h;rfl
 ·obtain⟨a,bs,n,wi,c,rfl,ha,hb,hn,hw,pJ,q⟩:=h;apply zbz; intro zX;refine⟨_,#[zf,#[zp,1,zcF.nd,(eA rfl),#[zl,(@zh0 _ rfl),T.min_,boot_min,#[ya,#[zS,(CompSc.of (N':=["i","j"]) (ix:=[none,none]) (zh zaz) ["lines","least"] rfl rfl #[N]),#[zeJ,#[zaJ,#[zaJ,#[zc4]]]],#[zao,#[zF,l5,(hr.mono #[D]),T.m_terms_of,ly.kp,lz,#[zak],#[ya,#[pvx,0]]]],(fun _ _ _ _=>#[zbq,(K),2,#[zy,#[zi,0,(nd_ ["i","j"]),#[A]],#[zy,#[zi,1,(nd_ ["i","j"]),#[A]],#[zat]]]]),(fun _ _ _ _=>#[zE]),(fun _ _ _ _=>#[pvx,0])]]]],#[zj,#[zQ,#[zS,(CompSc.of (N':=["line","least"]) (ix:=[none,some 1]) (zh zaz) ["lines","least"] rfl rfl #[N]),#[z7],#[zao,#[pvx,0]],(fun _ _ _ _=>#[zi,0,(nd_ ["line","least"]),#[A]]),(fun _ _ _ _=>#[zE]),(fun _ _ _ _=>#[zbE,(ziO (K:=K) rfl),#[pvx,0],#[zbS,#[pvx,1]],#[zc1]])]]]],?_⟩;apply ziF; intro oP;have n0:=br;have hgl:=zar n wi c;refine⟨_,rfl,a,bs,zv n wi c,rfl,ha,hb,#[O],fun r k8=>by rw [zdF k8]; exact hw,fun l ts H1 hl s1 h1 vA=>?_⟩;rw [hgl] at vA;have vz:=vA.length;have hil:(zbh (zv n wi c) n).length≤1000*n:=zcM (fun r k8=>by rw [zdF k8]; exact hw) n;refine⟨l,rfl,⟨_,kP.of h1⟩,zY (n:=ts.length) (fun m ys H'=>H'=H1∧ys=(((zbh (zv n wi c) n).map (·.1)).take m).map V.int) ⟨rfl,rfl⟩ ?_ ?_ ?_ ?_⟩
  ·rintro m ys H2 hm ⟨rfl,_⟩;exact⟨_,.ref ts[m],kP.of h1,by rw [ah,ak hm]; rfl⟩
  ·rintro ys H2 ⟨rfl,_⟩;exact⟨_,kP.of h1,by rw [ab]; exact ag _⟩
  ·rintro m y ys H2 H3 hm ⟨rfl,rfl⟩ ⟨rfl,hy⟩;obtain⟨b,rfl,mi⟩:=zG (hy _ (kP.of h1));obtain⟨q',oM,lQ⟩:=Paired.get vA mi;refine gY2 (kT.of lQ) ?_;have rC:((zbh (zv n wi c) n).map (·.1))[m]? = some q'.1:=by rw [ah,oM]; rfl
   refine⟨_,rfl,by rw [ab,aL,ab]; lia,rfl,?_⟩;rw [take_snoc rC,aw];rfl
  rintro ys H2 D ⟨rfl,rfl⟩ hD;rw [aQ (by rw [ab]; lia)];have u2:=zc (o:=.lst (((zbh (zv n wi c) n).map (·.1)).map V.int)) hD;obtain⟨j0,i0,mV,wo,k4⟩:=pJ;refine⟨D,(zbh (zv n wi c) n).map (·.1),rfl,kP.of zb,fun e0=>?_,fun M rM tR=>?_⟩
  ·have:(i0:Int)∈(zbh (zv n wi c) n).map (·.1):=aJ.mpr ⟨_,zb2.mpr ⟨i0,j0,rfl,mV,wo,k4⟩,rfl⟩;rw [e0] at this;cases this
  obtain⟨e,rfl,hL⟩:=zlN rM tR;have s2:=s1.trans u2;generalize kR H2 D (.lst (((zbh (zv n wi c) n).map (·.1)).map V.int))=H3 at u2 s2 ⊢;have yn:=s2 _ _ ha;have uo:=hb.same s2;have pL:=hb.length;have AR:e≤wi:=by obtain⟨_,_,h,_⟩:=hL.2; lia
  refine⟨_,rfl,a,rfl,⟨_,kP.of yn⟩,zY (n:=bs.length) (fun m ys H'=>zt H3 H'∧∃ us:List Addr,ys=us.map V.ref∧LsA H' us ((zv n (wi - e) fun j i=>c j (i+e)).take m)) ⟨fun _ _ e=>e,[],rfl,.nil⟩ ?_ ?_ ?_ ?_⟩
  ·rintro m ys H4 hm ⟨s4,_⟩;exact⟨_,.ref bs[m],kP.of (s4 _ _ yn),by rw [ah,ak hm]; rfl⟩
  ·rintro ys H4 ⟨s4,_⟩;exact⟨_,kP.of (s4 _ _ yn),by rw [ab]; exact ag _⟩
  ·rintro m y ys H4 H5 hm ⟨s4,us,rfl,k9⟩ ⟨rfl,hy⟩;obtain⟨b,rfl,mi⟩:=zG (hy _ (kP.of (s4 _ _ yn)));obtain⟨r,k8,lQ⟩:=Paired.get uo mi;have sG:m < n:=by lia
   rw [zaa sG] at k8;cases k8;refine gY ⟨_,rfl,_,rfl,_,rfl,b,_,rfl,kP.of (s4 _ _ lQ),fun z hz=>?_⟩;have sF:=k9.length;rw [aL,zar] at sF;refine⟨by rw [ab]; lia,s4.trans (zc hz),us++[z],by rw [aw]; rfl,?_⟩;rw [take_snoc (zaa (w:=wi - e) (g:=fun j i=>c j (i+e)) sG)];refine b8 (k9.same (zc hz)) ?_;rw [zb,zjO (by rw [ab,ab,aU]; exact AR),← kF];congr 3;refine cG fun i=>?_
   rw [eZ,ah,ah];by_cases h:i < wi - e
   ·rw [bw #[O],bw h,Nat.add_comm e i];rfl
   ·rw [bz (by rw [aU]; lia),bz (by rw [aU]; lia)];rfl
  ·rintro ys H4 D2 ⟨s4,us,rfl,k9⟩ pM;rw [aQ (by rw [zar]; lia)] at k9;have rN:=s2.trans s4;exact q D2 us e _ (rN.free pM) (rN.trans (zc pM)) zb (k9.same (zc pM)) hL
def zc0 (p b:Int) (n wi:Nat) (c:Nat→Nat→Int) (j i:Nat):Int:=if j≤i∧i < j+wi then sh b n (fun t=>c t (i - j)) j % p else 0
def zdY (K:af):Sp:=fun vs H Q _=>∃ (p b:Int) (a:Addr) (bs:List Addr) (n wi:Nat) (c:Nat→Nat→Int),vs = [.int p,.ref a,.int b]∧H a=some (.lst (bs.map V.ref))∧LsA H bs (zv n wi c)∧1≤n∧n≤100∧wi≤900∧5≤p∧p≤97∧0≤b∧b < p∧(∀ j i,j < n→i < wi→0≤c j i∧c j i < p) ∧
 ∀ (l:Addr) (ls:List Addr) (H':Hp),H l=none→zt H H'→H' l=some (.lst (ls.map V.ref))→LsA H' ls (zv n (wi+(n - 1)) (zc0 p b n wi c))→Q (.ref l) H'
theorem zhr (x:V) (k:Nat):(ap k [x]).flatten=ap k x:=bC
theorem zjP {p b:Int} {n wi m:Nat} {c:Nat→Nat→Int} (hm:m < n):(aD (wi+(n - 1))).map (zc0 p b n wi c m)=ap m 0++((aD wi).map fun i=>sh b n (fun t=>c t i) m % p)++ap (n - 1 - m) 0:=by
 refine cG fun i=>?_
 rw [ah];by_cases h1:i < m
 ·rw [bI (by rw [aA,aH]; lia),bI (by rw [aH]; exact h1),bO,if_pos h1,bw #[O]];show some (zc0 p b n wi c m i)=some 0;unfold zc0;rw [if_neg #[O]]
 ·by_cases h2:i < m+wi
  ·rw [bI (by rw [aA,aH,ab,aU]; lia),bG (by rw [aH]; lia),aH,ah,bw #[O],bw #[O]];show some (zc0 p b n wi c m i)=some (sh b n (fun t=>c t (i - m)) m % p);unfold zc0;rw [if_pos #[O]]
  ·rw [bG (by rw [aA,aH,ab,aU]; lia),aA,aH,ab,aU,bO];by_cases h3:i < wi+(n - 1)
   ·rw [if_pos #[O],bw h3];show some (zc0 p b n wi c m i)=some 0;unfold zc0;rw [if_neg #[O]]
   ·rw [if_neg #[O],bz (by rw [aU]; lia)];rfl
theorem zca:FnScope ["p","lines","number","beyond"] ["p","lines","number"] (zh zaC):=#[S]
theorem zdZ {fd:FuncData} (T:Txt K mg t) (F:Fun K "next_curve" "next_curve" zaC t.next_curve fd):FnOk P w K mg base CX0 2 t.next_curve fd ["p","lines","number"] (zdY K):=by
 obtain⟨pN,oo,mZ⟩:=T.f_raised;have qR:=zik (P:=P) (w:=w) (base:=base) T oo;refine F.ok zca (fun vs H Q E h=>?_) (fun lB A outer s H vs Q E hr h=>?_)
 ·obtain⟨p,b,a,bs,n,wi,c,rfl,_⟩:=h;rfl
 ·obtain⟨p,b,a,bs,n,wi,c,rfl,ha,hb,n1,hn,hw,p5,rL,b0,b1,hc,q⟩:=h;apply zbz; intro zX;refine⟨_,#[zf,#[zp,3,zca.nd,(eA rfl),#[zg,#[za8],#[zl,#[zm],T.len_,bP,#[ya,#[pvx,1]]],#[ze]]],#[zj,#[zQ,#[zS,(CompSc.of (N':=["j","line","beyond"]) (ix:=[none,none,some 3]) (zh zaC) ["p","lines","number","beyond"] rfl rfl #[N]),#[zeJ,#[zaJ,#[zaJ,#[zc4]]]],#[zbH,T.enumerate_,#[ya,#[zF,qR,(hr.mono #[D]),T.m_raised,oo.kp,mZ,#[zak],#[za,#[pvx,0],#[za,#[pvx,1],#[ya,#[pvx,2]]]]]]],(fun _ _ _ _=>#[zbq,(K),2,#[zy,#[zi,0,(nd_ ["j","line","beyond"]),#[A]],#[zy,#[zi,1,(nd_ ["j","line","beyond"]),#[A]],#[zat]]]]),(fun _ _ _ _=>#[zE]),(fun _ _ _ _=>#[zg,#[zeD],#[zg,#[zeD],#[zg,#[zbF],#[zac,#[ya,#[ze]]],#[pvx,0]],#[pvx,1]],#[zg,#[zbF],#[zac,#[ya,#[ze]]],#[zg,#[za8],#[pvx,2],#[pvx,0]]]])]]]],?_⟩;apply ziF; intro oP;have n0:=br;have pL:=hb.length;rw [zar] at pL;refine⟨_,rfl,a,_,rfl,.inl (kP.of ha),_,_,rfl,rfl,?_⟩;refine⟨_,rfl,_,rfl,_,rfl,p,b,a,bs,n,wi,c,rfl,ha,hb,#[O],#[O],p5,rL,b0,b1,hc,fun l ls H1 hl s1 h1 lh=>?_⟩;have qg:=lh.length;rw [zar] at qg;refine⟨l,_,rfl,kP.of h1,zY (n:=ls.length) (fun m ys H'=>zt H1 H'∧∃ us:List Addr,ys=us.map V.ref∧LsA H' us ((zv n (wi+(n - 1)) (zc0 p b n wi c)).take m)) ⟨fun _ _ e=>e,[],rfl,.nil⟩ ?_ ?_ ?_ ?_⟩
  ·rintro m ys H4 hm ⟨s4,_⟩;exact⟨_,.ref ls[m],kP.of (s4 _ _ h1),by rw [ah,ak hm]; rfl⟩
  ·rintro ys H4 ⟨s4,_⟩;exact⟨_,kP.of (s4 _ _ h1),by rw [ab]; exact ag _⟩
  ·rintro m y ys H4 H5 hm ⟨s4,us,rfl,k9⟩ ⟨T,v,hT,rfl,rfl,hv⟩;obtain⟨bb,rfl,mi⟩:=zG (hv _ (kP.of (s4 _ _ h1)));obtain⟨r,k8,lQ⟩:=Paired.get lh mi;have sG:m < n:=by lia
   rw [zaa sG] at k8;cases k8;have uT:=zc (o:=.tup [.int (m:Int),.ref bb]) hT;refine gY2 (kT.of zb) ?_;have s5:=s4.trans uT;have wV:=k9.same uT;generalize kR H4 T (.tup [.int (m:Int),.ref bb])=H5 at uT s5 wV ⊢;have wW:((m:Int)).toNat=m:=by lia
   refine⟨by show 1≤sizeLine; lia,fun z1 qE=>⟨_,rfl,z1,_,[.int 0],rfl,rfl,zb,#[O],#[O],by rw [wW]; show 1*m≤sizeLine; lia,fun z2 tz=>?_⟩⟩;rw [wW,zhr];have u6:=(zc (o:=.lst [.int 0]) qE).trans (zc (o:=.lst (ap m (V.int 0))) tz);have f6:kR (kR H5 z1 (.lst [.int 0])) z2 (.lst (ap m (V.int 0))) z2=some (.lst ((ap m (0:Int)).map V.int)):=by rw [zb,cr]
   generalize kR (kR H5 z1 (.lst [.int 0])) z2 (.lst (ap m (V.int 0)))=H6 at u6 f6 ⊢;refine⟨_,rfl,z2,bb,_,_,rfl,rfl,f6,(s5.trans u6) _ _ lQ,by rw [ab,ab,aH,ab,aU]; lia,fun z3 Bk=>?_⟩;have u7:=zc (o:=.lst ((ap m (0:Int)).map V.int++((aD wi).map fun i=>sh b n (fun t=>c t i) m % p).map V.int)) Bk;have f7:kR H6 z3 (.lst ((ap m (0:Int)).map V.int++((aD wi).map fun i=>sh b n (fun t=>c t i) m % p).map V.int)) z3=some (.lst ((ap m (0:Int)++(aD wi).map fun i=>sh b n (fun t=>c t i) m % p).map V.int)):=by rw [zb,aw]
   generalize kR H6 z3 (.lst ((ap m (0:Int)).map V.int++((aD wi).map fun i=>sh b n (fun t=>c t i) m % p).map V.int))=H7 at u7 f7 ⊢;have eb:(((bs.map V.ref).length:Nat):Int) - 1 - (m:Int)=((n - 1 - m:Nat):Int):=by rw [ab]; lia
   refine⟨by show 1≤sizeLine; lia,fun z4 Bl=>⟨_,rfl,_,rfl,_,_,rfl,rfl,?_⟩⟩;show zj7 (.ref z4) (.int ((((bs.map V.ref).length:Nat):Int) - 1 - (m:Int))) _ _;rw [eb];have wX:(((n - 1 - m:Nat):Int)).toNat=n - 1 - m:=by lia
   refine⟨z4,_,[.int 0],rfl,rfl,zb,#[O],#[O],by rw [wX]; show 1*_≤sizeLine; lia,fun z5 hz5=>?_⟩;rw [wX,zhr];have u8:=(zc (o:=.lst [.int 0]) Bl).trans (zc (o:=.lst (ap (n - 1 - m) (V.int 0))) hz5);have f8:kR (kR H7 z4 (.lst [.int 0])) z5 (.lst (ap (n - 1 - m) (V.int 0))) z5=some (.lst ((ap (n - 1 - m) (0:Int)).map V.int)):=by rw [zb,cr]
   generalize kR (kR H7 z4 (.lst [.int 0])) z5 (.lst (ap (n - 1 - m) (V.int 0)))=H8 at u8 f8 ⊢;refine⟨z3,z5,_,_,rfl,rfl,u8 _ _ f7,f8,by rw [ab,ab,aA,aH,aH,ab,aU]; lia,fun z6 hz6=>?_⟩;have u9:=u6.trans (u7.trans (u8.trans (zc (o:=.lst ((ap m (0:Int)++(aD wi).map fun i=>sh b n (fun t=>c t i) m % p).map V.int++(ap (n - 1 - m) (0:Int)).map V.int)) hz6)));have sF:=k9.length;rw [aL,zar] at sF;refine⟨by rw [ab]; lia,s5.trans u9,us++[z6],by rw [aw]; rfl,?_⟩;rw [take_snoc (zaa (w:=wi+(n - 1)) (g:=zc0 p b n wi c) sG)];refine b8 (wV.same u9) ?_;rw [zb,← aw];congr 3;exact (zjP sG).symm
  ·rintro ys H4 D2 ⟨s4,us,rfl,k9⟩ pM;rw [aQ (by rw [zar]; lia)] at k9;have rN:=s1.trans s4;exact q D2 us _ (rN.free pM) (rN.trans (zc pM)) zb (k9.same (zc pM))
end
section
variable {P:Program} {w:World} {K:af} {mg:Str→Option Value} {base:Heap} {t:Adr}
def RA1 (H:Hp) (n:Nat) (b:Addr) (st:List Int×Nat×(Nat→Nat→Int)):Prop:=∃ ka na ls,H b=some (.tup [.ref ka,.ref na])∧H ka=some (.tup (st.1.map V.int))∧H na=some (.lst (ls.map V.ref))∧LsA H ls (zv n st.2.1 st.2.2)
theorem RA1.same {H H':Hp} {n:Nat} {b:Addr} {st:List Int×Nat×(Nat→Nat→Int)} (s:zt H H') (h:RA1 H n b st):RA1 H' n b st:=by
 obtain⟨ka,na,ls,h1,h2,h3,h4⟩:=h;exact⟨ka,na,ls,s _ _ h1,s _ _ h2,s _ _ h3,h4.same s⟩
def RAs (H:Hp) (n:Nat):List Addr→List (List Int×Nat×(Nat→Nat→Int))→Prop:=Paired (RA1 H n)
theorem RAs.same {H H':Hp} {n:Nat} (s:zt H H') {bs:List Addr} {nv:List (List Int×Nat×(Nat→Nat→Int))} (h:RAs H n bs nv):RAs H' n bs nv:=fI (fun _ _ z=>z.same s) h
def nxs (p:Int) (n e wi:Nat) (c:Nat→Nat→Int) (known:List Int) (L:List Int):List (List Int×Nat×(Nat→Nat→Int)):=L.map fun b=>(known++[b],(wi - e+(n - 1),zdX p b n e c))
theorem zjQ {p b:Int} {n wi e:Nat} {c:Nat→Nat→Int} (hd:∀ j i,wi≤i→c j i=0):zv n (wi - e+(n - 1)) (zc0 p b n (wi - e) fun j i=>c j (i+e))=zv n (wi - e+(n - 1)) (zdX p b n e c):=zaM fun j i hj hi=>by
 unfold zc0 zdX;by_cases h1:j≤i
 ·rw [if_pos (show j < n∧j≤i from ⟨hj,h1⟩)];by_cases h2:i < j+(wi - e)
  ·rw [if_pos ⟨h1,h2⟩]
  ·rw [if_neg #[O]];have e0:sh b n (fun t=>c t (i - j+e)) j=sh b n (fun _=>0) j:=zcx fun t _=>hd t _ #[O]
   have e1:sh b n (fun _=>(0:Int)) j=0:=by
    have:=zcg (b:=b) (c:=0) (n:=n) (u:=fun _=>0) (j:=j);simpa using this
   rw [e0,e1];rfl
 ·rw [if_neg #[O],if_neg #[O]]
def zgq (K:af):Sp:=fun vs H Q _=>∃ (p:Int) (ka a:Addr) (known:List Int) (bs:List Addr) (n wi:Nat) (c:Nat→Nat→Int),vs = [.int p,.ref ka,.ref a]∧H ka=some (.tup (known.map V.int))∧H a=some (.lst (bs.map V.ref))∧LsA H bs (zv n wi c)∧known.length≤100∧1≤n∧n≤100∧wi≤900∧p∈zK∧(∃ j i,j < n∧i < wi∧c j i≠0)∧(∀ j i,wi≤i→c j i=0)∧(∀ j i,0≤c j i∧c j i < p) ∧
 ∀ (l:Addr) (us:List Addr) (e:Nat) (H':Hp),H l=none→zt H H'→H' l=some (.lst (us.map V.ref))→RAs H' n us (nxs p n e wi c known (nums p n e c p.toNat))→Lea n wi c e→Q (.ref l) H'
theorem zci:FnScope ["p","known","lines","lowest"] ["p","known","lines"] (zh zaU):=#[S]
theorem zgr {fd:FuncData} (T:Txt K mg t) (F:Fun K "further" "further" zaU t.further fd):FnOk P w K mg base CX0 3 t.further fd ["p","known","lines"] (zgq K):=by
 obtain⟨nR,mQ,lT⟩:=T.f_without_x;have oq:=zfd (P:=P) (w:=w) (base:=base) T mQ;obtain⟨ou,m3,l6⟩:=T.f_value_at;have oR:=zfS (P:=P) (w:=w) (base:=base) T m3;obtain⟨nA,ml,lL⟩:=T.f_next_curve;have nS:=zdZ (P:=P) (w:=w) (base:=base) T ml;refine F.ok zci (fun vs H Q E h=>?_) (fun lB A outer s H vs Q E hr h=>?_)
 ·obtain⟨p,ka,a,known,bs,n,wi,c,rfl,_⟩:=h;rfl
 ·obtain⟨p,ka,a,known,bs,n,wi,c,rfl,Bm,ha,hb,yk,n1,hn,hw,hp,pJ,hdg,tN,q⟩:=h;apply zbz; intro zX;refine⟨_,#[zf,#[zp,2,zci.nd,(eA rfl),#[zF,oq,(hr.mono #[D]),T.m_without_x,mQ.kp,lT,#[zak],#[ya,#[pvx,2]]]],#[zf,#[zp,3,zci.nd,(eA rfl),#[zS,(CompSc.of (N':=["line"]) (ix:=[none]) (zh zaU) ["p","known","lines","lowest"] rfl rfl #[N]),#[z7],#[zao,#[pvx,2]],(fun _ _ _ _=>#[zi,0,(nd_ ["line"]),#[A]]),(fun _ _ _ _=>#[zE]),(fun _ _ _ _=>#[zI,#[zdt,(K)],#[pvx,0],#[ze]])]],#[zj,#[zQ,#[zS,(CompSc.of (N':=["number","known","p","lines","lowest"]) (ix:=[none,some 1,some 0,some 2,some 3]) (zh zaU) ["p","known","lines","lowest"] rfl rfl #[N]),#[z7],#[zR,T.range_,#[ya,#[pvx,0]]],(fun _ _ _ _=>#[zi,0,(nd_ ["number","known","p","lines","lowest"]),#[A]]),(fun _ _ _ _=>#[zbG,#[zJ,#[zd5],#[zF,oR,(hr.mono #[D]),T.m_value_at,m3.kp,l6,#[zak],#[za,#[pvx,2],#[za,#[pvx,4],#[ya,#[pvx,0]]]]],#[ze],(zV _)]]),(fun _ _ _ _=>#[zbl,#[za,#[zg,(@zkq _),#[pvx,1],#[zbl,#[ya,#[pvx,0]]]],#[ya,#[zF,nS,(hr.mono #[D]),T.m_next_curve,ml.kp,lL,#[zak],#[za,#[pvx,2],#[za,#[pvx,3],#[ya,#[pvx,0]]]]]]]])]]]]],?_⟩;apply zhC; intro qN oP;have n0:=br;have rp:=zah hp;refine⟨_,rfl,a,bs,n,wi,c,rfl,ha,hb,hn,#[O],pJ,fun l ls e H1 hl s1 h1 lh hL=>?_⟩;have qg:=lh.length;rw [zar] at qg;have AR:e < wi:=by obtain⟨_,_,h,_⟩:=hL.2; exact h
  refine⟨_,rfl,l,rfl,⟨_,kP.of h1⟩,zY (n:=ls.length) (fun m ys H'=>H'=H1∧ys=((zbc n e c).take m).map V.int) ⟨rfl,rfl⟩ ?_ ?_ ?_ ?_⟩
  ·rintro m ys H2 hm ⟨rfl,_⟩;exact⟨_,.ref ls[m],kP.of h1,by rw [ah,ak hm]; rfl⟩
  ·rintro ys H2 ⟨rfl,_⟩;exact⟨_,kP.of h1,by rw [ab]; exact ag _⟩
  ·rintro m y ys H2 H3 hm ⟨rfl,rfl⟩ ⟨rfl,hy⟩;obtain⟨b,rfl,mi⟩:=zG (hy _ (kP.of h1));obtain⟨r,k8,lQ⟩:=Paired.get lh mi;have sG:m < n:=by lia
   rw [zaa sG] at k8;cases k8;have mT:(zbc n e c)[m]? = some (c m e):=by unfold zbc; rw [ah,bw sG]; rfl
   have Bn:atI (((aD (wi - e)).map fun i=>c m (i+e)).map V.int) 0=some (.int (c m e)):=zaH (j:=0) (by rw [ah,ah,bw #[O]]; show some (V.int (c m (0+e)))=_; rw [bE]);refine gY ⟨_,rfl,b,_,_,_,rfl,rfl,kP.of lQ,Bn,?_⟩;refine⟨by rw [ab,aL,zcy]; lia,rfl,?_⟩;rw [take_snoc mT,aw];rfl
  rintro ys H2 D ⟨rfl,rfl⟩ hD;rw [aQ (by rw [zcy]; lia)];have u2:=zc (o:=.lst ((zbc n e c).map V.int)) hD;have f2:kR H2 D (.lst ((zbc n e c).map V.int)) D=some (.lst ((zbc n e c).map V.int)):=zb;have s2:=s1.trans u2;generalize kR H2 D (.lst ((zbc n e c).map V.int))=H3 at u2 f2 s2 ⊢;have h3l:=u2 _ _ h1;have Bo:=lh.same u2;have h3k:=s2 _ _ Bm;refine⟨_,rfl,_,rfl,#[O],#[O],zY (n:=p.toNat) (fun m ys H'=>zt H3 H'∧∃ us:List Addr,ys=us.map V.ref∧RAs H' n us (nxs p n e wi c known (nums p n e c m))) ⟨fun _ _ e=>e,[],rfl,.nil⟩ (fun m ys H' hm _=>hm) (fun ys H' _=>ag _) ?_ ?_⟩
  ·rintro m xx ys H4 H5 hm ⟨s4,us,rfl,k9⟩ ⟨rfl,rfl⟩;rw [show ((0:Int)+(m:Int))=(m:Int) from et _];refine⟨_,rfl,_,rfl,_,rfl,p,(m:Int),D,zbc n e c,rfl,.inl (kP.of (s4 _ _ f2)),#[O],#[O],#[O],#[O],rfl,_,rfl,?_⟩;have eq0:decide (V.int (zap p (m:Int) (zbc n e c))=V.int 0)=decide (zap p (m:Int) (zbc n e c)=0):=by simp
   rw [eq0];have sF:=k9.length;have hnl:(nxs p n e wi c known (nums p n e c m)).length≤m:=by
    unfold nxs nums;rw [ab];refine bd (cN _ _) ?_;rw [ab,aU];exact ag _
   refine zby (fun h0=>?_) (fun h0=>?_)
   ·have h0:=of_decide_eq_true h0;refine⟨_,rfl,_,rfl,by show 1≤sizeLine; lia,fun x1 qf=>?_⟩;have w1:=zc (o:=.tup [.int (m:Int)]) qf;refine⟨ka,x1,_,_,rfl,rfl,w1 _ _ (s4 _ _ h3k),zb,by rw [ab]; show _+1≤sizeLine; lia,#[M],fun x2 H6 w2 g2=>?_⟩;have vB:=w1.trans w2;have sH6:=s4.trans vB;refine⟨_,rfl,_,rfl,_,rfl,p,(m:Int),l,ls,n,wi - e,fun j i=>c j (i+e),rfl,sH6 _ _ h3l,Bo.same sH6,n1,hn,#[O],#[O],#[O],#[O],#[O],fun j i _ _=>tN j (i+e),fun l7 ls7 H7 tS w3 g3 wY=>?_⟩;rw [zjQ hdg] at wY;refine⟨by show 2≤sizeLine; lia,fun pr rK=>?_⟩;have w4:=zc (o:=.tup [.ref x2,.ref l7]) rK;have w04:=vB.trans (w3.trans w4);refine⟨by rw [ab]; lia,s4.trans w04,us++[pr],by rw [aw]; rfl,?_⟩;unfold nxs;rw [zer,if_pos h0,aw];refine b8 (k9.same w04) ⟨x2,l7,ls7,zb,?_,w4 _ _ g3,wY.same w4⟩;rw [(w3.trans w4) _ _ g2,aw];rfl
   ·have h0:¬ zap p (m:Int) (zbc n e c)=0:=fun z=>h0 (decide_eq_true z)
    refine⟨s4,us,rfl,?_⟩;rw [zer,if_neg h0,ci];exact k9
  ·rintro ys H4 D2 ⟨s4,us,rfl,k9⟩ pM;have rN:=s2.trans s4;exact q D2 us e _ (rN.free pM) (rN.trans (zc pM)) zb (k9.same (zc pM)) hL
end
section
variable {P:Program} {w:World} {K:af} {mg:Str→Option Value} {base:Heap} {t:Adr}
def zfY (K:af):Sp:=fun vs H Q _=>∃ (p:Int) (k:Nat) (a:Addr) (bs:List Addr) (rows:List (List Int)),vs = [.int p,.int (k:Int),.ref a]∧p∈zK∧H a=some (.tup (bs.map V.ref))∧zal H bs rows∧rows.length≤100∧(∀ r∈rows,r.length≤100)∧1≤k∧k≤5∧rows.length ^ k≤2000000∧(∃ j i,¬ Cg p (gl (rows.getD j []) i) 0) ∧
 ∀ (l:Addr) (us:List Addr) (qs:List (List Int)) (H':Hp),H l=none→zt H H'→H' l=some (.lst (us.map V.ref))→zal H' us qs→qs.length≤2000000→zfE p k qs→(∀ q,q∈qs↔IsP p k q∧Zr p (AL k (gl q) rows.length fun j i=>gl (rows.getD j []) i))→Q (.ref l) H'
theorem zmv (rows:List (List Int)) (j:Nat):(rows.getD j []).length≤wd rows:=by
 (rw [au])
 cases h:rows[j]? with
 | none=>exact bj _
 | some r=>exact zg9 (az h)
theorem zkH {rows:List (List Int)} {m:Nat} (h:∀ r∈rows,r.length≤m):wd rows≤m:=by
 by_cases e:rows = []
 ·subst e;exact bj _
 ·obtain⟨r,hr,e2⟩:=ze1 e;rw [← e2];exact h r hr
structure SI (p:Int) (n:Nat) (F0:Nat→Ps) (k s w:Nat) (nv:List (List Int×Nat×(Nat→Nat→Int))):Prop where
 rs:∀ st∈nv,RS p n F0 s st.1 st.2.1 st.2.2∧st.2.1≤w
 nd:(nv.map (·.1)).Nodup
 len:nv.length≤n ^ s
 all:∀ f,IsP p k f→Zr p (AL k (gl f) n F0)→f.take s∈nv.map (·.1)
theorem zkI {p:Int} {n k:Nat} {rows:List (List Int)} (p0:0 < p) (hn:n=rows.length) (pJ:∃ j i,¬ Cg p (gl (rows.getD j []) i) 0):SI p n (fun j i=>gl (rows.getD j []) i % p) k 0 (wd rows) [([],(wd rows,fun j i=>gl (rows.getD j []) i % p))]:=by
 have nP:∀ j i,wd rows≤i→gl (rows.getD j []) i=0:=fun j i hi=>zaQ (bd (zmv rows j) hi)
 refine⟨fun st lG=>?_,#[M],#[M],fun f _ _=>by simp⟩;rw [aS.mp lG];refine⟨⟨⟨rfl,fun x hx=>by cases hx⟩,fun j i hi=>?_,fun j i=>⟨aV _ #[O],aP _ p0⟩,?_,fun m g=>?_⟩,ag _⟩
 ·show gl (rows.getD j []) i % p=0;rw [nP j i hi];rfl
 ·obtain⟨j,i,h⟩:=pJ;refine⟨j,i,aW fun hj=>h ?_,aW fun hi=>h ?_,fun e=>h ?_⟩
  ·have:rows.getD j [] = []:=by rw [au,bz #[O]]; rfl
   rw [this];exact Cg.refl _ _
  ·rw [nP j i (jW hi)];exact Cg.refl _ _
  ·exact (Cg.emod p _).symm.trans (Cg.of_eq e)
 ·have e:apl [] g=g:=by
   funext i;unfold apl;simp
  rw [e,bE]
theorem zlS {n s i m:Nat} (h:i≤n ^ s) (hm:m≤i*n):m≤n ^ (s+1):=by
 rw [hV];exact bd hm (i9 n h)
theorem zaN:FnScope ["p","k","curve","lines","starts","step"] ["p","k","curve"] (zh zaF):=#[S]
theorem zfZ {fd:FuncData} (T:Txt K mg t) (F:Fun K "roots_of" "roots_of" zaF t.roots_of fd):FnOk P w K mg base CX0 4 t.roots_of fd ["p","k","curve"] (zfY K):=by
 obtain⟨pO,oz,m4⟩:=T.f_filled;have qS:=zin (P:=P) (w:=w) (base:=base) T oz;obtain⟨mP,ly,lz⟩:=T.f_terms_of;have l5:=zcW (P:=P) (w:=w) (base:=base) T ly;obtain⟨oS,nH,mF⟩:=T.f_further;have pP:=zgr (P:=P) (w:=w) (base:=base) T nH;refine F.ok zaN (fun vs H Q E h=>?_) (fun lB A outer s H vs Q E hr h=>?_)
 ·obtain⟨p,k,a,bs,rows,rfl,_⟩:=h;rfl
 ·obtain⟨p,k,a,bs,rows,rfl,hp,ha,hb,hn,hw,k1,k5,pQ,pJ,q⟩:=h;apply zbz; intro zX;refine⟨_,#[zf,#[zp,3,zaN.nd,#[A],#[zF,qS,(hr.mono #[D]),T.m_filled,oz.kp,m4,#[zak],#[za,#[pvx,0],#[ya,#[pvx,2]]]]],#[zf,#[za1,#[zeB,(@ziA _ _ _ #[zF,l5,(hr.mono #[D]),T.m_terms_of,ly.kp,lz,#[zak],#[ya,#[pvx,3]]] (fun _=>rfl))],#[zj,#[zQ,#[zac,#[zd]]]],#[zan]],#[zf,#[zp,4,zaN.nd,#[A],#[zac,#[ya,#[zbl,#[za,#[zbl,#[zd]],#[ya,#[pvx,3]]]]]]],#[zf,#[zaj,bp,#[zR,T.range_,#[ya,#[pvx,1]]],#[zi,5,zaN.nd,#[A]],#[zj,(@zgi _ _ _ _ _ _ _ _ _ _ _ _ _ _ _ _ _ _ _ _ _ (4) _ _ _ zaN.nd rfl #[A] (CompSc.of (N':=["known","rest","longer","p"]) (ix:=[none,none,none,some 0]) (zh zaF) ["p","k","curve","lines","starts","step"] rfl rfl #[N]) rfl (zeH (js:=[0,1]) (zaW (js:=[0,1]) (i:=0) #[D] (zaW (js:=[0,1]) (i:=1) #[D] (zc3 (js:=[0,1]))))) (zgL (js:=[2]) (i:=2) #[D]) #[D] #[D] #[zao,#[pvx,4]] (fun _ _ _ _=>#[zbq,(K),2,#[zy,#[zi,0,(nd_ ["known","rest","longer","p"]),#[A]],#[zy,#[zi,1,(nd_ ["known","rest","longer","p"]),#[A]],#[zat]]]]) (fun _ _ _ _=>#[zE]) (fun _ _ _ _=>(@zjg _ (K) _ _ _ rfl #[zF,pP,(hr.mono #[D]),T.m_further,nH.kp,mF,#[zak],#[za,#[pvx,3],#[za,#[pvx,0],#[ya,#[pvx,1]]]]])) (fun _ _ _ _=>#[zi,2,(nd_ ["known","rest","longer","p"]),#[A]]) (fun _ _ _ _=>#[zE]) (fun _ _ _ _=>#[pvx,2]) (by rfl) (by intro _; rfl) (by intros; rfl) (by trivial))]],#[zj,#[zQ,#[zl,#[zbt],T.sorted_,jS,#[ya,#[zS,(CompSc.of (N':=["known","rest"]) (ix:=[none,none]) (zh zaF) ["p","k","curve","lines","starts","step"] rfl rfl #[N]),#[zeJ,#[zaJ,#[zaJ,#[zc4]]]],#[zao,#[pvx,4]],(fun _ _ _ _=>#[zbq,(K),2,#[zy,#[zi,0,(nd_ ["known","rest"]),#[A]],#[zy,#[zi,1,(nd_ ["known","rest"]),#[A]],#[zat]]]]),(fun _ _ _ _=>#[zbG,#[zeB,#[zf2,#[zl,(zh6 (K:=K) rfl rfl),T.any_,boot_any,#[ya,#[zI,#[zdt,(K)],#[pvx,1],#[ze]]]]]]]),(fun _ _ _ _=>#[pvx,0])]]]]]]]]],?_⟩;apply zmN; intro Bb wO qN oP;have n0:=br;have rp:=zah hp;have p0:0 < p:=by lia
  have hwd:wd rows≤100:=zkH hw;refine⟨_,rfl,_,rfl,p,a,bs,rows,rfl,#[O],#[O],ha,hb,hn,hw,fun l ls H1 hl s1 h1 lh=>?_⟩;obtain⟨n,en⟩:∃ n,rows.length=n:=⟨_,rfl⟩;have hI0:=zkI (k:=k) p0 en.symm pJ;rw [en] at hn lh pQ;have wZ:=(hI0.rs _ aI).1;have pH:1≤n:=by obtain⟨j,_,hj,_⟩:=wZ.nz; lia
  refine⟨_,rfl,l,ls,_,rfl,h1,lh,by rw [zar]; exact hn,fun r k8=>by rw [zdF k8]; lia,fun l2 ts H2 rV s2 h2 vA=>?_⟩;rw [zar] at vA;have vz:=vA.length;have hte:ts≠[]:=fun e0=>by
   obtain⟨j0,i0,mV,wo,k4⟩:=wZ.nz;have:=zb2.mpr ⟨i0,j0,rfl,mV,wo,k4⟩;rw [e0] at vz;rw [fu.mp vz.symm] at this;cases this
  refine⟨true,.inl ⟨_,kP.of h2,?_⟩,zdS ?_⟩
  ·cases ts with
   | nil=>exact absurd rfl hte
   | cons x xs=>rfl
  have uD:=s2 _ _ h1;have Bp:=lh.same s2;refine⟨by show 0≤sizeLine; lia,fun ka Bm=>?_⟩;have u3:=zc (o:=.tup []) Bm;have f3:kR H2 ka (.tup []) ka=some (.tup (([]:List Int).map V.int)):=zb;generalize kR H2 ka (.tup [])=H3 at u3 f3 ⊢;refine⟨_,rfl,by show 2≤sizeLine; lia,fun b mi=>?_⟩;have u4:=zc (o:=.tup [.ref ka,.ref l]) mi;have f4:kR H3 b (.tup [.ref ka,.ref l]) b=some (.tup [.ref ka,.ref l]):=zb;generalize kR H3 b (.tup [.ref ka,.ref l])=H4 at u4 f4 ⊢;refine⟨by show 1≤sizeLine; lia,fun sa hsa=>?_⟩;have u5:=zc (o:=.lst [.ref b]) hsa;have f5:kR H4 sa (.lst [.ref b]) sa=some (.lst ([b].map V.ref)):=zb;generalize kR H4 sa (.lst [.ref b])=H5 at u5 f5 ⊢;have uG:=u3.trans (u4.trans u5);have s05:=s1.trans (s2.trans uG);have hR0:RAs H5 n [b] [([],(wd rows,fun j i=>gl (rows.getD j []) i % p))]:=.cons ⟨ka,l,ls,u5 _ _ f4,(u4.trans u5) _ _ f3,uG _ _ uD,Bp.same uG⟩ .nil;refine⟨_,rfl,_,rfl,#[O],#[O],zad (lo:=0) (n:=((k:Nat):Int).toNat) (fun s σ H'=>∃ (sa:Addr) (bs:List Addr) (nv:List (List Int×Nat×(Nat→Nat→Int))) (e5:Option V),σ = [some (.int p),some (.int (k:Int)),some (.ref a),some (.ref l),some (.ref sa),e5]∧zt H H'∧H' sa=some (.lst (bs.map V.ref))∧RAs H' n bs nv∧SI p n (fun j i=>gl (rows.getD j []) i % p) k s (wd rows+s*n) nv)
   ⟨sa,[b],_,none,rfl,s05,f5,hR0,by rw [Nat.zero_mul,cV]; exact hI0⟩ ?_ ?_⟩
  ·rintro zD zT s σ H6 hs ⟨sa,bs,nv,e5,rfl,s6,sH,w6,qh⟩;have hsk:s < k:=by lia
   have pL:=w6.length;have qT:n ^ (s+1)≤2000000:=bd (eI pH #[O]) pQ;have hwb:wd rows+s*n≤600:=by
    have:s*n≤4*100:=eC #[O] hn;lia
   refine⟨_,rfl,sa,rfl,⟨_,kP.of sH⟩,zg1 (n:=bs.length) (fun i ys H'=>∃ (us:List Addr) (out:List (List Int×Nat×(Nat→Nat→Int))),ys=us.map V.ref∧zt H6 H'∧RAs H' n us out∧(∀ st∈out,RS p n (fun j i=>gl (rows.getD j []) i % p) (s+1) st.1 st.2.1 st.2.2∧st.2.1≤wd rows+(s+1)*n)∧(out.map (·.1)).Nodup∧(∀ o∈out,o.1.dropLast∈(nv.take i).map (·.1))∧out.length≤i*n∧∀ f,IsP p k f→Zr p (AL k (gl f) n fun j i=>gl (rows.getD j []) i % p)→f.take s∈(nv.take i).map (·.1)→f.take (s+1)∈out.map (·.1))
    ⟨[],[],rfl,fun _ _ e=>e,.nil,fun st h=>(by cases h),iS,fun o h=>(by cases h),bj _,fun f _ _ h=>(by simp at h)⟩ ?_ ?_ ?_ ?_⟩
   ·rintro i ys H7 hi ⟨us,out,rfl,s7,_⟩;exact⟨_,.ref bs[i],kP.of (s7 _ _ sH),by rw [ah,ak hi]; rfl⟩
   ·rintro ys H7 ⟨us,out,rfl,s7,_⟩;exact⟨_,kP.of (s7 _ _ sH),by rw [ab]; exact ag _⟩
   ·rintro i y ys H7 H8 hi ⟨us,out,rfl,s7,k9,Bq,rJ,tP,yl,w8⟩ ⟨rfl,hy⟩;obtain⟨sb,rfl,oG⟩:=zG (hy _ (kP.of (s7 _ _ sH)));obtain⟨⟨known,wi,c⟩,lG,ka,na,qi,z1,z2,z3,z4⟩:=Paired.get (w6.same s7) oG;obtain⟨R,hwi⟩:=qh.rs _ (az lG);dsimp only at R hwi z2 z4;have yk:known.length=s:=R.kn.1;refine gY2 (kT.of z1) ?_;refine⟨_,rfl,_,rfl,_,rfl,p,ka,na,known,qi,n,wi,c,rfl,z2,z3,z4,#[O],pH,hn,#[O],hp,R.nz,R.dg,R.rg,fun fl vs e H9 oO s9 h9 sI hL=>?_⟩;have hnl:=zjv hp (m:=p.toNat) #[O] R.rg hL;have ug:=sI.length;have wA:(nxs p n e wi c known (nums p n e c p.toNat)).length=(nums p n e c p.toNat).length:=by unfold nxs; rw [ab]
    have sF:=k9.length;have xa:(i+1)*n≤2000000:=by
     have h1:(i+1)*n≤n ^ (s+1):=by rw [hV]; exact i9 n (by have:=qh.len; lia)
     exact bd h1 qT
    rw [dW] at xa;refine⟨fl,rfl,⟨_,kP.of h9⟩,zg1 (n:=vs.length) (fun r ys H'=>H'=H9∧ys=(us++vs.take r).map V.ref) ⟨rfl,by rw [iN,ci]⟩ ?_ ?_ ?_ ?_⟩
    ·rintro r ys Ha k8 ⟨rfl,_⟩;exact⟨_,.ref vs[r],kP.of h9,by rw [ah,ak k8]; rfl⟩
    ·rintro ys Ha ⟨rfl,_⟩;exact⟨_,kP.of h9,by rw [ab]; exact ag _⟩
    ·rintro r y2 ys Ha Hb k8 ⟨rfl,rfl⟩ ⟨rfl,yc⟩;obtain⟨v,rfl,hv⟩:=zG (yc _ (kP.of h9));refine gY ⟨_,rfl,by rw [ab,aA,aL]; lia,rfl,?_⟩;rw [take_snoc hv,← bm,aw (l₁:=us++vs.take r)];rfl
    rintro ys Ha ⟨rfl,rfl⟩;rw [c7];have x9:known∉(nv.take i).map (·.1):=fun hm=>by
     obtain⟨s',lV,e0⟩:=aJ.mp hm;obtain⟨i',lA⟩:=i8 lV;rw [gq] at lA;split at lA
     ·next kX =>
      have h1:(nv.map (·.1))[i']? = some s'.1:=by rw [ah,lA]; rfl
      have h2:(nv.map (·.1))[i]? = some known:=by rw [ah,lG]; rfl
      have:=(jP (j:=i) (bg.mp h1).1 qh.nd).mp (by rw [h1,h2,e0]);lia
     ·cases lA
    have tT:=zgm (fun b=>(wi - e+(n - 1),zdX p b n e c)) rJ tP x9 (zdG p n e c p.toNat);refine⟨us++vs,out++nxs p n e wi c known (nums p n e c p.toNat),rfl,s7.trans s9,zbb (k9.same s9) sI,fun st lV=>?_,tT.1,?_,?_,fun f hf hz ht=>?_⟩
    ·rcases aT.mp lV with h | h
     ·exact Bq st h
     ·obtain⟨b,Br,rfl⟩:=aJ.mp h;have hbr:=(zcz.mp Br).1;refine⟨zkv hp R hL ⟨hbr.1,#[O]⟩,?_⟩;show wi - e+(n - 1)≤wd rows+(s+1)*n;rw [dW];lia
    ·rw [take_snoc lG,aw];exact tT.2
    ·rw [aA,wA,dW];lia
    ·rw [take_snoc lG,aw,aT] at ht;rw [aw,aT];rcases ht with ht | ht
     ·exact .inl (w8 f hf hz ht)
     ·right;have nF:known=f.take s:=(aS.mp ht).symm;obtain⟨m,em⟩:∃ m,k=s+(m+1):=⟨k - s - 1,#[O]⟩;have tz:=zkw (m:=m+1) R (by rw [hf.1,em]) nF (by rw [← em]; exact hz);have Bs:=zlK hL tz;have hfs:s < f.length:=by rw [hf.1]; exact hsk
      have hfg:=zbM hfs;obtain⟨b0,b1⟩:=hf.2 _ (az hfg);refine aJ.mpr ⟨_,aJ.mpr ⟨gl f s,zcz.mpr ⟨⟨b0,#[O]⟩,?_⟩,rfl⟩,?_⟩
      ·exact Cg.eq (zju.trans Bs) (zeN p0 _) (zeO p0 _) (bF 0) p0
      ·show known++[gl f s]=f.take (s+1);rw [take_snoc hfg,nF]
   ·rintro ys H7 ⟨us,out,rfl,s7,k9,Bq,rJ,tP,yl,w8⟩ D hD;rw [pL,c7] at w8;refine⟨D,us,out,_,rfl,(s6.trans s7).trans (zc hD),zb,k9.same (zc hD),Bq,rJ,zlS qh.len (by rw [← pL]; exact yl),fun f hf hz=>w8 f hf hz (qh.all f hf hz)⟩
  ·rintro σ H6 ⟨sa,bs,nv,e5,rfl,s6,sH,w6,qh⟩;have ek:((k:Nat):Int).toNat=k:=by lia
   rw [ek] at qh;have pL:=w6.length;have Bt:=bd qh.len pQ;obtain⟨n',rfl⟩:∃ n',n=n'+1:=⟨n - 1,#[O]⟩;have hzero:∀ st∈nv,(Zr p (AL k (gl st.1) (n'+1) fun j i=>gl (rows.getD j []) i % p)↔((aD st.2.1).map fun i=>st.2.2 0 i).any (· != 0)=false):=fun st lG=>by
    rw [zlL hp (qh.rs st lG).1,List.any_map];constructor
    ·intro h;rw [gC];intro i hi;simpa using h i (bi.mp hi)
    ·intro h i hi;have:=gC.mp h i (bi.mpr hi);simpa using this
   refine⟨_,rfl,sa,rfl,⟨_,kP.of sH⟩,zY (n:=bs.length) (fun m ys H'=>H'=H6∧∃ ps:List (Addr×List Int),ys=ps.map (fun q=>V.ref q.1)∧(∀ q∈ps,H6 q.1=some (.tup (q.2.map V.int)))∧ps.map (·.2)=((nv.take m).filter fun st=>!((aD st.2.1).map fun i=>st.2.2 0 i).any (· != 0)).map (·.1)) ⟨rfl,[],rfl,fun q h=>(by cases h),rfl⟩ ?_ ?_ ?_ ?_⟩
   ·rintro m ys H7 hm ⟨rfl,_⟩;exact⟨_,.ref bs[m],kP.of sH,by rw [ah,ak hm]; rfl⟩
   ·rintro ys H7 ⟨rfl,_⟩;exact⟨_,kP.of sH,by rw [ab]; exact ag _⟩
   ·rintro m y ys H7 H8 hm ⟨rfl,ps,rfl,qT,tU⟩ ⟨rfl,hy⟩;obtain⟨sb,rfl,oG⟩:=zG (hy _ (kP.of sH));obtain⟨⟨known,wi,c⟩,lG,ka,na,qi,z1,z2,z3,z4⟩:=Paired.get w6 oG;dsimp only at z2 z4;have qg:=z4.length;rw [zar] at qg;have vC:qi[0]? = some (qi[0]'#[O]):=ak _;obtain⟨r,k8,Bu⟩:=Paired.get z4 vC;rw [zaa #[O]] at k8;cases k8;refine⟨sb,_,rfl,kT.of z1,rfl,_,_,rfl,_,_,rfl,rfl,?_⟩;refine⟨_,rfl,na,_,_,_,rfl,rfl,kP.of z3,zaH (j:=0) (by rw [ah,vC]; rfl),_,_,rfl,kP.of Bu,_,rfl,?_⟩;have nq:ps.length≤m:=by
     have:=congrArg iA tU;rw [ab,ab] at this;rw [this];exact bd (cN _ _) (by rw [aL]; lia)
    have uk:(nv.take (m+1)).filter (fun st=>!((aD st.2.1).map fun i=>st.2.2 0 i).any (· != 0))=(nv.take m).filter (fun st=>!((aD st.2.1).map fun i=>st.2.2 0 i).any (· != 0))++[(known,wi,c)].filter (fun st=>!((aD st.2.1).map fun i=>st.2.2 0 i).any (· != 0)):=by rw [take_snoc lG,dO]
    refine zby (fun h=>⟨_,rfl,by rw [ab]; lia,rfl,ps++[(ka,known)],by rw [aw]; rfl,fun q hq=>?_,?_⟩) (fun h=>⟨rfl,ps,rfl,qT,?_⟩)
    ·rcases (aT.mp hq) with hq | hq
     ·exact qT q hq
     ·(rw [aS.mp hq])
      exact z2
    ·rw [uk,List.filter_cons_of_pos (p:=fun st:List Int×Nat×(Nat→Nat→Int)=>!((aD st.2.1).map fun i=>st.2.2 0 i).any (· != 0)) h,aw,aw,tU];rfl
    ·rw [uk,List.filter_cons_of_neg (p:=fun st:List Int×Nat×(Nat→Nat→Int)=>!((aD st.2.1).map fun i=>st.2.2 0 i).any (· != 0)) h,ip,ci];exact tU
   rintro ys H7 D ⟨rfl,ps,rfl,qT,tU⟩ hD;rw [pL,c7] at tU;have u7:=zc (o:=.lst (ps.map fun q=>V.ref q.1)) hD;have lx:∀ x,x∈ps.map (·.2)↔IsP p k x∧Zr p (AL k (gl x) (n'+1) fun j i=>gl (rows.getD j []) i % p):=fun x=>by
    rw [tU];constructor
    ·intro h;obtain⟨st,lG,rfl⟩:=aJ.mp h;obtain⟨h1,h2⟩:=bS.mp lG;exact⟨(qh.rs st h1).1.kn,(hzero st h1).mpr (by simpa using h2)⟩
    ·rintro⟨h1,h2⟩;have h3:=qh.all x h1 h2;rw [aQ (by rw [h1.1]; exact ag _)] at h3;obtain⟨st,lG,rfl⟩:=aJ.mp h3;exact aJ.mpr ⟨st,bS.mpr ⟨lG,by rw [(hzero st lG).mp h2]; rfl⟩,rfl⟩
   have hNd:(ps.map (·.2)).Nodup:=by
    rw [tU];exact (jo.map _).nodup qh.nd
   refine⟨D,k,p,ps,rfl,kP.of zb,fun q hq=>?_,k1,#[O],fun l9 mo rO nG xb=>?_⟩
   ·have hm:=(lx q.2).mp (aJ.mpr ⟨q,hq,rfl⟩);exact⟨u7 _ _ (qT q hq),hm.1.1,hm.1.2⟩
   have u9:=zc (o:=.lst (mo.map fun q=>V.ref q.1)) rO;have s07:=s6.trans u7;have nT:=nG.map (·.2);refine q l9 (mo.map (·.1)) (mo.map (·.2)) _ (s07.free rO) (s07.trans u9) (by rw [zb,dD]; rfl) (zal.of fun q hq=>u9 _ _ (u7 _ _ (qT q (nG.mem_iff.mp hq)))) (by
    rw [nT.length_eq,tU,ab];exact bd (cN _ _) Bt) (zg4 #[O] (fun x hx=>((lx x).mp (nT.mem_iff.mp hx)).1) (nT.nodup_iff.mpr hNd) (cF.mpr xb)) fun x=>?_
   rw [nT.mem_iff,lx x,en];have hc:∀ i,Cg p (AL k (gl x) (n'+1) (fun j i=>gl (rows.getD j []) i % p) i) (AL k (gl x) (n'+1) (fun j i=>gl (rows.getD j []) i) i):=fun i=>zhf (fun j i _=>Cg.emod p _) i
   rw [zjs hc]
end
section
variable {P:Program} {w:World} {K:af} {mg:Str→Option Value} {base:Heap} {t:Adr}
def za7 (p:Int) (wide:Nat) (r:List Int):Prop:=1≤r.length∧r.length≤wide∧∀ v∈r,0≤v∧v < p
theorem za7.set {p:Int} {wide:Nat} {r:List Int} (h:za7 p wide r) {v:Int} (h0:0≤v) (h1:v < p) (i:Nat):za7 p wide (r.set i v):=by
 refine⟨by rw [cH]; exact h.1,by rw [cH]; exact h.2.1,fun z hz=>?_⟩;rcases cQ hz with hz | rfl
 ·exact h.2.2 z hz
 ·exact⟨h0,h1⟩
def Mxs (ms:List Int) (rows:List (List Int)):Prop:=Paired (fun m r=>m∈r∧∀ a∈r,a≤m) ms rows
def zgs (K:af):Sp:=fun vs H Q _=>∃ (a:Addr) (ns:List Int) (m5 p:Int) (high wide:Nat),vs = [.ref a,.int m5,.int p,.int (high:Int),.int (wide:Int)]∧kP K H a (ns.map V.int)∧ns.length≤63∧0≤m5∧m5≤900∧5≤p∧p≤97∧1≤high∧high≤50∧1≤wide∧wide≤100 ∧
 ∀ (l:Addr) (ls:List Addr) (rows:List (List Int)) (H':Hp),H l=none→zt H H'→H' l=some (.tup (ls.map V.ref))→zal H' ls rows→1≤rows.length→rows.length≤high→(∀ r∈rows,za7 p wide r)→(∃ r∈rows,∃ v∈r,v≠0)→Q (.ref l) H'
theorem zav:FnScope ["script","at","p","high","wide","plan","draws","lines","j","many","i"] ["script","at","p","high","wide"] (zh zaV):=#[S]
theorem zgt {fd:FuncData} (T:Txt K mg t) (F:Fun K "_law_curve" "_law_curve" zaV t.l_curve fd):FnOk P w K mg base CX0 3 t.l_curve fd ["script","at","p","high","wide"] (zgs K):=by
 obtain⟨l3,kY,kZ⟩:=T.f_l_draws;have lj:=zch (P:=P) (w:=w) (base:=base) T kY;refine F.ok zav (fun vs H Q E h=>?_) (fun lB A outer s H vs Q E hr h=>?_)
 ·obtain⟨a,ns,m5,p,high,wide,rfl,_⟩:=h;rfl
 ·obtain⟨a,ns,m5,p,high,wide,rfl,hS,kS,a0,a1,p5,rL,ye,vy,wB,uz,q⟩:=h;apply zbz; intro zX;refine⟨_,#[zf,#[zp,5,zav.nd,#[A],#[zF,lj,(hr.mono #[D]),T.m_l_draws,kY.kp,kZ,#[zak],#[za,#[pvx,0],by exact #[za,#[pvx,1],#[za,#[ze],#[ya,#[ze]]]]]]],#[zf,#[zp,6,zav.nd,#[A],#[zF,lj,(hr.mono #[D]),T.m_l_draws,kY.kp,kZ,#[zak],#[za,#[pvx,0],by exact #[za,#[zg,#[zu],#[pvx,1],#[ze]],#[za,#[ze],#[ya,#[ze]]]]]]],#[zf,#[zp,7,zav.nd,#[A],#[zac,#[zd]]],#[zf,#[zaj,bp,#[zR,T.range_,#[ya,#[zg,#[zu],#[ze],#[zg,#[zB],#[zI,#[zq],#[pvx,5],#[ze]],#[pvx,3]]]]],#[zi,8,zav.nd,#[A]],#[zf,#[zp,9,zav.nd,#[A],#[zg,#[zu],#[ze],#[zg,#[zB],#[zI,#[zq],#[pvx,6],#[pvx,8]],#[pvx,4]]]],#[zf,#[zcj,#[zed,cE,dG,dH,#[zbT],#[pvx,7],#[ya,#[zg,#[zbF],#[zac,#[ya,#[ze]]],#[pvx,9]]]]],#[zj,#[zaj,bp,#[zR,T.range_,#[ya,#[pvx,9]]],#[zi,10,zav.nd,#[A]],#[zj,#[za1,#[zJ,#[zd6],#[zg,#[zB],#[zI,#[zq],#[pvx,6],#[zg,#[zB],#[zg,#[zu],#[zg,#[zu],#[ze],#[zg,#[z8],#[ze],#[pvx,8]]],#[pvx,10]],#[ze]]],#[ze]],#[ze],(zV _)],#[zj,#[zbB,#[zg,#[zB],#[zI,#[zq],#[pvx,6],#[zg,#[zB],#[zg,#[zu],#[zg,#[zu],#[ze],#[zg,#[z8],#[ze],#[pvx,8]]],#[pvx,10]],#[ze]]],#[pvx,2]],#[zcb,#[zI,#[zq],#[pvx,7],#[zfh,zdn,#[ze]]],#[pvx,10],set_list]]],#[zan]]]]]]]],#[zf,(zjf #[za1,#[zJ,#[zd5],#[zl,#[zbZ],T.max_,gg,#[ya,#[zS,(CompSc.of (N':=["line"]) (ix:=[none]) (zh zaV) ["script","at","p","high","wide","plan","draws","lines","j","many","i"] rfl rfl #[N]),#[z7],#[zao,#[pvx,7]],(fun _ _ _ _=>#[zi,0,(nd_ ["line"]),#[A]]),(fun _ _ _ _=>#[zE]),(fun _ _ _ _=>#[zl,(zcf (K:=K) rfl rfl),T.max_,gg,#[ya,#[pvx,0]]])]]],#[ze],(zV _)],#[zj,#[zbB,#[ze],#[zcb,#[zI,#[zq],#[pvx,7],#[zfh,zdn,#[ze]]],#[zfh,zdn,#[ze]],set_list]]],#[zan]]),#[zj,#[zQ,#[zO,#[zam],T.tuple_,eH,#[ya,#[zS,(CompSc.of (N':=["line"]) (ix:=[none]) (zh zaV) ["script","at","p","high","wide","plan","draws","lines","j","many","i"] rfl rfl #[N]),#[z7],#[zao,#[pvx,7]],(fun _ _ _ _=>#[zi,0,(nd_ ["line"]),#[A]]),(fun _ _ _ _=>#[zE]),(fun _ _ _ _=>#[zO,(zbN (K:=K) rfl),T.tuple_,eH,#[ya,#[pvx,0]]])]]]]]]]]]],?_⟩;apply zmO; intro zN6 Bb wO qN oP;have n0:=br;refine⟨_,rfl,_,rfl,a,ns,m5,4,27720,rfl,hS,kS,#[O],#[O],#[D],#[D],#[D],#[D],fun l1 d1 H1 vn s1 ok1 h1=>?_⟩;refine⟨_,rfl,_,rfl,_,_,rfl,rfl,a,ns,m5+1,60,27720,rfl,s1.seq hS,kS,#[O],#[O],#[D],#[D],#[D],#[D],fun l2 d2 H2 rV s2 Bv h2=>?_⟩;have h1:=s2 _ _ h1;have tV:=s1.trans s2;refine⟨bj _,fun L hL=>?_⟩;have LH:=hL;have sL:=zc (o:=.lst []) hL;obtain⟨d,hd,d0,d9⟩:=zcS (i:=0) ok1 #[D] #[D];have dm0:=aV d (show (high:Int)≠0 by lia);have dm1:=aP d (show 0 < (high:Int) by lia);refine⟨_,rfl,l1,_,_,_,rfl,rfl,kP.of (sL _ _ h1),hd,_,rfl,_,_,rfl,rfl,#[O],_,_,rfl,rfl,_,rfl,#[O],#[O],?_⟩;generalize hN:(1+d % (high:Int)).toNat=N;have N1:1≤N:=by lia
  have N2:N≤high:=by lia
  refine zad (lo:=0) (n:=N) (fun j σ H'=>∃ (e8 e9 n6:Option V),σ = [some (.ref a),some (.int m5),some (.int p),some (.int (high:Int)),some (.int (wide:Int)),some (.ref l1),some (.ref l2),some (.ref L),e8,e9,n6]∧zt H2 H'∧∃ (ls:List Addr) (rows:List (List Int)),H' L=some (.lst (ls.map V.ref))∧LsA H' ls rows∧(ls.Nodup∧∀ b∈ls,H2 b=none)∧rows.length=j∧∀ r∈rows,za7 p wide r) ⟨none,none,none,rfl,sL,[],[],zb,.nil,⟨.nil,fun _ z=>nomatch z⟩,rfl,fun _ z=>nomatch z⟩ ?_ ?_
  ·rintro zD zT j σ H3 hj ⟨e8,e9,n6,rfl,s3,ls,rows,rP,lh,⟨nd,n2⟩,rQ,hg⟩;rw [show ((0:Int)+(j:Int))=(j:Int) from et _];obtain⟨u,hu,u0,u9⟩:=zcS (i:=(j:Int)) Bv #[O] (by show (j:Int) < 60; lia);have um0:=aV u (show (wide:Int)≠0 by lia);have um1:=aP u (show 0 < (wide:Int) by lia);refine⟨_,rfl,_,rfl,l2,_,_,_,rfl,rfl,kP.of (s3 _ _ h2),hu,_,rfl,_,_,rfl,rfl,#[O],_,_,rfl,rfl,?_⟩;obtain⟨mn,emn⟩:∃ m:Nat,1+u % (wide:Int)=m:=⟨(1+u % (wide:Int)).toNat,#[O]⟩;show zaI 9 (.int (1+u % (wide:Int))) _ _ _;rw [emn];have mn1:1≤mn:=by lia
   have mn2:mn≤wide:=by lia
   refine⟨_,rfl,.inl ⟨rfl,_,kP.of rP⟩,by show 1≤sizeLine; lia,fun Z hZ=>?_⟩;have sZ:=zc (o:=.lst [V.int 0]) hZ;have wW:((mn:Int)).toNat=mn:=by lia
   refine⟨_,rfl,Z,_,_,rfl,rfl,zb,#[O],#[O],by rw [wW]; show 1*mn≤sizeLine; lia,fun D hD=>?_⟩;rw [wW,bC];have Bw:H3 D=none:=sZ.free hD;have s4:=sZ.trans (zc (o:=.lst (ap mn (V.int 0))) hD);have uH:kR (kR H3 Z (.lst [V.int 0])) D (.lst (ap mn (V.int 0))) D=some (.lst ((ap mn (0:Int)).map V.int)):=by rw [zb,cr]
   generalize kR (kR H3 Z (.lst [V.int 0])) D (.lst (ap mn (V.int 0)))=H4 at s4 uH ⊢;have qj:=s4 _ _ rP;have LD:L≠D:=zA rP Bw;refine⟨L,_,_,rfl,rfl,qj,by rw [ab,bn lh]; lia,?_⟩;have k5:∀ b o,b≠L→H4 b=some o→kR H4 L (.lst (ls.map V.ref++[V.ref D])) b=some o:=fun b o hb e=>by rw [zk hb]; exact e
   have Bx:kR H4 L (.lst (ls.map V.ref++[V.ref D])) L=some (.lst ((ls++[D]).map V.ref)):=by rw [zb,aw]; rfl
   have uG:zt H2 (kR H4 L (.lst (ls.map V.ref++[V.ref D]))):=z9 (s3.trans s4) hL;have qU:LsA (kR H4 L (.lst (ls.map V.ref++[V.ref D]))) ls rows:=zeZ (D:=L) (fun hm=>by
    obtain⟨i,hi⟩:=bY.mp hm;exact lh.off rP i L hi rfl) k5 (lh.same s4)
   have h5D:=k5 D _ (cJ LD) uH;generalize kR H4 L (.lst (ls.map V.ref++[V.ref D]))=H5 at Bx uG qU h5D ⊢;have Dls:D∉ls:=zg7 lh Bw;have D2:H2 D=none:=s3.free Bw;refine⟨_,rfl,_,rfl,#[O],#[O],zad (lo:=0) (n:=((mn:Int)).toNat) (fun i σ H'=>∃ (n6:Option V),σ = [some (.ref a),some (.int m5),some (.int p),some (.int (high:Int)),some (.int (wide:Int)),some (.ref l1),some (.ref l2),some (.ref L),some (.int (j:Int)),some (.int (mn:Int)),n6]∧(∀ b o,b≠D→H5 b=some o→H' b=some o)∧∃ r:List Int,H' D=some (.lst (r.map V.int))∧r.length=mn∧za7 p wide r) ⟨n6,rfl,fun _ _ _ e=>e,_,h5D,aH,⟨by rw [aH]; exact mn1,by rw [aH]; exact mn2,fun v hv=>by rw [cu hv]; lia⟩⟩ ?_ ?_⟩
   ·rintro zD zT i σ H6 hi ⟨n6,rfl,k6,r,yo,nQ,rR⟩;rw [show ((0:Int)+(i:Int))=(i:Int) from et _];have hi:i < mn:=by lia
    have l2D:l2≠D:=fun e=>by rw [e,D2] at h2; cases h2
    have xc:=k6 _ _ l2D (uG _ _ h2);have h6L:=k6 _ _ LD Bx;have x10:=aV (23+5*(j:Int)+(i:Int)) (show (60:Int)≠0 by decide);have x11:=aP (23+5*(j:Int)+(i:Int)) (show 0 < (60:Int) by decide);have x20:=aV (9+7*(j:Int)+(i:Int)) (show (60:Int)≠0 by decide);have x21:=aP (9+7*(j:Int)+(i:Int)) (show 0 < (60:Int) by decide);obtain⟨u1,yj,tW,u19⟩:=zcS Bv x10 x11;obtain⟨u2,hu2,u20,u29⟩:=zcS Bv x20 x21;have v0:=aV u2 (show p≠0 by lia);have v1:=aP u2 (show 0 < p by lia);refine⟨_,rfl,_,rfl,_,_,rfl,rfl,.inl ⟨#[D],#[D]⟩,_,_,rfl,rfl,_,rfl,_,_,rfl,rfl,_,_,rfl,rfl,#[O],l2,_,_,_,rfl,rfl,kP.of xc,yj,_,_,rfl,rfl,#[O],_,_,rfl,rfl,_,rfl,?_⟩;refine zby (fun _=>?_) (fun _=>⟨_,rfl,k6,r,yo,nQ,rR⟩);refine⟨_,rfl,_,rfl,_,_,rfl,rfl,.inl ⟨#[D],#[D]⟩,_,_,rfl,rfl,_,rfl,_,_,rfl,rfl,_,_,rfl,rfl,#[O],l2,_,_,_,rfl,rfl,kP.of xc,hu2,_,rfl,_,_,rfl,rfl,#[O],?_⟩;have lQ:atI ((ls++[D]).map V.ref) (-1)=some (.ref D):=by rw [aw]; exact ze2
    refine⟨_,rfl,_,rfl,L,_,_,_,rfl,rfl,kP.of h6L,lQ,_,rfl,D,_,_,i,rfl,rfl,yo,?_,?_⟩
    ·rw [ab,nQ];unfold ixN;rw [if_pos #[O],if_pos #[O]];simp
    ·refine⟨_,rfl,fun b o hb e=>by rw [zk hb]; exact k6 b o hb e,r.set i (u2 % p),by rw [zb,eB],by rw [cH]; exact nQ,rR.set v0 v1 i⟩
   ·rintro σ H6 ⟨n6,rfl,k6,r,yo,nQ,rR⟩;refine⟨_,_,_,rfl,fun b o e=>k6 b o (fun z=>by rw [z,D2] at e; cases e) (uG b o e),ls++[D],rows++[r],k6 _ _ LD Bx,b8 (zeZ Dls k6 qU) yo,?_,by simp [rQ],?_⟩
    ·refine⟨?_,fun b hb=>(aT.mp hb).elim (n2 b) fun e=>by rw [aS.mp e]; exact D2⟩;rw [di];exact⟨nd,#[M],fun x hx y hy=>by rw [aS.mp hy]; exact fun e=>Dls (by rw [← e]; exact hx)⟩
    ·intro r' k8;rcases aT.mp k8 with h | h
     ·exact hg r' h
     ·rw [aS.mp h]; exact rR
  ·rintro σ H3 ⟨e8,e9,n6,rfl,s3,ls,rows,rP,lh,⟨nd,n2⟩,rQ,hg⟩;have kS:=bn lh;refine⟨fun σ H4=>∃ (e8 e9 n6:Option V) (k7:List (List Int)),σ = [some (.ref a),some (.int m5),some (.int p),some (.int (high:Int)),some (.int (wide:Int)),some (.ref l1),some (.ref l2),some (.ref L),e8,e9,n6]∧zt H2 H4∧H4 L=some (.lst (ls.map V.ref))∧LsA H4 ls k7∧k7.length=N∧(∀ r∈k7,za7 p wide r)∧∃ r∈k7,∃ v∈r,v≠0,?_,?_⟩;rotate_left
   ·rintro σ H4 ⟨e8,e9,n6,k7,rfl,s4,qj,xf,sU,uB,k4⟩;have hlen':=bn xf;refine⟨_,rfl,L,rfl,⟨_,kP.of qj⟩,zY (n:=N) (fun m ys H'=>zt H4 H'∧∃ us:List Addr,ys=us.map V.ref∧zal H' us (k7.take m)) ⟨fun _ _ e=>e,[],rfl,.nil⟩ ?_ ?_ ?_ ?_⟩
    ·rintro m ys H7 hm ⟨s7,_⟩;exact⟨_,.ref (ls[m]'#[O]),kP.of (s7 _ _ qj),by rw [ah,ak #[O]]; rfl⟩
    ·rintro ys H7 ⟨s7,_⟩;exact⟨_,kP.of (s7 _ _ qj),by rw [ab]; lia⟩
    ·rintro m z ys H7 H8 hm ⟨s7,us,rfl,k9⟩ ⟨rfl,hx⟩;obtain⟨b,rfl,qP⟩:=zG (hx _ (kP.of (s7 _ _ qj)));obtain⟨r,hr,qQ⟩:=Paired.get xf qP;have hz:us.length=m:=by rw [bn k9,aL]; lia
     refine gY ?_;refine⟨_,rfl,b,_,rfl,.inl ⟨kP.of (s7 _ _ qQ),fun D hD=>⟨by rw [ab]; lia,s7.trans (zc hD),us++[D],#[M],?_⟩⟩⟩;rw [take_snoc hr];exact b8 (k9.same (zc hD)) zb
    ·rintro ys H7 D ⟨s7,us,rfl,k9⟩ hD;rw [aQ #[O]] at k9;refine⟨D,_,rfl,.inl ⟨kP.of zb,fun l hl=>?_⟩⟩;have sf:=((tV.trans s4).trans s7).trans (zc (o:=.lst (us.map V.ref)) hD);exact q l us k7 _ (sf.free hl) (sf.trans (zc hl)) zb ((k9.same (zc hD)).same (zc hl)) #[O] #[O] uB k4
   refine⟨_,rfl,L,rfl,⟨_,kP.of rP⟩,zY (n:=N) (fun m ys H'=>H'=H3∧∃ ms:List Int,ys=ms.map V.int∧Mxs ms (rows.take m)) ⟨rfl,[],rfl,.nil⟩ ?_ ?_ ?_ ?_⟩
   ·rintro m ys H4 hm ⟨rfl,_⟩;exact⟨_,.ref (ls[m]'#[O]),kP.of rP,by rw [ah,ak #[O]]; rfl⟩
   ·rintro ys H4 ⟨rfl,_⟩;exact⟨_,kP.of rP,by rw [ab]; lia⟩
   ·rintro m z ys H4 H5 hm ⟨rfl,ms,rfl,sk⟩ ⟨rfl,hx⟩;obtain⟨b,rfl,qP⟩:=zG (hx _ (kP.of rP));obtain⟨r,hr,qQ⟩:=Paired.get lh qP;have hz:ms.length=m:=by rw [bn sk,aL]; lia
    refine gY ?_;refine⟨_,rfl,b,r,rfl,kP.of qQ,fun e=>?_,fun M hM hM'=>⟨by rw [ab]; lia,rfl,ms++[M],#[M],?_⟩⟩
    ·have:=(hg r (az hr)).1;rw [e] at this;simp at this
    ·rw [take_snoc hr];exact b8 sk ⟨hM,hM'⟩
   ·rintro ys H4 D ⟨rfl,ms,rfl,sk⟩ hD;rw [aQ #[O]] at sk;have hml:=bn sk;refine⟨D,ms,rfl,kP.of zb,fun e=>by rw [e] at hml; simp at hml; lia,fun M hM hM'=>?_⟩;have sD:=zc (o:=.lst (ms.map V.int)) hD;have oT:=lh.same sD;have qj:=sD _ _ rP;have s4:=s3.trans sD;generalize kR H4 D (.lst (ms.map V.int))=H5 at sD oT qj s4 ⊢;refine⟨rfl,_,rfl,?_⟩;refine zby (fun _=>?_) (fun By=>?_)
    ·obtain⟨qi,b,els⟩:∃ qi b,ls=qi++[b]:=⟨_,_,(d7 (l:=ls) (fun e=>by rw [e] at kS; simp at kS; lia)).symm⟩;obtain⟨k7,r,uI⟩:∃ k7 r,rows=k7++[r]:=⟨_,_,(d7 (l:=rows) (fun e=>by rw [e] at rQ; simp at rQ; lia)).symm⟩;subst els;subst uI;have sU:qi.length=k7.length:=by simpa using kS
     obtain⟨hA,hB⟩:LsA H5 qi k7∧H5 b=some (.lst (r.map V.int)):=zcT oT;have rR:=hg r #[M];have nb:b∉qi:=by
      rw [di] at nd;exact fun z=>nd.2.2 b z b #[M] rfl
     have bL:b≠L:=oT.off qj qi.length b #[M];have lQ:atI ((qi++[b]).map V.ref) (-1)=some (.ref b):=by rw [aw]; exact ze2
     refine⟨_,rfl,_,rfl,L,_,_,_,rfl,rfl,kP.of qj,lQ,_,rfl,b,_,_,r.length - 1,rfl,rfl,hB,?_,?_⟩
     ·rw [ab];unfold ixN;have:=rR.1;rw [if_neg #[D],if_pos #[O]];congr 1;lia
     ·refine⟨_,_,_,k7++[r.set (r.length - 1) 1],rfl,z9 s4 ?_,by rw [zk bL.symm]; exact qj,b8 (zeZ nb (fun c o hc e=>by rw [zk hc]; exact e) hA) (by rw [zb,eB]),?_,?_,?_⟩
      ·exact n2 b #[M]
      ·simpa using rQ
      ·intro r' k8;rcases aT.mp k8 with h | h
       ·exact hg r' (by simp [h])
       ·rw [aS.mp h]; exact rR.set #[D] #[O] _
      ·have:=rR.1;exact⟨_,aB _ (aS.mpr rfl),1,bY.mpr ⟨r.length - 1,by rw [dR #[O]]⟩,#[D]⟩
    ·refine⟨_,_,_,rows,rfl,s4,qj,oT,rQ,hg,?_⟩;obtain⟨i,hi⟩:=bY.mp hM;obtain⟨r,hr,wq,_⟩:=Paired.get sk hi;exact⟨r,az hr,M,wq,by simpa using By⟩
end
section
variable {P:Program} {w:World} {K:af} {mg:Str→Option Value} {base:Heap} {t:Adr}
def zgu (K:af):Sp:=fun vs H Q _=>∃ (p:Int) (a b:Addr) (as bs:List Int),vs = [.int p,.ref a,.ref b]∧H a=some (.lst (as.map V.int))∧H b=some (.lst (bs.map V.int))∧1≤as.length∧as.length≤1000∧1≤bs.length∧bs.length≤1000∧5≤p∧p≤97∧(∀ c∈as,0≤c∧c < p) ∧
 ∀ (l:Addr) (rs:List Int) (H':Hp),H l=none→zt H H'→H' l=some (.lst (rs.map V.int))→rs.length=as.length+bs.length - 1→(∀ c∈rs,0≤c∧c < p)→(∀ x,Cg p (gl rs x) (mq 0 as.length (gl as) (gl bs) x))→Q (.ref l) H'
def psm (as bs:List Int) (j i x:Nat):Int:=(sm j fun t=>gl as t*Xp t (gl bs) x)+if j≤x∧x < j+i then gl as j*gl bs (x - j) else 0
theorem zkJ (as bs:List Int) (j x:Nat):psm as bs j bs.length x=psm as bs (j+1) 0 x:=by
 unfold psm;rw [if_neg (show ¬ (j+1≤x∧x < j+1+0) by lia),bV];show _=(sm j fun t=>gl as t*Xp t (gl bs) x)+gl as j*Xp j (gl bs) x;congr 1;rw [zcU];by_cases h1:x < j
 ·rw [if_neg #[O],if_pos h1,dF]
 ·rw [if_neg h1];by_cases h2:x < j+bs.length
  ·rw [if_pos ⟨#[O],h2⟩]
  ·rw [if_neg #[O],zaQ (w:=bs) (y:=x - j) #[O],dF]
theorem zgv {rs:List Int} {i x:Nat} {v:Int} (hi:i < rs.length):gl (rs.set i v) x=if x=i then v else gl rs x:=by
 unfold gl;rw [au,au];by_cases h:x=i
 ·subst h;rw [if_pos rfl,dR hi];rfl
 ·rw [if_neg h,eD (fun e=>h e.symm)]
theorem zey {as:List Int} {j:Nat} (h:j < as.length):atI (as.map V.int) (j:Int)=some (.int (gl as j)):=zaH (by rw [ah,zbM h]; rfl)
theorem zbw:FnScope ["p","one","other","found","j","i"] ["p","one","other"] (zh zb4):=#[S]
theorem zdK {fd:FuncData} (T:Txt K mg t) (F:Fun K "_law_times" "_law_times" zb4 t.l_times fd):FnOk P w K mg base CX0 1 t.l_times fd ["p","one","other"] (zgu K):=by
 refine F.ok zbw (fun vs H Q E h=>?_) (fun lB A outer s H vs Q E hr h=>?_)
 ·obtain⟨p,a,b,as,bs,rfl,_⟩:=h;rfl
 ·obtain⟨p,a,b,as,bs,rfl,ha,hb,a1,a2,b1,b2,p5,rL,yp,q⟩:=h;apply zbz; intro zX;refine⟨_,#[zf,#[zp,3,zbw.nd,#[A],#[zg,#[zbF],#[zac,#[ya,#[ze]]],#[zg,#[za8],#[zg,#[zu],#[zl,#[zm],T.len_,bP,#[ya,#[pvx,1]]],#[zl,#[zm],T.len_,bP,#[ya,#[pvx,2]]]],#[ze]]]],#[zf,#[zaj,bp,#[zR,T.range_,#[ya,#[zl,#[zm],T.len_,bP,#[ya,#[pvx,1]]]]],#[zi,4,zbw.nd,#[A]],#[zj,#[zaj,bp,#[zR,T.range_,#[ya,#[zl,#[zm],T.len_,bP,#[ya,#[pvx,2]]]]],#[zi,5,zbw.nd,#[A]],#[zj,#[zbB,#[zg,#[zB],#[zg,#[zu],#[zI,#[zq],#[pvx,3],#[zg,#[zu],#[pvx,4],#[pvx,5]]],#[zg,#[z8],#[zI,#[zq],#[pvx,1],#[pvx,4]],#[zI,#[zq],#[pvx,2],#[pvx,5]]]],#[pvx,0]],#[zcb,#[pvx,3],#[zg,#[zu],#[pvx,4],#[pvx,5]],set_list]]]]]],#[zj,#[zQ,#[pvx,3]]]]],?_⟩;apply zhC; intro qN oP;have n0:=br;refine⟨by show 1≤sizeLine; lia,fun z hz=>?_⟩;have u0:=zc (o:=.lst [.int 0]) hz;have eN:(((as.map V.int).length:Nat):Int)+(((bs.map V.int).length:Nat):Int) - 1=((as.length+bs.length - 1:Nat):Int):=by rw [ab,ab]; lia
  have eT:(((as.length+bs.length - 1:Nat):Int)).toNat=as.length+bs.length - 1:=by lia
  refine⟨_,rfl,a,_,rfl,.inl (kP.of (u0 _ _ ha)),_,rfl,b,_,rfl,.inl (kP.of (u0 _ _ hb)),_,_,rfl,rfl,_,_,rfl,rfl,?_⟩;show zj7 (.ref z) (.int ((((as.map V.int).length:Nat):Int)+(((bs.map V.int).length:Nat):Int) - 1)) _ _;rw [eN];refine⟨z,_,[.int 0],rfl,rfl,zb,#[O],#[O],by rw [eT]; show 1*_≤sizeLine; lia,fun fa sJ=>?_⟩;rw [eT,bC];have oU:=u0.free sJ;have u1:=u0.trans (zc (o:=.lst (ap (as.length+bs.length - 1) (V.int 0))) sJ);have f1:kR (kR H z (.lst [.int 0])) fa (.lst (ap (as.length+bs.length - 1) (V.int 0))) fa=some (.lst ((ap (as.length+bs.length - 1) (0:Int)).map V.int)):=by rw [zb,cr]
  generalize kR (kR H z (.lst [.int 0])) fa (.lst (ap (as.length+bs.length - 1) (V.int 0)))=H1 at u1 f1 ⊢;have Bz:∀ x,gl (ap (as.length+bs.length - 1) (0:Int)) x=0:=fun x=>by
   by_cases h:x < as.length+bs.length - 1
   ·exact zbg (by rw [bO,if_pos h])
   ·exact zaQ (by rw [aH]; lia)
  refine⟨_,rfl,a,_,rfl,.inl (kP.of (u1 _ _ ha)),_,rfl,by rw [ab]; lia,by rw [ab]; lia,?_⟩;rw [ab,cY];refine zad (lo:=0) (n:=as.length) (fun j σ H'=>∃ (rs:List Int) (e4 e5:Option V),σ = [some (.int p),some (.ref a),some (.ref b),some (.ref fa),e4,e5]∧zt H H'∧H' fa=some (.lst (rs.map V.int))∧rs.length=as.length+bs.length - 1∧(∀ c∈rs,0≤c∧c < p)∧∀ x,Cg p (gl rs x) (psm as bs j 0 x))
   ⟨_,none,none,rfl,u1,f1,aH,fun c hc=>by rw [cu hc]; lia,fun x=>by rw [Bz]; unfold psm; rw [if_neg #[O]]; exact Cg.refl _ _⟩ ?_ ?_
  ·rintro zD zT j σ H2 hj ⟨rs,e4,e5,rfl,s2,h2,nQ,qV,qk⟩;rw [show ((0:Int)+(j:Int))=(j:Int) from et _];refine⟨_,rfl,b,_,rfl,.inl (kP.of (s2 _ _ hb)),_,rfl,by rw [ab]; lia,by rw [ab]; lia,?_⟩;rw [ab,cY];refine zad (lo:=0) (n:=bs.length) (fun i σ H'=>∃ (rs:List Int) (e5:Option V),σ = [some (.int p),some (.ref a),some (.ref b),some (.ref fa),some (.int (j:Int)),e5]∧zt H H'∧H' fa=some (.lst (rs.map V.int))∧rs.length=as.length+bs.length - 1∧(∀ c∈rs,0≤c∧c < p)∧∀ x,Cg p (gl rs x) (psm as bs j i x))
    ⟨rs,e5,rfl,s2,h2,nQ,qV,qk⟩ ?_ ?_
   ·rintro zD zT i σ H3 hi ⟨rs,e5,rfl,s3,h3,nQ,qV,qk⟩;rw [show ((0:Int)+(i:Int))=(i:Int) from et _];have eji:(j:Int)+(i:Int)=((j+i:Nat):Int):=by lia
    have BA:j+i < rs.length:=by lia
    obtain⟨g0,g1⟩:=yp _ (az (zbM hj));refine⟨_,rfl,_,rfl,_,rfl,_,_,rfl,rfl,fa,_,_,_,rfl,rfl,kP.of h3,(by rw [eji]; exact zey BA),_,rfl,_,rfl,a,_,_,_,rfl,rfl,kP.of (s3 _ _ ha),zey hj,_,rfl,_,rfl,b,_,_,_,rfl,rfl,kP.of (s3 _ _ hb),zey hi,_,_,rfl,rfl,.inl ⟨#[O],#[O]⟩,_,_,rfl,rfl,_,rfl,_,_,rfl,rfl,#[O],?_⟩;refine⟨_,rfl,_,rfl,_,rfl,_,_,rfl,rfl,fa,_,_,j+i,rfl,rfl,h3,by rw [eji]; exact zc5 (by rw [ab]; exact BA),?_⟩;refine⟨rs.set (j+i) ((gl rs (j+i)+gl as j*gl bs i) % p),_,rfl,z9 s3 oU,by rw [zb,eB],by rw [cH]; exact nQ,fun c hc=>?_,fun x=>?_⟩
    ·rcases cQ hc with h | h
     ·exact qV c h
     ·rw [h];exact⟨aV _ #[O],aP _ #[O]⟩
    ·rw [zgv BA];by_cases h:x=j+i
     ·subst h;rw [if_pos rfl];refine (Cg.emod p _).trans ?_;have h1:=qk (j+i);unfold psm at h1 ⊢;rw [if_neg #[O],bV] at h1;rw [if_pos #[O],Nat.add_sub_cancel_left];exact h1.add (Cg.refl p _)
     ·rw [if_neg h];have h1:=qk x;unfold psm at h1 ⊢;by_cases h2:j≤x∧x < j+i
      ·rw [if_pos h2] at h1;rw [if_pos #[O]];exact h1
      ·rw [if_neg h2] at h1;rw [if_neg #[O]];exact h1
   ·rintro σ H3 ⟨rs,e5,rfl,s3,h3,nQ,qV,qk⟩;exact⟨rs,_,_,rfl,s3,h3,nQ,qV,fun x=>by rw [← zkJ]; exact qk x⟩
  ·rintro σ H2 ⟨rs,e4,e5,rfl,s2,h2,nQ,qV,qk⟩;refine⟨_,rfl,q fa rs H2 oU s2 h2 nQ qV fun x=>?_⟩;have h1:=qk x;unfold psm at h1;rw [if_neg #[O],bV,← zes] at h1;exact h1
def zgw (K:af):Sp:=fun vs H Q _=>∃ (p:Int) (k:Nat) (ca qa:Addr) (bs:List Addr) (rows:List (List Int)) (f:List Int),vs = [.int p,.ref ca,.ref qa]∧H ca=some (.tup (bs.map V.ref))∧zal H bs rows∧1≤rows.length∧rows.length≤100∧(∀ r∈rows,1≤r.length∧r.length≤100∧∀ c∈r,0≤c∧c < p)∧H qa=some (.tup (f.map V.int))∧IsP p k f∧1≤k∧k≤5∧5≤p∧p≤97 ∧
 ∀ (l:Addr) (fs:List Int) (H':Hp),H l=none→zt H H'→H' l=some (.lst (fs.map V.int))→fs≠[]→(∀ c∈fs,0≤c∧c < p)→(∀ x,Cg p (gl fs x) (AL k (gl f) rows.length (fun j i=>gl (rows.getD j []) i) x))→Q (.ref l) H'
theorem zdL (r:List Int):Dg (gl r) r.length:=fun i hi=>zaQ hi
theorem zaw:FnScope ["p","curve","polynomial","found","power","line","i","number"] ["p","curve","polynomial"] (zh zbi):=#[S]
theorem zgx {fd:FuncData} (T:Txt K mg t) (F:Fun K "_law_along" "_law_along" zbi t.l_along fd):FnOk P w K mg base CX0 2 t.l_along fd ["p","curve","polynomial"] (zgw K):=by
 obtain⟨m6,lq,lu⟩:=T.f_l_times;have lW:=zdK (P:=P) (w:=w) (base:=base) T lq;refine F.ok zaw (fun vs H Q E h=>?_) (fun lB A outer s H vs Q E hr h=>?_)
 ·obtain⟨p,k,ca,qa,bs,rows,f,rfl,_⟩:=h;rfl
 ·obtain⟨p,k,ca,qa,bs,rows,f,rfl,ql,hb,n1,hn,uE,xg,hf,k1,k5,p5,rL,q⟩:=h;apply zbz; intro zX;refine⟨_,#[zf,#[zp,3,zaw.nd,#[A],#[zg,#[zbF],#[zac,#[ya,#[ze]]],#[zg,#[zu],#[zl,#[zbZ],T.max_,gg,#[ya,#[zS,(CompSc.of (N':=["line"]) (ix:=[none]) (zh zbi) ["p","curve","polynomial","found","power","line","i","number"] rfl rfl #[N]),#[z7],#[zcH,#[pvx,1]],(fun _ _ _ _=>#[zi,0,(nd_ ["line"]),#[A]]),(fun _ _ _ _=>#[zE]),(fun _ _ _ _=>#[zl,#[zas,(K)],T.len_,bP,#[ya,#[pvx,0]]])]]],#[zg,#[z8],#[zl,#[zm],T.len_,bP,#[ya,#[pvx,1]]],#[zl,#[zm],T.len_,bP,#[ya,#[pvx,2]]]]]]],#[zf,#[zp,4,zaw.nd,#[A],#[zac,#[ya,#[ze]]]],#[zf,#[zaj,bp,#[zcH,#[pvx,1]],#[zi,5,zaw.nd,#[A]],#[zf,#[zaj,bp,#[zbH,T.enumerate_,#[ya,#[zF,lW,(hr.mono #[D]),T.m_l_times,lq.kp,lu,#[zak],#[za,#[pvx,0],#[za,#[zO,#[zaA],T.list_,fU,#[ya,#[pvx,5]]],#[ya,#[pvx,4]]]]]]],#[zcG,#[zy,#[zi,6,zaw.nd,#[A]],#[zy,#[zi,7,zaw.nd,#[A]],#[zat]]]],#[zj,#[zbB,#[zg,#[zB],#[zg,#[zu],#[zI,#[zq],#[pvx,3],#[pvx,6]],#[pvx,7]],#[pvx,0]],#[zcb,#[pvx,3],#[pvx,6],set_list]]]],#[zj,#[zp,4,zaw.nd,#[A],#[zF,lW,(hr.mono #[D]),T.m_l_times,lq.kp,lu,#[zak],#[za,#[pvx,0],#[za,#[pvx,4],#[ya,#[zO,#[zaA],T.list_,fU,#[ya,#[pvx,2]]]]]]]]]]],#[zj,#[zQ,#[pvx,3]]]]]],?_⟩;apply zll; intro wO qN oP;have n0:=br;have pL:=hb.length;have oO:f.length=k:=hf.1;refine⟨by show 1≤sizeLine; lia,fun z hz=>?_⟩;have u0:=zc (o:=.lst [.int 0]) hz;have f0:kR H z (.lst [.int 0]) z=some (.lst [.int 0]):=zb;generalize kR H z (.lst [.int 0])=H0 at u0 f0 ⊢;have xh:=u0 _ _ ql;have hb0:=hb.same u0;refine⟨_,rfl,ca,rfl,⟨_,kT.of xh⟩,zbV (K:=K) (xs:=bs.map V.ref) (fs:=(zM rows).map V.int) (kT.of xh) (by unfold zM; rw [ab,ab,ab]; lia) (by rw [ab]; lia) ?_ ?_⟩
  ·intro j x y R B hx hy hR;obtain⟨b,rfl,BB⟩:=zG hx;obtain⟨r,k8,lQ⟩:=Paired.get hb0 BB;have rY:y = .int (r.length:Int):=by
    unfold zM at hy;rw [ah,ah,k8] at hy;exact (bf hy).symm
   subst rY;refine gY ⟨_,rfl,b,_,rfl,.inr (kT.of lQ),?_⟩;rw [ab];exact hR
  intro D hD;have u1:=zc (o:=.lst ((zM rows).map V.int)) hD;have k4:zM rows≠[]:=fun e=>by
   have:=congrArg iA e;unfold zM at this;rw [ab] at this;have:rows.length=0:=this;lia
  refine⟨D,zM rows,rfl,kP.of zb,k4,fun M rM tR=>?_⟩;obtain⟨W,rfl,hW⟩:∃ W:Nat,M=(W:Int)∧∀ r∈rows,r.length≤W:=by
   obtain⟨r,k8,e⟩:=aJ.mp rM;refine⟨r.length,e.symm,fun r2 h2=>?_⟩;have:=tR _ (aJ.mpr ⟨r2,h2,rfl⟩);lia
  have hW1:1≤W∧W≤100:=by
   obtain⟨r,k8,e⟩:=aJ.mp rM;have:=uE r k8;lia
  have tX:=u0.trans u1;generalize kR H0 D (.lst ((zM rows).map V.int))=H1 at u1 tX ⊢;have hnk:rows.length*k≤500:=bd (eC hn k5) #[D];have eN:(W:Int)+(((bs.map V.ref).length:Nat):Int)*(((f.map V.int).length:Nat):Int)=((W+rows.length*k:Nat):Int):=by rw [ab,ab,oO,pL]; push_cast; rfl
  have eT:(((W+rows.length*k:Nat):Int)).toNat=W+rows.length*k:=by lia
  refine⟨_,rfl,ca,_,rfl,.inr (kT.of (tX _ _ ql)),_,rfl,qa,_,rfl,.inr (kT.of (tX _ _ xg)),_,_,rfl,rfl,.inl ⟨by rw [ab]; lia,by rw [ab]; lia⟩,_,_,rfl,rfl,?_⟩;show zj7 (.ref z) (.int ((W:Int)+(((bs.map V.ref).length:Nat):Int)*(((f.map V.int).length:Nat):Int))) _ _;rw [eN];refine⟨z,_,[.int 0],rfl,rfl,u1 _ _ f0,#[O],#[O],by rw [eT]; show 1*_≤sizeLine; lia,fun fa sJ=>?_⟩;rw [eT,bC];obtain⟨N,hN⟩:∃ N,W+rows.length*k=N:=⟨_,rfl⟩;rw [hN];have oU:=tX.free sJ;have tV:=tX.trans (zc (o:=.lst (ap N (V.int 0))) sJ);have f2:kR H1 fa (.lst (ap N (V.int 0))) fa=some (.lst ((ap N (0:Int)).map V.int)):=by rw [zb,cr]
  generalize kR H1 fa (.lst (ap N (V.int 0)))=H2 at tV f2 ⊢;have Bz:∀ x,gl (ap N (0:Int)) x=0:=fun x=>by
   by_cases h:x < N
   ·exact zbg (by rw [bO,if_pos h])
   ·exact zaQ (by rw [aH]; lia)
  refine⟨by show 1≤sizeLine; lia,fun pa yq=>?_⟩;have u3:=zc (o:=.lst [.int 1]) yq;have yr:pa≠fa:=fun e=>by rw [e,f2] at yq; cases yq
  refine⟨_,rfl,ca,rfl,⟨_,kT.of ((tV.trans u3) _ _ ql)⟩,ziH (K:=K) (a:=ca) (xs:=bs.map V.ref) (fun t σ H'=>∃ (pa:Addr) (fs pw:List Int) (e5 e6 e7:Option V),σ = [some (.int p),some (.ref ca),some (.ref qa),some (.ref fa),some (.ref pa),e5,e6,e7]∧zt H H'∧H' fa=some (.lst (fs.map V.int))∧H' pa=some (.lst (pw.map V.int))∧pa≠fa∧(fs.length=N∧∀ c∈fs,0≤c∧c < p)∧(pw.length=1+t*(k - 1)∧∀ c∈pw,0≤c∧c < p)∧(∀ x,x < N→Cg p (gl fs x) (sm t fun u=>itq k (gl f) u (gl (rows.getD u [])) x))∧∀ x,Cg p (gl pw x) (itq k (gl f) t zcA x))
   ⟨pa,_,[1],none,none,none,rfl,tV.trans u3,u3 _ _ f2,zb,yr,⟨aH,fun c hc=>by rw [cu hc]; lia⟩,⟨by rw [Nat.zero_mul]; rfl,fun c hc=>by rw [aS.mp hc]; lia⟩,fun x _=>by rw [Bz]; exact Cg.refl _ _,fun x=>by
    show Cg p (gl [1] x) (zcA x);unfold zcA;cases x with
    | zero=>exact Cg.refl _ _
    | succ x=>exact Cg.refl _ _⟩ (fun t σ H' _ ⟨_,_,_,_,_,_,_,s',_⟩=>kT.of (s' _ _ ql)) ?_ ?_⟩
  ·rintro zD zT t x σ H4 hx ⟨pa,fs,pw,e5,e6,e7,rfl,s4,yt,tY,yr,⟨qW,ph⟩,⟨nq,rK⟩,tZ,BC⟩;obtain⟨lb,rfl,vC⟩:=zG hx;obtain⟨r,k8,lQ⟩:=Paired.get hb vC;obtain⟨r1,r100,qV⟩:=uE r (az k8);have hrW:=hW r (az k8);have htn:=(bg.mp k8).1;have er:rows.getD t []=r:=by rw [au,k8]; rfl
   have rT:t*(k - 1)≤100*4:=eC #[O] #[O];have BD:(t+1)*(k - 1)≤rows.length*k:=eC #[O] #[O];rw [dW] at BD;refine⟨_,rfl,_,rfl,lb,_,rfl,.inr (kT.of (s4 _ _ lQ)),fun x1 qf=>?_⟩;have w1:=zc (o:=.lst (r.map V.int)) qf;refine⟨_,rfl,p,x1,pa,r,pw,rfl,zb,w1 _ _ tY,#[O],#[O],#[O],#[O],p5,rL,qV,fun ra rs H5 BE w2 h5r nQ BF qk=>?_⟩;have vB:=w1.trans w2;have hrf:ra≠fa:=fun e=>by
    have:=w1 _ _ yt;rw [← e,BE] at this;cases this
   have h5f:=vB _ _ yt;have qX:∀ x,Cg p (gl rs x) (itq k (gl f) t (gl r) x):=fun x=>by
    refine (qk x).trans ((zjr BC x).trans (Cg.of_eq ?_));rw [zfI,zdh (zdL r)]
   have s5:zt H (hide H5 fa):=fun a o e=>zcn ((s4.trans vB) _ _ e) (fun z=>by rw [z,oU] at e; cases e)
   have uJ:=zcn h5r hrf;have BG:=zcn (vB _ _ tY) yr;have hhf:hide H5 fa fa=none:=by unfold hide; rw [if_pos rfl]
   refine⟨ra,_,rfl,kP.of h5r,zbU (n:=rs.length) (fun i σ H'=>∃ (fs:List Int) (e6 e7:Option V),σ = [some (.int p),some (.ref ca),some (.ref qa),some (.ref fa),some (.ref pa),some (.ref lb),e6,e7]∧zt (hide H5 fa) H'∧H' fa=some (.lst (fs.map V.int))∧(fs.length=N∧∀ c∈fs,0≤c∧c < p)∧∀ x,x < N→Cg p (gl fs x) ((sm t fun u=>itq k (gl f) u (gl (rows.getD u [])) x)+if x < i then gl rs x else 0))
    ⟨fs,_,_,rfl,zfv _ _,h5f,⟨qW,ph⟩,fun x hx=>by rw [if_neg #[O],bV]; exact tZ x hx⟩ ?_ ?_ ?_ ?_⟩
   ·rintro i σ H6 hi ⟨fs,e6,e7,rfl,s6,_⟩;exact⟨_,.int rs[i],kP.of (s6 _ _ uJ),by rw [ah,ak hi]; rfl⟩
   ·rintro σ H6 ⟨fs,e6,e7,rfl,s6,_⟩;exact⟨_,kP.of (s6 _ _ uJ),by rw [ab]; exact ag _⟩
   ·rintro zD zT i x σ H6 H7 hi ⟨fs,e6,e7,rfl,s6,yu,⟨uK,uL⟩,uM⟩ ⟨T,v,hT,rfl,rfl,hv⟩;obtain⟨y,rfl,hy⟩:=zaB (hv _ (kP.of (s6 _ _ uJ)));have xi:gl rs i=y:=zbg hy;have uT:=zc (o:=.tup [.int (i:Int),.int y]) hT;refine⟨T,_,rfl,kT.of zb,rfl,_,_,rfl,_,_,rfl,rfl,?_⟩;have s7:=s6.trans uT;have BH:=uT _ _ yu;generalize kR H6 T (.tup [.int (i:Int),.int y])=H7 at uT s7 BH ⊢;have xa:i < fs.length:=by lia
    refine⟨_,rfl,_,rfl,fa,_,_,_,rfl,rfl,kP.of BH,zey xa,_,rfl,_,_,rfl,rfl,_,rfl,_,_,rfl,rfl,#[O],?_⟩;refine⟨_,rfl,_,rfl,fa,_,_,i,rfl,rfl,BH,zc5 (by rw [ab]; exact xa),?_⟩;refine⟨fs.set i ((gl fs i+y) % p),_,_,rfl,z9 s7 hhf,by rw [zb,eB],⟨by rw [cH]; exact uK,fun c hc=>?_⟩,fun x hx=>?_⟩
    ·rcases cQ hc with h | h
     ·exact uL c h
     ·rw [h];exact⟨aV _ #[O],aP _ #[O]⟩
    ·rw [zgv xa];have h1:=uM x hx;by_cases h:x=i
     ·subst h;rw [if_neg #[O],bV] at h1;rw [if_pos rfl,if_pos #[O],xi];exact (Cg.emod p _).trans (h1.add (Cg.refl p _))
     ·rw [if_neg h];by_cases h2:x < i
      ·rw [if_pos h2] at h1;rw [if_pos #[O]];exact h1
      ·rw [if_neg h2] at h1;rw [if_neg #[O]];exact h1
   ·rintro σ H6 ⟨fs,e6,e7,rfl,s6,yu,⟨uK,uL⟩,uM⟩;have BI:=(s5.trans s6) _ _ xg;refine⟨_,rfl,_,rfl,_,rfl,qa,_,rfl,.inr (kT.of BI),fun x2 qJ=>?_⟩;have w3:=zc (o:=.lst (f.map V.int)) qJ;refine⟨p,pa,x2,pw,f,rfl,w3 _ _ (s6 _ _ BG),zb,#[O],#[O],#[O],#[O],p5,rL,rK,fun pb rs2 H8 hpb w4 h8 BJ hr8 hc8=>?_⟩;have w34:=w3.trans w4;have BK:pb≠fa:=fun e=>by
     have:=w3 _ _ yu;rw [← e,hpb] at this;cases this
    refine⟨pb,fs,rs2,_,_,_,rfl,s5.trans (s6.trans w34),w34 _ _ yu,h8,BK,⟨uK,uL⟩,⟨by rw [BJ,nq,oO,dW]; lia,hr8⟩,fun x hx=>?_,fun x=>?_⟩
    ·refine (uM x hx).trans ?_;show Cg p _ ((sm t fun u=>itq k (gl f) u (gl (rows.getD u [])) x)+itq k (gl f) t (gl (rows.getD t [])) x);refine (Cg.refl p _).add ?_;rw [er];by_cases h:x < rs.length
     ·rw [if_pos h];exact qX x
     ·rw [if_neg h];have:=qX x;rw [zaQ (w:=rs) (y:=x) #[O]] at this;exact this
    ·refine (hc8 x).trans ?_;have e1:mq 0 pw.length (gl pw) (gl f)=mq 0 k (gl f) (gl pw):=by
      have:=zhi (zdL pw) (zdL f);rw [oO] at this;exact this
     rw [e1];exact zjr BC x
  ·rintro σ H4 ⟨pa,fs,pw,e5,e6,e7,rfl,s4,yt,tY,yr,⟨qW,ph⟩,⟨nq,rK⟩,tZ,BC⟩;refine⟨_,rfl,q fa fs H4 oU s4 yt (fun e=>by rw [e] at qW; simp at qW; lia) ph fun x=>?_⟩;by_cases hx:x < N
   ·rw [zjx];have:=tZ x hx;rw [ab,pL] at this;exact this
   ·rw [zaQ #[O],zms k1 (W:=W) (fun t ht=>?_) (fun t ht=>?_) x #[O]]
    ·exact Cg.refl _ _
    ·have hm:rows.getD t []∈rows:=by rw [au,ak ht]; exact c9 ht
     exact (zdL _).le (hW _ hm)
    ·funext i;show gl (rows.getD t []) i=0;rw [au,bz ht];rfl
end
section
variable {P:Program} {w:World} {K:af} {mg:Str→Option Value} {base:Heap} {t:Adr}
theorem zlT {H:Hp} {ls:List Addr} {vv:List (List Int)} {j:Nat} {b:Addr} {v:List Int} (h:LsA H ls vv) (nd:ls.Nodup) (hj:ls[j]? = some b):LsA (kR H b (.lst (v.map V.int))) ls (vv.set j v):=by
 induction h generalizing j with
 | nil=>cases hj
 | @cons a c as cs h1 ht ih =>
  obtain⟨hn,nd'⟩:=cj.mp nd;cases j with
  | zero =>
   obtain rfl:a=b:=by simpa using hj
   exact .cons zb (zeZ hn (fun c o hc e=>by rw [zk hc]; exact e) ht)
  | succ j =>
   have hj:as[j]? = some b:=by simpa using hj
   refine .cons ?_ (ih nd' hj);rw [zk (fun e:a=b=>hn (by rw [e]; exact az hj))];exact h1
structure Lin (H0 H:Hp) (L:Addr) (ls:List Addr) (vv:List (List Int)):Prop where
 s:zt H0 H
 l:H L=some (.lst (ls.map V.ref))
 a:LsA H ls vv
 nd:ls.Nodup
 nl:L∉ls
 fr:∀ b∈ls,H0 b=none
theorem Lin.same {H0 H H':Hp} {L:Addr} {ls:List Addr} {vv:List (List Int)} (h:Lin H0 H L ls vv) (s:zt H H'):Lin H0 H' L ls vv:=⟨h.s.trans s,s _ _ h.l,h.a.same s,h.nd,h.nl,h.fr⟩
theorem Lin.set {H0 H:Hp} {L b:Addr} {ls:List Addr} {vv:List (List Int)} {j:Nat} {v:List Int} (h:Lin H0 H L ls vv) (hj:ls[j]? = some b):Lin H0 (kR H b (.lst (v.map V.int))) L ls (vv.set j v):=by
 have hb:=az hj;refine⟨z9 h.s (h.fr b hb),?_,zlT h.a h.nd hj,h.nd,h.nl,h.fr⟩;rw [zk (fun e:L=b=>h.nl (by rw [e]; exact hb))];exact h.l
structure Gd (p:Int) (n W:Nat) (vv:List (List Int)) (G:Nat→Nat→Int):Prop where
 gn:vv.length=n
 gw:∀ r∈vv,r.length=W∧∀ c∈r,0≤c∧c < p
 gc:∀ j x,j < n→x < W→Cg p (gl (vv.getD j []) x) (G j x)
theorem getD_mem {α:Type} {l:List (List α)} {j:Nat} (h:j < l.length):l.getD j []∈l:=by rw [au,ak h]; exact c9 h
theorem zbR {α:Type} {l:List (List α)} {j:Nat} (h:l.length≤j):l.getD j [] = []:=by rw [au,bz h]; rfl
theorem Gd.set {p:Int} {n W:Nat} {vv:List (List Int)} {G G':Nat→Nat→Int} (h:Gd p n W vv G) {j0 i0:Nat} {v:Int} (hj:j0 < n) (hi:i0 < W) (v0:0≤v) (v1:v < p) (hv:Cg p v (G' j0 i0)) (hG:∀ j x,¬ (j=j0∧x=i0)→G' j x=G j x):Gd p n W (vv.set j0 ((vv.getD j0 []).set i0 v)) G':=by
 have rQ:j0 < vv.length:=by rw [h.gn]; exact hj
 have hr:=h.gw _ (getD_mem rQ);refine⟨by rw [cH]; exact h.gn,fun r k8=>?_,fun j x mS hx=>?_⟩
 ·rcases cQ k8 with z | rfl
  ·exact h.gw r z
  ·refine⟨by rw [cH]; exact hr.1,fun c hc=>?_⟩;rcases cQ hc with z | rfl
   ·exact hr.2 c z
   ·exact⟨v0,v1⟩
 ·have e:(vv.set j0 ((vv.getD j0 []).set i0 v)).getD j []=if j=j0 then (vv.getD j0 []).set i0 v else vv.getD j []:=by
   rw [au,jN];by_cases z:j0=j
   ·rw [if_pos z,if_pos z.symm,if_pos rQ]; rfl
   ·rw [if_neg z,if_neg (fun q=>z q.symm),au]
  rw [e];by_cases z:j=j0
  ·rw [if_pos z,zgv (by rw [hr.1]; exact hi)];by_cases y:x=i0
   ·rw [if_pos y,z,y]; exact hv
   ·rw [if_neg y,hG j x (fun q=>y q.2),z]; exact h.gc j0 x hj hx
  ·rw [if_neg z,hG j x (fun q=>z q.1)];exact h.gc j x mS hx
theorem Gd.eq {p:Int} {n W:Nat} {vv:List (List Int)} {G G':Nat→Nat→Int} (h:Gd p n W vv G) (e:∀ j x,j < n→x < W→Cg p (G j x) (G' j x)):Gd p n W vv G':=⟨h.gn,h.gw,fun j x hj hx=>(h.gc j x hj hx).trans (e j x hj hx)⟩
def wt (k:Nat) (f:Ps) (F:Nat→Ps) (t:Nat) (j x:Nat):Int:=(if 0 < j∧j≤t then F (j - 1) x else 0) + -1*(if j < t then mq 0 k f (F j) x else 0)
theorem zkK (k:Nat) (f:Ps) (F:Nat→Ps) (j x:Nat):wt k f F 0 j x=0:=by
 unfold wt;rw [if_neg #[O],if_neg #[O]];rfl
theorem zkL (k:Nat) (f:Ps) (F:Nat→Ps) (t j x:Nat):wt k f F (t+1) j x=wt k f F t j x+(if j=t+1 then F t x else 0) + -1*(if j=t then mq 0 k f (F t) x else 0):=by
 unfold wt;by_cases h1:j=t+1
 ·subst h1;rw [if_pos #[O],if_neg #[O],if_neg #[O],if_neg #[O],if_pos rfl,if_neg #[O]];simp
 ·by_cases h2:j=t
  ·subst h2;rw [if_neg h1,if_pos (show j < j+1 by lia),if_neg (show ¬ j < j by lia),if_pos rfl];by_cases h3:0 < j
   ·rw [if_pos #[O],if_pos #[O]]; lia
   ·rw [if_neg #[O],if_neg #[O]]; lia
  ·rw [if_neg h1,if_neg h2];by_cases h3:j < t
   ·rw [if_pos (show j < t+1 by lia),if_pos h3];by_cases h4:0 < j
    ·rw [if_pos #[O],if_pos #[O]]; lia
    ·rw [if_neg #[O],if_neg #[O]]; lia
   ·rw [if_neg (show ¬ j < t+1 by lia),if_neg h3,if_neg #[O],if_neg #[O]]; rfl
theorem zlU {k n:Nat} {f:Ps} {F:Nat→Ps} (hF:∀ t,n≤t→F t=fun _=>0) (j x:Nat) (hj:j < n+1):wt k f F n j x=wr k f F j x:=by
 have hz:∀ x,mq 0 k f (fun _=>0) x=0:=fun x=>by rw [(zaX 0 k f).z]
 unfold wt;cases j with
 | zero =>
  show _=0 + -1*mq 0 k f (F 0) x;rw [if_neg #[O]];by_cases h:0 < n
  ·rw [if_pos h]
  ·rw [if_neg h,hF 0 #[O],hz]
 | succ j =>
  show _=F j x + -1*mq 0 k f (F (j+1)) x;rw [if_pos #[O]];by_cases h:j+1 < n
  ·rw [if_pos h]; rfl
  ·rw [if_neg h,hF (j+1) #[O],hz]; rfl
theorem zlV {k W:Nat} {f:Ps} {F:Nat→Ps} (hk:1≤k) (hF:∀ t,Dg (F t) W) {j x:Nat} (hx:W+k - 1≤x):wr k f F j x=0:=by
 have h:∀ t,mq 0 k f (F t) x=0:=fun t=>zgl (hF t) x #[O]
 cases j with
 | zero=>show 0 + -1*mq 0 k f (F 0) x=0; rw [h]; rfl
 | succ j=>show F j x + -1*mq 0 k f (F (j+1)) x=0; rw [h,hF j x #[O]]; rfl
def zdM (K:af):Sp:=fun vs H Q _=>∃ (p:Int) (k:Nat) (ca qa:Addr) (bs:List Addr) (rows:List (List Int)) (f:List Int),vs = [.int p,.ref ca,.ref qa]∧H ca=some (.tup (bs.map V.ref))∧zal H bs rows∧1≤rows.length∧rows.length≤50∧(∀ r∈rows,1≤r.length∧r.length≤90∧∀ c∈r,0≤c∧c < p)∧H qa=some (.tup (f.map V.int))∧IsP p k f∧1≤k∧k≤5∧5≤p∧p≤97 ∧
 ∀ (l:Addr) (us:List Addr) (k7:List (List Int)) (W:Nat) (H':Hp),H l=none→zt H H'→H' l=some (.tup (us.map V.ref))→zal H' us k7→k7.length=rows.length+1→(∀ r∈rows,r.length≤W)→(∃ r∈rows,r.length=W)→(∀ r∈k7,r.length=W+k - 1∧∀ c∈r,0≤c∧c < p)→(∀ j x,Cg p (gl (k7.getD j []) x) (wr k (gl f) (fun j i=>gl (rows.getD j []) i) j x))→Q (.ref l) H'
theorem zN:FnScope ["p","curve","polynomial","wide","lines","j","line","i","number"] ["p","curve","polynomial"] (zh zae):=#[S]
theorem zdN {fd:FuncData} (T:Txt K mg t) (F:Fun K "_law_with_root" "_law_with_root" zae t.l_with_root fd):FnOk P w K mg base CX0 2 t.l_with_root fd ["p","curve","polynomial"] (zdM K):=by
 obtain⟨m6,lq,lu⟩:=T.f_l_times;have lW:=zdK (P:=P) (w:=w) (base:=base) T lq;refine F.ok zN (fun vs H Q E h=>?_) (fun lB A outer s H vs Q E hr h=>?_)
 ·obtain⟨p,k,ca,qa,bs,rows,f,rfl,_⟩:=h;rfl
 ·obtain⟨p,k,ca,qa,bs,rows,f,rfl,ql,hb,n1,hn,uE,xg,hf,k1,k5,p5,rL,q⟩:=h;apply zbz; intro zX;refine⟨_,#[zf,#[zp,3,zN.nd,(eA rfl),#[zg,#[za8],#[zg,#[zu],#[zl,#[zbZ],T.max_,gg,#[ya,#[zS,(CompSc.of (N':=["line"]) (ix:=[none]) (zh zae) ["p","curve","polynomial","wide","lines","j","line","i","number"] rfl rfl #[N]),#[z7],#[zcH,#[pvx,1]],(fun _ _ _ _=>#[zi,0,(nd_ ["line"]),#[A]]),(fun _ _ _ _=>#[zE]),(fun _ _ _ _=>#[zl,#[zas,(K)],T.len_,bP,#[ya,#[pvx,0]]])]]],#[zl,#[zm],T.len_,bP,#[ya,#[pvx,2]]]],#[ze]]],#[zf,#[zdr,4,zN.nd,#[A],(CompSc.of (N':=["j","wide"]) (ix:=[none,some 3]) (zh zae) ["p","curve","polynomial","wide","lines","j","line","i","number"] rfl rfl #[N]),#[z7],#[zR,T.range_,#[ya,#[zg,#[zu],#[zl,#[zm],T.len_,bP,#[ya,#[pvx,1]]],#[ze]]]],(fun _ _ _ _=>#[zi,0,(nd_ ["j","wide"]),#[A]]),(fun _ _ _ _=>#[zE]),(fun _ _ _ _=>#[zg,#[zbF],#[zac,#[ya,#[ze]]],#[pvx,1]])],#[zf,#[zaj,bp,#[zfq,T.enumerate_,#[ya,#[pvx,1]]],#[zcG,#[zy,#[zi,5,zN.nd,#[A]],#[zy,#[zi,6,zN.nd,#[A]],#[zat]]]],#[zf,#[zaj,bp,#[zfq,T.enumerate_,#[ya,#[pvx,6]]],#[zcG,#[zy,#[zi,7,zN.nd,#[A]],#[zy,#[zi,8,zN.nd,#[A]],#[zat]]]],#[zj,#[zbB,#[zg,#[zB],#[zg,#[zu],#[zI,#[zq],#[zI,#[zq],#[pvx,4],#[zg,#[zu],#[pvx,5],#[ze]]],#[pvx,7]],#[pvx,8]],#[pvx,0]],#[zcb,#[zI,#[zq],#[pvx,4],#[zg,#[zu],#[pvx,5],#[ze]]],#[pvx,7],set_list]]]],#[zj,#[zaj,bp,#[zbH,T.enumerate_,#[ya,#[zF,lW,(hr.mono #[D]),T.m_l_times,lq.kp,lu,#[zak],#[za,#[pvx,0],#[za,#[zO,#[zaA],T.list_,fU,#[ya,#[pvx,6]]],#[ya,#[zO,#[zaA],T.list_,fU,#[ya,#[pvx,2]]]]]]]]],#[zcG,#[zy,#[zi,7,zN.nd,#[A]],#[zy,#[zi,8,zN.nd,#[A]],#[zat]]]],#[zj,#[zbB,#[zg,#[zB],#[zg,#[za8],#[zI,#[zq],#[zI,#[zq],#[pvx,4],#[pvx,5]],#[pvx,7]],#[pvx,8]],#[pvx,0]],#[zcb,#[zI,#[zq],#[pvx,4],#[pvx,5]],#[pvx,7],set_list]]]]]]],#[zj,#[zQ,#[zO,#[zam],T.tuple_,eH,#[ya,#[zS,(CompSc.of (N':=["line"]) (ix:=[none]) (zh zae) ["p","curve","polynomial","wide","lines","j","line","i","number"] rfl rfl #[N]),#[z7],#[zao,#[pvx,4]],(fun _ _ _ _=>#[zi,0,(nd_ ["line"]),#[A]]),(fun _ _ _ _=>#[zE]),(fun _ _ _ _=>#[zO,(zbN (K:=K) rfl),T.tuple_,eH,#[ya,#[pvx,0]]])]]]]]]]],?_⟩;apply zll; intro wO qN oP;have n0:=br;have pL:=hb.length;have oO:f.length=k:=hf.1;refine⟨_,rfl,ca,rfl,⟨_,kT.of ql⟩,zbV (K:=K) (xs:=bs.map V.ref) (fs:=(zM rows).map V.int) (kT.of ql) (by unfold zM; rw [ab,ab,ab]; lia) (by rw [ab]; lia) ?_ ?_⟩
  ·intro j x y R B hx hy hR;obtain⟨b,rfl,BB⟩:=zG hx;obtain⟨r,k8,lQ⟩:=Paired.get hb BB;have rY:y = .int (r.length:Int):=by
    unfold zM at hy;rw [ah,ah,k8] at hy;exact (bf hy).symm
   subst rY;refine gY ⟨_,rfl,b,_,rfl,.inr (kT.of lQ),?_⟩;rw [ab];exact hR
  intro D hD;have u1:=zc (o:=.lst ((zM rows).map V.int)) hD;have k4:zM rows≠[]:=fun e=>by
   have:=congrArg iA e;unfold zM at this;rw [ab] at this;have:rows.length=0:=this;lia
  refine⟨D,zM rows,rfl,kP.of zb,k4,fun M rM tR=>?_⟩;obtain⟨W,rfl,hW,vD⟩:∃ W:Nat,M=(W:Int)∧(∀ r∈rows,r.length≤W)∧∃ r∈rows,r.length=W:=by
   obtain⟨r,k8,e⟩:=aJ.mp rM;refine⟨r.length,e.symm,fun r2 h2=>?_,r,k8,rfl⟩;have:=tR _ (aJ.mpr ⟨r2,h2,rfl⟩);lia
  have hW1:1≤W∧W≤90:=by
   obtain⟨r,k8,e⟩:=vD;have:=uE r k8;lia
  generalize kR H D (.lst ((zM rows).map V.int))=H1 at u1 ⊢;have hWk:((W:Int)+(((f.map V.int).length:Nat):Int) - 1)=((W+k - 1:Nat):Int):=by rw [ab,oO]; lia
  refine⟨_,rfl,qa,_,rfl,.inr (kT.of (u1 _ _ xg)),_,_,rfl,rfl,_,_,rfl,rfl,?_⟩;show zaI 3 (.int ((W:Int)+(((f.map V.int).length:Nat):Int) - 1)) _ _ _;rw [hWk];obtain⟨Wd,hWd⟩:∃ Wd,W+k - 1=Wd:=⟨_,rfl⟩;rw [hWd];have hWd1:1≤Wd∧Wd≤94:=by lia
  have eN:((((bs.map V.ref).length:Nat):Int)+1)=((rows.length+1:Nat):Int):=by rw [ab,pL]; rfl
  refine⟨_,rfl,ca,_,rfl,.inr (kT.of (u1 _ _ ql)),_,_,rfl,rfl,_,rfl,by rw [eN]; lia,by rw [eN]; lia,?_⟩;show cGo _ _ _ _ (Itr 0 ((((bs.map V.ref).length:Nat):Int)+1).toNat) _ _;rw [eN];refine zY (n:=rows.length+1) (fun m ys H'=>zt H1 H'∧∃ ls:List Addr,ys=ls.map V.ref∧LsA H' ls (ap m (ap Wd (0:Int)))∧ls.Nodup∧∀ b∈ls,H b=none) ⟨fun _ _ e=>e,[],rfl,.nil,iS,fun b hb=>by cases hb⟩ (fun m ys H' hm _=>by show m < ((rows.length+1:Nat):Int).toNat; lia) (fun ys H' _=>by show ((rows.length+1:Nat):Int).toNat≤rows.length+1; lia) ?_ ?_
  ·rintro m x ys H2 H3 hm ⟨s2,ls,rfl,lh,nd,fr⟩ ⟨rfl,rfl⟩;have hz:ls.length=m:=by rw [bn lh,aH]
   refine⟨by show 1≤sizeLine; lia,fun z hz=>⟨_,rfl,z,_,[.int 0],rfl,rfl,zb,#[O],#[O],by show 1*(Wd:Int).toNat≤sizeLine; lia,fun y hy=>?_⟩⟩;rw [show (Wd:Int).toNat=Wd by lia,bC];have v1:=(zc (o:=.lst [.int 0]) hz).trans (zc (o:=.lst (ap Wd (V.int 0))) hy);have hyH:H3 y=none:=(zc (o:=.lst [.int 0]) hz).free hy;refine⟨by rw [ab]; lia,s2.trans v1,ls++[y],#[M],?_,?_,?_⟩
   ·rw [List.replicate_succ'];exact b8 (lh.same v1) (by rw [zb,cr])
   ·exact di.mpr ⟨nd,#[M],fun a ha b hb e=>by
     obtain rfl:=aS.mp hb;subst e;exact zg7 lh hyH ha⟩
   ·intro b hb;rcases (aT.mp hb) with hb | hb
    ·exact fr b hb
    ·(rw [aS.mp hb])
     exact (u1.trans s2).free hyH
  rintro ys H2 L ⟨s2,ls,rfl,lh,nd,fr⟩ hL;have qg:ls.length=rows.length+1:=by rw [bn lh,aH]
  have v2:=zc (o:=.lst (ls.map V.ref)) hL;have uN:Lin H (kR H2 L (.lst (ls.map V.ref))) L ls (ap (rows.length+1) (ap Wd (0:Int))):=⟨(u1.trans s2).trans v2,zb,lh.same v2,nd,zg7 lh hL,fr⟩;generalize kR H2 L (.lst (ls.map V.ref))=H3 at uN ⊢;have hG0:Gd p (rows.length+1) Wd (ap (rows.length+1) (ap Wd (0:Int))) (wt k (gl f) (fun j i=>gl (rows.getD j []) i) 0):=⟨aH,fun r hr=>by
    rw [cu hr];exact⟨aH,fun c hc=>by rw [cu hc]; lia⟩,fun j x hj hx=>by
    rw [zkK,au,bO,if_pos hj];exact Cg.of_eq (zbg (by rw [fK,bO,if_pos hx]))⟩
  refine⟨_,rfl,ca,_,rfl,kT.of (uN.s _ _ ql),zbU (n:=rows.length) (fun t σ H'=>∃ (vv:List (List Int)) (e5 e6 e7 e8:Option V),σ = [some (.int p),some (.ref ca),some (.ref qa),some (.int (Wd:Int)),some (.ref L),e5,e6,e7,e8]∧Lin H H' L ls vv∧Gd p (rows.length+1) Wd vv (wt k (gl f) (fun j i=>gl (rows.getD j []) i) t))
   ⟨_,none,none,none,none,rfl,uN,hG0⟩ ?_ ?_ ?_ ?_⟩
  ·rintro i σ H4 hi ⟨vv,e5,e6,e7,e8,rfl,pz,t4⟩;exact⟨_,.ref (bs[i]'#[O]),kT.of (pz.s _ _ ql),by rw [ah,ak #[O]]; rfl⟩
  ·rintro σ H4 ⟨vv,e5,e6,e7,e8,rfl,pz,t4⟩;exact⟨_,kT.of (pz.s _ _ ql),by rw [ab]; lia⟩
  ·rintro zD zT j x σ H4 H5 hj ⟨vv,e5,e6,e7,e8,rfl,pz,t4⟩ ⟨T1,v,hT1,rfl,rfl,hv⟩;obtain⟨lb,rfl,vC⟩:=zG (hv _ (kT.of (pz.s _ _ ql)));obtain⟨r,k8,lQ⟩:=Paired.get hb vC;obtain⟨r1,r90,qV⟩:=uE r (az k8);have hrW:=hW r (az k8);have er:rows.getD j []=r:=by rw [au,k8]; rfl
   have BL:=pz.same (zc (o:=.tup [.int (j:Int),.ref lb]) hT1);refine⟨T1,_,rfl,kT.of zb,rfl,_,_,rfl,_,_,rfl,rfl,?_⟩;generalize kR H4 T1 (.tup [.int (j:Int),.ref lb])=H5 at BL ⊢;apply ziF; intro zM2;have hF:∀ x,gl (rows.getD j []) x=gl r x:=fun x=>by rw [er]
   refine⟨_,rfl,lb,_,rfl,kT.of (BL.s _ _ lQ),zbU (n:=r.length) (fun i σ H'=>∃ (vv:List (List Int)) (e7 e8:Option V),σ = [some (.int p),some (.ref ca),some (.ref qa),some (.int (Wd:Int)),some (.ref L),some (.int (j:Int)),some (.ref lb),e7,e8]∧Lin H H' L ls vv∧Gd p (rows.length+1) Wd vv (fun a x=>wt k (gl f) (fun j i=>gl (rows.getD j []) i) j a x+if a=j+1∧x < i then gl r x else 0))
    ⟨vv,_,_,rfl,BL,t4.eq fun a x _ _=>Cg.of_eq (by rw [if_neg #[O],bV])⟩ ?_ ?_ ?_ ?_⟩
   ·rintro i σ H6 hi ⟨xj,e7,e8,rfl,qY,uO⟩;exact⟨_,.int (r[i]'(hi)),kT.of (qY.s _ _ lQ),by rw [ah,ak hi]; rfl⟩
   ·rintro σ H6 ⟨xj,e7,e8,rfl,qY,uO⟩;exact⟨_,kT.of (qY.s _ _ lQ),by rw [ab]; exact ag _⟩
   ·rintro yw BM i x σ H6 H7 hi ⟨xj,e7,e8,rfl,qY,uO⟩ ⟨T2,v2,BN,rfl,rfl,BO⟩;obtain⟨y,rfl,hy⟩:=zaB (BO _ (kT.of (qY.s _ _ lQ)));have xi:gl r i=y:=zbg hy;have tS:=qY.same (zc (o:=.tup [.int (i:Int),.int y]) BN);refine⟨T2,_,rfl,kT.of zb,rfl,_,_,rfl,_,_,rfl,rfl,?_⟩;generalize kR H6 T2 (.tup [.int (i:Int),.int y])=H7 at tS ⊢;obtain⟨b,nO⟩:∃ b,ls[j+1]? = some b:=⟨ls[j+1]'#[O],ak #[O]⟩;obtain⟨row,nu,hB⟩:=Paired.get tS.a nO;have uI:xj.getD (j+1) []=row:=by rw [au,nu]; rfl
    have nQ:=(uO.gw row (az nu)).1;have xk:i < row.length:=by lia
    have qZ:atI (ls.map V.ref) ((j:Int)+1)=some (.ref b):=zaH (j:=j+1) (by rw [ah,nO]; rfl);refine⟨_,rfl,_,rfl,_,_,rfl,rfl,L,_,_,_,rfl,rfl,kP.of tS.l,qZ,_,rfl,b,_,_,_,rfl,rfl,kP.of hB,zey xk,_,rfl,_,_,rfl,rfl,_,rfl,_,_,rfl,rfl,#[O],?_⟩;refine⟨_,rfl,_,rfl,_,_,rfl,rfl,L,_,_,_,rfl,rfl,kP.of tS.l,qZ,_,rfl,b,_,_,i,rfl,rfl,hB,zc5 (by rw [ab]; exact xk),?_⟩;have e1:(row.map V.int).set i (.int ((gl row i+y) % p))=(row.set i ((gl row i+y) % p)).map V.int:=by rw [eB]
    rw [e1];have hc:=uO.gc (j+1) i #[O] #[O];rw [uI,if_neg #[O],bV] at hc;have hs:=uO.set (G':=fun a x=>wt k (gl f) (fun j i=>gl (rows.getD j []) i) j a x+if a=j+1∧x < i+1 then gl r x else 0) (j0:=j+1) (i0:=i) (v:=(gl row i+y) % p) #[O] #[O] (aV _ #[O]) (aP _ #[O]) (by
     rw [if_pos #[O],xi];exact (Cg.emod p _).trans (hc.add (Cg.refl p y))) (fun a x we=>by
     by_cases h1:a=j+1∧x < i
     ·rw [if_pos h1,if_pos #[O]]
     ·rw [if_neg h1,if_neg #[O]])
    rw [uI] at hs;exact⟨_,_,_,rfl,tS.set nO,hs⟩
   ·rintro σ H6 ⟨xj,e7,e8,rfl,qY,uO⟩;refine⟨_,rfl,_,rfl,lb,_,rfl,.inr (kT.of (qY.s _ _ lQ)),fun x1 qf=>?_⟩;have w1:=zc (o:=.lst (r.map V.int)) qf;refine⟨_,rfl,qa,_,rfl,.inr (kT.of ((qY.same w1).s _ _ xg)),fun x2 qJ=>?_⟩;have w2:=zc (o:=.lst (f.map V.int)) qJ;refine⟨p,x1,x2,r,f,rfl,w2 _ _ zb,zb,#[O],#[O],#[O],#[O],p5,rL,qV,fun ra rs H8 BE w3 h8r nQ BF qk=>?_⟩;have BJ:=((qY.same w1).same w2).same w3;have BP:ra∉ls:=zg7 ((qY.same w1).same w2).a BE;have qX:∀ x,Cg p (gl rs x) (mq 0 k (gl f) (gl (rows.getD j [])) x):=fun x=>by
     have e:=zhi (zdL r) (zdL f);rw [oO] at e;rw [er,← e];exact qk x
    refine⟨ra,_,rfl,kP.of h8r,zbU (n:=rs.length) (fun i σ H'=>∃ (vv:List (List Int)) (e7 e8:Option V),σ = [some (.int p),some (.ref ca),some (.ref qa),some (.int (Wd:Int)),some (.ref L),some (.int (j:Int)),some (.ref lb),e7,e8]∧H' ra=some (.lst (rs.map V.int))∧Lin H H' L ls vv∧Gd p (rows.length+1) Wd vv (fun a x=>wt k (gl f) (fun j i=>gl (rows.getD j []) i) j a x+(if a=j+1 then gl r x else 0) + -1*if a=j∧x < i then gl rs x else 0))
     ⟨xj,_,_,rfl,h8r,BJ,uO.eq fun a x _ _=>Cg.of_eq (by
      rw [if_neg (show ¬ (a=j∧x < 0) by lia),dF,bV];by_cases h1:a=j+1
      ·rw [if_pos h1];by_cases h2:x < r.length
       ·rw [if_pos ⟨h1,h2⟩]
       ·rw [if_neg (fun z=>h2 z.2),zaQ (w:=r) #[O]]
      ·rw [if_neg h1,if_neg (fun z=>h1 z.1)])⟩ ?_ ?_ ?_ ?_⟩
    ·rintro i σ H9 hi ⟨xl,e7,e8,rfl,uP,rO,uQ⟩;exact⟨_,.int (rs[i]'(hi)),kP.of uP,by rw [ah,ak hi]; rfl⟩
    ·rintro σ H9 ⟨xl,e7,e8,rfl,uP,rO,uQ⟩;exact⟨_,kP.of uP,by rw [ab]; exact ag _⟩
    ·rintro yw BM i x σ H9 Ha hi ⟨xl,e7,e8,rfl,uP,rO,uQ⟩ ⟨T2,v2,BN,rfl,rfl,BO⟩;obtain⟨y,rfl,hy⟩:=zaB (BO _ (kP.of uP));have xi:gl rs i=y:=zbg hy;have wT:=zc (o:=.tup [.int (i:Int),.int y]) BN;have uR:=rO.same wT;have yp:=wT _ _ uP;refine⟨T2,_,rfl,kT.of zb,rfl,_,_,rfl,_,_,rfl,rfl,?_⟩;generalize kR H9 T2 (.tup [.int (i:Int),.int y])=Ha at wT uR yp ⊢;obtain⟨b,nO⟩:∃ b,ls[j]? = some b:=⟨ls[j]'#[O],ak #[O]⟩;have BQ:ra≠b:=fun e=>BP (by rw [e]; exact az nO)
     obtain⟨row,nu,hB⟩:=Paired.get uR.a nO;have uI:xl.getD j []=row:=by rw [au,nu]; rfl
     have hrwl:=(uQ.gw row (az nu)).1;have xk:i < row.length:=by lia
     have qZ:atI (ls.map V.ref) (j:Int)=some (.ref b):=zaH (j:=j) (by rw [ah,nO]; rfl);refine⟨_,rfl,_,rfl,L,_,_,_,rfl,rfl,kP.of uR.l,qZ,_,rfl,b,_,_,_,rfl,rfl,kP.of hB,zey xk,_,rfl,_,_,rfl,rfl,_,rfl,_,_,rfl,rfl,#[O],?_⟩;refine⟨_,rfl,_,rfl,L,_,_,_,rfl,rfl,kP.of uR.l,qZ,_,rfl,b,_,_,i,rfl,rfl,hB,zc5 (by rw [ab]; exact xk),?_⟩;have e1:(row.map V.int).set i (.int ((gl row i - y) % p))=(row.set i ((gl row i - y) % p)).map V.int:=by rw [eB]
     rw [e1];have hc:=uQ.gc j i #[O] #[O];rw [uI,if_neg (show ¬ (j=j∧i < i) by lia),dF,bV] at hc;have hs:=uQ.set (G':=fun a x=>wt k (gl f) (fun j i=>gl (rows.getD j []) i) j a x+(if a=j+1 then gl r x else 0) + -1*if a=j∧x < i+1 then gl rs x else 0) (j0:=j) (i0:=i) (v:=(gl row i - y) % p) #[O] #[O] (aV _ #[O]) (aP _ #[O]) (by
      rw [if_pos (show j=j∧i < i+1 by lia),xi];exact (Cg.emod p _).trans ((hc.sub (Cg.refl p y)).trans (Cg.of_eq #[O]))) (fun a x we=>by
      by_cases h1:a=j∧x < i
      ·rw [if_pos h1,if_pos (show a=j∧x < i+1 by lia)]
      ·rw [if_neg h1,if_neg (show ¬ (a=j∧x < i+1) by lia)])
     rw [uI] at hs;exact⟨_,_,_,rfl,by rw [zk BQ]; exact yp,uR.set nO,hs⟩
    ·rintro σ H9 ⟨xl,e7,e8,rfl,uP,rO,uQ⟩;refine⟨xl,_,_,_,_,rfl,rO,uQ.eq fun a x _ _=>?_⟩;rw [zkL,hF];refine ((Cg.refl p _)).add ((Cg.refl p (-1)).mul ?_);by_cases h1:a=j
     ·rw [if_pos h1];by_cases h2:x < rs.length
      ·rw [if_pos ⟨h1,h2⟩];exact qX x
      ·rw [if_neg (fun z=>h2 z.2)];have:=qX x;rw [zaQ (w:=rs) #[O]] at this;exact this
     ·rw [if_neg h1,if_neg (fun z=>h1 z.1)];exact Cg.refl _ _
  ·rintro σ H4 ⟨vv,e5,e6,e7,e8,rfl,pz,t4⟩;have ug:=t4.gn;have hlsv:=bn pz.a;refine⟨_,rfl,L,rfl,⟨_,kP.of pz.l⟩,zY (n:=rows.length+1) (fun m ys H'=>zt H4 H'∧∃ us:List Addr,ys=us.map V.ref∧zal H' us (vv.take m)) ⟨fun _ _ e=>e,[],rfl,.nil⟩ ?_ ?_ ?_ ?_⟩
   ·rintro m ys H7 hm ⟨s7,_⟩;exact⟨_,.ref (ls[m]'#[O]),kP.of (s7 _ _ pz.l),by rw [ah,ak #[O]]; rfl⟩
   ·rintro ys H7 ⟨s7,_⟩;exact⟨_,kP.of (s7 _ _ pz.l),by rw [ab]; lia⟩
   ·rintro m z ys H7 H8 hm ⟨s7,us,rfl,k9⟩ ⟨rfl,hx⟩;obtain⟨b,rfl,qP⟩:=zG (hx _ (kP.of (s7 _ _ pz.l)));obtain⟨r,hr,qQ⟩:=Paired.get pz.a qP;have hz:us.length=m:=by rw [bn k9,aL]; lia
    refine gY ?_;refine⟨_,rfl,b,_,rfl,.inl ⟨kP.of (s7 _ _ qQ),fun D hD=>⟨by rw [ab]; lia,s7.trans (zc hD),us++[D],#[M],?_⟩⟩⟩;rw [take_snoc hr];exact b8 (k9.same (zc hD)) zb
   ·rintro ys H7 D ⟨s7,us,rfl,k9⟩ hD;rw [aQ #[O]] at k9;refine⟨D,_,rfl,.inl ⟨kP.of zb,fun l hl=>?_⟩⟩;have sf:=(pz.s.trans s7).trans (zc (o:=.lst (us.map V.ref)) hD);refine q l us vv W _ (sf.free hl) (sf.trans (zc hl)) zb ((k9.same (zc hD)).same (zc hl)) ug hW vD (by rw [hWd]; exact t4.gw) fun j x=>?_
    have BR:∀ t,rows.length≤t→(fun j i=>gl (rows.getD j []) i) t=fun _=>0:=fun t ht=>by
     funext i;show gl (rows.getD t []) i=0;rw [zbR ht];rfl
    by_cases hj:j < rows.length+1
    ·by_cases hx:x < Wd
     ·exact (t4.gc j x hj hx).trans (Cg.of_eq (zlU BR j x hj))
     ·rw [zaQ (by rw [(t4.gw _ (getD_mem #[O])).1]; lia)];refine Cg.of_eq (zlV k1 (W:=W) (fun t=>?_) #[O]).symm;by_cases ht:t < rows.length
      ·exact (zdL _).le (hW _ (getD_mem ht))
      ·intro i _;rw [zbR #[O]];rfl
    ·rw [zbR #[O]];refine Cg.of_eq ?_;obtain⟨j',rfl⟩:∃ j',j=j'+1:=⟨j - 1,#[O]⟩;show 0=(fun j i=>gl (rows.getD j []) i) j' x + -1*mq 0 k (gl f) ((fun j i=>gl (rows.getD j []) i) (j'+1)) x;rw [BR j' #[O],BR (j'+1) #[O],(zaX 0 k (gl f)).z];rfl
end
section
variable {P:Program} {w:World} {K:af} {mg:Str→Option Value} {base:Heap} {t:Adr}
theorem zf0 (p:Int) (q:List Int):(zbx p q).Nodup:=by
 unfold zbx;refine cF.mpr (gK (fun {a b} vo e=>vo ?_) gX);have:=ig e;injection this with h
 exact Int.ofNat.inj h
theorem zdO {p:Int}:∀ {qs:List (List Int)},qs.Nodup→(qs.flatMap (zbx p)).Nodup
 | [],_=>iS
 | q :: qs,h=>by
  obtain⟨h1,h2⟩:=cj.mp h;rw [gJ];refine di.mpr ⟨zf0 p q,zdO h2,fun a ha b hb e=>?_⟩;subst e;obtain⟨q',oM,mi⟩:=g8.mp hb;unfold zbx at ha mi;obtain⟨n,_,e1⟩:=aJ.mp ha;obtain⟨m,_,e2⟩:=aJ.mp mi;have:q=q':=by
   have:=congrArg List.dropLast (e1.trans e2.symm);simpa using this
  exact h1 (this ▸ oM)
def ziq (K:af):Sp:=fun vs H Q _=>∃ (p:Int) (k:Nat),vs = [.int p,.int (k:Int)]∧0 < p∧p≤97∧k≤2 ∧
 ∀ (l:Addr) (rs:List Addr) (qs:List (List Int)) (H':Hp),H l=none→zt H H'→H' l=some (.lst (rs.map V.ref))→zal H' rs qs→qs.length≤10000→qs.Nodup→(∀ q,q∈qs↔IsP p k q)→Q (.ref l) H'
theorem zbj:FnScope ["p","k","found","step","longer","one"] ["p","k"] (zh zcE):=#[S]
theorem zjR {fd:FuncData} (T:Txt K mg t) (F:Fun K "_law_all" "_law_all" zcE t.l_all fd):FnOk P w K mg base CX0 1 t.l_all fd ["p","k"] (ziq K):=by
 refine F.ok zbj (fun vs H Q E h=>?_) (fun lB A outer s H vs Q E hr h=>?_)
 ·obtain⟨p,k,rfl,_⟩:=h;rfl
 ·obtain⟨p,k,rfl,p0,p1,hk,q⟩:=h;apply zbz; intro zX;refine⟨_,#[zf,#[zp,2,zbj.nd,#[A],#[zac,#[ya,#[zbl,#[zd]]]]],#[zf,#[zaj,bp,#[zR,T.range_,#[ya,#[pvx,1]]],#[zi,3,zbj.nd,#[A]],#[zf,#[zp,4,zbj.nd,#[A],#[zac,#[zd]]],#[zf,#[zaj,bp,#[zao,#[pvx,2]],#[zi,5,zbj.nd,(eA rfl)],#[zj,#[zcj,#[zed,cE,PySem.F.slot_list_extend,PySem.F.type_list_extend,(@zhz _),#[pvx,4],#[ya,#[zS,(CompSc.of (N':=["number","one"]) (ix:=[none,some 5]) (zh zcE) ["p","k","found","step","longer","one"] rfl rfl #[N]),#[z7],#[zR,T.range_,#[ya,#[pvx,0]]],(fun _ _ _ _=>#[zi,0,(nd_ ["number","one"]),#[A]]),(fun _ _ _ _=>#[zE]),(fun _ _ _ _=>#[zg,(@zep _ (K) rfl),#[pvx,1],#[zbl,#[ya,#[pvx,0]]]])]]]]]],#[zj,#[zp,2,zbj.nd,#[A],#[pvx,4]]]]]],#[zj,#[zQ,#[pvx,2]]]]],?_⟩;apply zhC; intro qN oP;have n0:=br;refine⟨bj _,fun E0 hE0=>⟨by show 1≤sizeLine; lia,fun c hc=>?_⟩⟩;have u0:=zc (o:=.tup []) hE0;have u1:=zc (o:=.lst [.ref E0]) hc;refine⟨_,rfl,_,rfl,#[O],#[O],?_⟩;rw [cY];refine zad (lo:=0) (n:=k) (fun i σ H'=>∃ (f:Addr) (rs:List Addr) (qs:List (List Int)) (e3 e4 e5:Option V),σ = [some (.int p),some (.int k),some (.ref f),e3,e4,e5]∧H f=none∧zt H H'∧H' f=some (.lst (rs.map V.ref))∧zal H' rs qs∧qs.length≤97 ^ i∧qs.Nodup∧∀ x,x∈qs↔IsP p i x)
   ⟨c,[E0],[[]],none,none,none,rfl,u0.free hc,u0.trans u1,zb,.cons (u1 _ _ zb) .nil,ag _,#[M],fun x=>?_⟩ ?_ ?_
  ·rw [aS];exact⟨fun e=>by subst e; exact⟨rfl,#[M]⟩,fun e=>fu.mp e.1⟩
  ·rintro zD zT i σ H1 hi ⟨f,rs,qs,e3,e4,e5,rfl,hf,s1,xm,hT,vE,BS,lx⟩;have nQ:=hT.length;have h97:97 ^ i≤97 ^ 1:=eI #[D] #[O];have BU:97 ^ (i+1)=97 ^ i*97:=hV ..;refine⟨bj _,fun D hD=>?_⟩;have s0:=zc (o:=.lst []) hD;have hfD:f≠D:=zA xm hD;refine⟨_,rfl,f,rfl,⟨_,kP.of (s0 _ _ xm)⟩,zeg (K:=K) (a:=f) (xs:=rs.map V.ref) (fun j σ H'=>∃ (us:List Addr) (e3 e5:Option V),σ = [some (.int p),some (.int k),some (.ref f),e3,some (.ref D),e5]∧zt H1 H'∧H' D=some (.lst (us.map V.ref))∧zal (hide H' D) us ((qs.take j).flatMap (zbx p)))
    ⟨[],_,_,rfl,s0,zb,.nil⟩ (fun j σ H' _ ⟨_,_,_,_,s3,_⟩=>kP.of (s3 _ _ xm)) ?_ ?_⟩
   ·rintro zD zT j y σ H2 hy ⟨us,e3,e5,rfl,s2,xn,k9⟩;obtain⟨ob,rfl,hob⟩:=zG hy;obtain⟨qq,BV,lQ⟩:=Paired.get hT hob;have sF:=k9.length;rw [zcw,aL] at sF;have rQ:j < qs.length:=(bg.mp BV).1;have yh:qq.length=i:=((lx qq).mp (az BV)).1;have yf:=zcw (p:=p) qs;have wj:((qs.take j).length)*p.toNat≤97*97:=eC (by rw [aL]; lia) #[O];rw [aL] at wj;refine⟨_,rfl,.inl ⟨rfl,_,kP.of xn⟩,_,rfl,p,rfl,#[O],#[O],zY (n:=p.toNat) (fun m ys H'=>zt H2 H'∧∃ vs:List Addr,ys=vs.map V.ref∧zal (hide H' D) vs ((aD m).map fun n:Nat=>qq++[(n:Int)])) ⟨fun _ _ e=>e,[],rfl,.nil⟩ (fun m ys H' hm _=>hm) (fun ys H' _=>ag _) ?_ ?_⟩
    ·rintro m y ys H4 H5 hm ⟨s4,vs,rfl,sI⟩ ⟨rfl,rfl⟩;have ug:=sI.length;rw [ab,aU] at ug;have uH:=s4 _ _ xn;have rW:(vs.map V.ref).length < sizeLine:=by rw [ab]; lia
     have BW:=(s2.trans s4) _ _ lQ;have z0:(0:Int)+(m:Int)=(m:Int):=by lia
     refine gY ⟨_,rfl,_,rfl,by show 1≤sizeLine; lia,fun tb BX=>?_⟩;have v5:=zc (o:=.tup [.int (0+(m:Int))]) BX;have htD:tb≠D:=fun e=>by rw [e,uH] at BX; cases BX
     refine⟨ob,tb,qq.map V.int,[.int (0+(m:Int))],rfl,rfl,kT.of (v5 _ _ BW),kT.of zb,#[M],by rw [ab]; show qq.length+1≤sizeLine; lia,fun hx=>?_,fun hx r k8=>?_⟩
     ·refine⟨rW,s4.trans v5,vs++[tb],by rw [aw]; rfl,?_⟩;rw [dQ,aw];refine b8 (sI.same (zbW v5)) (zcn ?_ htD);rw [zb,aw,hx,z0];rfl
     ·have v6:=zc (o:=.tup (qq.map V.int++[.int (0+(m:Int))])) k8;have hrD:r≠D:=fun e=>by rw [e,v5 _ _ uH] at k8; cases k8
      refine⟨rW,s4.trans (v5.trans v6),vs++[r],by rw [aw]; rfl,?_⟩;rw [dQ,aw];refine b8 (sI.same (zbW (v5.trans v6))) (zcn ?_ hrD);rw [zb,aw,z0];rfl
    ·rintro ys H4 Dc ⟨s4,vs,rfl,sI⟩ hDc;have v6:=zc (o:=.lst (vs.map V.ref)) hDc;have uH:=s4 _ _ xn;have ug:=sI.length;rw [ab,aU] at ug;refine⟨D,Dc,us.map V.ref,vs.map V.ref,rfl,rfl,v6 _ _ uH,zb,by rw [ab,ab]; lia,?_⟩;refine⟨us++vs,_,_,rfl,z9 (s2.trans (s4.trans v6)) hD,by rw [zb,aw],?_⟩;rw [ziU,zhX BV];exact zbb (k9.same (zbW (s4.trans v6))) (sI.same (zbW v6))
   ·rintro σ H2 ⟨us,e3,e5,rfl,s2,xn,k9⟩;rw [ab,nQ,c7] at k9;refine⟨_,rfl,D,us,_,_,_,_,rfl,s1.free hD,s1.trans s2,xn,k9.same (zfv H2 D),?_,zdO BS,zje lx⟩;rw [zcw,BU];exact eC vE #[O]
  ·rintro σ H1 ⟨f,rs,qs,e3,e4,e5,rfl,hf,s1,xm,hT,vE,BS,lx⟩;have h97:97 ^ k≤97 ^ 2:=eI #[D] hk;exact⟨_,rfl,q f rs qs H1 hf s1 xm hT #[O] BS lx⟩
end
section
variable {P:Program} {w:World} {K:af} {mg:Str→Option Value} {base:Heap} {t:Adr}
theorem zb6 {H:Hp} {Q:VK} {a b:Addr} {xs ys:List V} (ha:kP K H a xs) (hb:kP K H b ys) (hl:xs.length=ys.length) (he:∀ (j:Nat) x y,xs[j]? = some x→ys[j]? = some y→EqD K H 8 x y true) (q:Q (.bl false) H):zlr K true (.ref a) (.ref b) H Q:=by
 refine⟨a,b,_,_,rfl,rfl,.inl ⟨ha,hb⟩,.inr ⟨hl,fun _=>true,he,?_⟩⟩;have:(aD xs.length).all (fun _=>true)=true:=by simp
 rw [this];exact q
theorem zjS (xs:List V) (j:Nat):zbm xs none (some (j:Int))=xs.take j:=by
 unfold zbm;rw [HT.sIx_nat,HT.sIx_none];by_cases h:j≤xs.length
 ·rw [dP h];simp
 ·rw [Nat.min_eq_right #[O]];simp;exact (aQ #[O]).symm
theorem zgy {H:Hp}:∀ {rs:List Addr} {qs:List (List Int)},zal H rs qs→(rs.zip qs).map (·.1)=rs∧(rs.zip qs).map (·.2)=qs∧∀ x∈rs.zip qs,H x.1=some (.tup (x.2.map V.int))
 | _,_,.nil=>⟨rfl,rfl,fun q hq=>by cases hq⟩
 | _,_,.cons h t=>by
  obtain⟨e1,e2,e3⟩:=zgy t;refine⟨by simp [e1],by simp [e2],fun q hq=>?_⟩;rcases (aN.mp hq) with rfl | hq
  ·exact h
  ·exact e3 q hq
theorem zdP {ps:List (Addr×List Int)} {rs:List Addr} (h:ps.map (·.1)=rs):(ps.map fun q=>V.ref q.1)=rs.map V.ref:=by
 rw [← h,dD];rfl
theorem zf1 {H:Hp} {p:Int} {k:Nat} {ps mo:List (Addr×List Int)} {fq:List (List Int)} (p0:0 < p) (nd:(ps.map (·.2)).Nodup) (hR:zfE p k fq) (z2:∀ q,q∈ps.map (·.2)↔q∈fq) (z3:∀ x∈ps,H x.1=some (.tup (x.2.map V.int))) (hp:mo.Perm ps) (xb:mo.Pairwise fun a b=>Srt.num p a.2≤Srt.num p b.2):zal H (mo.map (·.1)) fq∧mo.length=fq.length:=by
 have mR:=hp.map (·.2);have e:mo.map (·.2)=fq:=zeW (zg4 #[O] (fun x hx=>hR.1 x ((z2 x).mp (mR.mem_iff.mp hx))) (mR.nodup_iff.mpr nd) (cF.mpr xb)) hR fun q=>mR.mem_iff.trans (z2 q)
 refine⟨?_,by rw [← e,ab]⟩;rw [← e];exact zal.of fun q hq=>z3 q (hp.mem_iff.mp hq)
theorem zlW {C P G:Prop} (hp:C→P) (h:(C→P)→G):G:=h hp
theorem zdQ {p:Int} {fl:List Int} {L:Ps} (hr:∀ c∈fl,0≤c∧c < p) (hc:∀ x,Cg p (gl fl x) (L x)) (hz:Zr p L) (M:Int) (hM:M∈fl):M=0:=by
 obtain⟨x,hx⟩:=bY.mp hM;have h:=(hc x).trans (hz x);rw [zbg hx] at h;obtain⟨m0,m1⟩:=hr M hM;exact h.eq m0 m1 (bF _) #[O]
theorem zgz {p:Int} {fl:List Int} {L:Ps} (hc:∀ x,Cg p (gl fl x) (L x)) (hn:∀ c∈fl,0≤c) (hm:∀ c∈fl,c≤0):Zr p L:=fun x=>by
 refine (hc x).symm.trans (Cg.of_eq ?_);by_cases h:x < fl.length
 ·have rC:=az (zbM h);have:=hn _ rC;have:=hm _ rC;lia
 ·exact zaQ #[O]
theorem zgA {xs:List V} {v:V}:zbm (xs++[v]) none (some (-1))=xs:=by
 have e:HT.sIx (xs++[v]).length (xs++[v]).length (some (-1))=xs.length:=by
  show (if (-1:Int) < 0 then ((-1:Int)+((xs++[v]).length:Int)).toNat else min (-1:Int).toNat (xs++[v]).length)=_;rw [if_pos #[D],aA,fR];lia
 unfold zbm;rw [HT.sIx_none,e,d6,d8,List.take_append_of_le_length (ag _),c7]
open Classical in
noncomputable def isR (p:Int) (k:Nat) (rws:List (List Int)) (q:Addr×List Int):Bool:=decide (Zr p (AL k (gl q.2) rws.length fun t i=>gl (rws.getD t []) i))
theorem zdj {p:Int} {k:Nat} {rws:List (List Int)} {q:Addr×List Int}:isR p k rws q=true↔Zr p (AL k (gl q.2) rws.length fun t i=>gl (rws.getD t []) i):=by
 unfold isR;exact @decide_eq_true_iff _ (fv _)
theorem zjT {H:Hp} {a lg:Addr} {xs ys:List V} (h:H a=some (.tup xs)) (hl:H lg=some (.lst ys)):a≠lg:=fun e=>by rw [e,hl] at h; cases h
structure Cv13 (p:Int) (k j:Nat) (rws qs:List (List Int)):Prop where
 l1:1≤rws.length
 l2:rws.length≤3+j
 w:∀ r∈rws,1≤r.length∧r.length≤8+4*j∧∀ c∈r,0≤c∧c < p
 nz:∃ t i,¬ Cg p (gl (rws.getD t []) i) 0
 q:∀ f∈qs,IsP p k f∧Zr p (AL k (gl f) rws.length fun t i=>gl (rws.getD t []) i)
theorem zir {p:Int} {k:Nat} {rows:List (List Int)} (h1:1≤rows.length) (h3:rows.length≤3) (hg:∀ r∈rows,za7 p 8 r) (pJ:∃ r∈rows,∃ v∈r,v≠0):Cv13 p k 0 rows []:=by
 refine⟨h1,h3,fun r hr=>⟨(hg r hr).1,(hg r hr).2.1,(hg r hr).2.2⟩,?_,fun f hf=>by cases hf⟩;obtain⟨r,hr,v,hv,h0⟩:=pJ;obtain⟨t,ht⟩:=bY.mp hr;obtain⟨i,hi⟩:=bY.mp hv;refine⟨t,i,fun hc=>h0 ?_⟩;have e:gl (rows.getD t []) i=v:=by rw [au,ht]; exact zbg hi
 rw [e] at hc;obtain⟨v0,v1⟩:=(hg r hr).2.2 v hv;exact hc.eq v0 v1 (bF _) #[O]
theorem zlX {rows:List (List Int)} {t:Nat} (h:rows.length≤t):(fun i=>gl (rows.getD t []) i)=fun _=>0:=by
 funext i;rw [zbR h];rfl
theorem zis {p:Int} (hp:p∈zK) {k j W:Nat} {rws oA qs:List (List Int)} {f:List Int} (C:Cv13 p k j rws qs) (k1:1≤k) (k5:k≤5) (hf:IsP p k f) (hl:oA.length=rws.length+1) (hW:∀ r∈rws,r.length≤W) (vD:∃ r∈rws,r.length=W) (hw:∀ r∈oA,r.length=W+k - 1∧∀ c∈r,0≤c∧c < p)
  (hc:∀ t x,Cg p (gl (oA.getD t []) x) (wr k (gl f) (fun t i=>gl (rws.getD t []) i) t x)):Cv13 p k (j+1) oA (qs++[f]):=by
 have hz:∀ t,rws.length≤t→(fun t i=>gl (rws.getD t []) i) t=fun _=>0:=fun t ht=>zlX ht
 obtain⟨r0,Ar,er0⟩:=vD;have hr0w:=C.w r0 Ar;have l1:=C.l1;have l2:=C.l2;have hZ:∀ g:Ps,Zr p (AL k g oA.length fun t i=>gl (oA.getD t []) i)↔Zr p (AL k g (rws.length+1) (wr k (gl f) fun t i=>gl (rws.getD t []) i)):=fun g=>by
  rw [hl];exact zjs fun i=>zhf (fun t x _=>hc t x) i
 refine⟨#[O],#[O],fun r hr=>?_,?_,fun g hg=>?_⟩
 ·obtain⟨a1,a2⟩:=hw r hr;exact⟨#[O],#[O],a2⟩
 ·obtain⟨t,i,h⟩:=zmr (k:=k) (f:=gl f) hz C.nz;exact⟨t,i,fun h'=>h ((hc t i).symm.trans h')⟩
 ·rcases aT.mp hg with hg | hg
  ·exact⟨(C.q g hg).1,(hZ _).mpr (zkA (hz _ (ag _)) (C.q g hg).2)⟩
  ·rw [aS.mp hg];exact⟨hf,(hZ _).mpr (zkz (hz _ (ag _)))⟩
theorem zax:FnScope ["script","at","p","k","places","curve","plan","planted","j","one","found"] ["script"] (zh za5):=#[S]
theorem zlY {fd:FuncData} (T:Txt K mg t) (F:Fun K "law" "law" za5 t.law fd):FnOk P w K mg base CX0 5 t.law fd ["script"] (zeR K):=by
 obtain⟨pR,oB,m7⟩:=T.f_l_code;have q0:=zii (P:=P) (w:=w) (base:=base) T oB;obtain⟨oV,nI,mG⟩:=T.f_l_curve;have pS:=zgt (P:=P) (w:=w) (base:=base) T nI;obtain⟨l3,kY,kZ⟩:=T.f_l_draws;have lj:=zch (P:=P) (w:=w) (base:=base) T kY;obtain⟨m8,lY,lD⟩:=T.f_l_with_root;have nB:=zdN (P:=P) (w:=w) (base:=base) T lY;obtain⟨oC,l8,lM⟩:=T.f_roots_of;have m9:=zfZ (P:=P) (w:=w) (base:=base) T l8;obtain⟨oW,mH,lX⟩:=T.f_l_along;have nJ:=zgx (P:=P) (w:=w) (base:=base) T mH;obtain⟨rd,pA,nU⟩:=T.f_l_all;have sM:=zjR (P:=P) (w:=w) (base:=base) T pA;refine F.ok zax (fun vs H Q E h=>?_) (fun lB A outer s H vs Q E hr h=>?_)
 ·obtain⟨a,ns,rfl,_⟩:=h;rfl
 ·obtain⟨a,ns,rfl,hS,kS,q⟩:=h;have hu:(A.deeper (envOfC (bT "law") (zh za5) s.heap.objs.size t.law lB)).units+20 < cLine:=by have:=hr.units; lia
  apply zbz; intro zX;refine⟨_,#[zf,#[zaj,bp,#[zR,T.range_,#[ya,#[ze]]],#[zi,1,zax.nd,#[A]],#[zf,#[zbB,#[zF,q0,(hr.mono #[D]),T.m_l_code,oB.kp,m7,#[zak],#[za,#[pvx,0],by exact #[za,#[zg,#[z8],#[ze],#[pvx,1]],#[za,#[ze],#[ya,#[ze]]]]]],#[zcG,#[zy,#[zi,2,zax.nd,(eA rfl)],#[zy,#[zi,3,zax.nd,#[A]],#[zy,#[zi,4,zax.nd,#[A]],#[zat]]]]]],#[zf,#[zp,5,zax.nd,(eA rfl),#[zF,pS,(hr.mono #[D]),T.m_l_curve,nI.kp,mG,#[zak],#[za,#[pvx,0],by exact #[za,#[zg,#[zu],#[zg,#[z8],#[ze],#[pvx,1]],#[ze]],by exact #[za,#[pvx,2],#[za,#[ze],#[ya,#[ze]]]]]]]],#[zf,#[zp,6,zax.nd,#[A],#[zF,lj,(hr.mono #[D]),T.m_l_draws,kY.kp,kZ,#[zak],#[za,#[pvx,0],by exact #[za,#[zg,#[zu],#[zg,#[z8],#[ze],#[pvx,1]],#[ze]],#[za,#[ze],#[ya,#[ze]]]]]]],#[zf,#[zp,7,zax.nd,#[A],#[zac,#[zd]]],#[zf,#[zaj,bp,#[zR,T.range_,#[ya,#[zI,#[zq],#[zac,#[za,#[ze],#[ya,#[zg,#[zB],#[zI,#[zq],#[pvx,6],#[ze]],#[ze]]]]],#[zO,(@zhu _),T.int_,boot_int,#[ya,(@zj0 _ _ _ _ _ _ _ _ #[zd6] #[zg,#[zB],#[zI,#[zq],#[pvx,6],#[ze]],#[ze]] #[ze] (zV _))]]]]],#[zi,8,zax.nd,#[A]],#[zf,#[zdr,9,zax.nd,#[A],(CompSc.of (N':=["draw","p"]) (ix:=[none,some 2]) (zh za5) ["script","at","p","k","places","curve","plan","planted","j","one","found"] rfl rfl #[N]),#[z7],#[zao,#[zbE,zc2,#[pvx,6],#[zbS,#[zg,#[zu],#[ze],#[zg,#[z8],#[ze],#[pvx,8]]]],#[zbS,#[zg,#[zu],#[zg,#[zu],#[ze],#[zg,#[z8],#[ze],#[pvx,8]]],#[pvx,3]]]]],(fun _ _ _ _=>#[zi,0,(nd_ ["draw","p"]),#[A]]),(fun _ _ _ _=>#[zE]),(fun _ _ _ _=>#[zg,#[zB],#[pvx,0],#[pvx,1]])],#[zf,(zjf #[za1,#[zJ,#[zd5],#[zg,#[zB],#[zI,#[zq],#[pvx,6],#[ze]],#[ze]],#[ze],(zV _)],#[zj,#[zp,9,zax.nd,#[A],#[zg,#[zeD],#[zbE,zc2,#[pvx,9],#[zc1],#[zbS,#[ze]]],#[zg,#[zbF],#[zac,#[ya,#[ze]]],#[zg,#[za8],#[pvx,3],#[ze]]]]]],#[zan]]),#[zf,#[zcj,#[zed,cE,dG,dH,#[zbT],#[pvx,7],#[ya,(@ziu _ _ _ _ _ _ _ _ (@PW.pt _ _ _ #[zdl,#[zJ,#[zd6],#[zg,#[zB],#[zI,#[zq],#[pvx,6],#[ze]],#[ze]],#[ze],(zV _)],#[zdk,#[zJ,(@zls _ hu),#[pvx,7],#[zac,#[zd]],(zV _)]]]) #[zO,#[zam],T.tuple_,eH,#[ya,#[pvx,9]]] #[zI,#[zq],#[pvx,7],#[ze]])]]],#[zj,#[zp,5,zax.nd,(eA rfl),#[zF,nB,(hr.mono #[D]),T.m_l_with_root,lY.kp,lD,#[zak],#[za,#[pvx,2],#[za,#[pvx,5],#[ya,#[zI,#[zq],#[pvx,7],#[zfh,zdn,#[ze]]]]]]]]]]]]],#[zf,#[zp,5,zax.nd,(eA rfl),#[zO,#[zam],T.tuple_,eH,#[ya,#[zS,(CompSc.of (N':=["line"]) (ix:=[none]) (zh za5) ["script","at","p","k","places","curve","plan","planted","j","one","found"] rfl rfl #[N]),#[z7],#[zcH,#[pvx,5]],(fun _ _ _ _=>#[zi,0,(nd_ ["line"]),#[A]]),(fun _ _ _ _=>#[zE]),(fun _ _ _ _=>#[zbE,zkp,#[pvx,0],#[zc1],#[zbS,#[ze]]])]]]],#[zf,#[zp,10,zax.nd,(eA rfl),#[zF,m9,(hr.mono #[D]),T.m_roots_of,l8.kp,lM,#[zak],#[za,#[pvx,2],#[za,#[pvx,3],#[ya,#[pvx,5]]]]]],#[zf,#[za1,(@PW.pt _ _ _ #[zdl,#[zeB,#[zf2,#[zl,#[zcR],T.isinstance_,boot_isinstance,#[za,#[pvx,10],#[ya,#[zgB,(.ty "list"),T.list_,fU]]]]]],#[zdl,#[zJ,#[zeM,hu],#[pvx,10],#[zl,#[zbt],T.sorted_,jS,#[ya,#[pvx,10]]],(zV _)],#[zdk,#[zJ,#[zeM,hu],#[zS,(CompSc.of (N':=["one","found"]) (ix:=[none,some 10]) (zh za5) ["script","at","p","k","places","curve","plan","planted","j","one","found"] rfl rfl #[N]),#[z7],#[zao,#[pvx,7]],(fun _ _ _ _=>#[zi,0,(nd_ ["one","found"]),#[A]]),(fun _ _ _ _=>#[zbG,#[zJ,(zh5 (K:=K) rfl hu),#[pvx,0],#[pvx,1],(by with_unfolding_all rfl)]]),(fun _ _ _ _=>#[pvx,0])],#[zac,#[zd]],(zV _)]]]]),#[zj,#[zQ,#[zd1]]],#[zan]],#[zf,#[zaj,bp,#[zao,#[pvx,10]],#[zi,9,zax.nd,#[A]],#[zj,#[za1,(@PW.pt _ _ _ #[zdl,#[zeB,#[zf2,#[zl,#[zcR],T.isinstance_,boot_isinstance,#[za,#[pvx,9],#[ya,#[zgB,(.ty "tuple"),T.tuple_,eH]]]]]],#[zdl,#[zJ,#[zkO],#[zl,#[zm],T.len_,bP,#[ya,#[pvx,9]]],#[pvx,3],(zV _)],#[zdk,#[zJ,#[zd6],#[zl,(zcf (K:=K) rfl rfl),T.max_,gg,#[ya,#[zF,nJ,(hr.mono #[D]),T.m_l_along,mH.kp,lX,#[zak],#[za,#[pvx,2],#[za,#[pvx,5],#[ya,#[pvx,9]]]]]]],#[ze],(zV _)]]]]),#[zj,#[zQ,#[zd1]]],#[zan]]]],#[zf,#[za1,(@PW.pt _ _ _ #[zdl,#[zJ,#[zd6],#[zl,#[zm],T.len_,bP,#[ya,#[pvx,10]]],#[zg,#[za8],#[zl,#[zm],T.len_,bP,#[ya,#[pvx,5]]],#[ze]],(zV _)],#[zdk,#[zJ,#[zgF],(zif rfl (jD (Nat.add_le_add_left (show 16≤20 by decide) _) hu) rfl T.len_ rfl T.set_ #[ya,#[pvx,10]]),#[zl,#[zm],T.len_,bP,#[ya,#[pvx,10]]],(zV _)]]]),#[zj,#[zQ,#[zd1]]],#[zan]],#[zf,#[za1,(@PW.pt _ _ _ #[zdl,(@PW.pt _ _ _ (@zk8 _ _ _ _ _ _ _ #[zJ,#[zgF],#[zg,#[ziy],#[pvx,2],#[ze]],#[ze],(zV _)] (@zjW _ _ _ _ #[zJ,#[zgF],#[pvx,3],#[ze],(zV _)]))),#[zdk,#[zJ,#[zd5],#[pvx,3],#[ze],(zV _)]]]),#[zj,#[za1,#[zJ,#[zeM,hu],#[pvx,10],#[zl,#[zbt],T.sorted_,jS,#[ya,#[zS,(CompSc.of (N':=["one","p","curve"]) (ix:=[none,some 2,some 5]) (zh za5) ["script","at","p","k","places","curve","plan","planted","j","one","found"] rfl rfl #[N]),#[z7],#[zao,#[zF,sM,(hr.mono #[D]),T.m_l_all,pA.kp,nU,#[zak],#[za,#[pvx,2],#[ya,#[pvx,3]]]]],(fun _ _ _ _=>#[zi,0,(nd_ ["one","p","curve"]),#[A]]),(fun _ _ _ _=>#[zbG,#[zJ,#[zd5],#[zl,(zcf (K:=K) rfl rfl),T.max_,gg,#[ya,#[zF,nJ,(hr.mono #[D]),T.m_l_along,mH.kp,lX,#[zak],#[za,#[pvx,1],#[za,#[pvx,2],#[ya,#[pvx,0]]]]]]],#[ze],(zV _)]]),(fun _ _ _ _=>#[pvx,0])]]],(zV _)],#[zj,#[zQ,#[zd1]]],#[zan]]],#[zan]],#[zf,#[zcj,#[zed,cE,dG,dH,#[zbT],#[pvx,10],#[ya,#[ze]]]],#[zj,#[za1,#[zJ,#[zeM,hu],#[zF,m9,(hr.mono #[D]),T.m_roots_of,l8.kp,lM,#[zak],#[za,#[pvx,2],#[za,#[pvx,3],#[ya,#[pvx,5]]]]],#[zbE,zc2,#[pvx,10],#[zc1],#[zbS,#[zfh,zdn,#[ze]]]],(zV _)],#[zj,#[zQ,#[zd1]]],#[zan]]]]]]]]]]]]]]]],#[zj,#[zQ,#[zd1]]]],?_⟩;apply ziF; intro oP;have n0:=br;refine⟨2,rfl,#[D],#[D],zad (lo:=0) (n:=2) (fun i σ H'=>∃ (e1 e2 e3 e4 e5 e6 e7 e8 e9 n6:Option V),σ = [some (.ref a),e1,e2,e3,e4,e5,e6,e7,e8,e9,n6]∧zt H H')
   ⟨none,none,none,none,none,none,none,none,none,none,rfl,fun _ _ e=>e⟩ ?_ ?_⟩
  ·rintro zD zT m5 σ H0 lQ ⟨e1,e2,e3,e4,e5,e6,e7,e8,e9,n6,rfl,s0⟩;show zT (zD m5) _ H0;apply zmj; intro zM13 BY zM11 zM10 zM9 zM8 zM7 zM6 zM5 zM4 zM3 zM2;have ea:(5*(0+(m5:Int)))=((5*m5:Nat):Int):=by lia
   refine⟨_,rfl,_,rfl,_,_,rfl,rfl,.inl ⟨#[O],#[O]⟩,a,ns,(5*(0+(m5:Int))),5,16,rfl,s0.seq hS,kS,#[O],#[O],#[D],#[D],#[D],#[D],fun c tt p kI pl H1 hc1 s1 co h1c h1t=>?_⟩;have rp:=zah co.pr;have k1:=co.k1;have kk:=co.kk;have p0:0 < p:=by lia
   obtain⟨k,rfl⟩:∃ k:Nat,kI=k:=⟨kI.toNat,#[O]⟩;have hp:=co.pr;refine⟨c,_,rfl,kT.of h1c,rfl,_,_,rfl,_,_,rfl,_,_,rfl,rfl,?_⟩;have tX:=s0.trans s1;refine⟨_,rfl,_,rfl,_,_,rfl,rfl,.inl ⟨#[O],#[O]⟩,_,_,rfl,rfl,_,rfl,a,ns,(5*(0+(m5:Int))+1),p,3,8,rfl,tX.seq hS,kS,#[O],#[O],#[O],#[O],#[D],#[D],#[D],#[D],fun cv ls rows H2 hcv s2 h2c lh wq hr3 rR pJ=>?_⟩;have tV:=tX.trans s2;refine⟨_,rfl,_,rfl,_,_,rfl,rfl,.inl ⟨#[O],#[O]⟩,_,_,rfl,rfl,a,ns,(5*(0+(m5:Int))+3),60,27720,rfl,tV.seq hS,kS,#[O],#[O],#[D],#[D],#[D],#[D],fun pa ds H3 yq s3 pY h3p=>?_⟩;have s03:=tV.trans s3;refine⟨bj _,fun P0 hP0=>?_⟩;have v4:=zc (o:=.lst []) hP0;have rN:=s03.trans v4;have f4:kR H3 P0 (.lst []) P0=some (.lst (([]:List Addr).map V.ref)):=zb;have tY:=v4 _ _ h3p;have h4c:=v4 _ _ (s3 _ _ h2c);have oT:=(lh.same s3).same v4;generalize kR H3 P0 (.lst [])=H4 at v4 rN f4 tY h4c oT ⊢;obtain⟨d0,ym,d00,d01⟩:=zcS pY (i:=0) #[D] #[D];obtain⟨d53,BZ,d530,d531⟩:=zcS pY (i:=53) #[D] #[D];refine⟨_,rfl,pa,_,_,_,rfl,rfl,kP.of tY,ym,_,_,rfl,rfl,#[O],by show 2≤sizeLine; lia,fun L1 hL1=>?_⟩;have v5:=zc (o:=.lst [.int 10,.int (d0 % 6)]) hL1;refine⟨_,rfl,pa,_,_,_,rfl,rfl,kP.of (v5 _ _ tY),BZ,_,_,rfl,rfl,#[O],_,_,rfl,rfl,.inr ⟨_,rfl,?_⟩⟩;obtain⟨nj,enj,hnj0,hnj⟩:∃ nj:Nat,atI [V.int 10,V.int (d0 % 6)] (if decide (0 < d53 % 6)=true then 1 else 0)=some (.int (nj:Int))∧0≤nj∧nj≤10:=by
    split
    ·exact⟨(d0 % 6).toNat,by rw [show (((d0 % 6).toNat:Nat):Int)=d0 % 6 by lia]; rfl,#[O],#[O]⟩
    ·exact⟨10,rfl,#[O],#[O]⟩
   refine⟨L1,_,_,_,rfl,rfl,kP.of zb,enj,_,rfl,#[O],#[O],?_⟩;rw [cY];have h5p:=v5 _ _ tY;have h5c:=v5 _ _ h4c;have qU:=oT.same v5;have f5:=v5 _ _ f4;have s35:zt H3 (kR H4 L1 (.lst [.int 10,.int (d0 % 6)])):=fun b o e=>v5 _ _ (v4 _ _ e)
   generalize kR H4 L1 (.lst [.int 10,.int (d0 % 6)])=H5 at v5 h5p h5c qU f5 s35 ⊢;have B0:H3 P0=none:=hP0;refine zad (lo:=0) (n:=nj) (fun j σ H'=>∃ (cw:Addr) (bs:List Addr) (rws:List (List Int)) (ps:List Addr) (qs:List (List Int)) (e8 e9:Option V),σ = [some (.ref a),some (.int (0+(m5:Int))),some (.int p),some (.int (k:Int)),some (.ref tt),some (.ref cw),some (.ref pa),some (.ref P0),e8,e9,n6]∧zt H3 H'∧H' cw=some (.tup (bs.map V.ref))∧zal H' bs rws∧H' P0=some (.lst (ps.map V.ref))∧zal H' ps qs∧qs.length=j∧Cv13 p k j rws qs)
    ⟨cv,ls,rows,[],[],_,_,rfl,s35,h5c,qU,f5,.nil,rfl,zir wq hr3 rR pJ⟩ ?_ ?_
   ·rintro yw BM j σ H6 hj ⟨cw,bs,rws,ps,qs,e8,e9,rfl,s6,uS,yx,B1,vF,vE,C⟩;show BM (yw j) _ H6;apply zll; intro zK4 zK3 zK2;have B2:=s6 _ _ h3p;have hpsl:=vF.length;have ej:(0:Int)+(j:Int)=(j:Int):=by lia
    have ja:(1:Int)+5*(0+(j:Int))=((1+5*j:Nat):Int):=by lia
    have jb:((1+5*j:Nat):Int)+(k:Int)=((1+5*j+k:Nat):Int):=by lia
    refine⟨_,rfl,_,rfl,_,_,rfl,rfl,.inl ⟨#[O],#[O]⟩,_,_,rfl,rfl,_,rfl,_,rfl,_,_,rfl,rfl,.inl ⟨#[O],#[O]⟩,_,_,rfl,rfl,_,rfl,_,_,rfl,rfl,_,rfl,pa,_,rfl,kP.of B2,fun z hz=>?_⟩;have hd60:ds.length=60:=pY.1;have k5:k≤5:=by lia
    rw [ja,jb,zkr (by rw [ab]; lia),show 1+5*j+k - (1+5*j)=k by lia,← kF,← kG];have xo:((ds.drop (1+5*j)).take k).length=k:=by rw [aL,cM]; lia
    have B3:∀ c∈(ds.drop (1+5*j)).take k,0≤c:=fun c hc=>(pY.2 c (fZ (eG hc))).1
    generalize (ds.drop (1+5*j)).take k=os at xo B3 ⊢;have w1:=zc (o:=.lst (os.map V.int)) hz;refine⟨z,rfl,⟨_,kP.of zb⟩,zem (fs:=(os.map fun c=>c % p).map V.int) (kP.of zb) #[M] (by rw [ab]; lia) (fun i x y R B hx hy hR=>?_) (fun D hD=>?_)⟩
    ·obtain⟨c,rfl,hc⟩:=zaB hx;rw [ah,ah,hc] at hy;have hy:V.int (c % p)=y:=by simpa using hy
     subst hy;exact⟨_,rfl,_,rfl,_,_,rfl,rfl,#[O],hR⟩
    have w2:=w1.trans (zc (o:=.lst ((os.map fun c=>c % p).map V.int)) hD);have yy:IsP p k (os.map fun c=>c % p):=⟨by rw [ab]; exact xo,fun c hc=>by
     obtain⟨c',_,rfl⟩:=aJ.mp hc;exact⟨aV _ #[O],aP _ p0⟩⟩
    have fD:kR (kR H6 z (.lst (os.map V.int))) D (.lst ((os.map fun c=>c % p).map V.int)) D=some (.lst ((os.map fun c=>c % p).map V.int)):=zb;generalize kR (kR H6 z (.lst (os.map V.int))) D (.lst ((os.map fun c=>c % p).map V.int))=H7 at w2 fD ⊢;generalize (os.map fun c=>c % p)=o1 at yy fD ⊢;obtain⟨d51,B4,d510,d511⟩:=zcS pY (i:=51) #[D] #[D];obtain⟨d52,B5,d520,d521⟩:=zcS pY (i:=52) #[D] #[D];have h7p:=w2 _ _ B2;refine⟨fun σ H'=>∃ (oa:Addr) (o2:List Int),σ = [some (.ref a),some (.int (0+(m5:Int))),some (.int p),some (.int (k:Int)),some (.ref tt),some (.ref cw),some (.ref pa),some (.ref P0),some (.int (0+(j:Int))),some (.ref oa),n6]∧zt H6 H'∧H' oa=some (.lst (o2.map V.int))∧IsP p k o2,?_,?_⟩
    ·refine⟨_,rfl,pa,_,_,_,rfl,rfl,kP.of h7p,B4,_,_,rfl,rfl,#[O],rfl,_,rfl,zby (fun _=>?_) (fun _=>⟨D,o1,rfl,w2,fD,yy⟩)⟩;refine⟨_,rfl,_,rfl,D,_,rfl,kP.of fD,fun z1 qE=>?_⟩;have ec:zbm (o1.map V.int) none (some 1)=(o1.take 1).map V.int:=by
      have:=zjS (o1.map V.int) 1;rw [kG];exact this
     rw [ec];have x1:=zc (o:=.lst ((o1.take 1).map V.int)) qE;have g1:kR H7 z1 (.lst ((o1.take 1).map V.int)) z1=some (.lst ((o1.take 1).map V.int)):=zb;generalize kR H7 z1 (.lst ((o1.take 1).map V.int))=H7b at x1 g1 ⊢;refine⟨by show 1≤sizeLine; lia,fun z2 tz=>⟨_,rfl,_,_,rfl,rfl,z2,_,[.int 0],rfl,rfl,zb,#[O],#[O],?_,fun z3 Bk=>?_⟩⟩
     ·show 1*((k:Int) - 1).toNat≤sizeLine;lia
     have x2:=(zc (o:=.lst [.int 0]) tz).trans (zc (o:=.lst (ap ((k:Int) - 1).toNat [V.int 0]).flatten) Bk);have e3:(ap ((k:Int) - 1).toNat [V.int 0]).flatten=(ap (k - 1) (0:Int)).map V.int:=by
      rw [bC,cr];congr 1;lia
     have tI:(o1.take 1).length=1:=by rw [aL,yy.1]; lia
     refine⟨z1,z3,(o1.take 1).map V.int,(ap (k - 1) (0:Int)).map V.int,rfl,rfl,x2 _ _ g1,?_,?_,fun z4 Bl=>?_⟩
     ·rw [zb,e3]
     ·rw [ab,ab,tI,aH]; lia
     rw [← aw];refine⟨z4,o1.take 1++ap (k - 1) 0,rfl,((w2.trans x1).trans x2).trans (zc Bl),zb,?_,fun c hc=>?_⟩
     ·rw [aA,tI,aH]; lia
     ·rcases aT.mp hc with hc | hc
      ·exact yy.2 c (eG hc)
      ·rw [cu hc]; lia
    rintro σ H8 ⟨oa,o2,rfl,s8,h8o,xp⟩;have h8p:=s8 _ _ B2;have xq:=s8 _ _ B1;have tail:∀ (u:Addr) (f:List Int) (H9:Hp),zt H8 H9→H9 u=some (.tup (f.map V.int))→IsP p k f→zgJ (.ref P0) [.ref u] H9 (fun _ H1=>((yw j).n zK4).nx [some (.ref a),some (.int (0+(m5:Int))),some (.int p),some (.int (k:Int)),some (.ref tt),some (.ref cw),some (.ref pa),some (.ref P0),some (.int (0+(j:Int))),some (.ref oa),n6] H1):=by
     intro u f H9 s9 h9u yz;have qm:=s9 _ _ xq;have xr:=s8.trans s9;refine⟨P0,_,_,rfl,rfl,qm,by rw [ab]; lia,?_⟩;have sx:=z9 (o:=.lst (ps.map V.ref++[.ref u])) (s6.trans xr) B0;have B6:kR H9 P0 (.lst (ps.map V.ref++[.ref u])) P0=some (.lst ((ps++[u]).map V.ref)):=by rw [zb,aw]; rfl
     have vG:kR H9 P0 (.lst (ps.map V.ref++[.ref u])) u=some (.tup (f.map V.int)):=by rw [zk (zjT h9u qm)]; exact h9u
     have hcx:kR H9 P0 (.lst (ps.map V.ref++[.ref u])) cw=some (.tup (bs.map V.ref)):=by rw [zk (zjT (xr _ _ uS) qm)]; exact xr _ _ uS
     have hbx:=zal.put (o:=.lst (ps.map V.ref++[.ref u])) (yx.same xr) qm;have xt:=zal.put (o:=.lst (ps.map V.ref++[.ref u])) (vF.same xr) qm;generalize kR H9 P0 (.lst (ps.map V.ref++[.ref u]))=B7 at sx B6 vG hcx hbx xt ⊢;have B8:atI ((ps++[u]).map V.ref) (-1)=some (.ref u):=by rw [aw]; exact ze2
     have l1:=C.l1;have l2:=C.l2;refine⟨_,rfl,_,rfl,_,rfl,_,rfl,P0,_,_,_,rfl,rfl,kP.of B6,B8,p,k,cw,u,bs,rws,f,rfl,hcx,hbx,l1,#[O],fun r hr=>⟨(C.w r hr).1,by have:=(C.w r hr).2.1; lia,(C.w r hr).2.2⟩,vG,yz,#[O],#[O],#[O],#[O],fun l us oA W B9 hl yA h11 k9 sU hW vD hw' lF=>?_⟩;exact⟨l,us,oA,ps++[u],qs++[f],_,_,rfl,sx.trans yA,h11,k9,yA _ _ B6,b8 (xt.same yA) (yA _ _ vG),by rw [aA,vE]; rfl,zis hp C #[O] #[O] yz sU hW vD hw' lF⟩
    refine⟨_,rfl,.inl ⟨rfl,_,kP.of xq⟩,?_⟩;refine⟨_,rfl,pa,_,_,_,rfl,rfl,kP.of h8p,B5,_,_,rfl,rfl,#[O],_,_,rfl,rfl,_,rfl,zby (fun _=>?_) (fun _=>?_)⟩
    ·exact⟨_,rfl,oa,_,rfl,.inl ⟨kP.of h8o,fun l hl=>tail l o2 _ (zc hl) zb xp⟩⟩
    refine⟨_,rfl,bj _,fun L2 hL2=>?_⟩;have y1:=zc (o:=.lst []) hL2;have h9o:=y1 _ _ h8o;have qm:=y1 _ _ xq;have g9:kR H8 L2 (.lst []) L2=some (.lst []):=zb;generalize kR H8 L2 (.lst [])=H9 at y1 h9o qm g9 ⊢;by_cases qT:ps = []
    ·refine⟨P0,L2,_,_,rfl,rfl,.inl ⟨kP.of qm,kP.of g9⟩,.inr ⟨by rw [qT]; rfl,fun _=>true,fun i x y e1 e2=>(by cases e2),?_⟩⟩;rw [qT];exact⟨_,rfl,zmM ⟨_,rfl,oa,_,rfl,.inl ⟨kP.of h9o,fun l hl=>tail l o2 _ (y1.trans (zc hl)) zb xp⟩⟩⟩
    ·have uU:0 < ps.length:=gb.mpr qT;refine⟨P0,L2,_,_,rfl,rfl,.inl ⟨kP.of qm,kP.of g9⟩,.inl ⟨by rw [ab]; exact jr uU,fun i x y e1 e2=>(by cases e2),?_⟩⟩;obtain⟨u,hu0⟩:∃ u,ps[0]? = some u:=⟨ps[0]'(uU),ak uU⟩;obtain⟨f,hf0,AY⟩:=Paired.get vF hu0;exact⟨_,rfl,zdS ⟨_,rfl,P0,_,_,_,rfl,rfl,kP.of qm,zaH (j:=0) (by rw [ah,hu0]; rfl),tail u f _ y1 ((s8.trans y1) _ _ AY) (C.q f (az hf0)).1⟩⟩
   ·rintro σ H6 ⟨cw,bs,rws,ps,qs,e8,e9,rfl,s6,uS,yx,B1,vF,vE,C⟩;have pL:=yx.length;have l1:=C.l1;have l2:=C.l2;refine⟨_,rfl,cw,rfl,⟨_,kT.of uS⟩,zY (n:=rws.length) (fun m ys H'=>zt H6 H'∧∃ us:List Addr,ys=us.map V.ref∧zal H' us (rws.take m)) ⟨fun _ _ e=>e,[],rfl,.nil⟩ ?_ ?_ ?_ ?_⟩
    ·rintro m ys H7 hm ⟨s7,_⟩;exact⟨_,.ref (bs[m]'#[O]),kT.of (s7 _ _ uS),by rw [ah,ak #[O]]; rfl⟩
    ·rintro ys H7 ⟨s7,_⟩;exact⟨_,kT.of (s7 _ _ uS),by rw [ab]; lia⟩
    ·rintro m z ys H7 H8 hm ⟨s7,us,rfl,k9⟩ ⟨rfl,hx⟩;obtain⟨b,rfl,qP⟩:=zG (hx _ (kT.of (s7 _ _ uS)));obtain⟨r,hr,qQ⟩:=Paired.get yx qP;have hz:us.length=m:=by rw [bn k9,aL]; lia
     refine gY ?_;refine⟨_,rfl,_,rfl,b,_,rfl,s7 _ _ qQ,fun p' H9 s9 h9=>?_⟩;have uE:=C.w r (az hr);have e60:zbm (r.map V.int) none (some 60)=r.map V.int:=(zjS (r.map V.int) 60).trans (aQ (by rw [ab]; lia));rw [e60] at h9;refine⟨by rw [ab]; lia,s7.trans s9,us++[p'],by rw [aw]; rfl,?_⟩;rw [take_snoc hr];exact b8 (k9.same s9) h9
    rintro ys H7 D ⟨s7,us,rfl,k9⟩ hD;rw [aQ (ag _)] at k9;refine⟨D,_,rfl,.inl ⟨kP.of zb,fun l hl=>?_⟩⟩;have v8:=(zc (o:=.lst (us.map V.ref)) hD).trans (zc (o:=.tup (us.map V.ref)) hl);have Ca:kR (kR H7 D (.lst (us.map V.ref))) l (.tup (us.map V.ref)) l=some (.tup (us.map V.ref)):=zb;have uV:=k9.same v8;have yB:=s7.trans v8;generalize kR (kR H7 D (.lst (us.map V.ref))) l (.tup (us.map V.ref))=H8 at v8 Ca uV yB ⊢;have xq:=yB _ _ B1;have h8q:=vF.same yB;have pQ:rws.length ^ k≤2000000:=bd (Nat.pow_le_pow_left (show rws.length≤13 by lia) k) (bd (eI #[D] (show k≤5 by lia)) #[D]);have xu:∀ r∈rws,r.length≤100:=fun r hr=>by have:=(C.w r hr).2.1; lia
    refine⟨_,rfl,_,rfl,_,rfl,p,k,l,us,rws,rfl,hp,Ca,uV,#[O],xu,#[O],#[O],pQ,C.nz,fun fa fs fq H9 sJ s9 yC yD oO pB lx=>?_⟩;have rJ:fq.Nodup:=pB.2.imp fun {a b} h e=>by rw [e] at h; lia
    have kX:fq.length < rws.length:=zdH hp rws.length (fun t i=>gl (rws.getD t []) i) fq rJ (fun f hf=>(lx f).mp hf) (by
     obtain⟨t,i,h⟩:=C.nz;refine⟨t,aW fun hn=>h ?_,i,h⟩;rw [zbR #[O]];exact Cg.refl _ _)
    have sN:=yD.length;obtain⟨z1,z2,z3⟩:=zgy yD;have hzl:(fs.zip fq).length=fq.length:=by rw [← z2,ab,z2]
    have qm:=s9 _ _ xq;have Cb:=h8q.same s9;have h9l:=s9 _ _ Ca;have Cc:=uV.same s9;refine⟨_,rfl,_,_,_,_,rfl,.lst yC,rfl,true,rfl,zdS ⟨_,rfl,_,rfl,fa,k,p,fs.zip fq,rfl,by rw [zdP z1]; exact kP.of yC,fun x hx=>?_,#[O],#[O],fun l9 mo rO nG xb=>?_⟩⟩
    ·exact⟨z3 x hx,((lx x.2).mp (z2 ▸ aJ.mpr ⟨x,hx,rfl⟩)).1⟩
    obtain⟨hT9,hq9⟩:=zf1 p0 (by rw [z2]; exact rJ) pB (fun q=>by rw [z2]) z3 nG xb;rw [zdP (ps:=mo) rfl];have tW:=zc (o:=.lst ((mo.map (·.1)).map V.ref)) rO;have g10:kR H9 l9 (.lst ((mo.map (·.1)).map V.ref)) l9=some (.lst ((mo.map (·.1)).map V.ref)):=zb;generalize kR H9 l9 (.lst ((mo.map (·.1)).map V.ref))=B7 at tW g10 ⊢;have xv:=tW _ _ yC;have xw:=yD.same tW;have xy:=tW _ _ qm;have xA:=Cb.same tW;refine zb6 (kP.of xv) (kP.of g10) (by rw [ab,ab,ab,hq9]; exact sN) (ze0 xw (hT9.same tW)) ⟨_,rfl,zdS ?_⟩;refine⟨_,rfl,P0,rfl,⟨_,kP.of xy⟩,zhM (K:=K) (xs:=ps.map V.ref) (kp:=fun _=>false) (f:=id) (kP.of xy) (by rw [ab,vF.length,vE]; lia) (fun i x R B hx hR=>?_) (fun D2 pM=>?_)⟩
    ·obtain⟨b,rfl,hb⟩:=zG hx;obtain⟨f,hf,xB⟩:=Paired.get xA hb;have xC:f∈fq:=(lx f).mpr (C.q f (az hf));refine⟨_,rfl,_,rfl,b,fa,f,fs,fq,rfl,rfl,xB,kP.of xv,xw,_,rfl,?_⟩;rw [decide_eq_true xC];exact zdS (by simpa using hR)
    have e0:(((ps.map V.ref).filter fun _=>false).map id) = []:=by simp
    rw [e0];have u11:=zc (o:=.lst []) pM;have g11:kR B7 D2 (.lst []) D2=some (.lst []):=zb;generalize kR B7 D2 (.lst [])=B9 at u11 g11 ⊢;refine⟨bj _,fun L3 hL3=>?_⟩;have Cd:=zc (o:=.lst []) hL3;have g12:kR B9 L3 (.lst []) L3=some (.lst []):=zb;have xD:=Cd _ _ g11;have vH:=tW.trans (u11.trans Cd);generalize kR B9 L3 (.lst [])=H12 at Cd g12 xD vH ⊢;refine zb6 (kP.of xD) (kP.of g12) rfl (fun i x y e1 e2=>by cases e2) ⟨_,rfl,zdS ?_⟩;have uW:=vH _ _ yC;have xE:=yD.same vH;have xF:=vH _ _ h9l;have t5:=Cc.same vH;have tN:∀ r∈rws,1≤r.length∧r.length≤100∧∀ c∈r,0≤c∧c < p:=fun r hr=>⟨(C.w r hr).1,by have:=(C.w r hr).2.1; lia,(C.w r hr).2.2⟩
    refine⟨_,rfl,fa,rfl,⟨_,kP.of uW⟩,zeg (K:=K) (a:=fa) (xs:=fs.map V.ref) (fun i σ H'=>∃ e9:Option V,σ = [some (.ref a),some (.int (0+(m5:Int))),some (.int p),some (.int (k:Int)),some (.ref tt),some (.ref l),some (.ref pa),some (.ref P0),e8,e9,some (.ref fa)]∧zt H12 H')
     ⟨_,rfl,fun _ _ e=>e⟩ (fun i σ H' _ ⟨_,_,s'⟩=>kP.of (s' _ _ uW)) ?_ ?_⟩
    ·rintro zD3 zT3 i x σ Ce hx ⟨e9',rfl,rS⟩;obtain⟨b,rfl,hb⟩:=zG hx;obtain⟨f,hf,xB⟩:=Paired.get xE hb;have xC:=(lx f).mp (az hf);have uX:=rS _ _ xB;refine⟨_,rfl,_,_,_,_,rfl,.tup uX,rfl,true,rfl,zdS ⟨_,rfl,b,_,rfl,.inr (kT.of uX),_,rfl,rfl,_,rfl,?_⟩⟩;have oO:(((f.map V.int).length:Nat):Int)=(k:Int):=by rw [ab,xC.1.1]
     refine zby (fun h=>absurd h (by rw [oO]; simp)) (fun _=>?_);refine⟨_,rfl,_,rfl,_,rfl,p,k,l,b,us,rws,f,rfl,rS _ _ xF,t5.same rS,l1,#[O],tN,uX,xC.1,#[O],#[O],#[O],#[O],fun la fl vI uR pC vJ k4 ph tZ=>⟨la,fl,rfl,kP.of vJ,k4,fun M rM tR=>?_⟩⟩;have By:M=0:=zdQ ph tZ xC.2 M rM;subst By;exact⟨_,_,rfl,rfl,_,rfl,zdS ⟨_,rfl,rS.trans pC⟩⟩
    ·rintro σ Ce ⟨e9',rfl,rS⟩;have rf:=rS _ _ uW;have uY:=xE.same rS;have sO:=rS _ _ xF;have rh:=t5.same rS;have eLl:(((fs.map V.ref).length:Nat):Int)=(fq.length:Int):=by rw [ab,sN]
     have eUl:(((us.map V.ref).length:Nat):Int)=(rws.length:Int):=by rw [ab,rh.length]
     refine⟨_,rfl,fa,_,rfl,.inl (kP.of rf),_,rfl,l,_,rfl,.inr (kT.of sO),_,_,rfl,rfl,_,_,rfl,rfl,_,rfl,?_⟩;have sH8:zt H H8:=s03.trans (s6.trans yB);have oU:H fa=none:=sH8.free sJ;have Cf:zt H Ce:=sH8.trans (s9.trans (vH.trans rS));have tail:∀ H':Hp,zt Ce H'→((zD m5).n BY).nx [some (.ref a),some (.int (0+(m5:Int))),some (.int p),some (.int (k:Int)),some (.ref tt),some (.ref l),some (.ref pa),some (.ref P0),e8,e9',some (.ref fa)] H':=by
      intro vI pC;have oX:=pC _ _ rf;refine⟨_,rfl,.inl ⟨rfl,_,kP.of oX⟩,fa,_,_,rfl,rfl,oX,by rw [ab]; lia,?_⟩;have sx:=z9 (o:=.lst (fs.map V.ref++[.int 7])) (Cf.trans pC) oU;have hFx:kR vI fa (.lst (fs.map V.ref++[.int 7])) fa=some (.lst (fs.map V.ref++[.int 7])):=zb;have hlx:kR vI fa (.lst (fs.map V.ref++[.int 7])) l=some (.tup (us.map V.ref)):=by rw [zk (zjT (pC _ _ sO) oX)]; exact pC _ _ sO
      have vG:=zal.put (o:=.lst (fs.map V.ref++[.int 7])) (rh.same pC) oX;have xt:=zal.put (o:=.lst (fs.map V.ref++[.int 7])) (uY.same pC) oX;generalize kR vI fa (.lst (fs.map V.ref++[.int 7]))=vK at sx hFx hlx vG xt ⊢;refine⟨_,rfl,_,rfl,_,rfl,p,k,l,us,rws,rfl,hp,hlx,vG,#[O],xu,#[O],#[O],pQ,C.nz,fun fa2 fs2 fq2 Ci hfa2 Cj Ck xG qW uZ xH=>?_⟩;have eq2:fq2=fq:=zeW uZ pB fun q=>by rw [xH,lx]
      subst eq2;refine⟨_,rfl,_,rfl,_,rfl,fa,_,rfl,kP.of (Cj _ _ hFx),fun z hz=>?_⟩;rw [zgA];have yE:=zc (o:=.lst (fs.map V.ref)) hz;refine zb6 (kP.of (yE _ _ Ck)) (kP.of zb) (by rw [ab,ab,xG.length]; exact sN.symm) (ze0 (xG.same yE) ((xt.same Cj).same yE)) ⟨_,rfl,zdS ?_⟩;exact⟨_,_,_,_,_,_,_,_,_,_,rfl,sx.trans (Cj.trans yE)⟩
     refine zby (fun h=>absurd (of_decide_eq_true h) (by rw [eUl,eLl]; lia)) (fun _=>?_);refine⟨_,rfl,fa,fs,fq,rfl,rf,uY,rJ,#[O],_,rfl,fa,_,rfl,.inl (kP.of rf),_,_,rfl,rfl,_,rfl,zby (fun h=>absurd (of_decide_eq_true h) (by rw [eLl]; lia)) (fun _=>?_)⟩;refine⟨_,rfl,_,_,rfl,rfl,?_,_,_,rfl,rfl,_,rfl,?_⟩
     ·exact⟨#[D],#[D],#[O]⟩
     apply zlW (C:=k≤2);rotate_left
     ·intro body;refine zby (fun _=>⟨_,rfl,_,_,rfl,rfl,_,rfl,zby (fun h=>body (by have:=of_decide_eq_true h; lia)) (fun _=>?_)⟩) (fun _=>?_)
      all_goals (
       refine⟨_,rfl,rfl,_,rfl,zby (fun h=>body ?_) (fun _=>tail _ fun _ _ e=>e)⟩;have h:=of_decide_eq_true h;injection h with h
       lia)
     intro nK;refine⟨_,rfl,_,rfl,_,rfl,p,k,rfl,p0,#[O],nK,fun al as aq vI w8 pC vJ va haq xI nV=>?_⟩;obtain⟨y1,y2,y3⟩:=zgy va;have hasl:=va.length;have hyl:(as.zip aq).length=aq.length:=by rw [← y2,ab,y2]
     have oX:=pC _ _ rf;have Cm:=pC _ _ sO;have xJ:=rh.same pC;refine⟨al,rfl,⟨_,kP.of vJ⟩,zY (n:=aq.length) (fun m ys H'=>zt vI H'∧ys=(((as.zip aq).take m).filter (isR p k rws)).map fun q=>V.ref q.1) ⟨fun _ _ e=>e,rfl⟩ ?_ ?_ ?_ ?_⟩
     ·rintro m ys vK hm ⟨qp,_⟩;exact⟨_,.ref (as[m]'#[O]),kP.of (qp _ _ vJ),by rw [ah,ak #[O]]; rfl⟩
     ·rintro ys vK ⟨qp,_⟩;exact⟨_,kP.of (qp _ _ vJ),by rw [ab]; lia⟩
     ·rintro m x ys vK Ci hm ⟨qp,rfl⟩ ⟨rfl,hx⟩;obtain⟨b,rfl,hb⟩:=zG (hx _ (kP.of (qp _ _ vJ)));obtain⟨f,hf,xB⟩:=Paired.get va hb;have yz:=(nV f).mp (az hf);have yF:(as.zip aq)[m]? = some (b,f):=by rw [List.getElem?_zip_eq_some]; exact⟨hb,hf⟩
      have kS:(((((as.zip aq).take m).filter (isR p k rws)).map fun q=>V.ref q.1)).length < sizeLine:=by
       have:=cN (isR p k rws) ((as.zip aq).take m);rw [aL] at this;rw [ab];lia
      have rT:((as.zip aq).take (m+1)).filter (isR p k rws)=((as.zip aq).take m).filter (isR p k rws)++if isR p k rws (b,f)=true then [(b,f)] else []:=by
       rw [take_snoc yF,dO,jY,ip]
      refine⟨_,rfl,_,rfl,_,rfl,p,k,l,b,us,rws,f,rfl,qp _ _ Cm,xJ.same qp,l1,#[O],tN,qp _ _ xB,yz,#[O],#[O],#[O],#[O],fun la fl H17 uR s17 h17 k4 ph tZ=>⟨la,fl,rfl,kP.of h17,k4,fun M rM tR=>?_⟩⟩;refine⟨rfl,_,rfl,zby (fun h=>?_) (fun h=>?_)⟩
      ·have h:=of_decide_eq_true h;injection h with h
       have hz:isR p k rws (b,f)=true:=zdj.mpr (zgz tZ (fun c hc=>(ph c hc).1) fun c hc=>by have:=tR c hc; lia);refine⟨_,rfl,kS,qp.trans s17,?_⟩;rw [rT,if_pos hz,aw];rfl
      ·have hz:¬ isR p k rws (b,f)=true:=fun hz=>h (decide_eq_true (by rw [zdQ ph tZ (zdj.mp hz) M rM]))
       refine⟨qp.trans s17,?_⟩;rw [rT,if_neg hz,ci]
     rintro ys vK D ⟨qp,rfl⟩ hD;rw [aQ #[O]];have v16:=zc (o:=.lst (((as.zip aq).filter (isR p k rws)).map fun q=>V.ref q.1)) hD;have g16:kR vK D (.lst (((as.zip aq).filter (isR p k rws)).map fun q=>V.ref q.1)) D=some (.lst (((as.zip aq).filter (isR p k rws)).map fun q=>V.ref q.1)):=zb;have xK:=qp.trans v16;generalize kR vK D (.lst (((as.zip aq).filter (isR p k rws)).map fun q=>V.ref q.1))=Ci at v16 g16 xK ⊢;have yF:∀ x∈(as.zip aq).filter (isR p k rws),Ci x.1=some (.tup (x.2.map V.int)):=fun x hx=>xK _ _ (y3 x (bS.mp hx).1)
     have hzq:∀ q,q∈((as.zip aq).filter (isR p k rws)).map (·.2)↔q∈fq:=fun q=>by
      rw [lx];constructor
      ·intro h;obtain⟨x,hx,rfl⟩:=aJ.mp h;obtain⟨qf,qJ⟩:=bS.mp hx;exact⟨(nV x.2).mp (y2 ▸ aJ.mpr ⟨x,qf,rfl⟩),zdj.mp qJ⟩
      ·rintro⟨h1,h2⟩;have:=(nV q).mpr h1;rw [← y2] at this
       (obtain⟨x,hx,rfl⟩:=aJ.mp this)
       exact aJ.mpr ⟨x,bS.mpr ⟨hx,zdj.mpr h2⟩,rfl⟩
     have hzn:(((as.zip aq).filter (isR p k rws)).map (·.2)).Nodup:=(List.Sublist.map (fun q:Addr×List Int=>q.2) (jo (l:=as.zip aq))).nodup (by rw [y2]; exact xI);refine⟨D,k,p,_,rfl,kP.of g16,fun x hx=>⟨yF x hx,((nV x.2).mp (y2 ▸ aJ.mpr ⟨x,(bS.mp hx).1,rfl⟩))⟩,#[O],#[O],fun l7 ps7 tS vc Cn=>?_⟩;obtain⟨hT7,hq7⟩:=zf1 p0 hzn pB hzq yF vc Cn;rw [zdP (ps:=ps7) rfl];have yG:=zc (o:=.lst ((ps7.map (·.1)).map V.ref)) tS;refine zb6 (kP.of (yG _ _ (xK _ _ oX))) (kP.of zb) (by rw [ab,ab,ab,hq7]; exact sN) (ze0 (((uY.same pC).same xK).same yG) (hT7.same yG)) ⟨_,rfl,zdS ?_⟩;exact tail _ (pC.trans (xK.trans yG))
  ·rintro σ H0 ⟨e1,e2,e3,e4,e5,e6,e7,e8,e9,n6,rfl,s0⟩;exact q _
end
end My
end
section
namespace My
open PySem L2 PyProof.Rows
structure Dn (K:af) (x:Str) (st:Stmt) (f:Addr) (fd:FuncData):Prop where
 a:bH K mainGlobals x=some (some (.ref f))
 f:Fun K x x st f fd
theorem zaO {K:af} {x:Str} {st:Stmt} {f:Addr} {od an:Option Addr} {sl:Array (Option Value)} {oc kV dc pm cd ct:Value} (a:bH K mainGlobals x=some (some (.ref f))) (l:K.lookup f=some ⟨oc,od,.func (cS x x (za2 st) (zaT st) (zh st) .none kV dc pm an cd ct),sl⟩) (c:fg K cd x=true) (k:ff K (.ref f)=true):Dn K x st f (cS x x (za2 st) (zaT st) (zh st) .none kV dc pm an cd ct):=⟨a,ziE l c k⟩
theorem zlZ {l:il} {w:World} {K:af} {h:Heap} {mg:Str→Option Value} {fa fl:Addr} (X:K.In h) (G:h.Ns mainGlobals mg) (sJ:mg "law" = some (.ref fa))
  {od an:Option Addr} {sl:Array (Option Value)} {oc kV dc pm cd ct:Value} (oY:∃ f fd,Dn K "value_at" zbv f fd) (oZ:∃ f fd,Dn K "width_of" zaZ f fd) (rj:∃ f fd,Dn K "filled" zbO f fd) (o3:∃ f fd,Dn K "terms_of" za0 f fd) (rk:∃ f fd,Dn K "raised" zbP f fd) (oD:∃ f fd,Dn K "without_x" zaz f fd) (nW:∃ f fd,Dn K "next_curve" zaC f fd) (pT:∃ f fd,Dn K "further" zaU f fd) (o6:∃ f fd,Dn K "roots_of" zaF f fd) (rm:∃ f fd,Dn K "_law_cell" zcD f fd) (pU:∃ f fd,Dn K "_law_draws" zb3 f fd) (rn:∃ f fd,Dn K "_law_code" zbQ f fd) (pV:∃ f fd,Dn K "_law_curve" zaV f fd) (pW:∃ f fd,Dn K "_law_times" zb4 f fd) (pX:∃ f fd,Dn K "_law_along" zbi f fd) (nC:∃ f fd,Dn K "_law_with_root" zae f fd) (sP:∃ f fd,Dn K "_law_all" zcE f fd)
  (al:bH K mainGlobals "law" = some (some (.ref fl))) (ll:K.lookup fl=some ⟨oc,od,.func (cS "law" "law" (za2 za5) (zaT za5) (zh za5) .none kV dc pm an cd ct),sl⟩) (cl:fg K cd "law" = true) (kl:ff K (.ref fl)=true) (xM:bH K mainGlobals "len" = some none) (sQ:bH K mainGlobals "range" = some none) (vd:bH K mainGlobals "list" = some none) (sR:bH K mainGlobals "tuple" = some none) (xN:bH K mainGlobals "min" = some none) (xO:bH K mainGlobals "max" = some none) (nX:bH K mainGlobals "isinstance" = some none) (xP:bH K mainGlobals "zip" = some none) (oE:bH K mainGlobals "enumerate" = some none) (o7:bH K mainGlobals "reversed" = some none) (xQ:bH K mainGlobals "int" = some none) (rq:bH K mainGlobals "sorted" = some none) (xR:bH K mainGlobals "any" = some none) (xS:bH K mainGlobals "set" = some none) :
  ∃ fd:FuncData,(∀ (s:Shared) (v:Value),BindsTo s fd ⟨[v],[]⟩ [("script",v)])∧∀ base:Heap,K.In base→base.Ns mainGlobals mg→FnOk l.prog w K mg base CX0 5 fa fd ["script"] (zeR K):=by
 cases sJ.symm.trans (bx X G al);obtain⟨f_value_at,ou,md⟩:=oY;have l6:=md.f.binds (ps:=["p","polynomial","x"]) fun _ _ _ _ _ _ us hl=>match us,hl with | [_,_,_],_=>rfl
 obtain⟨f_width_of,om,me⟩:=oZ;have l4:=me.f.binds (ps:=["curve"]) fun _ _ _ _ _ _ us hl=>match us,hl with | [_],_=>rfl
 obtain⟨f_filled,pO,nc⟩:=rj;have m4:=nc.f.binds (ps:=["p","curve"]) fun _ _ _ _ _ _ us hl=>match us,hl with | [_,_],_=>rfl
 obtain⟨f_terms_of,mP,mf⟩:=o3;have lz:=mf.f.binds (ps:=["curve"]) fun _ _ _ _ _ _ us hl=>match us,hl with | [_],_=>rfl
 obtain⟨f_raised,pN,ng⟩:=rk;have mZ:=ng.f.binds (ps:=["p","lines","by"]) fun _ _ _ _ _ _ us hl=>match us,hl with | [_,_,_],_=>rfl
 obtain⟨f_without_x,nR,lU⟩:=oD;have lT:=lU.f.binds (ps:=["lines"]) fun _ _ _ _ _ _ us hl=>match us,hl with | [_],_=>rfl
 obtain⟨f_next_curve,nA,lN⟩:=nW;have lL:=lN.f.binds (ps:=["p","lines","number"]) fun _ _ _ _ _ _ us hl=>match us,hl with | [_,_,_],_=>rfl
 obtain⟨f_further,oS,mI⟩:=pT;have mF:=mI.f.binds (ps:=["p","known","lines"]) fun _ _ _ _ _ _ us hl=>match us,hl with | [_,_,_],_=>rfl
 obtain⟨f_roots_of,oC,mh⟩:=o6;have lM:=mh.f.binds (ps:=["p","k","curve"]) fun _ _ _ _ _ _ us hl=>match us,hl with | [_,_,_],_=>rfl
 obtain⟨f_l_cell,pK,nh⟩:=rm;have mX:=nh.f.binds (ps:=["script","k"]) fun _ _ _ _ _ _ us hl=>match us,hl with | [_,_],_=>rfl
 obtain⟨f_l_draws,l3,mJ⟩:=pU;have kZ:=mJ.f.binds (ps:=["script","k","many","base"]) fun _ _ _ _ _ _ us hl=>match us,hl with | [_,_,_,_],_=>rfl
 obtain⟨f_l_code,pR,ni⟩:=rn;have m7:=ni.f.binds (ps:=["script","at","most_k","most_n"]) fun _ _ _ _ _ _ us hl=>match us,hl with | [_,_,_,_],_=>rfl
 obtain⟨f_l_curve,oV,mK⟩:=pV;have mG:=mK.f.binds (ps:=["script","at","p","high","wide"]) fun _ _ _ _ _ _ us hl=>match us,hl with | [_,_,_,_,_],_=>rfl
 obtain⟨f_l_times,m6,mL⟩:=pW;have lu:=mL.f.binds (ps:=["p","one","other"]) fun _ _ _ _ _ _ us hl=>match us,hl with | [_,_,_],_=>rfl
 obtain⟨f_l_along,oW,mM⟩:=pX;have lX:=mM.f.binds (ps:=["p","curve","polynomial"]) fun _ _ _ _ _ _ us hl=>match us,hl with | [_,_,_],_=>rfl
 obtain⟨f_l_with_root,m8,lE⟩:=nC;have lD:=lE.f.binds (ps:=["p","curve","polynomial"]) fun _ _ _ _ _ _ us hl=>match us,hl with | [_,_,_],_=>rfl
 obtain⟨f_l_all,rd,nY⟩:=sP;have nU:=nY.f.binds (ps:=["p","k"]) fun _ _ _ _ _ _ us hl=>match us,hl with | [_,_],_=>rfl
 have T:Txt K mg ⟨f_value_at,f_width_of,f_filled,f_terms_of,f_raised,f_without_x,f_next_curve,f_further,f_roots_of,f_l_cell,f_l_draws,f_l_code,f_l_curve,f_l_times,f_l_along,f_l_with_root,f_l_all,fa⟩:=⟨bu X G xM,bu X G sQ,bu X G vd,bu X G sR,bu X G xN,bu X G xO,bu X G nX,bu X G xP,bu X G oE,bu X G o7,bu X G xQ,bu X G rq,bu X G xR,bu X G xS,bx X G md.a,bx X G me.a,bx X G nc.a,bx X G mf.a,bx X G ng.a,bx X G lU.a,bx X G lN.a,bx X G mI.a,bx X G mh.a,bx X G nh.a,bx X G mJ.a,bx X G ni.a,bx X G mK.a,bx X G mL.a,bx X G mM.a,bx X G lE.a,bx X G nY.a,⟨_,md.f,l6⟩,⟨_,me.f,l4⟩,⟨_,nc.f,m4⟩,⟨_,mf.f,lz⟩,⟨_,ng.f,mZ⟩,⟨_,lU.f,lT⟩,⟨_,lN.f,lL⟩,⟨_,mI.f,mF⟩,⟨_,mh.f,lM⟩,⟨_,nh.f,mX⟩,⟨_,mJ.f,kZ⟩,⟨_,ni.f,m7⟩,⟨_,mK.f,mG⟩,⟨_,mL.f,lu⟩,⟨_,mM.f,lX⟩,⟨_,lE.f,lD⟩,⟨_,nY.f,nU⟩⟩;have FL:=ziE (st:=za5) ll cl kl;exact⟨cS "law" "law" (za2 za5) (zaT za5) (zh za5) .none kV dc pm an cd ct,fun s v=>.of_eq rfl,fun base _ _=>zlY T FL⟩
theorem walk {l:il} {q:Program} {loose:List Str} {XP:(Str→Option Value)→Heap→Prop} {YP:World→Heap→Prop} {d:DefRec} {K:Params→af} (hn:l.most=some 63) (vR:d.params.defaults = []) (hY:∀ (w:World) (h:Heap),YP w h→(K w.params).In h)
  (F:∀ (w:World) (mg:Str→Option Value) (fa:Addr) (h:Heap),(K w.params).In h→h.Ns mainGlobals mg→mg d.name=some (.ref fa)→∃ fd:FuncData,(∀ (s:Shared) (u:Value),BindsTo s fd ⟨[u],[]⟩ [("script",u)])∧∀ base:Heap,(K w.params).In base→base.Ns mainGlobals mg→FnOk l.prog w (K w.params) mg base CX0 5 fa fd ["script"] (zeR (K w.params))):kv q loose XP YP l.row.toRowW d [] (fun f vs=>kc f vs) :=
 L2.zj8 (n:=63) (k:=5) (x:="script") (CX:=fun _=>CX0) (sp:=fun w=>zeR (K w.params)) hn #[D] vR ⟨rfl,#[D],#[D]⟩ hY F (fun _ _ a ns hl _ hS=>⟨a,ns,rfl,hS,hl,fun _=>rfl⟩) fun _ _ _ _ _ z=>z
end My
namespace PySem.W.Fast
def tw313042497711666292:Unit:=()
def tw3224130779365815546:Unit:=()
def tw11509808996543767993:Unit:=()
def tw12744179870126761653:Unit:=()
def tw5995985635136039838:Unit:=()
def tw4334642850743473833:Unit:=()
def tw11746064551950728728:Unit:=()
def tw546172753046681675:Unit:=()
def tw12329538108870071657:Unit:=()
def tw14586769461805150928:Unit:=()
def tw5557997076903986961:Unit:=()
def tw15940429107171792081:Unit:=()
def tw11020905292030250358:Unit:=()
def tw8370258054093280810:Unit:=()
def tw9598830272666674806:Unit:=()
def tw10953570980839766059:Unit:=()
def tw7510814424841570420:Unit:=()
def tw11563341733094589249:Unit:=()
def tw6173103024140138020:Unit:=()
def tw14606645073836454959:Unit:=()
def tw5734146873540318962:Unit:=()
def tw13172501336041921722:Unit:=()
def tw13592764368679766817:Unit:=()
def tw5876079857027838063:Unit:=()
def tw6748964360897469293:Unit:=()
def tw12236618516957625962:Unit:=()
def tw3590943054883406832:Unit:=()
def tw1627533033209054792:Unit:=()
def tw2945095230557262817:Unit:=()
def tw616312081375816868:Unit:=()
def tw4019532586292521513:Unit:=()
def tw17029132160391085829:Unit:=()
def tw4173945742768908963:Unit:=()
def tw8574453836698729958:Unit:=()
def tw15041222600608469312:Unit:=()
def tw7686453176708134207:Unit:=()
def tw5863055938723449965:Unit:=()
def tw171838704474074107:Unit:=()
def tw598257473285360264:Unit:=()
def tw5536782096384832664:Unit:=()
def tw13954374437621450433:Unit:=()
def tw919699550839110646:Unit:=()
def tw11687342204036450022:Unit:=()
def tw14400667757546080604:Unit:=()
def tw9888016463359750431:Unit:=()
def tw2003102209259199912:Unit:=()
def tw12724963916481261816:Unit:=()
def tw9546561105950874991:Unit:=()
def tw18129180654501807846:Unit:=()
def tw8435774455742007896:Unit:=()
def tw6655209959101408266:Unit:=()
def tw6263950315851786967:Unit:=()
def tw4264830573747100171:Unit:=()
def tw10460642513973271345:Unit:=()
def tw16673316368766981856:Unit:=()
def tw3520523573219262856:Unit:=()
def tw16037438869443550372:Unit:=()
def tw7529459222587103213:Unit:=()
def tw9896786210907802784:Unit:=()
def tw12689758623727360971:Unit:=()
end PySem.W.Fast
open PySem PySem.W
open PyProof.Rows
set_option maxHeartbeats 0 in
theorem PySem.Challenge.cw_slipcurve_k13_whole_roots_holds : PySem.Challenge.rw_slipcurve_k13_whole_roots.Holds := by
 w_on; o_law; k_head; (case hw=>w_witness2)
 k_fill
 refine My.walk (l:=PySem.Challenge.rw_slipcurve_k13_whole_roots) rfl rfl (fun w h Y=>PySem.W.kIn_of Y) ?F
 case F =>
  intro w mg fa h KX G hmg;refine' My.zlZ KX G hmg ⟨_,_,My.zaO ?a_value_at ?l_value_at ?c_value_at ?k_value_at⟩ ⟨_,_,My.zaO ?a_width_of ?l_width_of ?c_width_of ?k_width_of⟩ ⟨_,_,My.zaO ?a_filled ?l_filled ?c_filled ?k_filled⟩ ⟨_,_,My.zaO ?a_terms_of ?l_terms_of ?c_terms_of ?k_terms_of⟩ ⟨_,_,My.zaO ?a_raised ?l_raised ?c_raised ?k_raised⟩ ⟨_,_,My.zaO ?a_without_x ?l_without_x ?c_without_x ?k_without_x⟩ ⟨_,_,My.zaO ?a_next_curve ?l_next_curve ?c_next_curve ?k_next_curve⟩ ⟨_,_,My.zaO ?a_further ?l_further ?c_further ?k_further⟩ ⟨_,_,My.zaO ?a_roots_of ?l_roots_of ?c_roots_of ?k_roots_of⟩ ⟨_,_,My.zaO ?a_l_cell ?l_l_cell ?c_l_cell ?k_l_cell⟩ ⟨_,_,My.zaO ?a_l_draws ?l_l_draws ?c_l_draws ?k_l_draws⟩ ⟨_,_,My.zaO ?a_l_code ?l_l_code ?c_l_code ?k_l_code⟩ ⟨_,_,My.zaO ?a_l_curve ?l_l_curve ?c_l_curve ?k_l_curve⟩ ⟨_,_,My.zaO ?a_l_times ?l_l_times ?c_l_times ?k_l_times⟩ ⟨_,_,My.zaO ?a_l_along ?l_l_along ?c_l_along ?k_l_along⟩ ⟨_,_,My.zaO ?a_l_with_root ?l_l_with_root ?c_l_with_root ?k_l_with_root⟩ ⟨_,_,My.zaO ?a_l_all ?l_l_all ?c_l_all ?k_l_all⟩ ?al ?ll ?cl ?kl ?z_len ?z_range ?z_list ?z_tuple ?z_min ?z_max ?z_isinstance ?z_zip ?z_enumerate ?z_reversed ?z_int ?z_sorted ?z_any ?z_set
  (case a_value_at=>k_is); (case l_value_at=>k_is); (case c_value_at=>k_is); (case k_value_at=>k_is)
  (case a_width_of=>k_is); (case l_width_of=>k_is); (case c_width_of=>k_is); (case k_width_of=>k_is)
  (case a_filled=>k_is); (case l_filled=>k_is); (case c_filled=>k_is); (case k_filled=>k_is)
  (case a_terms_of=>k_is); (case l_terms_of=>k_is); (case c_terms_of=>k_is); (case k_terms_of=>k_is)
  (case a_raised=>k_is); (case l_raised=>k_is); (case c_raised=>k_is); (case k_raised=>k_is)
  (case a_without_x=>k_is); (case l_without_x=>k_is); (case c_without_x=>k_is); (case k_without_x=>k_is)
  (case a_next_curve=>k_is); (case l_next_curve=>k_is); (case c_next_curve=>k_is); (case k_next_curve=>k_is)
  (case a_further=>k_is); (case l_further=>k_is); (case c_further=>k_is); (case k_further=>k_is)
  (case a_roots_of=>k_is); (case l_roots_of=>k_is); (case c_roots_of=>k_is); (case k_roots_of=>k_is)
  (case a_l_cell=>k_is); (case l_l_cell=>k_is); (case c_l_cell=>k_is); (case k_l_cell=>k_is)
  (case a_l_draws=>k_is); (case l_l_draws=>k_is); (case c_l_draws=>k_is); (case k_l_draws=>k_is)
  (case a_l_code=>k_is); (case l_l_code=>k_is); (case c_l_code=>k_is); (case k_l_code=>k_is)
  (case a_l_curve=>k_is); (case l_l_curve=>k_is); (case c_l_curve=>k_is); (case k_l_curve=>k_is)
  (case a_l_times=>k_is); (case l_l_times=>k_is); (case c_l_times=>k_is); (case k_l_times=>k_is)
  (case a_l_along=>k_is); (case l_l_along=>k_is); (case c_l_along=>k_is); (case k_l_along=>k_is)
  (case a_l_with_root=>k_is); (case l_l_with_root=>k_is); (case c_l_with_root=>k_is); (case k_l_with_root=>k_is)
  (case a_l_all=>k_is); (case l_l_all=>k_is); (case c_l_all=>k_is); (case k_l_all=>k_is)
  (case al=>k_is); (case ll=>k_is); (case cl=>k_is); (case kl=>k_is)
  (case z_len=>k_is); (case z_range=>k_is); (case z_list=>k_is); (case z_tuple=>k_is); (case z_min=>k_is); (case z_max=>k_is); (case z_isinstance=>k_is); (case z_zip=>k_is); (case z_enumerate=>k_is); (case z_reversed=>k_is); (case z_int=>k_is); (case z_sorted=>k_is); (case z_any=>k_is); (case z_set=>k_is)
#print axioms PySem.Challenge.cw_slipcurve_k13_whole_roots_holds
end