import PyProof.Rows.All
import Wide.All
import OpenK.AllK
import Wide.FinOn
import Lean
import PyProof.EqAt
import PyProof.EqKinds
import PyProof.Rows.MinMaxN
import PyProof.ListMulRoad
import KE.KUnpackStar
import KE.KIntText
import PyProof.CallStr
import KE.KDictSum
import KE.KSortTup
import PyProof.Walk
import PyProof.Rows.SortRuns
import PyProof.Rows.ChunkEnd
import PyProof.Rows.Range3
import PyProof.Rows.SeqGen
import PyProof.ConsumeWalk
import PyProof.ListRange
import PyProof.NeKinds
import PyProof.TupleCall
import PySem.Challenge.RW_slipcurve_k36_whole_sixteen_places
set_option maxHeartbeats 3999000
open List renaming length_map→ab,getElem?_map→ah,getElem?_eq_getElem→aj,map_append→ao,length_append→ap,mem_map→aq,replicate→ar,size_toArray→au,mem_cons_of_mem→av,getElem?_eq_some_iff→az,mem_of_getElem?→aB,mem_cons→aC,length_take→aD,mem_cons_self→aE,mem_append_right→aG,range→aJ,mem_append→aL,take_length→aM,mem_append_left→aP,mem_singleton→aR,length_replicate→aS,take_of_length_le→aT,mem_filter→aU,getD_eq_getElem?_getD→aW,not_mem_nil→aX,zipWith→a8,mem_range→bd,map_cons→bh,append_assoc→bi,length_range→bm,length_cons→br,getElem?_of_mem→bt,getElem?_eq_none→bv,lookup_cons→bx,map_map→bz,append_nil→bE,getElem?_append_right→bF,getElem?_append_left→bI,pairwise_map→bM,filter_cons_of_pos→bR,filter_cons_of_neg→bS,take_sublist→bT,length_drop→b7,take_append_drop→b9,length_filter_le→cb,filter_append→cf,mem_of_mem_take→ci,replicate_succ→cm,map_congr_left→cn,drop_eq_getElem_cons→cq,getElem?_take_of_lt→cw,getElem?_range→cH,all_eq_true→cN,extract_eq_take_drop→cR,getElem?_set_ne→cT,nodup_cons→cU,ext_getElem?→c9,getElem?_replicate→db,nodup_range→df,drop_eq_nil_of_le→dj,map_take→dq,pairwise_iff_getElem→dv,getElem?_zip_eq_some→dw,drop_zero→dB,take_zero→dC,length_zipWith→dJ,getElem_of_mem→dL,filter_sublist→dM,getElem?_cons_succ→dN,any_cons→dP,forIn_cons→dR,getElem?_drop→dS,filter_nil→dU,length→dW,drop_of_length_le→dY,flatten_cons→dZ,length_singleton→d8,mem_flatMap→et,filterMap_cons→eC,length_take_le→eE,mem_map_of_mem→eF,map_nil→eN,eq_of_mem_replicate→eR,nodup_append→fc,getElem?_set_self→ff,sum_cons→fk,drop_length→fv,concat_eq_append→fw,length_set→fA,foldl→fB,range_succ→fG,find?_cons→fH,mem_of_mem_drop→fI,exists_mem_of_length_pos→fP,eq_nil_of_length_eq_zero→fQ,flatMap_append→fR,length_pos_iff→fS,forIn_nil→fW,pairwise_cons→gd,map_inj_right→gf,nodup_iff_pairwise_ne→gp,take_nil→gr,filter_congr→gC,flatMap_cons→gE,getElem?_inj→gG,getElem?_eq_none_iff→gK,mem_or_eq_of_mem_set→gL,getElem_mem→gS,nil_sublist→gU,sublist_nil→gV,any_eq_true→gW,getElem?_cons_zero→g7,length_eq_zero_iff→g8,of_mem_zip→hU,foldl_cons→hW,nil_append→ic,length_nil→ik,range_succ_eq_map→iu,map_id→iA,filter_eq_nil_iff→iC,length_eq_one_iff→iD,getElem?_zipWith→iE,drop_drop→iG,eq_nil_or_concat→iH,mem_iff_getElem?→iL,pairwise_append→iT,length_eraseIdx→iV,map_drop→i0,filter_eq_self→i8,mem_filterMap→jc,filterMap_map→jg,forIn_toArray→jp,filter_filter→jq,take_add_one→jx,getElem_take→jy,zipIdx_cons→jN,any_toArray→jT,filter_cons→jU,zipIdx_nil→jZ,filter_map→j1,nodup_nil→j6,take_take→j7,all_cons→kf
open PySem renaming wpAny_bind→ae,wpAny_pure→ak,sizeLine_eq→ba,wpAny_callSpecial?_slot→be,wpAny_field→bn,wpAny_call_entry→bq,wpAny_setField_rec→bG,wpAny_newObj_type→bL,boot_len→bQ,wpAny_holding→b8,wpAny_rule→cg,wpAny_loadPart'→cr,wpAny_mono→cJ,wpAny_attempt→cL,wpAny_typeNameOfWhole_keyiter→da,wpAny_seqItems→de,wpAny_passesOwn→dk,wpAny_setField→dA,mem_of_lookup→dI,call_meets→dQ,wpAny_of_eq→dX,builtinLookup_eq_fast→d9,wpAny_isInstance→ek,wpAny_standAt→eA,wpAny_pyIter_enum→fb,seqIndex_of→fh,wpAny_pyIter_zip→fq,wpAny_execs_nil→fz,typeLookup_type→fE,wpAny_updateSeq_pair→fF,isSubtype_type→fT,isSubtype_stop→fU,wpAny_newTuple→fX,wpAny_pyIter_tuple→f9,wpAny_Call_Name_kw→ga,wpAny_letOwnedTupleGo_enum→gm,wpAny_onRaise→gq,wpAny_pyIter_list→gv,wpAny_pyIter_slot→gB,wpAny_dictEntries→gD,typeIs_int→gI,wpAny_binaryOp_repeat_ref→gJ,noFill_tuple_add→gP,wpAny_comprehension_free→gR,wpAny_specialOf→ig,wpAny_dictEpoch→il,wpAny_ite_false→im,wpAny_letGo→iw,wpAny_isOneOf_keyiter→iJ,wpAny_loadName_local→iP,wpAny_pyIter_revIter→iR,seq_tuple_add→iW,wpAny_handled→iX,wpAny_loadName_cell→i3,codeAny_mono→je,concat_meets→jf,wpAny_typeOf→ji,seqIndex_neg→jj,callType_new→jo,list_append→jv,wpAny_throw→jF,seqSlot_of→jR,numAt_eq→jS,wpAny_Name→jV,call→jY
open Nat renaming le_refl→af,le_trans→aN,lt_of_lt_of_le→bb,ne_of_lt→bp,zero_le→bu,lt_irrefl→cj,add_sub_cancel→cD,min_eq_left→cF,zero_add→cY,lt_succ_of_lt→d6,ne_of_gt→eK,add_zero→eQ,sub_zero→eU,succ_le_succ→fm,le_of_not_lt→fo,sub_self→fM,le_succ→f7,le_of_succ_le→gz,le_of_lt→gO,succ_ne_self→gQ,add_sub_cancel_left→g9,pow_le_pow_right→iU,mul_comm→jl,lt_succ_self→jM,le_add_right→jO
open PySem.W renaming Frag→ag,mg_of→aV,mg_none_of→bU,nsIn→bW,fnOf→cV,keepIn→eV,codeIn→eW,methodObj→gu,OpenLaw→ie,cellsFrom_some→iq,WalkO→kg,mroIn→ki
open PySem.Heap renaming get?_push_of_some→ai,get?_push_size→aH,lt_size→aI,SameBut→bg,size_push→bK,get?_update_self→dm,get?_update_other→fi,ExtBut→jE
open Or renaming inl→am,inr→cv
open PyProof.Rows renaming wpS_bind→aw,wpS_pure→aA,callWith_type1→bC,wpS_forRange→cC,slot_tuple_getitem→cS,zipApart_new→cX,wpS_mono→dg,wpS_modify→er,wpS_get→eX,wpS_lift→fY,boot_range→gH,boot_tuple→gM,pairsOf_size→gT,subscriptTail_builtinR→ir,mirror_perm→iB,pairsOf_toList→iK,listUpdate_at→iZ,entry_tuple_getitem→i4,getElem?_mirror_all→i7,args_tuple_getitem→jh,seqEpoch_at→jH
open Int renaming emod_lt_of_pos→aF,emod_nonneg→aK,toNat_natCast→bw,le_refl→bP,le_trans→bY,emod_eq_of_lt→ck,mul_le_mul_of_nonneg_right→cu,mul_zero→cI,mul_comm→dE,zero_mul→dF,le_of_lt→eh,pow_succ→fK,zero_add→fN,one_mul→f8,fdiv_eq_ediv_of_nonneg→gi,natCast_add→io,sub_zero→jr,lt_trichotomy→jz,mul_one→jD,mul_nonneg→j8
open Bool renaming false_ne_true→aO,false_eq_true→bj,eq_iff_iff→bN,and_eq_true→cA,or_eq_true→ij,false_and→j4
open Option.some renaming inj→aQ,injEq→jA
open PySem.Builtin.SmallTypes renaming nextOf→aY,ownedTupleIsFree→bO,ownedTupleHandOut→cB,newRecord→j5
open Array renaming length_toList→aZ,getElem?_toList→bo,toList_append→bH,getElem?_eq_some_iff→cM,toList_extract→c6,perm_iff_toList_perm→eB,toList_reverse→fJ,toList_map→jQ,size_map→j9,toList→kj
open PySem.Value renaming ref→bf,none→di,type→iO,int→i9,str→kc,isStrOf→kd
open PySem.Paired renaming mono→bA,snoc→bD,length→gg
open PySem.PassesOwn renaming never→bJ
open PySem.Str renaming ofString→bV
open PySem.NameKind renaming free→bX,cell→cK
open List.Nodup renaming length_le_of_subset→bZ
open ForInStep renaming yield→cp,done→eY
open PySem.F renaming plainAttrs_list→cE,slot_zip_next→cZ,slot_dict_keyiterator_next→dh,slot_tuple_iterator_next→dn,slot_list_append→dG,type_list_append→dH,slot_enumerate_next→eg,args_tuple_add_2→eL,entry_tuple_add→eZ,args_zip_next_1→fe,slot_tuple_add→fg,entry_zip_next→fu,slot_int_rmul→fC,args_dict_keyiterator_next_1→fL,entry_dict_keyiterator_next→fO,args_tuple_iterator_next_1→fV,entry_tuple_iterator_next→gb,args_tuple_mul_2→ge,entry_tuple_mul→gF,slot_tuple_mul→gZ,args_enumerate_next_1→g6,entry_enumerate_next→iz,slot_list_pop→iM,type_list_pop→iN,args_list_append_2→iQ,args_object_init_2→iS,entry_list_append→i5,slot_list_append→jk,args_int_rmul_2→jw,entry_int_rmul→jK,slot_dict_iter→jP
open PySem.Heap.SameBut renaming update→cG
open PySem.Around renaming in1_units→cP
open PySem.Obj renaming data_mapFields→cQ,mapSeq→cW,isFreed_of_fields→ee,mapFields→gn,cls_mapFields→gA
open List.Pairwise renaming imp_of_mem→c7,imp→d7,nil→gw,sublist→iF,map→jB
open Sum renaming inl→c8,inr→gN
open False renaming elim→dt
open PySem.Builtin.Slice renaming slicePlaces→du,sliceAdjust→eG,sliceApplied→gj
open Ne renaming symm→dz
open PySem.Builtin.Tuple renaming tupleExact→dD,tupleItemsOf→gk,tupleTooMany→gt
open Classical renaming propDecidable→dO,byContradiction→eJ,em→jm
open List.Perm renaming trans→eI
open PySem.Builtin.List renaming listTooLong→eP
open PySem.AutoSeq1 renaming sub_tuple_tuple→eS,idx_int→gX
open Option renaming map_eq_some_iff→fj,isSome_some→jn,getD_none→jI,getD_some→jL,toList→kh,none→kr
open PySem.Builtin.Dict_items renaming ownsTuple→fZ
open PySem.SeqAt.EqAt renaming of_refs→gc,int_str→ja,str_int→jb,same→jX
open PySem.Calls renaming Name_function_global→gh,spliced_cons→jd,spliced_nil→ju
open PyProof.Rows.IsTup renaming new→hV
open PyProof renaming noPylong_small→ip
open PySem.Builtin.Dict renaming showsAll→iI
open List.cons renaming inj→iY
open PySem.SeqAt.RcNeAt renaming tuples→i6
open PySem.SeqAt renaming notIn_listAt→jt,EqAt→jW
open PySem.Data renaming fields→jC,seq→ko
open PySem.Shared renaming heap→jG
open PySem.IsL renaming update→jJ
open PySem.Draws renaming list→j0
open True renaming intro→j2
open PyProof.Rows.SortSt renaming mk'→j3
open Eq renaming symm→kb
open Prod renaming ext→km
open Sum.inl renaming inj→kq
open PySem.W.KatTups renaming cons→kt
local macro_rules | `(tactic| trivial)=>`(tactic| first | exact .inl rfl | exact .inr rfl | assumption)
local macro_rules|`(#[$xs,*])=>do
 let a:=xs.getElems
 if h:a.size=0 then Lean.Macro.throwUnsupported else
 let s:=a[0].raw.getId.eraseMacroScopes.toString
 if s=="O" then `(by lia) else if s=="D" then `(by decide) else if s=="N" then `(by decide +kernel) else if s=="S" then `(⟨rfl,rfl,rfl,by decide +kernel,rfl,by decide +kernel,by decide +kernel⟩) else if s=="A" then `(Or.inl rfl) else if s=="M" then `(by simp) else
 match [("_____eb","zd"),("________eee","zbq zn"),("________eeee","zC"),("_","zd6 zt zay zax zeV z9 zag zW zL zjG ze zbM zf0 zcr zb1 zeb zaR zJ zG zb2 zjN zaU zhB zck zf3 zl8 zil"),("_e__f","pvx"),("_________ereeeddrr","zz zaA"),("___er","ya"),("___e","zo zbt zbl"),("____e","zI zaT zbe zP zfj zfi"),("_______eeeu","zab"),("____","zi zd4"),("__e____efeert","zp"),("_____e","zas"),("______b","zdD"),("_____eer","za zh"),("________________eefeeeneedrr","zq"),("________efeeei","zbd"),("______feer","za3"),("__e_efet","zf"),("____er","zdM"),("____________eeeeeerrrrr","zf2"),("______eee","zfX"),("__e______efeeet","zjz"),("_____________efeeeeei","zad"),("___fe","zN"),("_________feerr","zfr"),("_e___e_fferr","zaK"),("______eerrr","za5"),("______ferr","zaI"),("_____________e___efeefeeeeerit","zat"),("__________eeee","zbj"),("___","zcf"),("_f","zbO"),("__f","zai"),("_e___________feeeeeerrrrr","zjX"),("_ef","zbn zaG zcY"),("________feer","zf6"),("_______eeei","zjx"),("__","zeS"),("_______ee","zhx zgO"),("_e","zjW")].find? fun q=>(q.2.splitOn " ").contains s with
 |none=>Lean.Macro.throwUnsupported
 |some (p,_)=>do
  let mut r:=#[]
  let mut i:=1
  for c in p.toList do
   if c=='e' then
    r:=r.push (a[i]!)
    i:=i+1
   else if c=='b' then
    r:=r.push (←`((by exact $(a[i]!))))
    i:=i+1
   else r:=r.push (←match c with|'_'=>`(_)|'r'=>`((by rfl))|'d'=>`((by decide))|'f'=>`(rfl)|'t'=>`((by trivial))|'i'=>`((by intro _; rfl))|'u'=>`((fun _ _=>rfl))|'n'=>`(.nil)|'l'=>`(Or.inl rfl)|'o'=>`(Or.inr rfl)|_=>`(nomark _))
  return Lean.Syntax.mkApp (←`(@$(⟨a[0].raw⟩):ident)) r
set_option Elab.async false
set_option linter.all false
set_option maxRecDepth 100000
namespace L2
open PySem PySem.Spec PyProof.Rows
abbrev Key:=Sum Int Str
def zeQ:Key→Value→Bool
 | .inl k,v=>Value.isInt k v
 | .inr x,v=>kd x v
def zn3 (w:World):Key→Int
 | .inl k=>hashInt k
 | .inr x=>hashStr w x
theorem zaq:∀ {k:Key} {v:Value},zeQ k v=true→(∃ i t,k=c8 i∧v=i9 i t)∨(∃ x t,k=gN x∧v=kc x t)
 | .inl i,v,h=>by
  obtain⟨t,e⟩:=Value.isInt_shape (k:=i) (v:=v) h;exact .inl ⟨i,t,rfl,e⟩
 | .inr x,v,h=>by
  obtain⟨t,e⟩:=Value.isStrOf_shape (x:=x) (v:=v) h;exact .inr ⟨x,t,rfl,e⟩
theorem ziz (i:Int) (t:Tok):zeQ (.inl i) (.int i t)=true:=by simp [zeQ,Value.isInt]
theorem ziA (x:Str) (t:Tok):zeQ (.inr x) (.str x t)=true:=by simp [zeQ,kd]
theorem zml (a b:Int):decide ((c8 a:Key)=c8 b)=(a == b):=by
 by_cases e:a=b
 ·subst e; simp
 ·have h:¬ (c8 a:Key)=c8 b:=fun q=>e (kq q)
  rw [decide_eq_false h];exact (beq_eq_false_iff_ne.mpr e).symm
theorem zmm (a b:Str):decide ((gN a:Key)=gN b)=decide (a=b):=by
 by_cases e:a=b
 ·subst e; simp
 ·have h:¬ (gN a:Key)=gN b:=fun q=>e (Sum.inr.inj q)
  rw [decide_eq_false h,decide_eq_false e]
theorem zmn (a:Int) (b:Str):decide ((c8 a:Key)=gN b)=false:=decide_eq_false (fun q=>nomatch q)
theorem zmo (a:Str) (b:Int):decide ((gN a:Key)=c8 b)=false:=decide_eq_false (fun q=>nomatch q)
def zaJ (prog:Program) (w:World):PySem.KeyKind prog w Key where
 is:=zeQ
 hash:=zn3 w
 inj:=fun v a b ha hb=>by
  rcases zaq ha with ⟨i,t,rfl,rfl⟩ | ⟨x,t,rfl,rfl⟩
  ·rcases zaq hb with ⟨j,u,rfl,e⟩ | ⟨y,u,rfl,e⟩
   ·injection e with e1 _; rw [e1]
   ·exact nomatch e
  ·rcases zaq hb with ⟨j,u,rfl,e⟩ | ⟨y,u,rfl,e⟩
   ·exact nomatch e
   ·injection e with e1 _; rw [e1]
 byValue:=fun k v h=>by
  rcases zaq h with ⟨i,t,rfl,rfl⟩ | ⟨x,t,rfl,rfl⟩ <;> rfl
 pyHash:=fun hv h=>by
  rcases zaq hv with ⟨i,t,rfl,rfl⟩ | ⟨x,t,rfl,rfl⟩
  ·exact wpAny_pyHash_int h
  ·exact wpAny_pyHash_str h
 eqBool:=fun hu hv h=>by
  rcases zaq hu with ⟨i,t,rfl,rfl⟩ | ⟨x,t,rfl,rfl⟩
  ·rcases zaq hv with ⟨j,u,rfl,rfl⟩ | ⟨y,u,rfl,rfl⟩
   ·rw [zml] at h; exact wpAny_eqBool_int h
   ·rw [zmn] at h; exact ja i t y u _ _ _ _ h
  ·rcases zaq hv with ⟨j,u,rfl,rfl⟩ | ⟨y,u,rfl,rfl⟩
   ·rw [zmo] at h; exact jb x t j u _ _ _ _ h
   ·rw [zmm] at h; exact wpAny_eqBool_str h
 «strs»:=fun k x t v h=>by
  rcases zaq h with ⟨i,u,rfl,e⟩ | ⟨y,u,rfl,e⟩
  ·exact nomatch e
  ·injection e with e1 _
   subst e1;cases v <;> rfl
theorem zfU (prog:Program) (w:World) (i:Int) (t:Tok):(zaJ prog w).is (.inl i) (.int i t)=true:=ziz i t
theorem zfV (prog:Program) (w:World) (x:Str) (t:Tok):(zaJ prog w).is (.inr x) (.str x t)=true:=ziA x t
inductive V where
 | non | bl (b:Bool) | int (i:Int) | str (x:Str) | byt (b:Array UInt8) | flt (b:UInt64) | ref (a:Addr) | ty (n:String)
 deriving DecidableEq
def RelV:V→Value→Prop
 | .non,u=>u=di
 | .bl b,u=>u=Value.bool b
 | .int i,u=>∃ t,u=i9 i t
 | .str x,u=>∃ t,u=kc x t
 | .byt b,u=>∃ t,u=Value.bytes b t
 | .flt b,u=>∃ t,u=Value.float b t
 | .ref a,u=>u=bf a
 | .ty n,u=>u=iO n
abbrev zM:List V→List Value→Prop:=Paired RelV
theorem zM.length {xs:List V} {us:List Value} (r:zM xs us):xs.length=us.length:=gg r
theorem zM.get:∀ {xs:List V} {us:List Value} {i:Nat} {x:V},zM xs us→xs[i]? = some x→∃ u,us[i]? = some u∧RelV x u
 | _,_,_,_,.nil,e=>by simp at e
 | _,_,0,_,.cons r _,e=>by simp at e; subst e; exact⟨_,rfl,r⟩
 | _,_,i+1,x,.cons _ t,e=>by
  obtain⟨u,h1,h2⟩:=zM.get (i:=i) (x:=x) t (by simpa using e);exact⟨u,by simpa using h1,h2⟩
theorem zM.set {x:V} {u:Value} (r:RelV x u):∀ {xs:List V} {us:List Value} (i:Nat),zM xs us→zM (xs.set i x) (us.set i u)
 | _,_,_,.nil=>.nil
 | _,_,0,.cons _ t=>.cons r t
 | _,_,i+1,.cons q t=>.cons q (zM.set r i t)
theorem zM.append:∀ {xs ys:List V} {us ws:List Value},zM xs us→zM ys ws→zM (xs++ys) (us++ws)
 | _,_,_,_,.nil,s=>s
 | _,_,_,_,.cons r t,s=>.cons r (zM.append t s)
theorem zM.take:∀ {xs:List V} {us:List Value} (n:Nat),zM xs us→zM (xs.take n) (us.take n)
 | _,_,0,_=>.nil
 | _,_,_+1,.nil=>.nil
 | _,_,n+1,.cons r t=>.cons r (zM.take n t)
theorem zM.drop:∀ {xs:List V} {us:List Value} (n:Nat),zM xs us→zM (xs.drop n) (us.drop n)
 | _,_,0,r=>r
 | _,_,_+1,.nil=>.nil
 | _,_,n+1,.cons _ t=>zM.drop n t
def zju:Option V→Option Value→Prop
 | some v,some u=>RelV v u
 | none,none=>True
 | _,_=>False
def KV {κ:Type}:List (κ×V)→List (κ×Value)→Prop:=Paired fun (p:κ×V) (q:κ×Value)=>p.1=q.1∧RelV p.2 q.2
def kV:Key→V
 | .inl i=>.int i
 | .inr x=>.str x
inductive HO where
 | lst (xs:List V)
 | tup (xs:List V)
 | dK (kE:List (Key×V)) | dT (kE:List (List Key×V))
 | set (S:Int→Bool) (n:Nat)
 | ins (C dx:Addr) (fs:List (Str×V))
 | own (x:Addr)
 | xd (fs:List (Str×V))
 | met (f x:Addr)
 | rng (lo hi:Int)
 | frz (o:Obj) (u:HO)
 | tbl (ps:Array Value)
 | ext (φ:Heap→Prop)
abbrev Hp:=Addr→Option HO
def kB (H:Hp) (a:Addr) (o:HO):Hp:=fun b=>if b=a then some o else H b
theorem zb {H:Hp} {a:Addr} {o:HO}:kB H a o a=some o:=by unfold kB; rw [if_pos rfl]
theorem zr {H:Hp} {a b:Addr} {o:HO} (h:b≠a):kB H a o b=H b:=by unfold kB; rw [if_neg h]
theorem zkY {H:Hp} {a:Addr} {o u:HO}:kB (kB H a o) a u=kB H a u:=by
 funext b; unfold kB; split <;> rfl
theorem zni {H:Hp} {a b:Addr} {o u:HO} (h:H a=some o) (h':H b=some u) (d:o≠u):a≠b:=by
 intro e; subst e; rw [h] at h'; exact d (aQ h')
theorem zQ {H:Hp} {a b:Addr} {o:HO} (h:H a=some o) (h':H b=none):a≠b:=by
 intro e; subst e; rw [h] at h'; cases h'
section
variable (P:Program) (w:World)
def zaD (H:Hp) (h:Heap) (a:Addr):HO→Prop
 | .lst xs=>xs.length≤sizeLine∧∃ (kz:List Value) (n:Nat),zM xs kz∧h.get? a=some { cls:=.type "list",data:=.seq kz.toArray n }
 | .tup xs=>xs.length≤sizeLine∧∃ kz:List Value,zM xs kz∧IsTup h a kz.toArray
 | .dK kE=>kE.length≤sizeLine∧(a == sysModules)=false∧∃ vs,KV kE vs∧h.DictOf (zaJ P w) a vs
 | .dT kE=>kE.length≤sizeLine∧(a == sysModules)=false∧∃ xs:List (List Key×Addr×Value),
   Paired (fun (p:List Key×V) (q:List Key×Addr×Value)=>p.1=q.1∧H q.2.1=some (.tup (p.1.map kV))∧RelV p.2 q.2.2) kE xs ∧
   ∃ o es ep,h.get? a=some o∧o.ExactDict∧o.data = .dict es ep∧es.toList=xs.map (entryOfKey (tupleKind (zaJ P w)))∧(xs.map (·.1)).Nodup
 | .set S n=>h.SetOf (intKind P w) a S n
 | .ins C dx fs=>H dx=some (.own a)∧fs.length≤1000∧dx≠a∧h.get? a=some (PySem.W.instObj C dx) ∧
   ∃ mA,h.Ns1 dx mA∧(∀ f,zju (fs.lookup f) (mA f))∧PySem.Within mA (fs.map (·.1))
 | .own _=>∃ o,h.get? a=some o
 | .xd fs=>∃ mA,h.Ns1 a mA∧∀ f,zju (fs.lookup f) (mA f)
 | .rng lo hi=>∃ t u v,h.get? a=some { cls:=.type "range",data:=.fields #[.int lo t,.int hi u,.int 1 v] }
 | .frz o u=>h.get? a=some o∧zaD H h a u
 | .tbl ps=>h.get? a=some { cls:=.none,data:=.fields ps }
 | .met f x=>h.get? a=some (gu (.ref f) (.ref x))
 | .ext φ=>φ h∧(∃ o,h.get? a=some o)∧∀ h1 h2:Heap,φ h1→(∀ o,h1.get? a=some o→h2.get? a=some o)→φ h2
def HOk (H:Hp) (h:Heap):Prop:=∀ a o,H a=some o→zaD P w H h a o
end
section
variable {P:Program} {w:World} {H H':Hp} {h h':Heap} {a:Addr} {o:HO}
theorem zaD.lt (x:zaD P w H h a o):a < h.objs.size:=by
 cases o with
 | lst xs=>obtain⟨_,_,_,_,e⟩:=x; exact aI e
 | tup xs=>obtain⟨_,_,_,p⟩:=x; exact p.lt
 | dK kE=>obtain⟨_,_,_,_,o,_,_,e,_⟩:=x; exact aI e
 | dT kE=>obtain⟨_,_,_,_,o,_,_,e,_⟩:=x; exact aI e
 | set S n=>obtain⟨o,_,_,_,e,_⟩:=x; exact aI e
 | ins C dx fs=>obtain⟨_,_,_,e,_⟩:=x; exact aI e
 | own y=>obtain⟨_,e⟩:=x; exact aI e
 | xd fs=>obtain⟨_,⟨_,_,_,e,_⟩,_⟩:=x; exact aI e
 | rng lo hi=>obtain⟨_,_,_,e⟩:=x; exact aI e
 | frz ob u=>obtain⟨e,_⟩:=x; exact aI e
 | tbl ps=>exact aI (show h.get? a=some _ from x)
 | met f y=>exact aI (show h.get? a=some _ from x)
 | ext φ=>obtain⟨_,⟨_,e⟩,_⟩:=x; exact aI e
theorem Paired.mapP {α β:Type} {F G:α→β→Prop}:∀ {l₁:List α} {l₂:List β},Paired F l₁ l₂→(∀ a b,F a b→G a b)→Paired G l₁ l₂
 | _,_,.nil,_=>.nil
 | _,_,.cons r t,f=>.cons (f _ _ r) (Paired.mapP t f)
theorem zaD.stay (x:zaD P w H h a o) (k:∀ b u,(b=a∨H b=some (.own a))→h.get? b=some u→h'.get? b=some u)
  (ho:∀ b,H b=some (.own a)→H' b=some (.own a)) (ht:∀ b xs,H b=some (.tup xs)→H' b=some (.tup xs)):zaD P w H' h' a o:=by
 induction o with
 | lst xs=>obtain⟨z,kz,n,r,e⟩:=x; exact⟨z,kz,n,r,k _ _ (.inl rfl) e⟩
 | tup xs=>obtain⟨z,kz,r,ob,e,c⟩:=x; exact⟨z,kz,r,ob,k _ _ (.inl rfl) e,c⟩
 | dK kE=>obtain⟨z,y,vs,r,ob,es,ep,e,c⟩:=x; exact⟨z,y,vs,r,ob,es,ep,k _ _ (.inl rfl) e,c⟩
 | dT kE =>
  obtain⟨z,y,xs,r,ob,es,ep,e,c⟩:=x;exact⟨z,y,xs,Paired.mapP r fun p q z=>⟨z.1,ht _ _ z.2.1,z.2.2⟩,ob,es,ep,k _ _ (.inl rfl) e,c⟩
 | set S n=>obtain⟨ob,es,ep,t,e,c⟩:=x; exact⟨ob,es,ep,t,k _ _ (.inl rfl) e,c⟩
 | ins C dx fs =>
  obtain⟨d,z,ne,e,mA,⟨od,es,ep,e2,c⟩,r⟩:=x;exact⟨ho _ d,z,ne,k _ _ (.inl rfl) e,mA,⟨od,es,ep,k _ _ (.inr d) e2,c⟩,r⟩
 | own y=>obtain⟨ob,e⟩:=x; exact⟨ob,k _ _ (.inl rfl) e⟩
 | xd fs=>obtain⟨mA,⟨od,es,ep,e,c⟩,r⟩:=x; exact⟨mA,⟨od,es,ep,k _ _ (.inl rfl) e,c⟩,r⟩
 | rng lo hi=>obtain⟨t,u,v,e⟩:=x; exact⟨t,u,v,k _ _ (.inl rfl) e⟩
 | frz ob u ih=>obtain⟨e,q⟩:=x; exact⟨k _ _ (.inl rfl) e,ih q⟩
 | tbl ps =>
  have e:h.get? a=some { cls:=.none,data:=.fields ps }:=x;show h'.get? a=some { cls:=.none,data:=.fields ps };exact k a _ (.inl rfl) e
 | met f y =>
  have e:h.get? a=some (gu (.ref f) (.ref y)):=x;show h'.get? a=some (gu (.ref f) (.ref y));exact k a _ (.inl rfl) e
 | ext φ=>obtain⟨p,⟨o,e⟩,st⟩:=x; exact⟨st _ _ p fun o q=>k _ _ (.inl rfl) q,⟨o,k _ _ (.inl rfl) e⟩,st⟩
theorem HOk.lt (x:HOk P w H h) (e:H a=some o):a < h.objs.size:=(x a o e).lt
theorem HOk.fresh (x:HOk P w H h) (e:h.objs.size≤a):H a=none:=by
 cases q:H a with
 | none=>rfl
 | some u=>exact absurd (bb (x.lt q) e) (cj _)
theorem HOk.kept (x:HOk P w H h) (k:∀ b u,h.get? b=some u→h'.get? b=some u):HOk P w H h':=fun a o e =>
 (x a o e).stay (fun b u _ q=>k b u q) (fun _ q=>q) fun _ _ q=>q
theorem HOk.laid (x:HOk P w H h) (k:∀ b u,h.get? b=some u→h'.get? b=some u) (hp:h.objs.size≤a) (new:zaD P w (kB H a o) h' a o):HOk P w (kB H a o) h':=fun b u e=>by
 have hn:=x.fresh hp;by_cases hb:b=a
 ·subst hb; rw [zb] at e; cases e; exact new
 ·rw [zr hb] at e;exact (x b u e).stay (fun c v _ q=>k c v q) (fun c q=>by rw [zr (zQ q hn)]; exact q) fun c xs q=>by rw [zr (zQ q hn)]; exact q
end
def Rd (H:Hp) (a:Addr) (u:HO):Prop:=H a=some u∨∃ o,H a=some (.frz o u)
theorem Rd.ok {P:Program} {w:World} {H:Hp} {h:Heap} {a:Addr} {u:HO} (r:Rd H a u) (x:HOk P w H h):zaD P w H h a u:=by
 rcases r with r | ⟨o,r⟩
 ·exact x a u r
 ·obtain⟨_,q⟩:=x a _ r;exact q
def Mut:Option HO→Prop
 | some (.lst _)=>True
 | some (.dK _)=>True
 | some (.dT _)=>True
 | some (.set _ _)=>True
 | some (.ins _ _ _)=>True
 | some (.ext _)=>True
 | _=>False
section
variable {P:Program} {w:World} {H:Hp} {h h':Heap} {x e:Addr} {o':HO}
theorem HOk.write (ok:HOk P w H h) (mu:Mut (H x)) (he:e=x∨H e=some (.own x)) (k:∀ b u,b≠e→h.get? b=some u→h'.get? b=some u) (xb:∃ u,h'.get? e=some u)
  (new:zaD P w (kB H x o') h' x o'):HOk P w (kB H x o') h':=fun b u q=>by
 have xN:∀ c y,H c=some (.own y)→c≠x:=fun c y r z=>by subst z; rw [r] at mu; exact mu
 have BU:∀ c xs,H c=some (.tup xs)→c≠x:=fun c xs r z=>by subst z; rw [r] at mu; exact mu
 by_cases hb:b=x
 ·subst hb; rw [zb] at q; cases q; exact new
 ·rw [zr hb] at q;by_cases vH:b=e
  ·have q':H b=some (.own x):=by
    rcases he with z | z
    ·exact absurd (vH.trans z) hb
    ·rw [vH]; exact z
   rw [q] at q'; cases q';obtain⟨v,hv⟩:=xb;exact⟨v,by rw [vH]; exact hv⟩
  ·refine (ok b u q).stay (fun c v hc r=>k c v ?_ r) (fun c r=>by rw [zr (xN c b r)]; exact r) fun c xs r=>by rw [zr (BU c xs r)]; exact r
   rcases hc with rfl | hc
   ·exact vH
   ·rintro rfl;rcases he with z | z
    ·exact xN c b hc z
    ·rw [hc] at z; cases z; exact hb rfl
end
structure Un (fs ex:List Addr) (H H':Hp) (h h':Heap):Prop where
 keep:∀ b o,h.get? b=some o→H b=none→b∉fs→b∉ex→h'.get? b=some o
 slot:∀ b o,h.get? b=some o→H b=none→b∈fs→b∉ex→∃ sl,h'.get? b=some { o with slots:=sl }
 free:∀ b o,h.get? b=some o→H b=none→b∉ex→H' b=none
 there:∀ b o,h.get? b=some o→b∉ex→∃ o',h'.get? b=some o'
 tups:∀ b xs,H b=some (.tup xs)→H' b=some (.tup xs)
 frzs:∀ b o u,H b=some (.frz o u)→H' b=some (.frz o u)
 tbls:∀ b ps,H b=some (.tbl ps)→∃ more,H' b=some (.tbl (ps++more))
section
variable {fs fs' ex ex':List Addr} {H H1 H2:Hp} {h h1 h2 h':Heap} {a x e:Addr} {o:HO}
theorem Un.any (u:Un fs ex H H1 h h1) {b:Addr} {ob:Obj} (q:h.get? b=some ob) (n:H b=none) (hx:b∉ex):∃ sl,h1.get? b=some { ob with slots:=sl }:=by
 by_cases hb:b∈fs
 ·exact u.slot b ob q n hb hx
 ·exact⟨ob.slots,u.keep b ob q n hb hx⟩
theorem Un.kept (k:∀ b u,h.get? b=some u→h'.get? b=some u):Un fs ex H H h h' :=
 ⟨fun b ob q _ _ _=>k b ob q,fun b ob q _ _ _=>⟨ob.slots,k b ob q⟩,fun _ _ _ n _=>n,fun b ob q _=>⟨ob,k b ob q⟩,fun _ _ q=>q,fun _ _ _ q=>q,fun _ ps q=>⟨#[],by rw [q]; simp⟩⟩
theorem Un.refl:Un fs ex H H h h:=Un.kept fun _ _ q=>q
theorem Un.laid (k:∀ b u,h.get? b=some u→h'.get? b=some u) (hp:h.objs.size≤a) (hn:H a=none):Un fs ex H (kB H a o) h h' where
 keep:=fun b u q _ _ _=>k b u q
 slot:=fun b u q _ _ _=>⟨u.slots,k b u q⟩
 free:=fun b u q n _=>by rw [zr (bp (bb (aI q) hp))]; exact n
 there:=fun b u q _=>⟨u,k b u q⟩
 tups:=fun b xs q=>by rw [zr (zQ q hn)]; exact q
 frzs:=fun b u xs q=>by rw [zr (zQ q hn)]; exact q
 tbls:=fun b ps q=>⟨#[],by rw [zr (zQ q hn),q]; simp⟩
theorem Un.write (mu:Mut (H x)) (he:e=x∨H e=some (.own x)) (k:∀ b u,b≠e→h.get? b=some u→h'.get? b=some u) (xb:∃ u,h'.get? e=some u):Un fs ex H (kB H x o) h h':=by
 have hx:∀ b,H b=none→b≠x:=fun b n z=>by subst z; rw [n] at mu; exact mu
 have hb:∀ b,H b=none→b≠e:=fun b n z=>by
  subst z;rcases he with r | r
  ·exact hx b n r
  ·rw [n] at r; cases r
 have hm:∀ b u,H b=some u→¬ Mut (some u)→b≠x:=fun b u q nm z=>by subst z; rw [q] at mu; exact nm mu
 refine⟨fun b u q n _ _=>k b u (hb b n) q,fun b u q n _ _=>⟨u.slots,k b u (hb b n) q⟩,fun b u q n _=>by rw [zr (hx b n)]; exact n,fun b u q _=>?_,
  fun b xs q=>by rw [zr (hm b _ q fun z=>z)]; exact q,fun b u xs q=>by rw [zr (hm b _ q fun z=>z)]; exact q,fun b ps q=>⟨#[],by rw [zr (hm b _ q fun z=>z),q]; simp⟩⟩
 by_cases vH:b=e
 ·subst vH; exact xb
 ·exact⟨u,k b u vH q⟩
end
def trk (h:Heap) (H:Hp):List Addr:=(aJ h.objs.size).filter fun a=>(H a).isSome
def zfh (h:Heap) (H:Hp):Heap:=PySem.W.hideAll h (trk h H)
theorem ziB (h:Heap) (H:Hp):(zfh h H).objs.size=h.objs.size:=PySem.W.hideAll_size _ _
theorem zjv {h:Heap} {H:Hp} {b:Addr} {o:Obj} (e:h.get? b=some o) (n:H b=none):(zfh h H).get? b=some o :=
 PySem.W.hideAll_get _ e fun hm=>by
  have q:(H b).isSome=true:=(aU.mp hm).2;rw [n] at q; simp at q
theorem zkZ {h:Heap} {H:Hp} {b:Addr} {o:Obj} (e:(zfh h H).get? b=some o):h.get? b=some o∧H b=none:=by
 have e':h.get? b=some o:=PySem.W.of_hideAll (trk h H) e;refine⟨e',?_⟩;cases q:H b with
 | none=>rfl
 | some x =>
  have hm:b∈trk h H:=aU.mpr ⟨bd.mpr (aI e'),by simp [q]⟩;have z:(zfh h H).get? b=none:=PySem.W.hideAll_none (trk h H) hm;rw [z] at e; cases e
structure Mod (K:ag) (mg:Str→Option Value) (base:Heap):Prop where
 kin:K.In base
 glob:base.Ns mainGlobals mg
 blt:∃ mb,base.Ns builtinsNs mb∧∀ x:Str,x≠"__name__"→mb x=bootBuiltins x
 nolimit:base.NoLimit
structure Cx where
 prog:Program
 w:World
 K:ag
 mg:Str→Option Value
 base:Heap
 A:Around
 N:List Str
 s₀:Shared
 H₀:Hp
 env:Env
 outer:List Env
 stack:List Env
 ex:List Addr
 fn:Str→Bool
 calm:Bool
 pn:List (Addr×Obj)
 xe:Value→Shared→Prop
def frs (l:List Env):List Addr:=l.filterMap (·.frame)
abbrev Cx.fs (X:Cx):List Addr:=frs X.outer
def Vis (sc:Scope) (x:Str):Prop:=sc.names.lookup x=some .local∨sc.names.lookup x=some .cell∨sc.names.lookup x=some .free
def Loc (sc:Scope) (x:Str):Prop:=sc.names.lookup x=some .local∨sc.names.lookup x=some .cell
def Look (env:Env) (h:Heap) (m:Str→Option Value) (x:Str) (u:Value):Prop :=
 (env.kindOf x=some .local∧m x=some u)∨((env.kindOf x=some .cell∨env.kindOf x=some .free)∧∃ c,env.cells.lookup x=some c∧h.IsCell c (some u))
structure Cx.Ok (X:Cx):Prop where
 mod:Mod X.K X.mg X.base
 kind:X.env.scope.kind = .function
 glob:X.env.globals=mainGlobals
 blt:X.env.builtins=builtinsNs
 above:X.s₀.heap.objs.size≤X.env.locals
 inj:∀ x y c,X.env.cells.lookup x=some c→X.env.cells.lookup y=some c→x=y
 has:∀ x,(X.env.kindOf x=some .cell∨X.env.kindOf x=some .free)→∃ c,X.env.cells.lookup x=some c
 cab:∀ x c,X.fn x=true→X.env.cells.lookup x=some c→X.s₀.heap.objs.size≤c
 hd:X.calm=true→X.A.handled=none
 frames:X.A.frames=some X.stack
 stk:X.stack=X.outer∨(X.stack=X.env :: X.outer∧X.env.frame=some X.env.locals)
 exf:∀ b∈X.ex,b≠X.env.locals∧∀ x c,X.env.cells.lookup x=some c→c≠b
 bs:∀ b o,X.base.get? b=some o→X.s₀.heap.get? b=some o∧X.H₀ b=none
 bsz:X.base.objs.size≤X.s₀.heap.objs.size
 noex:∀ b o,X.base.get? b=some o→b∉X.ex
 exfs:∀ b∈X.ex,b∉X.fs
 funs:X.s₀.heap.FunFrames X.base X.outer
 frf:∀ b∈X.fs,X.H₀ b=none
structure Inv (X:Cx) (ku:List (Addr×Obj)) (σ:List (Option V)) (H:Hp) (s:Shared):Prop where
 ok:X.Ok
 os:s.os=X.s₀.os
 bare:AllBare s.gens
 base:Un X.fs X.ex X.H₀ H X.s₀.heap s.heap
 loc:∃ m,s.heap.Ns X.env.locals m∧∀ (i:Nat) (x:Str) (v:V),X.N[i]? = some x→σ[i]? = some (some v)→Vis X.env.scope x→∃ u,RelV v u∧Look X.env s.heap m x u
 cell:∀ x c,X.env.cells.lookup x=some c→∃ v,s.heap.IsCell c v
 free:H X.env.locals=none
 freeC:∀ x c,X.env.cells.lookup x=some c→H c=none
 pin:∀ p∈X.pn++ku,s.heap.get? p.1=some p.2∧H p.1=none∧p.1≠X.env.locals∧p.1∉X.fs∧∀ v,p.2.data≠.cell v
 hok:HOk X.prog X.w H s.heap
 len:σ.length=X.N.length
section
variable {X:Cx} {ku:List (Addr×Obj)} {σ:List (Option V)} {H H':Hp} {s:Shared} {h':Heap}
theorem Cx.Ok.nofr (ok:X.Ok) {b:Addr} {o:Obj} (e:X.base.get? b=some o):b∉X.fs:=fun hb=>by
 have:=(ok.funs.mem hb).1;rw [e] at this; cases this
theorem Inv.bs (I:Inv X ku σ H s):∀ b o,X.base.get? b=some o→s.heap.get? b=some o∧H b=none:=fun b o e =>
 ⟨I.base.keep b o (I.ok.bs b o e).1 (I.ok.bs b o e).2 (I.ok.nofr e) (I.ok.noex b o e),I.base.free b o (I.ok.bs b o e).1 (I.ok.bs b o e).2 (I.ok.noex b o e)⟩
theorem Inv.bk (I:Inv X ku σ H s):∀ b o,X.base.get? b=some o→s.heap.get? b=some o:=fun b o e=>(I.bs b o e).1
theorem Inv.mod (I:Inv X ku σ H s):Mod X.K X.mg X.base:=I.ok.mod
theorem Inv.kIn (I:Inv X ku σ H s):X.K.In s.heap:=I.ok.mod.kin.keeps I.bk
theorem Inv.lt (I:Inv X ku σ H s):X.env.locals < s.heap.objs.size:=let ⟨_,hn,_⟩:=I.loc; hn.lt
theorem Inv.sz (I:Inv X ku σ H s):X.s₀.heap.objs.size≤s.heap.objs.size:=aN I.ok.above (gO I.lt)
theorem Inv.nofs (I:Inv X ku σ H s) {a:Addr} (h:s.heap.objs.size≤a):a∉X.fs:=fun hb=>by
 obtain⟨_,o,ho,_⟩:=I.ok.funs.mem hb;exact absurd (bb (aI ho) (aN I.sz h)) (cj _)
theorem Inv.cne (I:Inv X ku σ H s):∀ x c,X.env.cells.lookup x=some c→c≠X.env.locals:=fun x c e z=>by
 obtain⟨v,o,ho,hd⟩:=I.cell x c e;obtain⟨m,⟨o',es,ep,ug,xc,_⟩,_⟩:=I.loc;rw [z,ug] at ho; cases ho; rw [xc] at hd; cases hd
theorem Inv.funs (I:Inv X ku σ H s):s.heap.FunFrames X.base X.outer:=by
 have all:∀ (l:List Env),(∀ b∈frs l,b∈X.fs)→X.s₀.heap.FunFrames X.base l→s.heap.FunFrames X.base l:=by
  intro l;induction l with
  | nil=>intro _ _; trivial
  | cons env r ih =>
   intro hs hl;obtain⟨hk,⟨L,o,hf,hn,ho,hd⟩,hr⟩:=hl;have hL:L∈X.fs:=hs L (by unfold frs; rw [eC,hf]; exact aE);obtain⟨sl,e⟩:=I.base.slot L o ho (I.ok.frf L hL) hL fun z=>I.ok.exfs L z hL
   exact⟨hk,⟨L,_,hf,hn,e,hd⟩,ih (fun b hb=>hs b (by unfold frs; rw [eC,hf]; exact av _ hb)) hr⟩
 exact all X.outer (fun _ hb=>hb) I.ok.funs
theorem Inv.stack (I:Inv X ku σ H s):s.heap.FunFrames X.base X.stack:=by
 rcases I.ok.stk with e | ⟨e,hf⟩
 ·rw [e]; exact I.funs
 ·rw [e];obtain⟨m,hn,_⟩:=I.loc;refine .cons (by rw [I.ok.kind]; decide) hf hn ?_ I.funs;exact Heap.get?_none_of_le (aN I.ok.bsz I.ok.above)
theorem Inv.stkSub (I:Inv X ku σ H s):∀ b∈frs X.stack,b∈X.env.locals :: X.fs:=fun b hb=>by
 rcases I.ok.stk with e | ⟨e,hf⟩
 ·rw [e] at hb; exact av _ hb
 ·rw [e] at hb;unfold frs at hb;rw [eC,hf] at hb;exact hb
theorem Inv.stkFree (I:Inv X ku σ H s):∀ b∈frs X.stack,H b=none:=fun b hb=>by
 rcases aC.mp (I.stkSub b hb) with e | hb
 ·rw [e]; exact I.free
 ·obtain⟨_,o,ho,_⟩:=I.ok.funs.mem hb;exact I.base.free b o ho (I.ok.frf b hb) fun z=>I.ok.exfs b z hb
theorem Inv.step {g':Array GenState} {t':Nat} {d':Drawn} {ch:List Addr} (I:Inv X ku σ H s)
  (qe:∀ b∈ch,(b∈X.ex∨X.s₀.heap.objs.size≤b)∧b≠X.env.locals∧(∀ x c,X.env.cells.lookup x=some c→c≠b)∧∀ p∈X.pn++ku,p.1≠b)
  (keep:∀ b o,b≠X.env.locals→b∉X.fs→b∉ch→s.heap.get? b=some o→H b=none→h'.get? b=some o)
  (slot:∀ b o,b≠X.env.locals→b∈X.fs→b∉ch→s.heap.get? b=some o→H b=none→∃ sl,h'.get? b=some { o with slots:=sl }) (free:∀ b o,b∉ch→s.heap.get? b=some o→H b=none→H' b=none)
  (there:∀ b o,b∉ch→s.heap.get? b=some o→∃ o',h'.get? b=some o')
  (tups:∀ b xs,H b=some (.tup xs)→H' b=some (.tup xs)) (frzs:∀ b o u,H b=some (.frz o u)→H' b=some (.frz o u)) (tbls:∀ b ps,H b=some (.tbl ps)→∃ more,H' b=some (.tbl (ps++more)))
  (ns:∀ m,s.heap.Ns X.env.locals m→h'.Ns X.env.locals m) (hok:HOk X.prog X.w H' h') (hg:AllBare g') :
  Inv X ku σ H' { s with heap:=h',gens:=g',drawn:=d',toks:=t' }:=by
 have neL:∀ b o,X.s₀.heap.get? b=some o→b≠X.env.locals:=fun b o e=>bp (bb (aI e) I.ok.above)
 have AS:∀ b o,X.s₀.heap.get? b=some o→b∉X.ex→b∉ch:=fun b o e hx hb=>by
  rcases (qe b hb).1 with z | z
  ·exact hx z
  ·exact absurd (bb (aI e) z) (cj _)
 have cellK:∀ x c,X.env.cells.lookup x=some c→∀ v,s.heap.IsCell c v→h'.IsCell c v:=fun x c e v ⟨o,ho,hd⟩=>by
  have xO:c∉ch:=fun z=>(qe c z).2.2.1 x c e rfl
  by_cases hc:c∈X.fs
  ·obtain⟨sl,q⟩:=slot c o (I.cne x c e) hc xO ho (I.freeC x c e);exact⟨_,q,hd⟩
  ·exact⟨o,keep c o (I.cne x c e) hc xO ho (I.freeC x c e),hd⟩
 refine⟨I.ok,I.os,hg,⟨fun b o e n hb hx=>?_,fun b o e n hb hx=>?_,fun b o e n hx=>?_,fun b o e hx=>?_,fun b xs e=>tups b xs (I.base.tups b xs e),fun b o xs e=>frzs b o xs (I.base.frzs b o xs e),fun b ps e=>?_⟩,?_,fun x c e=>?_,?_,fun x c e=>?_,fun p hp=>?_,hok,I.len⟩
 ·exact keep b o (neL b o e) hb (AS b o e hx) (I.base.keep b o e n hb hx) (I.base.free b o e n hx)
 ·obtain⟨sl,e1⟩:=I.base.slot b o e n hb hx;obtain⟨sl',e2⟩:=slot b _ (neL b o e) hb (AS b o e hx) e1 (I.base.free b o e n hx);exact⟨sl',e2⟩
 ·obtain⟨o',e1⟩:=I.base.there b o e hx;exact free b o' (AS b o e hx) e1 (I.base.free b o e n hx)
 ·obtain⟨o',e1⟩:=I.base.there b o e hx;exact there b o' (AS b o e hx) e1
 ·obtain⟨m1,e1⟩:=I.base.tbls b ps e;obtain⟨m2,e2⟩:=tbls b _ e1;exact⟨m1++m2,by rw [e2,Array.append_assoc]⟩
 ·obtain⟨m,hn,hl⟩:=I.loc;refine⟨m,ns m hn,fun i x v e1 e2 e3=>?_⟩;obtain⟨u,r,l⟩:=hl i x v e1 e2 e3;refine⟨u,r,?_⟩;rcases l with l | ⟨k,c,e,z⟩
  ·exact .inl l
  ·exact .inr ⟨k,c,e,cellK x c e _ z⟩
 ·obtain⟨v,z⟩:=I.cell x c e;exact⟨v,cellK x c e v z⟩
 ·obtain⟨m,⟨o,_,_,ho,_⟩,_⟩:=I.loc;exact free _ o (fun z=>(qe _ z).2.1 rfl) ho I.free
 ·obtain⟨v,o,ho,hd⟩:=I.cell x c e;exact free c o (fun z=>(qe c z).2.2.1 x c e rfl) ho (I.freeC x c e)
 ·obtain⟨e,n,ne,nf,d⟩:=I.pin p hp;have xO:p.1∉ch:=fun z=>(qe p.1 z).2.2.2 p hp rfl
  exact⟨keep p.1 p.2 ne nf xO e n,free p.1 p.2 xO e n,ne,nf,d⟩
theorem Inv.un {t':Nat} (I:Inv X ku σ H s) (u:Un X.fs [] H H' s.heap h') (hok:HOk X.prog X.w H' h'):Inv X ku σ H' { s with heap:=h',toks:=t' }:=by
 obtain⟨m,⟨o,es,ep,ho,r⟩,_⟩:=id I.loc;obtain⟨sl,hL⟩:=u.any ho I.free #[M];exact I.step (g':=s.gens) (d':=s.drawn) (ch:=[]) (fun _ z=>nomatch z) (fun b o _ hb _ e n=>u.keep b o e n hb #[M]) (fun b o _ hb _ e n=>u.slot b o e n hb #[M]) (fun b o _ e n=>u.free b o e n #[M]) (fun b o _ e=>u.there b o e #[M]) u.tups u.frzs u.tbls (fun m' hm=>by
  obtain⟨o',uw,BV,ug,r'⟩:=hm;rw [ho] at ug; cases ug;exact⟨_,uw,BV,hL,r'⟩) hok I.bare
theorem Inv.call {g':Array GenState} {t':Nat} {d':Drawn} {ch:List Addr} (I:Inv X ku σ H s) (u:Un (frs X.stack) ch H H' s.heap h') (hok:HOk X.prog X.w H' h') (hg:AllBare g')
  (qe:∀ b∈ch,(b∈X.ex∨X.s₀.heap.objs.size≤b)∧b≠X.env.locals∧(∀ x c,X.env.cells.lookup x=some c→c≠b)∧∀ p∈X.pn++ku,p.1≠b) :
  Inv X ku σ H' { s with heap:=h',gens:=g',drawn:=d',toks:=t' }:=by
 obtain⟨m,⟨o,es,ep,ho,r⟩,_⟩:=id I.loc;obtain⟨sl,hL⟩:=u.any ho I.free fun z=>(qe _ z).2.1 rfl
 exact I.step (ch:=ch) qe (fun b o hL hb hc e n=>u.keep b o e n (fun z=>(aC.mp (I.stkSub b z)).elim hL hb) hc) (fun b o _ _ hc e n=>u.any e n hc) (fun b o hc e n=>u.free b o e n hc) (fun b o hc e=>u.there b o e hc) u.tups u.frzs u.tbls (fun m' hm=>by
  obtain⟨o',uw,BV,ug,r'⟩:=hm;rw [ho] at ug; cases ug;exact⟨_,uw,BV,hL,r'⟩) hok hg
theorem Inv.turned {t':Nat} {it:Addr} (I:Inv X ku σ H s) (k:∀ b o,b≠it→s.heap.get? b=some o→h'.get? b=some o) (hn:H it=none) (hL:it≠X.env.locals)
  (h1:it∈X.ex∨X.s₀.heap.objs.size≤it) (h2:∀ x c,X.env.cells.lookup x=some c→c≠it) (h3:∀ p∈X.pn++ku,p.1≠it):Inv X ku σ H { s with heap:=h',toks:=t' }:=by
 have qL:∀ b u,H b=some u→b≠it:=fun b u e z=>by rw [z,hn] at e; cases e
 refine I.step (g':=s.gens) (d':=s.drawn) (ch:=[it]) (fun b hb=>?_) (fun b o _ _ hc e _=>k b o (fun z=>hc (by simp [z])) e) (fun b o _ _ hc e _=>⟨o.slots,k b o (fun z=>hc (by simp [z])) e⟩) (fun _ _ _ _ n=>n)
  (fun b o hc e=>⟨o,k b o (fun z=>hc (by simp [z])) e⟩) (fun _ _ e=>e) (fun _ _ _ e=>e) (fun b ps e=>⟨#[],by rw [e]; simp⟩) (fun m hm=>?_) (fun b u e=>?_) I.bare
 ·have e:b=it:=by simpa using hb
  subst e;exact⟨h1,hL,h2,h3⟩
 ·obtain⟨o,es,ep,ho,r⟩:=hm;exact⟨o,es,ep,k _ o (dz hL) ho,r⟩
 ·refine (I.hok b u e).stay (fun c v hc q=>k c v ?_ q) (fun _ q=>q) fun _ _ q=>q
  rcases hc with z | z
  ·rw [z]; exact qL b u e
  ·exact qL c _ z
theorem Inv.tok (I:Inv X ku σ H s) (t:Nat):Inv X ku σ H { s with toks:=t }:=I.un (h':=s.heap) (t':=t) Un.refl I.hok
theorem Inv.kept {t':Nat} (I:Inv X ku σ H s) (k:∀ b u,s.heap.get? b=some u→h'.get? b=some u):Inv X ku σ H { s with heap:=h',toks:=t' }:=I.un (Un.kept k) (I.hok.kept k)
theorem Inv.laid {a:Addr} {o:HO} {t':Nat} (I:Inv X ku σ H s) (k:∀ b u,s.heap.get? b=some u→h'.get? b=some u) (hp:s.heap.objs.size≤a) (new:zaD X.prog X.w (kB H a o) h' a o) :
  Inv X ku σ (kB H a o) { s with heap:=h',toks:=t' }:=I.un (Un.laid k hp (I.hok.fresh hp)) (I.hok.laid k hp new)
theorem Inv.write {x e:Addr} {o:HO} {t':Nat} (I:Inv X ku σ H s) (mu:Mut (H x)) (he:e=x∨H e=some (.own x)) (k:∀ b u,b≠e→s.heap.get? b=some u→h'.get? b=some u) (xb:∃ u,h'.get? e=some u)
  (new:zaD X.prog X.w (kB H x o) h' x o):Inv X ku σ (kB H x o) { s with heap:=h',toks:=t' }:=I.un (Un.write mu he k xb) (I.hok.write mu he k xb new)
theorem Inv.weak {σ':List (Option V)} (I:Inv X ku σ H s) (hl:σ'.length=σ.length) (w:∀ (i:Nat) v,σ'[i]? = some (some v)→σ[i]? = some (some v)):Inv X ku σ' H s :=
 ⟨I.ok,I.os,I.bare,I.base,let ⟨m,hn,u5⟩:=I.loc; ⟨m,hn,fun i x v e1 e2 e3=>u5 i x v e1 (w i v e2) e3⟩,I.cell,I.free,I.freeC,I.pin,I.hok,hl.trans I.len⟩
theorem Inv.pins_of {nU:List (Addr×Obj)} (I:Inv X ku σ H s) (h:∀ p∈nU,s.heap.get? p.1=some p.2∧H p.1=none∧p.1≠X.env.locals∧p.1∉X.fs∧∀ v,p.2.data≠.cell v):Inv X nU σ H s :=
 ⟨I.ok,I.os,I.bare,I.base,I.loc,I.cell,I.free,I.freeC,fun p hp=>(aL.mp hp).elim (fun z=>I.pin p (aP _ z)) (h p),I.hok,I.len⟩
theorem zfW {N:List Str} (hN:N.Nodup) {i j:Nat} {x:Str} (a:N[i]? = some x) (b:N[j]? = some x):i=j:=by
 obtain⟨h1,e1⟩:=az.mp a;obtain⟨h2,e2⟩:=az.mp b;exact (List.getElem_inj hN).mp (e1.trans e2.symm)
theorem zeR {M:Model} {A:Around} {E:Value→Shared→Prop} {i:Nat} {x:Str} {v:V} {u:Value} {Q:Unit→Shared→Prop} (I:Inv X ku σ H s) (hN:X.N.Nodup) (hi:X.N[i]? = some x) (hx:Loc X.env.scope x) (r:RelV v u)
  (h:∀ s',Inv X ku (σ.set i (some v)) H s'→(∃ a,bg a s.heap s'.heap∧(a=X.env.locals∨X.env.cells.lookup x=some a))→Q () s') (hf:X.fn x=true∨X.env.scope.names.lookup x=some .local:=by first | exact .inl rfl | exact .inr rfl | assumption):wpAny M A (storeName X.env x u) Q E s:=by
 obtain⟨m,hn,hl⟩:=id I.loc;have BW:(X.env.scope.kind == .class || (X.env.scope.kind == .module && X.env.locals != X.env.globals))=false:=by rw [I.ok.kind]; rfl
 have hiσ:i < σ.length:=by rw [I.len]; exact (az.mp hi).1
 have cne:=I.cne;have tracked:∀ {a:Addr} {h':Heap},(∃ o,s.heap.get? a=some o∧H a=none)→bg a s.heap h'→HOk X.prog X.w H h':=fun {a h'} ha hs b ob e=>by
  obtain⟨_,_,u7⟩:=ha;refine (I.hok b ob e).stay (fun c w' hc q=>(hs.2 c ?_).trans q) (fun _ q=>q) fun _ _ q=>q
  rintro rfl;rcases hc with rfl | hc
  ·rw [u7] at e; cases e
  ·rw [u7] at hc; cases hc
 rcases hx with hk | hk
 ·refine wpAny_storeName_local hk hn (fun h' ux hs=>?_) BW;obtain⟨oL,_,_,xP,_⟩:=id hn;refine h _ ⟨I.ok,I.os,I.bare,⟨fun b o e n hb hx=>?_,fun b o e n hb hx=>?_,I.base.free,fun b o e hx=>?_,I.base.tups,I.base.frzs,I.base.tbls⟩,⟨_,ux,fun j y v' e1 e2 e3=>?_⟩,fun y c e=>?_,I.free,I.freeC,fun p hp=>?_,tracked ⟨oL,xP,I.free⟩ hs,by simpa using I.len⟩ ⟨_,hs,.inl rfl⟩
  ·exact (hs.2 b (bp (bb (aI e) I.ok.above))).trans (I.base.keep b o e n hb hx)
  ·obtain⟨sl,e1⟩:=I.base.slot b o e n hb hx;exact⟨sl,(hs.2 b (bp (bb (aI e) I.ok.above))).trans e1⟩
  ·obtain⟨o',e1⟩:=I.base.there b o e hx;exact⟨o',(hs.2 b (bp (bb (aI e) I.ok.above))).trans e1⟩
  ·by_cases hj:j=i
   ·subst hj;rw [hi] at e1; cases e1;rw [ff hiσ] at e2;cases e2;exact⟨u,r,.inl ⟨hk,#[M]⟩⟩
   ·rw [cT (dz hj)] at e2;obtain⟨u',r',q⟩:=hl j y v' e1 e2 e3;refine⟨u',r',?_⟩;rcases q with ⟨k,e⟩ | ⟨k,c,e,z⟩
    ·refine .inl ⟨k,?_⟩;have:y≠x:=fun e=>hj (zfW hN e1 (e ▸ hi))
     simp [this,e]
    ·exact .inr ⟨k,c,e,z.sameBut hs (cne y c e)⟩
  ·obtain⟨w',z⟩:=I.cell y c e;exact⟨w',z.sameBut hs (cne y c e)⟩
  ·obtain⟨e,n,ne,nf,d⟩:=I.pin p hp;exact⟨(hs.2 p.1 ne).trans e,n,ne,nf,d⟩
 ·have xQ:X.fn x=true:=by
   rcases hf with z | z
   ·exact z
   ·rw [z] at hk; cases hk
  obtain⟨c,hc⟩:=I.ok.has x (.inl hk);obtain⟨w',z⟩:=I.cell x c hc;refine wpAny_storeName_cell I.ok.kind hk hc z (fun h' kI hs=>?_);obtain⟨oc,hoc,BX⟩:=id z;refine h { s with heap:=h' } ⟨I.ok,I.os,I.bare,⟨fun b o e n hb hx=>?_,fun b o e n hb hx=>?_,I.base.free,fun b o e hx=>?_,I.base.tups,I.base.frzs,I.base.tbls⟩,⟨m,hn.sameBut hs (dz (cne x c hc)),fun j y v' e1 e2 e3=>?_⟩,fun y c' e=>?_,I.free,I.freeC,fun p hp=>?_,tracked ⟨oc,hoc,I.freeC x c hc⟩ hs,by simpa using I.len⟩ ⟨c,hs,.inr hc⟩
  ·exact (hs.2 b (bp (bb (aI e) (I.ok.cab x c xQ hc)))).trans (I.base.keep b o e n hb hx)
  ·obtain⟨sl,e1⟩:=I.base.slot b o e n hb hx;exact⟨sl,(hs.2 b (bp (bb (aI e) (I.ok.cab x c xQ hc)))).trans e1⟩
  ·obtain⟨o',e1⟩:=I.base.there b o e hx;exact⟨o',(hs.2 b (bp (bb (aI e) (I.ok.cab x c xQ hc)))).trans e1⟩
  ·by_cases hj:j=i
   ·subst hj;rw [hi] at e1; cases e1;rw [ff hiσ] at e2;cases e2;exact⟨u,r,.inr ⟨.inl hk,c,hc,kI⟩⟩
   ·rw [cT (dz hj)] at e2;obtain⟨u',r',q⟩:=hl j y v' e1 e2 e3;refine⟨u',r',?_⟩;rcases q with q | ⟨k,c',e,z'⟩
    ·exact .inl q
    ·refine .inr ⟨k,c',e,z'.sameBut hs ?_⟩;rintro rfl;exact hj (zfW hN e1 (I.ok.inj _ _ _ e hc ▸ hi))
  ·by_cases lR:c'=c
   ·subst lR; exact⟨_,kI⟩
   ·obtain⟨w2,z2⟩:=I.cell y c' e;exact⟨w2,z2.sameBut hs lR⟩
  ·obtain⟨e,n,ne,nf,d⟩:=I.pin p hp;refine⟨(hs.2 p.1 ?_).trans e,n,ne,nf,d⟩;intro q;rw [q,hoc] at e;have q':oc=p.2:=aQ e;exact d w' (by rw [← q']; exact BX)
theorem zd3 {M:Model} {A:Around} {E:Value→Shared→Prop} {i:Nat} {x:Str} {v:V} {u:Value} {Q:Unit→Shared→Prop} (I:Inv X ku σ H s) (hN:X.N.Nodup) (hi:X.N[i]? = some x) (hx:Loc X.env.scope x) (r:RelV v u)
  (h:∀ s',Inv X ku (σ.set i (some v)) H s'→Q () s') (hf:X.fn x=true∨X.env.scope.names.lookup x=some .local:=by first | exact .inl rfl | exact .inr rfl | assumption):wpAny M A (storeName X.env x u) Q E s :=
 zeR I hN hi hx r (fun s' I' _=>h s' I') hf
theorem Inv.call' {s':Shared} {ch:List Addr} (I:Inv X ku σ H s) (ho:s'.os=s.os) (u:Un (frs X.stack) ch H H' s.heap s'.heap) (hok:HOk X.prog X.w H' s'.heap) (hg:AllBare s'.gens)
  (qe:∀ b∈ch,(b∈X.ex∨X.s₀.heap.objs.size≤b)∧b≠X.env.locals∧(∀ x c,X.env.cells.lookup x=some c→c≠b)∧∀ p∈X.pn++ku,p.1≠b):Inv X ku σ H' s':=by
 obtain⟨h',g',d',t',o'⟩:=s';have e:o'=s.os:=ho;subst e;exact I.call (g':=g') (t':=t') (d':=d') u hok hg qe
end
abbrev XK:=Value→Option Addr→Hp→Prop
abbrev St:=List (Option V)
abbrev VK:=V→Hp→Prop
abbrev TE:=St→Hp→VK→Prop
abbrev TT:=St→Hp→(Bool→Hp→Prop)→Prop
abbrev TA:=St→Hp→(List V→Hp→Prop)→Prop
structure Ends where
 nx:St→Hp→Prop
 rt:VK
 bk:St→Hp→Prop:=fun _ _=>False
 ct:St→Hp→Prop:=fun _ _=>False
abbrev TS:=Ends→St→Hp→Prop
def EP (X:Cx) (ku:List (Addr×Obj)) (σ:St) (Q:VK) (u:Value) (s':Shared):Prop:=∃ v H',Inv X ku σ H' s'∧RelV v u∧Q v H'
def TP (X:Cx) (ku:List (Addr×Obj)) (σ:St) (Q:Bool→Hp→Prop) (b:Bool) (s':Shared):Prop:=∃ H',Inv X ku σ H' s'∧Q b H'
def AP (X:Cx) (ku:List (Addr×Obj)) (σ:St) (Q:List V→Hp→Prop) (us:List Value) (s':Shared):Prop:=∃ vs H',Inv X ku σ H' s'∧zM vs us∧Q vs H'
def SP (X:Cx) (ku:List (Addr×Obj)) (D:Ends) (f:Flow) (s':Shared):Prop :=
 match f with
 | .next=>∃ σ' H',Inv X ku σ' H' s'∧D.nx σ' H'
 | .brk=>∃ σ' H',Inv X ku σ' H' s'∧D.bk σ' H'
 | .cont=>∃ σ' H',Inv X ku σ' H' s'∧D.ct σ' H'
 | .ret u=>∃ v σ' H',Inv X ku σ' H' s'∧RelV v u∧D.rt v H'
def PE (X:Cx) (e:Expr) (t:TE):Prop :=
 ∀ (ku:List (Addr×Obj)) (s:Shared) (σ:St) (H:Hp) (Q:VK),Inv X ku σ H s→t σ H Q→wpAny (model X.prog X.w) X.A (eval e X.env) (EP X ku σ Q) X.xe s
def PT (X:Cx) (e:Expr) (t:TT):Prop :=
 ∀ (ku:List (Addr×Obj)) (s:Shared) (σ:St) (H:Hp) (Q:Bool→Hp→Prop),Inv X ku σ H s→t σ H Q→wpAny (model X.prog X.w) X.A (isTrue e X.env (eval e X.env)) (TP X ku σ Q) X.xe s
def PW (X:Cx) (e:Expr) (t:TT):Prop :=
 ∀ (whole:Sem Value) (ku:List (Addr×Obj)) (s:Shared) (σ:St) (H:Hp) (Q:Bool→Hp→Prop),Inv X ku σ H s→t σ H Q→wpAny (model X.prog X.w) X.A (isTrue e X.env whole) (TP X ku σ Q) X.xe s
theorem PW.pt {X:Cx} {e:Expr} {t:TT} (h:PW X e t):PT X e t:=h _
def PA (X:Cx) (es:List Expr) (t:TA):Prop :=
 ∀ (pos:Pos) (ku:List (Addr×Obj)) (s:Shared) (σ:St) (H:Hp) (Q:List V→Hp→Prop),Inv X ku σ H s→t σ H Q→wpAny (model X.prog X.w) X.A (spliced (backTo pos (starEach es X.env))) (AP X ku σ Q) X.xe s
def PS (X:Cx) (st:Stmt) (t:TS):Prop :=
 ∀ (ku:List (Addr×Obj)) (s:Shared) (σ:St) (H:Hp) (D:Ends),Inv X ku σ H s→t D σ H→wpAny (model X.prog X.w) X.A (exec st X.env) (SP X ku D) X.xe s
def PSs (X:Cx) (st:List Stmt) (t:TS):Prop :=
 ∀ (ku:List (Addr×Obj)) (s:Shared) (σ:St) (H:Hp) (D:Ends),Inv X ku σ H s→t D σ H→wpAny (model X.prog X.w) X.A (execs st X.env) (SP X ku D) X.xe s
theorem thn {α:Type} {t:Sem α} {Q Q':α→Shared→Prop} {M:Model} {A:Around} {E:Value→Shared→Prop} {s:Shared} (h:wpAny M A t Q E s) (hQ:∀ a s,Q a s→Q' a s):wpAny M A t Q' E s:=cJ h hQ fun _ _ x=>x
section
variable {X:Cx}
def znj (i:Nat):TE:=fun σ H Q=>∃ v,σ[i]? = some (some v)∧Q v H
def tC (v:V):TE:=fun _ H Q=>Q v H
theorem zmp {i:Nat} {x:Str} {pos:Pos} (hN:X.N[i]? = some x) (hv:Vis X.env.scope x) (hd:(x == ("__debug__" : Str))=false:=by decide) (rj:(x == ("__classdict__" : Str))=false:=by decide):PE X (.Name x pos) (znj i):=by
 intro ku s σ H Q I h;obtain⟨v,e,h⟩:=h;obtain⟨m,hn,hl⟩:=I.loc;obtain⟨u,r,l⟩:=hl i x v hN e hv;have fin:EP X ku σ Q u s:=⟨v,H,I,r,h⟩;rcases l with ⟨hk,hm⟩ | ⟨hk,c,hc,nV⟩
 ·exact jV (iP I.ok.kind hk hn hm fin) hd
 ·rcases hk with hk | hk
  ·exact jV (i3 I.ok.kind hk hc nV fin) hd
  ·exact jV (wpAny_loadName_free I.ok.kind hk hc nV fin rj) hd
theorem zi {i j pos}:PE X (.Constant (.int i) j pos) (tC (.int i)):=fun _ _ _ H _ I h=>wpAny_Constant_int ⟨.int i,H,I.tok _,⟨_,rfl⟩,h⟩
theorem zd4 {b j pos}:PE X (.Constant (.bool b) j pos) (tC (.bl b)):=fun _ _ _ H _ I h=>Constant_bool ⟨.bl b,H,I,rfl,h⟩
theorem zcf {j pos}:PE X (.Constant .none j pos) (tC .non):=fun _ _ _ H _ I h=>Constant_none ⟨.non,H,I,rfl,h⟩
def Gl (X:Cx) (x:Str):Prop:=X.env.kindOf x=some .globalImplicit
theorem zk0 {E:Value→Shared→Prop} {ku:List (Addr×Obj)} {s:Shared} {σ:St} {H:Hp} {x:Str} {u:Value} {pos:Pos} {Q:Value→Shared→Prop} (I:Inv X ku σ H s) (hg:Gl X x) (hm:X.mg x=some u) (h:Q u s)
  (hd:(x == ("__debug__" : Str))=false:=by decide):wpAny (model X.prog X.w) X.A (eval (.Name x pos) X.env) Q E s :=
 gh I.ok.kind hg (Calls.loadGlobal_global (by rw [I.ok.glob]; exact I.mod.glob.keeps I.bk) hm h) hd
theorem zbL {E:Value→Shared→Prop} {ku:List (Addr×Obj)} {s:Shared} {σ:St} {H:Hp} {x:Str} {u:Value} {pos:Pos} {Q:Value→Shared→Prop} (I:Inv X ku σ H s) (hg:Gl X x) (hm:X.mg x=none) (hv:bootBuiltins x=some u) (h:Q u s)
  (hn:x≠"__name__":=by decide) (hd:(x == ("__debug__" : Str))=false:=by decide):wpAny (model X.prog X.w) X.A (eval (.Name x pos) X.env) Q E s:=by
 obtain⟨mb,h1,h2⟩:=I.mod.blt;exact gh I.ok.kind hg (Calls.loadGlobal_builtin (by rw [I.ok.glob]; exact I.mod.glob.keeps I.bk) hm (by rw [I.ok.blt]; exact h1.keeps I.bk) ((h2 x hn).trans hv) h) hd
variable {a b:Expr} {ta tb:TE} {pos:Pos}
variable {tA AU:TT} {rest:List Expr}
def zn4 (t u:TT):TT:=fun σ H Q=>t σ H fun c H1=>if c=true then u σ H1 Q else Q false H1
def tOr (t u:TT):TT:=fun σ H Q=>t σ H fun c H1=>if c=true then Q true H1 else u σ H1 Q
def zn5 (t:TT):TT:=fun σ H Q=>t σ H fun c H1=>Q (!c) H1
theorem zfi (ha:PT X a tA):PW X (.BoolOp .And [a] pos) tA:=by
 intro wh ku s σ H Q I h;refine isTrue_and (thn (ha ku s σ H Q I h) fun c s1 e=>?_);cases c with
 | true=>exact isTrue_and_nil e
 | false=>exact e
theorem zfj (ha:PT X a tA):PW X (.BoolOp .Or [a] pos) tA:=by
 intro wh ku s σ H Q I h;refine isTrue_or (thn (ha ku s σ H Q I h) fun c s1 e=>?_);cases c with
 | false=>exact isTrue_or_nil e
 | true=>exact e
theorem zgO (ha:PT X a tA) (hb:PW X (.BoolOp .And (b :: rest) pos) AU):PW X (.BoolOp .And (a :: b :: rest) pos) (zn4 tA AU):=by
 intro wh ku s σ H Q I h;refine isTrue_and (thn (ha ku s σ H _ I h) fun c s1 ⟨H1,I1,q1⟩=>?_);cases c with
 | true=>exact hb wh ku s1 σ H1 Q I1 q1
 | false=>exact⟨H1,I1,q1⟩
theorem zhx (ha:PT X a tA) (hb:PW X (.BoolOp .Or (b :: rest) pos) AU):PW X (.BoolOp .Or (a :: b :: rest) pos) (tOr tA AU):=by
 intro wh ku s σ H Q I h;refine isTrue_or (thn (ha ku s σ H _ I h) fun c s1 ⟨H1,I1,q1⟩=>?_);cases c with
 | true=>exact⟨H1,I1,q1⟩
 | false=>exact hb wh ku s1 σ H1 Q I1 q1
theorem zmq (ha:PT X a tA):PT X (.UnaryOp .Not a pos) (zn5 tA):=by
 intro ku s σ H Q I h;exact isTrue_not (ha ku s σ H (fun c H1=>Q (!c) H1) I h)
def tIf (t:TT) (ta tb:TE):TE:=fun σ H Q=>t σ H fun c H1=>if c=true then ta σ H1 Q else tb σ H1 Q
theorem zjw {c:Expr} (hc:PT X c tA) (ha:PE X a ta) (hb:PE X b tb):PE X (.IfExp c a b pos) (tIf tA ta tb):=by
 intro ku s σ H Q I h;refine wpAny_IfExp (thn (hc ku s σ H _ I h) fun d s1 ⟨H1,I1,q1⟩=>?_);cases d with
 | true=>exact ha ku s1 σ H1 Q I1 q1
 | false=>exact hb ku s1 σ H1 Q I1 q1
end
def ky (K:ag) (H:Hp) (a:Addr) (xs:List V):Prop :=
 Rd H a (.lst xs) ∨
  ∃ (o:Obj) (kz:Array Value) (n:Nat),K.lookup a=some o∧o.cls = .type "list"∧o.dict=none∧o.data = .seq kz n∧kz.size≤sizeLine∧zM xs kz.toList
def kF (K:ag) (H:Hp) (a:Addr) (xs:List V):Prop :=
 Rd H a (.tup xs) ∨
  ∃ (o:Obj) (kz:Array Value) (n:Nat),K.lookup a=some o∧o.cls = .type "tuple"∧o.data = .seq kz n∧kz.size≤sizeLine∧zM xs kz.toList
def zn6:Value→Option V
 | .none=>some .non
 | .bool b=>some (.bl b)
 | .int i _=>some (.int i)
 | .str x _=>some (.str x)
 | .bytes b _=>some (.byt b)
 | .float b _=>some (.flt b)
 | .ref a=>some (.ref a)
 | .type n=>some (.ty n)
 | _=>none
theorem RelV.abs {x:V} {u:Value} (r:RelV x u):zn6 u=some x:=by
 cases x with
 | non=>cases r; rfl
 | bl _=>cases r; rfl
 | int _=>obtain⟨t,rfl⟩:=r; rfl
 | str _=>obtain⟨t,rfl⟩:=r; rfl
 | byt _=>obtain⟨t,rfl⟩:=r; rfl
 | flt _=>obtain⟨t,rfl⟩:=r; rfl
 | ref _=>cases r; rfl
 | ty _=>cases r; rfl
theorem RelV.inj {x y:V} {u:Value} (r:RelV x u) (q:RelV y u):x=y:=aQ (r.abs.symm.trans q.abs)
theorem zM.inj:∀ {xs ys:List V} {us:List Value},zM xs us→zM ys us→xs=ys
 | _,_,_,.nil,.nil=>rfl
 | _,_,_,.cons r t,.cons r' t'=>by rw [r.inj r',zM.inj t t']
section
variable {X:Cx} {ku:List (Addr×Obj)} {σ:St} {H:Hp} {s:Shared} {a:Addr} {xs ys:List V}
theorem ky.of {K:ag} (h:H a=some (.lst xs)):ky K H a xs:=.inl (.inl h)
theorem kF.of {K:ag} (h:H a=some (.tup xs)):kF K H a xs:=.inl (.inl h)
theorem Inv.list (I:Inv X ku σ H s) (h:ky X.K H a xs):∃ kz:List Value,zM xs kz∧PlainL s.heap a kz.toArray∧xs.length≤sizeLine:=by
 rcases h with h | ⟨o,kz,n,hk,hc,hd,hs,hz,r⟩
 ·obtain⟨z,kz,n,r,e⟩:=h.ok I.hok;exact⟨kz,r,⟨_,n,e,rfl,rfl,rfl⟩,z⟩
 ·refine⟨kz.toList,r,⟨o,n,I.kIn a o hk,hc,hd,by simpa using hs⟩,?_⟩;have e:=r.length;simp only [aZ] at e;lia
theorem Inv.tuple (I:Inv X ku σ H s) (h:kF X.K H a xs):∃ kz:List Value,zM xs kz∧IsTup s.heap a kz.toArray∧xs.length≤sizeLine:=by
 rcases h with h | ⟨o,kz,n,hk,hc,hs,hz,r⟩
 ·obtain⟨z,kz,r,p⟩:=h.ok I.hok;exact⟨kz,r,p,z⟩
 ·refine⟨kz.toList,r,⟨o,I.kIn a o hk,hc,n,by simpa using hs⟩,?_⟩;have e:=r.length;simp only [aZ] at e;lia
theorem Inv.list_inj (I:Inv X ku σ H s) (h:ky X.K H a xs) (h':ky X.K H a ys):xs=ys:=by
 obtain⟨kz,r,⟨o,n,e,_,_,d⟩,_⟩:=I.list h;obtain⟨its',r',⟨o',n',e',_,_,d'⟩,_⟩:=I.list h';rw [e] at e'; cases e';rw [d] at d';injection d' with d1 _
 have:kz=its':=by simpa using congrArg kj d1
 subst this;exact r.inj r'
theorem Inv.tuple_inj (I:Inv X ku σ H s) (h:kF X.K H a xs) (h':kF X.K H a ys):xs=ys:=by
 obtain⟨kz,r,⟨o,e,_,n,d⟩,_⟩:=I.tuple h;obtain⟨its',r',⟨o',e',_,n',d'⟩,_⟩:=I.tuple h';rw [e] at e'; cases e';rw [d] at d';injection d' with d1 _
 have:kz=its':=by simpa using congrArg kj d1
 subst this;exact r.inj r'
end
abbrev Cx.wish (X:Cx) (E:Value→Shared→Prop):Cx:={ X with xe:=E }
abbrev Cx.nox (X:Cx):Cx:=X.wish fun _ _=>False
theorem Cx.Ok.wish {X:Cx} (ok:X.Ok) (E:Value→Shared→Prop):(X.wish E).Ok :=
 ⟨ok.mod,ok.kind,ok.glob,ok.blt,ok.above,ok.inj,ok.has,ok.cab,ok.hd,ok.frames,ok.stk,ok.exf,ok.bs,ok.bsz,ok.noex,ok.exfs,ok.funs,ok.frf⟩
theorem Cx.Ok.unwish {X:Cx} {E:Value→Shared→Prop} (ok:(X.wish E).Ok):X.Ok :=
 ⟨ok.mod,ok.kind,ok.glob,ok.blt,ok.above,ok.inj,ok.has,ok.cab,ok.hd,ok.frames,ok.stk,ok.exf,ok.bs,ok.bsz,ok.noex,ok.exfs,ok.funs,ok.frf⟩
section
variable {X:Cx} {ku:List (Addr×Obj)} {σ:St} {H:Hp} {s:Shared} {E:Value→Shared→Prop}
theorem Inv.wish (I:Inv X ku σ H s) (E:Value→Shared→Prop):Inv (X.wish E) ku σ H s:=⟨I.ok.wish E,I.os,I.bare,I.base,I.loc,I.cell,I.free,I.freeC,I.pin,I.hok,I.len⟩
theorem Inv.unwish (I:Inv (X.wish E) ku σ H s):Inv X ku σ H s:=⟨I.ok.unwish,I.os,I.bare,I.base,I.loc,I.cell,I.free,I.freeC,I.pin,I.hok,I.len⟩
theorem SP.unwish {D:Ends} {f:Flow} {s':Shared} (h:SP (X.wish E) ku D f s'):SP X ku D f s':=by
 cases f with
 | next=>obtain⟨σ',H',I,q⟩:=h; exact⟨σ',H',I.unwish,q⟩
 | brk=>obtain⟨σ',H',I,q⟩:=h; exact⟨σ',H',I.unwish,q⟩
 | cont=>obtain⟨σ',H',I,q⟩:=h; exact⟨σ',H',I.unwish,q⟩
 | ret u=>obtain⟨v,σ',H',I,r,q⟩:=h; exact⟨v,σ',H',I.unwish,r,q⟩
theorem PSs.nox {st:List Stmt} {t:TS} (h:PSs X.nox st t):PSs X st t:=fun ku s σ H D I hw =>
 cJ (h ku s σ H D (I.wish _) hw) (fun _ _ q=>q.unwish) fun _ _ z=>dt z
end
section
variable {X:Cx} {st:Stmt} {rest:List Stmt} {t u:TS} {e:Expr} {te:TE} {pos:Pos}
def znk:TS:=fun D σ H=>D.nx σ H
def zam (t u:TS):TS:=fun D σ H=>t { D with nx:=u D } σ H
theorem zax:PSs X [] znk:=fun _ _ σ H _ I h=>fz ⟨σ,H,I,h⟩
theorem zd (h1:PS X st t) (h2:PSs X rest u):PSs X (st :: rest) (zam t u):=by
 intro ku s σ H D I h;refine wpAny_execs_cons (thn (h1 ku s σ H { D with nx:=u D } I h) fun f s1 q=>?_);cases f with
 | next =>
  obtain⟨σ',H',I',q⟩:=q;exact h2 ku s1 σ' H' D I' q
 | ret v=>exact q
 | brk=>exact q
 | cont=>exact q
theorem zo (h1:PS X st t):PSs X [st] t:=by
 intro ku s σ H D I h;refine wpAny_execs_cons (thn (h1 ku s σ H D I h) fun f s1 q=>?_);cases f with
 | next=>exact fz q
 | ret v=>exact q
 | brk=>exact q
 | cont=>exact q
theorem Inv.quiet {ku:List (Addr×Obj)} {σ:St} {H:Hp} {s:Shared} (I:Inv X ku σ H s):interactive X.env=false:=by simp [interactive,I.ok.kind]
def znl (te:TE):TS:=fun D σ H=>te σ H fun _ H1=>D.nx σ H1
theorem zdM (he:PE X e te) (hs:swapsWith e none pos.line X.env=pure false:=by rfl):PS X (.Expr e pos) (znl te):=by
 intro ku s σ H D I h;exact wpAny_Expr_any (thn (he ku s σ H _ I h) fun v s1 ⟨x,H1,I1,r1,q1⟩=>⟨σ,H1,I1,q1⟩) I.quiet hs
def zn7 (te:TE):TS:=fun D σ H=>te σ H D.rt
theorem zI (he:PE X e te):PS X (.Return (some e) pos) (zn7 te):=by
 intro ku s σ H D I h;exact wpAny_Return_some (thn (he ku s σ H _ I h) fun v s1 ⟨x,H1,I1,r1,q1⟩=>⟨x,σ,H1,I1,r1,q1⟩)
def zn8 (c:TT) (t u:TS):TS:=fun D σ H=>c σ H fun b H1=>if b=true then t D σ H1 else u D σ H1
theorem zbq {c:Expr} {a b:List Stmt} {tc:TT} (hc:PT X c tc) (ha:PSs X a t) (hb:PSs X b u):PS X (.If c a b pos) (zn8 tc t u):=by
 intro ku s σ H D I h;refine wpAny_If (thn (hc ku s σ H _ I h) fun d s1 ⟨H1,I1,q1⟩=>?_);cases d with
 | true=>exact ha ku s1 σ H1 D I1 q1
 | false=>exact hb ku s1 σ H1 D I1 q1
def zmr:TS:=fun _ _ _=>False
theorem zeS {sts:List Stmt}:PSs X sts zmr:=fun _ _ _ _ _ _ h=>h.elim
end
abbrev TG:=V→St→Hp→(St→Hp→Prop)→Prop
abbrev TGs:=List V→St→Hp→(St→Hp→Prop)→Prop
def PG (X:Cx) (target:Expr) (t:TG):Prop :=
 ∀ (ku:List (Addr×Obj)) (s:Shared) (σ:St) (H:Hp) (v:V) (u:Value) (Q:St→Hp→Prop),Inv X ku σ H s→RelV v u→t v σ H Q →
  wpAny (model X.prog X.w) X.A (assign target X.env u) (fun _ s'=>∃ σ' H',Inv X ku σ' H' s'∧Q σ' H') X.xe s
def PGs (X:Cx) (ts:List Expr) (t:TGs):Prop :=
 ∀ (ku:List (Addr×Obj)) (s:Shared) (σ:St) (H:Hp) (vs:List V) (us:List Value) (Q:St→Hp→Prop),Inv X ku σ H s→zM vs us→t vs σ H Q →
  wpAny (model X.prog X.w) X.A (assignInOrder ((assignEach ts X.env).map (·.2)) us) (fun _ s'=>∃ σ' H',Inv X ku σ' H' s'∧Q σ' H') X.xe s
abbrev zms:=V→V→V→Hp→(Hp→Prop)→Prop
def znm (X:Cx) (t:zms):Prop :=
 ∀ (ku:List (Addr×Obj)) (s:Shared) (σ:St) (H:Hp) (o i v:V) (ov iv u:Value) (Q:Hp→Prop),Inv X ku σ H s→RelV o ov→RelV i iv→RelV v u→t o i v H Q →
  wpAny (model X.prog X.w) X.A (setItem ov iv u) (fun _ s'=>∃ H',Inv X ku σ H' s'∧Q H') X.xe s
abbrev TIp:=V→V→Hp→VK→Prop
def PIp (X:Cx) (op:Operator) (t:TIp):Prop :=
 ∀ (ku:List (Addr×Obj)) (s:Shared) (σ:St) (H:Hp) (x y:V) (v u:Value) (Q:VK),Inv X ku σ H s→RelV x v→RelV y u→t x y H Q →
  wpAny (model X.prog X.w) X.A (inplaceOp op v u) (EP X ku σ Q) X.xe s
section
variable {X:Cx} {pos:Pos}
def zbc (i:Nat):TG:=fun v σ H Q=>Q (σ.set i (some v)) H
theorem zf {i:Nat} {x:Str} (hN:X.N.Nodup) (hi:X.N[i]? = some x) (hx:Loc X.env.scope x) (hf:X.fn x=true∨X.env.scope.names.lookup x=some .local:=by first | exact .inl rfl | exact .inr rfl | assumption):PG X (.Name x pos) (zbc i):=by
 intro ku s σ H v u Q I r h;exact wpAny_assign_Name (zd3 I hN hi hx r (fun s' I'=>⟨_,H,I',h⟩) hf)
def ziC:TGs:=fun vs σ H Q=>vs = []∧Q σ H
def zcE (t:TG) (u:TGs):TGs:=fun vs σ H Q=>∃ v r,vs=v :: r∧t v σ H fun σ' H'=>u r σ' H' Q
theorem zJ:PGs X [] ziC:=by
 intro ku s σ H vs us Q I r h;obtain⟨e,h⟩:=h;subst e;cases r;exact assignInOrder_nil ⟨σ,H,I,h⟩
theorem zh {e:Expr} {es:List Expr} {t:TG} {u:TGs} (h1:PG X e t) (h2:PGs X es u)
  (hs:(assignEach (e :: es) X.env).map (·.2)=assign e X.env :: (assignEach es X.env).map (·.2):=by rfl):PGs X (e :: es) (zcE t u):=by
 intro ku s σ H vs us Q I r h;obtain⟨v,vr,e1,h⟩:=h;subst e1;cases r with
 | cons r rr =>
  rw [hs];refine assignInOrder_cons (thn (h1 ku s σ H _ _ _ I r h) fun _ s1 ⟨σ1,H1,I1,q1⟩=>?_);exact h2 ku s1 σ1 H1 _ _ Q I1 rr q1
def zgP (K:ag) (n:Nat) (t:TGs):TG:=fun v σ H Q=>∃ a xs,v = .ref a∧kF K H a xs∧xs.length=n∧t xs σ H Q
theorem zaI {es:List Expr} {k:Nat} {t:TGs} {n:Nat} (hc:X.calm=true) (h:PGs X es t)
  (hn:(assignEach es X.env).length=n:=by rfl) (oZ:(assignEach es X.env).findIdx? (·.1)=none:=by rfl):PG X (.Tuple es k pos) (zgP X.K n t):=by
 intro ku s σ H v u Q I r hw;obtain⟨a,xs,e1,hq,hl,hw⟩:=hw;subst e1;cases r;obtain⟨kz,rv,ht,hz⟩:=I.tuple hq;refine assign_Tuple_tuple (I.ok.hd hc) ht (by simp [hn,← hl,rv.length]) oZ fun h' hx=>?_
 have I1:Inv X ku σ H { s with heap:=h' }:=I.kept (t':=s.toks) fun b o e=>hx b o (bp (aI e)) e
 exact h ku _ σ H xs _ Q I1 (by simpa using rv) hw
def zn9 (to ti:TE) (t:zms):TG:=fun v σ H Q=>to σ H fun o H1=>ti σ H1 fun i H2=>t o i v H2 fun H3=>Q σ H3
theorem zjx {o i:Expr} {to ti:TE} {t:zms} (ho:PE X o to) (hi:PE X i ti) (hs:znm X t)
  (ha:∀ v,assign (.Subscript o i pos) X.env v=(do
   let ov ← holding [v] (eval o X.env)
   let iv ← holding [v,ov] (eval i X.env)
   standAt pos
   holding [v,ov,iv] (setItem ov iv v)
   release [v,ov,iv] []):=by intro _; rfl):PG X (.Subscript o i pos) (zn9 to ti t):=by
 intro ku s σ H v u Q I r h;rw [ha];refine ae (b8 (thn (ho ku s σ H _ I h) fun ov s1 ⟨x,H1,I1,r1,q1⟩=>?_));refine ae (b8 (thn (hi ku s1 σ H1 _ I1 q1) fun iv s2 ⟨y,H2,I2,r2,q2⟩=>?_));refine ae (eA (ae (b8 (thn (hs ku s2 σ H2 x y v ov iv u _ I2 r1 r2 r q2) fun _ s3 ⟨H3,I3,q3⟩=>?_))));exact wpAny_release ⟨σ,H3,I3,q3⟩
def zjy (te:TE) (g:TG):TS:=fun D σ H=>te σ H fun x H1=>g x σ H1 D.nx
theorem za5 {tg e:Expr} {te:TE} {g:TG} (he:PE X e te) (hg:PG X tg g) (hs:swapsWithSole [tg] e pos.line X.env=pure false:=by rfl) (hw:swappedStores [tg] e X.env=pure none:=by rfl)
  (h1:(assignEach [tg] X.env).map (·.2) = [assign tg X.env]:=by rfl):PS X (.Assign [tg] e pos) (zjy te g):=by
 intro ku s σ H D I h;refine wpAny_Assign_stores (thn (he ku s σ H _ I h) fun v s1 ⟨x,H1,I1,r1,q1⟩=>?_) hs hw;rw [h1];exact thn (hg ku s1 σ H1 x v _ I1 r1 q1) fun _ s2 q=>q
theorem zp {i:Nat} {x:Str} {e:Expr} {te:TE} {pos':Pos} (hN:X.N.Nodup) (hi:X.N[i]? = some x) (hx:Loc X.env.scope x) (he:PE X e te) (hs:swapsWith e (some (.Name x pos')) pos.line X.env=pure false:=by rfl) (hf:X.fn x=true∨X.env.scope.names.lookup x=some .local:=by first | exact .inl rfl | exact .inr rfl | assumption) :
  PS X (.Assign [.Name x pos'] e pos) (zjy te (zbc i)):=by
 intro ku s σ H D I h;refine wpAny_Assign_Name (thn (he ku s σ H _ I h) fun v s1 ⟨y,H1,I1,r1,q1⟩=>?_) hs;exact zd3 I1 hN hi hx r1 (fun s2 I2=>⟨_,H1,I2,q1⟩) hf
def zoa (i:Nat) (te:TE) (ti:TIp):TS:=fun D σ H=>∃ x,σ[i]? = some (some x)∧te σ H fun y H1=>ti x y H1 fun z H2=>D.nx (σ.set i (some z)) H2
theorem zjz {i:Nat} {x:Str} {e:Expr} {te:TE} {op:Operator} {ti:TIp} {pos':Pos} (hN:X.N.Nodup) (hi:X.N[i]? = some x) (hx:Loc X.env.scope x) (he:PE X e te) (ho:PIp X op ti) (hf:X.fn x=true∨X.env.scope.names.lookup x=some .local:=by first | exact .inl rfl | exact .inr rfl | assumption) :
  PS X (.AugAssign (.Name x pos') op e pos) (zoa i te ti):=by
 intro ku s σ H D I h;obtain⟨v,e1,h⟩:=h;obtain⟨m,hn,hl⟩:=I.loc;have vis:Vis X.env.scope x:=by rcases hx with k | k; exact .inl k; exact .inr (.inl k)
 obtain⟨u,r,l⟩:=hl i x v hi e1 vis;refine wpAny_AugAssign_Name ?_;have go:wpAny (model X.prog X.w) X.A (eval e X.env) (fun w s₂=>wpAny (model X.prog X.w) X.A (inplaceOp op u w) (fun r s₃=>wpAny (model X.prog X.w) X.A (storeName X.env x r) (fun _=>SP X ku D .next) X.xe s₃) X.xe s₂) X.xe s:=by
  refine thn (he ku s σ H _ I h) fun w s1 ⟨y,H1,I1,r1,q1⟩=>?_
  refine thn (ho ku s1 σ H1 v y u w _ I1 r r1 q1) fun z s2 ⟨zv,H2,I2,r2,q2⟩=>?_
  exact zd3 I2 hN hi hx r2 (fun s3 I3=>⟨_,H2,I3,q2⟩) hf
 rcases l with ⟨hk,hm⟩ | ⟨hk,c,hc,nV⟩
 ·exact iP I.ok.kind hk hn hm go
 ·rcases hk with hk | hk
  ·exact i3 I.ok.kind hk hc nV go
  ·rcases hx with k | k
   ·have:X.env.scope.names.lookup x=some .free:=hk;rw [k] at this; cases this
   ·have:X.env.scope.names.lookup x=some .free:=hk;rw [k] at this; cases this
def zjA (c:TT) (tb:TS):TS:=fun D σ H=>∃ W:Nat→St→Hp→Prop,(∃ m,W m σ H)∧∀ m σ H,W m σ H →
 c σ H fun b H1=>if b=true then ∃ N:St→Hp→Prop,(∀ σ' H',N σ' H'→∃ m',m' < m∧W m' σ' H')∧tb { D with nx:=N,ct:=N,bk:=D.nx } σ H1 else D.nx σ H1
theorem zfX {c:Expr} {body:List Stmt} {tc:TT} {tb:TS} (hp:PassesOwn (model X.prog X.w) X.A X.env X.xe) (hc:PT X c tc) (hb:PSs X body tb):PS X (.While c body [] pos) (zjA tc tb):=by
 intro ku s σ H D I h;obtain⟨W,⟨m0,w0⟩,turn⟩:=h;refine wpAny_While (codeAny_whileLoop (fun n s'=>∃ σ' H',Inv X ku σ' H' s'∧W n σ' H') ?_ m0 ⟨σ,H,I,w0⟩);rintro n s1 ⟨σ1,H1,I1,w1⟩;refine dk hp (thn (hc ku s1 σ1 H1 _ I1 (turn n σ1 H1 w1)) fun b s2 ⟨H2,I2,q2⟩=>?_);cases b with
 | true =>
  obtain⟨N,hN,q2⟩:=q2;rw [if_pos rfl];refine dk hp (thn (hb ku s2 σ1 H2 _ I2 q2) fun f s3 q3=>?_);cases f with
  | next =>
   obtain⟨σ3,H3,I3,n3⟩:=q3;obtain⟨m',hm,w3⟩:=hN σ3 H3 n3;exact⟨m',hm,σ3,H3,I3,w3⟩
  | cont =>
   obtain⟨σ3,H3,I3,n3⟩:=q3;obtain⟨m',hm,w3⟩:=hN σ3 H3 n3;exact⟨m',hm,σ3,H3,I3,w3⟩
  | brk=>exact q3
  | ret v=>exact q3
 | false =>
  rw [if_neg aO];exact fz ⟨σ1,H2,I2,q2⟩
end
structure It where
 go:Nat→Hp→Prop
 yld:Nat→Hp→V→Hp→Prop
 stop:Nat→Hp→Prop
def zcg (X:Cx) (ku:List (Addr×Obj)) (H:Hp) (b:Addr):Prop :=
 H b=none∧b≠X.env.locals∧b∉X.fs∧(b∈X.ex∨X.s₀.heap.objs.size≤b)∧(∀ x c,X.env.cells.lookup x=some c→c≠b)∧∀ p∈X.pn++ku,p.1≠b
theorem Inv.fpOk {X:Cx} {ku:List (Addr×Obj)} {σ:St} {H H':Hp} {s:Shared} {b:Addr} (I:Inv X ku σ H s) (hb:s.heap.objs.size≤b) (hn:H' b=none):zcg X ku H' b:=by
 refine⟨hn,eK (bb I.lt hb),I.nofs hb,.inr (aN I.sz hb),fun x c e z=>?_,fun p hp z=>?_⟩
 ·obtain⟨v,q⟩:=I.cell x c e;exact absurd (bb q.lt (by rw [z]; exact hb)) (cj _)
 ·exact absurd (bb (aI (I.pin p hp).1) (by rw [z]; exact hb)) (cj _)
structure Turn (P:Program) (w:World) (K:ag) (tg:Expr) (J:It) (fp:List Addr) (it:Addr) (tn:Nat→Heap→Prop):Prop where
 mem:it∈fp
 obj:∀ i h,tn i h→∀ b∈fp,∃ o,h.get? b=some o∧∀ v,o.data≠.cell v
 keep:∀ i h h',tn i h→(∀ b∈fp,∀ o,h.get? b=some o→h'.get? b=some o)→tn i h'
 item:∀ (X:Cx),X.prog=P→X.w=w→X.K=K→X.calm=true→∀ (i:Nat) (ku:List (Addr×Obj)) (s:Shared) (σ:St) (H:Hp) (E:Value→Shared→Prop),Inv X ku σ H s→(∀ b∈fp,zcg X ku H b)→tn i s.heap→J.go i H →
  wpAny (model P w) X.A (pyNext (.ref it)) (fun r s1=>∃ u,r=some u ∧
   wpAny (model P w) X.A (letOwnedTupleGo tg (.ref it) u) (fun _ s2=>∃ x H',Inv X ku σ H' s2∧RelV x u∧J.yld i H x H'∧tn (i+1) s2.heap∧∀ b∈fp,H' b=none) E s1) E s
 done:∀ (X:Cx),X.prog=P→X.w=w→X.K=K→X.calm=true→∀ (i:Nat) (ku:List (Addr×Obj)) (s:Shared) (σ:St) (H:Hp) (E:Value→Shared→Prop),Inv X ku σ H s→(∀ b∈fp,zcg X ku H b)→tn i s.heap→J.stop i H →
  wpAny (model P w) X.A (pyNext (.ref it)) (fun r s1=>r=none∧Inv X ku σ H s1) E s
 self:∀ (A:Around) (i:Nat) (s:Shared) (Q:Value→Shared→Prop) (E:Value→Shared→Prop),tn i s.heap→Q (.ref it) s→wpAny (model P w) A (pyIter (.ref it)) Q E s
abbrev TI:=St→Hp→(It→Hp→Prop)→Prop
def PIE (X:Cx) (ku:List (Addr×Obj)) (σ:St) (tg:Expr) (R:It→Hp→Prop) (vI:Value) (s2:Shared):Prop :=
 ∃ (it:Addr) (fp:List Addr) (tn:Nat→Heap→Prop) (J:It) (H':Hp),vI = .ref it∧Inv X ku σ H' s2∧Turn X.prog X.w X.K tg J fp it tn∧tn 0 s2.heap∧(∀ b∈fp,zcg X ku H' b)∧R J H'
def PI (X:Cx) (tg iter:Expr) (wi:TI):Prop :=
 ∀ (ku:List (Addr×Obj)) (s:Shared) (σ:St) (H:Hp) (R:It→Hp→Prop),Inv X ku σ H s→wi σ H R →
  wpAny (model X.prog X.w) X.A (eval iter X.env) (fun v s1=>wpAny (model X.prog X.w) X.A (pyIter v) (PIE X ku σ tg R) X.xe s1) X.xe s
theorem zfY {M:Model} {A:Around} {E:Value→Shared→Prop} {s:Shared} {tg:Expr} {it:Addr} {u:Value} {o:Obj} {n:String} {vs:Array Value} {Q:Unit→Shared→Prop} (ho:s.heap.get? it=some o) (hc:o.cls = .type n) (hd:o.data = .fields vs)
  (hn:["enumerate","zip","dict_itemiterator","dict_reverseitemiterator","odict_iterator","itertools.zip_longest","itertools.pairwise"].contains n=false) (hQ:Q () s):wpAny M A (letOwnedTupleGo tg (.ref it) u) Q E s:=by
 unfold letOwnedTupleGo;cases tg <;> first
  | exact ak hQ
  | (cases u <;> first
    | exact ak hQ
    | (refine ae (wpAny_load ho ?_)
       rw [hc,hd];show wpAny M A (if (["enumerate","zip","dict_itemiterator","dict_reverseitemiterator","odict_iterator","itertools.zip_longest","itertools.pairwise"].contains n && vs[0]? == some (rawInt _))=true then _ else _) Q E s;rw [if_neg (by intro h; rw [hn,j4] at h; cases h)];exact ak hQ))
def Itl (K:ag) (a:Addr):It :=
 ⟨fun i H=>∃ xs x,ky K H a xs∧xs[i]? = some x,fun i H x H'=>H'=H∧∀ xs,ky K H a xs→xs[i]? = some x,fun i H=>∃ xs,ky K H a xs∧xs.length≤i⟩
def Itt (K:ag) (a:Addr):It :=
 ⟨fun i H=>∃ xs x,kF K H a xs∧xs[i]? = some x,fun i H x H'=>H'=H∧∀ xs,kF K H a xs→xs[i]? = some x,fun i H=>∃ xs,kF K H a xs∧xs.length≤i⟩
def Itr (lo:Int) (n:Nat):It:=⟨fun i _=>i < n,fun i H x H'=>H'=H∧x = .int (lo+i),fun i _=>n≤i⟩
theorem zeT {P:Program} {w:World} {K:ag} {tg:Expr} (a it:Addr):Turn P w K tg (Itl K a) [it] it (fun i h=>h.IsListIter it a i) where
 mem:=by simp
 obj:=fun i h st b hb=>by
  have e:b=it:=by simpa using hb
  subst e;obtain⟨o,e,c,d⟩:=st;exact⟨o,e,fun v z=>by rw [d] at z; cases z⟩
 keep:=fun i h h' st k=>st.at fun o e=>k it #[M] o e
 item:=by
  intro X hP hw hK hc i ku s σ H E I hf st hg;subst hP hw hK;obtain⟨xs,x,hq,hx⟩:=hg;obtain⟨kz,rv,p,hz⟩:=I.list hq;obtain⟨u,hu,ru⟩:=rv.get hx;obtain⟨f0,f1,f2,f3,f4,f5⟩:=hf it #[M];refine wpAny_pyNext_list_item st p.isList (x:=u) (by simpa using hu) fun h' kC sb=>?_
  have I1:Inv X ku σ H { s with heap:=h' }:=I.turned (t':=s.toks) (fun b o hb e=>(sb.2 b hb).trans e) f0 f1 f3 f4 f5;obtain⟨o,e,c,d⟩:=id kC;exact⟨u,rfl,zfY (s:={ s with heap:=h' }) e c d #[D] ⟨x,H,I1,ru,⟨rfl,fun ys hy=>by rw [I.list_inj hy hq]; exact hx⟩,kC,fun b hb=>(hf b hb).1⟩⟩
 done:=by
  intro X hP hw hK hc i ku s σ H E I hf st hg;subst hP hw hK;obtain⟨xs,hq,hx⟩:=hg;obtain⟨kz,rv,p,hz⟩:=I.list hq;obtain⟨f0,f1,f2,f3,f4,f5⟩:=hf it #[M];have hl:=rv.length;exact wpAny_pyNext_list_end (I.ok.hd hc) st p.isList (by simp; lia) fun h' eb=>⟨rfl,I.turned (t':=s.toks) (fun b o hb e=>eb b o hb e) f0 f1 f3 f4 f5⟩
 self:=fun _ _ _ _ _ st h=>wpAny_pyIter_listiter st h
theorem zd5 {P:Program} {w:World} {K:ag} {tg:Expr} (a it:Addr):Turn P w K tg (Itt K a) [it] it (fun i h=>h.IsTupleIter it a i) where
 mem:=by simp
 obj:=fun i h st b hb=>by
  have e:b=it:=by simpa using hb
  subst e;obtain⟨o,e,c,d⟩:=st;exact⟨o,e,fun v z=>by rw [d] at z; cases z⟩
 keep:=fun i h h' st k=>st.at fun o e=>k it #[M] o e
 item:=by
  intro X hP hw hK hc i ku s σ H E I hf st hg;subst hP hw hK;obtain⟨xs,x,hq,hx⟩:=hg;obtain⟨kz,rv,p,hz⟩:=I.tuple hq;obtain⟨u,hu,ru⟩:=rv.get hx;obtain⟨f0,f1,f2,f3,f4,f5⟩:=hf it #[M];refine wpAny_pyNext_tuple_item st (show s.heap.IsTuple a kz.toArray from p) (x:=u) (by simpa using hu) fun h' kC sb=>?_
  have I1:Inv X ku σ H { s with heap:=h' }:=I.turned (t':=s.toks) (fun b o hb e=>(sb.2 b hb).trans e) f0 f1 f3 f4 f5;obtain⟨o,e,c,d⟩:=id kC;exact⟨u,rfl,zfY (s:={ s with heap:=h' }) e c d #[D] ⟨x,H,I1,ru,⟨rfl,fun ys hy=>by rw [I.tuple_inj hy hq]; exact hx⟩,kC,fun b hb=>(hf b hb).1⟩⟩
 done:=by
  intro X hP hw hK hc i ku s σ H E I hf st hg;subst hP hw hK;obtain⟨xs,hq,hx⟩:=hg;obtain⟨kz,rv,p,hz⟩:=I.tuple hq;obtain⟨f0,f1,f2,f3,f4,f5⟩:=hf it #[M];have hl:=rv.length;exact wpAny_pyNext_tuple_end (I.ok.hd hc) st (show s.heap.IsTuple a kz.toArray from p) (by simp; lia) fun h' eb=>⟨rfl,I.turned (t':=s.toks) (fun b o hb e=>eb b o hb e) f0 f1 f3 f4 f5⟩
 self:=fun _ _ _ _ _ st h=>wpAny_pyIter_tupleiter st h
theorem zgQ {P:Program} {w:World} {K:ag} {tg:Expr} (it:Addr) (lo:Int) (n:Nat):Turn P w K tg (Itr lo n) [it] it (fun i h=>IsRangeIter h it (lo+(i:Nat)*1) ((n:Int) - (i:Nat)) 1) where
 mem:=by simp
 obj:=fun i h st b hb=>by
  have e:b=it:=by simpa using hb
  subst e;exact⟨_,st,fun v z=>by
   have z':jC _=Data.cell v:=z;cases z'⟩
 keep:=fun i h h' st k=>k it #[M] _ st
 item:=by
  intro X hP hw hK hc i ku s σ H E I hf st hg;subst hP hw hK;obtain⟨f0,f1,f2,f3,f4,f5⟩:=hf it #[M];have W:=Walks.range (prog:=X.prog) (w:=X.w) (I.ok.hd hc) it lo 1 n;refine W.item i s _ _ hg st fun v h' tk hv kC kk=>?_
  obtain⟨t,rfl⟩:=hv;have I1:Inv X ku σ H { s with heap:=h',toks:=tk }:=I.turned (fun b o hb e=>kk b o (by simpa using hb) e) f0 f1 f3 f4 f5;refine⟨_,rfl,zfY (s:={ s with heap:=h',toks:=tk }) (n:="range_iterator") kC rfl rfl #[D] ⟨.int (lo+i),H,I1,⟨t,?_⟩,⟨rfl,rfl⟩,kC,fun b hb=>(hf b hb).1⟩⟩;rw [jD]
 done:=by
  intro X hP hw hK hc i ku s σ H E I hf st hg;subst hP hw hK;obtain⟨f0,f1,f2,f3,f4,f5⟩:=hf it #[M];exact wpAny_pyNext_range_end (I.ok.hd hc) st (by have:n≤i:=hg; lia) fun h' eb=>⟨rfl,I.turned (t':=s.toks) (fun b o hb e=>eb b o hb e) f0 f1 f3 f4 f5⟩
 self:=fun _ _ _ _ _ st h=>wpAny_pyIter_rangeiter st h
section
variable {X:Cx} {tg:Expr}
def znn (K:ag) (tl:TE):TI:=fun σ H R=>tl σ H fun x H1=>∃ a,x = .ref a∧(∃ xs,ky K H1 a xs)∧R (Itl K a) H1
def zno (K:ag) (tl:TE):TI:=fun σ H R=>tl σ H fun x H1=>∃ a,x = .ref a∧(∃ xs,kF K H1 a xs)∧R (Itt K a) H1
theorem zP {l:Expr} {tl:TE} (hl:PE X l tl):PI X tg l (znn X.K tl):=by
 intro ku s σ H R I h;refine thn (hl ku s σ H _ I h) fun v s1 ⟨x,H1,I1,r1,q1⟩=>?_
 obtain⟨a,e,⟨xs,hq⟩,q⟩:=q1;subst e;cases r1;obtain⟨kz,rv,p,hz⟩:=I1.list hq;refine gv p.isList ?_;refine⟨s1.heap.objs.size,[s1.heap.objs.size],_,_,H1,rfl,I1.kept (t':=s1.toks) fun b o e=>ai _ e,zeT a _,⟨_,aH _ rfl,rfl,rfl⟩,fun b hb=>?_,q⟩;have e:b=s1.heap.objs.size:=by simpa using hb
 subst e;exact I1.fpOk (af _) (I1.hok.fresh (af _))
theorem zjB {l:Expr} {tl:TE} (hl:PE X l tl):PI X tg l (zno X.K tl):=by
 intro ku s σ H R I h;refine thn (hl ku s σ H _ I h) fun v s1 ⟨x,H1,I1,r1,q1⟩=>?_
 obtain⟨a,e,⟨xs,hq⟩,q⟩:=q1;subst e;cases r1;obtain⟨kz,rv,p,hz⟩:=I1.tuple hq;refine f9 (show s1.heap.IsTuple a kz.toArray from p) ?_;refine⟨s1.heap.objs.size,[s1.heap.objs.size],_,_,H1,rfl,I1.kept (t':=s1.toks) fun b o e=>ai _ e,zd5 a _,⟨_,aH _ rfl,rfl,rfl⟩,fun b hb=>?_,q⟩;have e:b=s1.heap.objs.size:=by simpa using hb
 subst e;exact I1.fpOk (af _) (I1.hok.fresh (af _))
theorem zfZ {ku:List (Addr×Obj)} {σ:St} {H:Hp} {s:Shared} {R:It→Hp→Prop} {E:Value→Shared→Prop} {lo hi:Int} {t u v:Tok} {tk:Nat} (I:Inv X ku σ H s) (h1:-(2 ^ 62)≤lo) (h2:lo < 2 ^ 62) (h3:-(2 ^ 62)≤hi) (h4:hi < 2 ^ 62)
  (q:R (Itr lo (hi - lo).toNat) H):wpAny (model X.prog X.w) X.A (pyIter (.ref s.heap.objs.size)) (PIE X ku σ tg R) E { s with heap:=s.heap.push { cls:=.type "range",data:=.fields #[.int lo t,.int hi u,.int 1 v] },toks:=tk }:=by
 refine wpAny_pyIter_range (IsRange.new ..) (small_one h1 h2 h3 h4) ?_;have I1:Inv X ku σ H { s with heap:=s.heap.push { cls:=.type "range",data:=.fields #[.int lo t,.int hi u,.int 1 v] },toks:=tk }:=I.kept fun b o e=>ai _ e
 refine⟨(s.heap.push { cls:=.type "range",data:=.fields #[.int lo t,.int hi u,.int 1 v] }).objs.size,[(s.heap.push { cls:=.type "range",data:=.fields #[.int lo t,.int hi u,.int 1 v] }).objs.size],_,_,H,rfl,
  I1.kept (t':=tk) fun b o e=>ai _ e,zgQ _ lo (hi - lo).toNat,?_,fun b hb=>?_,q⟩
 ·have e1:lo+((0:Nat):Int)*1=lo:=by simp
  have e2:(((hi - lo).toNat:Nat):Int) - ((0:Nat):Int)=Builtin.Range.rangeSize lo hi 1:=by rw [rangeSize_one]; split <;> lia
  show IsRangeIter _ _ (lo+((0:Nat):Int)*1) ((((hi - lo).toNat:Nat):Int) - ((0:Nat):Int)) 1;rw [e1,e2];exact aH _ rfl
 ·have e:b=(s.heap.push { cls:=.type "range",data:=.fields #[.int lo t,.int hi u,.int 1 v] }).objs.size:=by simpa using hb
  subst e;exact I1.fpOk (af _) (I1.hok.fresh (af _))
def znp (ta:TA):TI:=fun σ H R=>ta σ H fun vs H1=>∃ j:Int,vs = [.int j]∧-(2 ^ 62)≤j∧j < 2 ^ 62∧R (Itr 0 j.toNat) H1
def znq (ta:TA):TI:=fun σ H R=>ta σ H fun vs H1=>∃ i j:Int,vs = [.int i,.int j]∧(-(2 ^ 62)≤i∧i < 2 ^ 62∧-(2 ^ 62)≤j∧j < 2 ^ 62)∧R (Itr i (j - i).toNat) H1
theorem za3 {a:Expr} {ta:TA} {p pos:Pos} (hg:Gl X "range") (hm:X.mg "range" = none) (ha:PA X [a] ta) (hs:starEach [a] X.env = [(false,eval a X.env)]:=by rfl):PI X tg (.Call (.Name "range" p) [a] [] pos) (znp ta):=by
 intro ku s σ H R I h;refine Call_ (zbL I hg hm gH (bC (thn (ha pos ku s σ H _ I h) fun us s1 ⟨vs,H1,I1,r1,q1⟩=>?_) hs rfl));obtain⟨j,e,q1,q2,q⟩:=q1;subst e;cases r1 with
 | cons r rr =>
  cases rr;obtain⟨t,rfl⟩:=r;exact call_range_1 (zfZ I1 #[O] #[O] q1 q2 (by simpa using q))
theorem ziD {a b:Expr} {ta:TA} {p pos:Pos} (hg:Gl X "range") (hm:X.mg "range" = none) (ha:PA X [a,b] ta) (hs:starEach [a,b] X.env = [(false,eval a X.env),(false,eval b X.env)]:=by rfl) (nc:starEach [b] X.env = [(false,eval b X.env)]:=by rfl) :
  PI X tg (.Call (.Name "range" p) [a,b] [] pos) (znq ta):=by
 intro ku s σ H R I h;refine Call_ (zbL I hg hm gH (bC (thn (ha pos ku s σ H _ I h) fun us s1 ⟨vs,H1,I1,r1,q1⟩=>?_) (by rw [hs,nc]) (by rw [nc]; rfl)));obtain⟨i,j,e,⟨q1,q2,q3,q4⟩,q⟩:=q1;subst e;cases r1 with
 | cons r rr =>
  cases rr with
  | cons r' rr =>
   cases rr;obtain⟨t,rfl⟩:=r;obtain⟨t',rfl⟩:=r';exact call_range_2 (zfZ I1 q1 q2 q3 q4 q)
def zob (wi:TI) (g:TG) (tb:TS):TS:=fun D σ H=>wi σ H fun J H1=>∃ W:Nat→Nat→St→Hp→Prop,(∃ m,W 0 m σ H1)∧∀ i m σ H,W i m σ H →
 (J.stop i H∧D.nx σ H)∨(J.go i H∧∃ N:St→Hp→Prop,(∀ σ' H',N σ' H'→∃ m',m' < m∧W (i+1) m' σ' H')∧∀ x H',J.yld i H x H'→g x σ H' fun σ2 H2=>tb { D with nx:=N,ct:=N,bk:=D.nx } σ2 H2)
def zch (fp:List Addr) (h:Heap):List (Addr×Obj):=fp.filterMap fun b=>(h.get? b).map fun o=>(b,o)
theorem zb0 {fp:List Addr} {h:Heap} {b:Addr} {o:Obj} (hb:b∈fp) (e:h.get? b=some o):(b,o)∈zch fp h:=jc.mpr ⟨b,hb,by rw [e]; rfl⟩
theorem zeU {fp:List Addr} {h:Heap} {p:Addr×Obj} (hp:p∈zch fp h):p.1∈fp∧h.get? p.1=some p.2:=by
 obtain⟨b,hb,e⟩:=jc.mp hp;cases q:h.get? b with
 | none=>rw [q] at e; cases e
 | some o =>
  rw [q] at e;have e':(b,o)=p:=aQ e;subst e';exact⟨hb,q⟩
theorem Inv.pinned {ku:List (Addr×Obj)} {σ:St} {H:Hp} {s:Shared} {fp:List Addr} (I:Inv X ku σ H s) (hf:∀ b∈fp,zcg X ku H b) (ho:∀ b∈fp,∃ o,s.heap.get? b=some o∧∀ v,o.data≠.cell v):Inv X (ku++zch fp s.heap) σ H s :=
 I.pins_of fun p hp=>(aL.mp hp).elim (fun z=>I.pin p (aG _ z)) fun z=>by
  obtain⟨hb,e⟩:=zeU z;obtain⟨f0,f1,f2,_⟩:=hf p.1 hb;obtain⟨o,e',d⟩:=ho p.1 hb;rw [e] at e'; cases e';exact⟨e,f0,f1,f2,d⟩
theorem Inv.unpinned {ku pl:List (Addr×Obj)} {σ:St} {H:Hp} {s:Shared} (I:Inv X (ku++pl) σ H s):Inv X ku σ H s:=I.pins_of fun p hp=>I.pin p (aG _ (aP _ hp))
theorem zbd {iter:Expr} {body:List Stmt} {wi:TI} {g:TG} {tb:TS} {pos:Pos} (hp:PassesOwn (model X.prog X.w) X.A X.env X.xe) (hc:X.calm=true) (hi:PI X tg iter wi) (hg:PG X tg g) (hb:PSs X body tb)
  (hs:∀ x,foldedSetIterable iter X.env x=pure x:=by intro _; rfl):PS X (.For tg iter body [] pos) (zob wi g tb):=by
 intro ku s σ H D I h;refine wpAny_For (thn (hi ku s σ H _ I h) fun v s1 h1=>thn h1 fun vI s2 h2=>?_) hs;obtain⟨it,fp,tn,J,H2,e,I2,T,lH,f2,W,⟨m0,w0⟩,turn⟩:=h2;subst e;have vJ:∀ {H':Hp},(∀ b∈fp,H' b=none)→∀ b∈fp,zcg X ku H' b:=fun hn b hb=>⟨hn b hb,(f2 b hb).2⟩
 refine codeAny_forLoop_any (fun n s'=>∃ i σ' H',Inv X ku σ' H' s'∧tn i s'.heap∧(∀ b∈fp,H' b=none)∧W i n σ' H') ?_ m0 ⟨0,σ,H2,I2,lH,fun b hb=>(f2 b hb).1,w0⟩;rintro n s3 ⟨i,σ3,H3,I3,AV,fr3,w3⟩;rcases turn i n σ3 H3 w3 with ⟨stop,qn⟩ | ⟨go,N,hN,step⟩
 ·refine dk hp (thn (T.done X rfl rfl rfl hc i ku s3 σ3 H3 X.xe I3 (vJ fr3) AV stop) fun r s4 ⟨hr,I4⟩=>?_);subst hr;exact fz ⟨σ3,H3,I4,qn⟩
 ·refine dk hp (thn (T.item X rfl rfl rfl hc i ku s3 σ3 H3 X.xe I3 (vJ fr3) AV go) fun r s4 ⟨u,hr,h4⟩=>?_);subst hr;refine dk hp (thn h4 fun _ s5 ⟨x,H5,I5,r5,y5,xf,fr5⟩=>?_);have I5':=I5.pinned (vJ fr5) (T.obj _ _ xf);refine dk hp (thn (hg _ s5 σ3 H5 x u _ I5' r5 (step x H5 y5)) fun _ s6 ⟨σ6,H6,I6,q6⟩=>?_);refine dk hp (thn (hb _ s6 σ6 H6 _ I6 q6) fun f s7 q7=>?_);have again:∀ {σ7:St} {H7:Hp},Inv X (ku++zch fp s5.heap) σ7 H7 s7→N σ7 H7→∃ m,m < n∧∃ i σ' H',Inv X ku σ' H' s7∧tn i s7.heap∧(∀ b∈fp,H' b=none)∧W i m σ' H':=fun {σ7 H7} I7 n7=>by
   obtain⟨m',hm,w7⟩:=hN σ7 H7 n7;refine⟨m',hm,i+1,σ7,H7,I7.unpinned,T.keep _ _ _ xf fun b hb o e=>(I7.pin (b,o) (aG _ (aG _ (zb0 hb e)))).1,fun b hb=>?_,w7⟩;obtain⟨o,e,d⟩:=T.obj _ _ xf b hb;exact (I7.pin (b,o) (aG _ (aG _ (zb0 hb e)))).2.1
  cases f with
  | next=>obtain⟨σ7,H7,I7,n7⟩:=q7; exact again I7 n7
  | cont=>obtain⟨σ7,H7,I7,n7⟩:=q7; exact again I7 n7
  | brk=>obtain⟨σ7,H7,I7,q7⟩:=q7; exact⟨σ7,H7,I7.unpinned,q7⟩
  | ret v=>obtain⟨x7,σ7,H7,I7,r7,q7⟩:=q7; exact⟨x7,σ7,H7,I7.unpinned,r7,q7⟩
end
theorem zjC {K:ag} {a:Addr} {xs:List V} {g:TG} {tb:TS} {D:Ends} {σ:St} {H:Hp} (Pv:Nat→St→Hp→Prop) (h0:Pv 0 σ H) (hl:∀ i σ H,i≤xs.length→Pv i σ H→ky K H a xs)
  (hs:∀ i x σ H,xs[i]? = some x→Pv i σ H→g x σ H fun σ2 H2=>tb { D with nx:=Pv (i+1),ct:=Pv (i+1),bk:=D.nx } σ2 H2) (hd:∀ σ H,Pv xs.length σ H→D.nx σ H) :
  ∃ W:Nat→Nat→St→Hp→Prop,(∃ m,W 0 m σ H)∧∀ i m σ H,W i m σ H →
   ((Itl K a).stop i H∧D.nx σ H)∨((Itl K a).go i H∧∃ N:St→Hp→Prop,(∀ σ' H',N σ' H'→∃ m',m' < m∧W (i+1) m' σ' H')∧∀ x H',(Itl K a).yld i H x H'→g x σ H' fun σ2 H2=>tb { D with nx:=N,ct:=N,bk:=D.nx } σ2 H2):=by
 refine⟨fun i m σ H=>m=xs.length - i∧i≤xs.length∧Pv i σ H,⟨xs.length,#[M],bu _,h0⟩,?_⟩;rintro i m σ H ⟨rfl,hi,p⟩;have q:=hl i σ H hi p;by_cases kU:i < xs.length
 ·refine .inr ⟨⟨xs,xs[i],q,by simp [kU]⟩,Pv (i+1),fun σ' H' p'=>⟨xs.length - (i+1),#[O],rfl,kU,p'⟩,fun x H' y=>?_⟩;obtain⟨e,y⟩:=y;subst e;exact hs i x σ _ (y xs q) p
 ·have e:i=xs.length:=by lia
  subst e;exact .inl ⟨⟨xs,q,af _⟩,hd σ H p⟩
theorem zk1 {K:ag} {a:Addr} {xs:List V} {g:TG} {tb:TS} {D:Ends} {σ:St} {H:Hp} (Pv:Nat→St→Hp→Prop) (h0:Pv 0 σ H) (hl:∀ i σ H,i≤xs.length→Pv i σ H→kF K H a xs)
  (hs:∀ i x σ H,xs[i]? = some x→Pv i σ H→g x σ H fun σ2 H2=>tb { D with nx:=Pv (i+1),ct:=Pv (i+1),bk:=D.nx } σ2 H2) (hd:∀ σ H,Pv xs.length σ H→D.nx σ H) :
  ∃ W:Nat→Nat→St→Hp→Prop,(∃ m,W 0 m σ H)∧∀ i m σ H,W i m σ H →
   ((Itt K a).stop i H∧D.nx σ H)∨((Itt K a).go i H∧∃ N:St→Hp→Prop,(∀ σ' H',N σ' H'→∃ m',m' < m∧W (i+1) m' σ' H')∧∀ x H',(Itt K a).yld i H x H'→g x σ H' fun σ2 H2=>tb { D with nx:=N,ct:=N,bk:=D.nx } σ2 H2):=by
 refine⟨fun i m σ H=>m=xs.length - i∧i≤xs.length∧Pv i σ H,⟨xs.length,#[M],bu _,h0⟩,?_⟩;rintro i m σ H ⟨rfl,hi,p⟩;have q:=hl i σ H hi p;by_cases kU:i < xs.length
 ·refine .inr ⟨⟨xs,xs[i],q,by simp [kU]⟩,Pv (i+1),fun σ' H' p'=>⟨xs.length - (i+1),#[O],rfl,kU,p'⟩,fun x H' y=>?_⟩;obtain⟨e,y⟩:=y;subst e;exact hs i x σ _ (y xs q) p
 ·have e:i=xs.length:=by lia
  subst e;exact .inl ⟨⟨xs,q,af _⟩,hd σ H p⟩
theorem ziE {lo:Int} {n:Nat} {g:TG} {tb:TS} {D:Ends} {σ:St} {H:Hp} (Pv:Nat→St→Hp→Prop) (h0:Pv 0 σ H)
  (hs:∀ i σ H,i < n→Pv i σ H→g (.int (lo+i)) σ H fun σ2 H2=>tb { D with nx:=Pv (i+1),ct:=Pv (i+1),bk:=D.nx } σ2 H2) (hd:∀ σ H,Pv n σ H→D.nx σ H) :
  ∃ W:Nat→Nat→St→Hp→Prop,(∃ m,W 0 m σ H)∧∀ i m σ H,W i m σ H →
   ((Itr lo n).stop i H∧D.nx σ H)∨((Itr lo n).go i H∧∃ N:St→Hp→Prop,(∀ σ' H',N σ' H'→∃ m',m' < m∧W (i+1) m' σ' H')∧∀ x H',(Itr lo n).yld i H x H'→g x σ H' fun σ2 H2=>tb { D with nx:=N,ct:=N,bk:=D.nx } σ2 H2):=by
 refine⟨fun i m σ H=>m=n - i∧i≤n∧Pv i σ H,⟨n,#[M],bu _,h0⟩,?_⟩;rintro i m σ H ⟨rfl,hi,p⟩;by_cases kU:i < n
 ·refine .inr ⟨kU,Pv (i+1),fun σ' H' p'=>⟨n - (i+1),#[O],rfl,kU,p'⟩,fun x H' y=>?_⟩;obtain⟨e,y⟩:=y;subst e y;exact hs i σ _ kU p
 ·have e:i=n:=by lia
  subst e;exact .inl ⟨af _,hd σ H p⟩
theorem zjD {c:TT} {tb:TS} {D:Ends} {σ:St} {H:Hp} (Pv:St→Hp→Prop) (μ:St→Hp→Nat) (h0:Pv σ H)
  (hs:∀ σ H,Pv σ H→c σ H fun b H1=>if b=true then tb { D with nx:=fun σ' H'=>Pv σ' H'∧μ σ' H' < μ σ H,ct:=fun σ' H'=>Pv σ' H'∧μ σ' H' < μ σ H,bk:=D.nx } σ H1 else D.nx σ H1)
  (mono:∀ σ H Q Q',(∀ b H1,Q b H1→Q' b H1)→c σ H Q→c σ H Q'):zjA c tb D σ H:=by
 refine⟨fun m σ H=>m=μ σ H∧Pv σ H,⟨_,rfl,h0⟩,?_⟩;rintro m σ H ⟨rfl,p⟩;refine mono σ H _ _ (fun b H1 q=>?_) (hs σ H p);cases b with
 | true=>exact⟨_,fun σ' H' ⟨p',l⟩=>⟨_,l,rfl,p'⟩,q⟩
 | false=>exact q
abbrev R2:=V→V→Hp→VK→Prop
def OpR (X:Cx) (f:Value→Value→Sem Value) (r:R2):Prop :=
 ∀ (ku:List (Addr×Obj)) (s:Shared) (σ:St) (H:Hp) (x y:V) (v u:Value) (Q:VK),Inv X ku σ H s→RelV x v→RelV y u→r x y H Q →
  wpAny (model X.prog X.w) X.A (f v u) (EP X ku σ Q) X.xe s
def UnR (X:Cx) (f:Value→Sem Value) (r:V→Hp→VK→Prop):Prop :=
 ∀ (ku:List (Addr×Obj)) (s:Shared) (σ:St) (H:Hp) (x:V) (v:Value) (Q:VK),Inv X ku σ H s→RelV x v→r x H Q →
  wpAny (model X.prog X.w) X.A (f v) (EP X ku σ Q) X.xe s
def zci (X:Cx) (f:Value) (r:List V→Hp→VK→Prop):Prop :=
 ∀ (ku:List (Addr×Obj)) (s:Shared) (σ:St) (H:Hp) (xs:List V) (us:List Value) (Q:VK),Inv X ku σ H s→zM xs us→r xs H Q →
  wpAny (model X.prog X.w) X.A (call f us) (EP X ku σ Q) X.xe s
def zoc (X:Cx) (r:V→Hp→(Bool→Hp→Prop)→Prop):Prop :=
 ∀ (ku:List (Addr×Obj)) (s:Shared) (σ:St) (H:Hp) (x:V) (v:Value) (Q:Bool→Hp→Prop),Inv X ku σ H s→RelV x v→r x H Q →
  wpAny (model X.prog X.w) X.A (truthy v) (TP X ku σ Q) X.xe s
def tOp (r:R2) (ta tb:TE):TE:=fun σ H Q=>ta σ H fun x H1=>tb σ H1 fun y H2=>r x y H2 Q
def tUn (r:V→Hp→VK→Prop) (ta:TE):TE:=fun σ H Q=>ta σ H fun x H1=>r x H1 Q
def rI (C:Int→Int→Prop) (g:Int→Int→V):R2:=fun x y H Q=>∃ i j,x = .int i∧y = .int j∧C i j∧Q (g i j) H
def rI0 (g:Int→Int→V):R2:=fun x y H Q=>∃ i j,x = .int i∧y = .int j∧Q (g i j) H
def rU (g:Int→V):V→Hp→VK→Prop:=fun x H Q=>∃ i,x = .int i∧Q (g i) H
section
variable {X:Cx} {a b c:Expr} {ta tb tc:TE} {pos:Pos}
theorem znr (ha:PE X a ta) (hb:PE X b tb) {ku:List (Addr×Obj)} {s:Shared} {σ:St} {H:Hp} {R:V→V→Hp→Prop} (I:Inv X ku σ H s)
  (h:ta σ H fun x H1=>tb σ H1 fun y H2=>R x y H2) {Q:Value→Shared→Prop} {f:Value→Value→Sem Value}
  (hf:∀ v u s2 x y H2,Inv X ku σ H2 s2→RelV x v→RelV y u→R x y H2→wpAny (model X.prog X.w) X.A (f v u) Q X.xe s2) :
  wpAny (model X.prog X.w) X.A (eval a X.env) (fun v s₁=>wpAny (model X.prog X.w) X.A (eval b X.env) (fun u s₂=>wpAny (model X.prog X.w) X.A (f v u) Q X.xe s₂) X.xe s₁) X.xe s:=by
 refine thn (ha ku s σ H _ I h) fun v s1 ⟨x,H1,I1,r1,q1⟩=>?_
 refine thn (hb ku s1 σ H1 _ I1 q1) fun u s2 ⟨y,H2,I2,r2,q2⟩=>?_
 exact hf v u s2 x y H2 I2 r1 r2 q2
theorem zn {op:Operator} {r:R2} (ho:OpR X (binaryOp op) r) (ha:PE X a ta) (hb:PE X b tb):PE X (.BinOp a op b pos) (tOp r ta tb):=by
 intro ku s σ H Q I h;exact wpAny_BinOp (znr ha hb I h fun v u s2 x y H2 I2 rx ry q=>ho ku s2 σ H2 x y v u Q I2 rx ry q)
theorem zns {op:UnaryOp} {r:V→Hp→VK→Prop} (ho:UnR X (unaryOp op) r) (ha:PE X a ta):PE X (.UnaryOp op a pos) (tUn r ta):=by
 intro ku s σ H Q I h;exact UnaryOp_ (thn (ha ku s σ H _ I h) fun v s1 ⟨x,H1,I1,r1,q1⟩=>ho ku s1 σ H1 x v Q I1 r1 q1)
theorem opI {f:Value→Value→Sem Value} {C:Int→Int→Prop} {g:Int→Int→Int}
  (rule:∀ (i j:Int) (t u:Tok) (s:Shared) (Q:Value→Shared→Prop) (E:Value→Shared→Prop),C i j→Q (.int (g i j) s.toks) { s with toks:=s.toks+1 }→wpAny (model X.prog X.w) X.A (f (.int i t) (.int j u)) Q E s) :
  OpR X f (rI C fun i j=>.int (g i j)):=by
 intro ku s σ H x y v u Q I rx ry h;obtain⟨i,j,rfl,rfl,hc,q⟩:=h;obtain⟨t,rfl⟩:=rx;obtain⟨t',rfl⟩:=ry;exact rule i j t t' s _ _ hc ⟨.int (g i j),H,I.tok _,⟨_,rfl⟩,q⟩
theorem zmt {f:Value→Value→Sem Value} {g:Int→Int→Int}
  (rule:∀ (i j:Int) (t u:Tok) (s:Shared) (Q:Value→Shared→Prop) (E:Value→Shared→Prop),Q (.int (g i j) s.toks) { s with toks:=s.toks+1 }→wpAny (model X.prog X.w) X.A (f (.int i t) (.int j u)) Q E s) :
  OpR X f (rI0 fun i j=>.int (g i j)):=by
 intro ku s σ H x y v u Q I rx ry h;obtain⟨i,j,rfl,rfl,q⟩:=h;obtain⟨t,rfl⟩:=rx;obtain⟨t',rfl⟩:=ry;exact rule i j t t' s _ _ ⟨.int (g i j),H,I.tok _,⟨_,rfl⟩,q⟩
theorem zk2 {f:Value→Value→Sem Value} {g:Int→Int→Bool}
  (rule:∀ (i j:Int) (t u:Tok) (s:Shared) (Q:Value→Shared→Prop) (E:Value→Shared→Prop),Q (.bool (g i j)) s→wpAny (model X.prog X.w) X.A (f (.int i t) (.int j u)) Q E s) :
  OpR X f (rI0 fun i j=>.bl (g i j)):=by
 intro ku s σ H x y v u Q I rx ry h;obtain⟨i,j,rfl,rfl,q⟩:=h;obtain⟨t,rfl⟩:=rx;obtain⟨t',rfl⟩:=ry;exact rule i j t t' s _ _ ⟨.bl (g i j),H,I,rfl,q⟩
def znt (i j:Int):Prop:=0 < j∧j < 1073741824
def zod (i j:Int):Prop:=0≤j∧j≤1000000∧i.natAbs < 2 ^ 64
def zmu (i j:Int):Prop:=(-(2 ^ 64) < i∧i < 2 ^ 64)∨(-(2 ^ 64) < j∧j < 2 ^ 64)
theorem zmu.ok {i j:Int} (h:zmu i j):IntMulOk i j:=by
 rcases h with ⟨h1,h2⟩ | ⟨h1,h2⟩
 ·exact .of_left (intBits_le_64 h1 h2)
 ·exact .of_right (intBits_le_64 h1 h2)
theorem z9:OpR X (binaryOp .Add) (rI0 fun i j=>.int (i+j)):=zmt fun _ _ _ _ _ _ _ q=>add_int q
theorem zb1:OpR X (binaryOp .Sub) (rI0 fun i j=>.int (i - j)):=zmt fun _ _ _ _ _ _ _ q=>sub_int q
theorem zag:OpR X (binaryOp .Mult) (rI zmu fun i j=>.int (i*j)):=opI fun _ _ _ _ _ _ _ hc q=>mul_int q hc.ok
theorem zk3:OpR X (binaryOp .FloorDiv) (rI znt fun i j=>.int (i / j)):=opI fun i j _ _ _ _ _ hc q=>by
 have h1:(0:Int) < j:=hc.1;have h2:j < 1073741824:=hc.2;exact floordiv_int #[O] (by rw [gi i #[O]]; exact q) (.inl (ip #[O]))
theorem zW:OpR X (binaryOp .Mod) (rI (fun _ j=>0 < j) fun i j=>.int (i % j)):=opI fun i j _ _ _ _ _ hc q=>by
 have h1:(0:Int) < j:=hc;exact mod_int' #[O] (by rw [Int.fmod_eq_emod_of_nonneg i #[O]]; exact q)
theorem zmv:OpR X (binaryOp .Pow) (rI zod fun i j=>.int (i ^ j.toNat)):=opI fun _ _ _ _ _ _ _ hc q=>pow_int_small hc.1 hc.2.1 hc.2.2 q
theorem zk4:OpR X (inplaceOp .Add) (rI0 fun i j=>.int (i+j)):=zmt fun _ _ _ _ _ _ _ q=>iadd_int q
theorem zjE:OpR X (inplaceOp .FloorDiv) (rI znt fun i j=>.int (i / j)):=opI fun i j _ _ _ _ _ hc q=>by
 have h1:(0:Int) < j:=hc.1;have h2:j < 1073741824:=hc.2;exact ifloordiv_int #[O] (by rw [gi i #[O]]; exact q) (.inl (ip #[O]))
theorem unI {f:Value→Sem Value} {g:Int→Int}
  (rule:∀ (i:Int) (t:Tok) (s:Shared) (Q:Value→Shared→Prop) (E:Value→Shared→Prop),Q (.int (g i) s.toks) { s with toks:=s.toks+1 }→wpAny (model X.prog X.w) X.A (f (.int i t)) Q E s) :
  UnR X f (rU fun i=>.int (g i)):=by
 intro ku s σ H x v Q I rx h;obtain⟨i,rfl,q⟩:=h;obtain⟨t,rfl⟩:=rx;exact rule i t s _ _ ⟨.int (g i),H,I.tok _,⟨_,rfl⟩,q⟩
theorem zmw:UnR X (unaryOp .USub) (rU fun i=>.int (-i)):=unI fun _ _ _ _ _ q=>neg_int q
end
def zk5:V→V→Bool
 | .non,.non=>true | .non,.int _=>true | .int _,.non=>true | .non,.bl _=>true | .bl _,.non=>true | .non,.str _=>true | .str _,.non=>true
 | .int _,.int _=>true | .bl _,.bl _=>true | .str _,.str _=>true | .byt _,.byt _=>true
 | .int _,.str _=>true | .str _,.int _=>true | .bl _,.str _=>true | .str _,.bl _=>true
 | _,_=>false
def rEq:R2:=fun x y H Q=>zk5 x y=true∧Q (.bl (decide (x=y))) H
def rNe:R2:=fun x y H Q=>zk5 x y=true∧Q (.bl (!decide (x=y))) H
theorem zhy {i j:Int}:decide (V.int i=V.int j)=(i == j):=by
 rw [bN];simp
theorem zjF {i j:Bool}:decide (V.bl i=V.bl j)=(i == j):=by
 rw [bN];simp
theorem zhz {i j:Str}:decide (V.str i=V.str j)=(i == j):=by
 rw [bN];simp
theorem zhA {i j:Array UInt8}:decide (V.byt i=V.byt j)=(i.toList == j.toList):=by
 rw [bN];cases i;cases j;simp
section
variable {X:Cx} {a b c:Expr} {ta tb tc:TE} {pos:Pos}
theorem zU {ku:List (Addr×Obj)} {σ:St} {H:Hp} {s:Shared} {Q:VK} {k k':Bool} (I:Inv X ku σ H s) (q:Q (.bl k) H) (e:k=k'):EP X ku σ Q (.bool k') s:=by
 subst e;exact⟨.bl k,H,I,rfl,q⟩
theorem zeV:OpR X (compareOp .Eq) rEq:=by
 intro ku s σ H x y v u Q I rx ry h;obtain⟨hs,q⟩:=h;cases x with
 | non =>
  cases rx;cases y with
  | non=>cases ry; exact PySem.EqNone.eq_none_none (zU I q #[M])
  | bl j=>cases ry; exact PySem.EqNone.eq_none_bool (zU I q #[M])
  | int j=>obtain⟨t',rfl⟩:=ry; exact PySem.EqNone.eq_none_int (zU I q #[M])
  | str j=>obtain⟨t',rfl⟩:=ry; exact PySem.EqNone.eq_none_str (zU I q #[M])
  | _=>exact absurd (show false=true from hs) aO
 | bl i =>
  cases rx;cases y with
  | non=>cases ry; exact PySem.EqNone.eq_bool_none (zU I q #[M])
  | bl j=>cases ry; exact eq_bool (zU I q zjF)
  | str j=>obtain⟨t',rfl⟩:=ry; exact PySem.EqMixed.eq_bool_str (zU I q #[M])
  | _=>exact absurd (show false=true from hs) aO
 | int i =>
  obtain⟨t,rfl⟩:=rx;cases y with
  | non=>cases ry; exact PySem.EqNone.eq_int_none (zU I q #[M])
  | int j=>obtain⟨t',rfl⟩:=ry; exact eq_int (zU I q zhy)
  | str j=>obtain⟨t',rfl⟩:=ry; exact PySem.EqMixed.eq_int_str (zU I q #[M])
  | _=>exact absurd (show false=true from hs) aO
 | str i =>
  obtain⟨t,rfl⟩:=rx;cases y with
  | non=>cases ry; exact PySem.EqNone.eq_str_none (zU I q #[M])
  | bl j=>cases ry; exact PySem.EqMixed.eq_str_bool (zU I q #[M])
  | int j=>obtain⟨t',rfl⟩:=ry; exact PySem.EqMixed.eq_str_int (zU I q #[M])
  | str j=>obtain⟨t',rfl⟩:=ry; exact eq_str (zU I q zhz)
  | _=>exact absurd (show false=true from hs) aO
 | byt i =>
  obtain⟨t,rfl⟩:=rx;cases y with
  | byt j=>obtain⟨t',rfl⟩:=ry; exact PySem.W.eq_bytes (zU I q zhA)
  | _=>exact absurd (show false=true from hs) aO
 | _=>cases y <;> exact absurd (show false=true from hs) aO
theorem zl8:OpR X (compareOp .NotEq) rNe:=by
 intro ku s σ H x y v u Q I rx ry h;obtain⟨hs,q⟩:=h;cases x with
 | non =>
  cases rx;cases y with
  | non=>cases ry; exact PySem.EqNone.ne_none_none (zU I q #[M])
  | bl j=>cases ry; exact PySem.EqNone.ne_none_bool (zU I q #[M])
  | int j=>obtain⟨t',rfl⟩:=ry; exact PySem.EqNone.ne_none_int (zU I q #[M])
  | str j=>obtain⟨t',rfl⟩:=ry; exact PySem.EqNone.ne_none_str (zU I q #[M])
  | _=>exact absurd (show false=true from hs) aO
 | bl i =>
  cases rx;cases y with
  | non=>cases ry; exact PySem.EqNone.ne_bool_none (zU I q #[M])
  | bl j=>cases ry; exact ne_bool (zU I q (congrArg not zjF))
  | str j=>obtain⟨t',rfl⟩:=ry; exact PySem.EqMixed.ne_bool_str (zU I q #[M])
  | _=>exact absurd (show false=true from hs) aO
 | int i =>
  obtain⟨t,rfl⟩:=rx;cases y with
  | non=>cases ry; exact PySem.EqNone.ne_int_none (zU I q #[M])
  | int j=>obtain⟨t',rfl⟩:=ry; exact ne_int (zU I q (congrArg not zhy))
  | str j=>obtain⟨t',rfl⟩:=ry; exact PySem.EqMixed.ne_int_str (zU I q #[M])
  | _=>exact absurd (show false=true from hs) aO
 | str i =>
  obtain⟨t,rfl⟩:=rx;cases y with
  | non=>cases ry; exact PySem.EqNone.ne_str_none (zU I q #[M])
  | bl j=>cases ry; exact PySem.EqMixed.ne_str_bool (zU I q #[M])
  | int j=>obtain⟨t',rfl⟩:=ry; exact PySem.EqMixed.ne_str_int (zU I q #[M])
  | str j=>obtain⟨t',rfl⟩:=ry; exact ne_str (zU I q (congrArg not zhz))
  | _=>exact absurd (show false=true from hs) aO
 | byt i =>
  obtain⟨t,rfl⟩:=rx;cases y with
  | byt j=>obtain⟨t',rfl⟩:=ry; exact PySem.W.ne_bytes (zU I q (congrArg not zhA))
  | _=>exact absurd (show false=true from hs) aO
 | _=>cases y <;> exact absurd (show false=true from hs) aO
theorem zd6:OpR X (compareOp .Lt) (rI0 fun i j=>.bl (decide (i < j))):=zk2 fun _ _ _ _ _ _ _ q=>lt_int q
theorem znu:OpR X (compareOp .LtE) (rI0 fun i j=>.bl (decide (i≤j))):=zk2 fun _ _ _ _ _ _ _ q=>le_int q
theorem zf0:OpR X (compareOp .Gt) (rI0 fun i j=>.bl (decide (j < i))):=zk2 fun _ _ _ _ _ _ _ q=>gt_int q
theorem zjG:OpR X (compareOp .GtE) (rI0 fun i j=>.bl (decide (j≤i))):=zk2 fun _ _ _ _ _ _ _ q=>ge_int q
theorem zmx:OpR X (compareOp .Is) (fun x y H Q=>y = .non∧Q (.bl (decide (x = .non))) H):=by
 intro ku s σ H x y v u Q I rx ry h;obtain⟨rfl,q⟩:=h;cases ry;refine is_none_gen (zU I q ?_);cases x <;> first
  | (cases rx; rfl)
  | (obtain⟨t,rfl⟩:=rx; rfl)
theorem zhB:OpR X (compareOp .IsNot) (fun x y H Q=>y = .non∧Q (.bl (!decide (x = .non))) H):=by
 intro ku s σ H x y v u Q I rx ry h;obtain⟨rfl,q⟩:=h;cases ry;refine isnot_none_gen (zU I q ?_);cases x <;> first
  | (cases rx; rfl)
  | (obtain⟨t,rfl⟩:=rx; rfl)
theorem zY (b:Expr) {op:CmpOp} (h:op≠.In:=by decide) (h2:op≠.NotIn:=by decide):behindInMarks op b=false:=by
 have e1:(op == CmpOp.In)=false:=by cases op <;> first | rfl | exact absurd rfl h
 have e2:(op == CmpOp.NotIn)=false:=by cases op <;> first | rfl | exact absurd rfl h2
 cases b <;> simp [behindInMarks,e1,e2]
def znv (t:TE):TT:=fun σ H Q=>t σ H fun x H'=>∃ k,x = .bl k∧Q k H'
theorem zC {op:CmpOp} {r:R2} (ho:OpR X (compareOp op) r) (ha:PE X a ta) (hb:PE X b tb) (hm:behindInMarks op b=false):PT X (.Compare a [op] [b] pos) (znv (tOp r ta tb)):=by
 intro ku s σ H Q I h;refine wpAny_isTrue_Compare1 (thn (ha ku s σ H _ I h) fun v s1 ⟨x,H1,I1,r1,q1⟩=>thn (hb ku s1 σ H1 _ I1 q1) fun u s2 ⟨y,H2,I2,r2,q2⟩ =>
  thn (ho ku s2 σ H2 x y v u _ I2 r1 r2 q2) fun c s3 ⟨z,H3,I3,r3,k,e,q3⟩=>?_) hm
 subst e;cases r3;exact wpAny_truthy_bool ⟨H3,I3,q3⟩
def znw (K:ag) (x:V) (H:Hp) (k:Bool):Prop :=
 match x with
 | .non=>k=false
 | .bl b=>k=b
 | .int i=>k=(i != 0)
 | .str y=>y.length≤sizeLine∧k=((y.length:Int) != 0)
 | .byt y=>y.size≤sizeLine∧k=((y.size:Int) != 0)
 | .ref p=>(∃ xs,ky K H p xs∧k = !xs.isEmpty)∨(∃ xs,kF K H p xs∧k = !xs.isEmpty)∨∃ kE,H p=some (.dK kE)∧k = !kE.isEmpty
 | _=>False
theorem zgR {κ:Type} {kE:List (κ×V)} {vs:List (κ×Value)} (r:KV kE vs):(!vs.isEmpty) = !kE.isEmpty:=by
 cases r <;> rfl
theorem zd7 {xs:List V} {kz:List Value} (r:zM xs kz):(!kz.toArray.isEmpty) = !xs.isEmpty:=by
 cases r <;> simp
theorem zd8:(sizeLine:Nat) < 2 ^ 63:=by rw [ba]; decide
theorem zmy:zoc X (fun x H Q=>∃ k,znw X.K x H k∧Q k H):=by
 intro ku s σ H x v Q I rx h;obtain⟨k,e,q⟩:=h;have hl:=zd8;have hs:sizeLine=16777216:=ba;cases x with
 | non =>
  cases rx;have e':k=false:=e;subst e';exact truthy_none ⟨H,I,q⟩
 | bl b =>
  cases rx;have e':k=b:=e;subst e';exact wpAny_truthy_bool ⟨H,I,q⟩
 | int i =>
  obtain⟨t,rfl⟩:=rx;have e':k=(i != 0):=e;subst e';exact PySem.P.truthy_int ⟨H,I,q⟩
 | str y =>
  obtain⟨t,rfl⟩:=rx;obtain⟨hy,e'⟩:y.length≤sizeLine∧k=((y.length:Int) != 0):=e;subst e';exact PySem.P.truthy_str #[O] ⟨H,I.tok _,q⟩
 | byt y =>
  obtain⟨t,rfl⟩:=rx;obtain⟨hy,e'⟩:y.size≤sizeLine∧k=((y.size:Int) != 0):=e;subst e';exact PySem.W.truthy_bytes #[O] ⟨H,I.tok _,q⟩
 | ref p =>
  cases rx;have e':(∃ xs,ky X.K H p xs∧k = !xs.isEmpty)∨(∃ xs,kF X.K H p xs∧k = !xs.isEmpty)∨∃ kE,H p=some (.dK kE)∧k = !kE.isEmpty:=e;rcases e' with ⟨xs,hx,e'⟩ | ⟨xs,hx,e'⟩ | ⟨kE,hx,e'⟩
  ·subst e';obtain⟨kz,r,pl,hz⟩:=I.list hx;have kG:=r.length;exact wpAny_truthy_list pl.isList (by simp only [au]; lia) ⟨H,I.tok _,by rw [zd7 r]; exact q⟩
  ·subst e';obtain⟨kz,r,pl,hz⟩:=I.tuple hx;have kG:=r.length;exact truthy_tuple pl (by simp only [au]; lia) ⟨H,I.tok _,by rw [zd7 r]; exact q⟩
  ·subst e';obtain⟨hz,hS,vs,r,m⟩:kE.length≤sizeLine∧(p == sysModules)=false∧∃ vs,KV kE vs∧s.heap.DictOf (zaJ X.prog X.w) p vs:=I.hok p _ hx;have kG:kE.length=vs.length:=gg r;exact wpAny_truthy_dict hS m #[O] ⟨H,I.tok _,by rw [zgR r]; exact q⟩
 | _=>exact (show False from e).elim
theorem zjH (ha:PE X a ta) (he:∀ whole,isTrue a X.env whole=(do let v ← whole; standAt a.pos; holding [v] (truthy v))) :
  PT X a (fun σ H Q=>ta σ H fun x H'=>∃ k,znw X.K x H' k∧Q k H'):=by
 intro ku s σ H Q I h;exact isTrue_plain (thn (ha ku s σ H _ I h) fun v s1 ⟨x,H1,I1,r1,q1⟩=>zmy ku s1 σ H1 x v Q I1 r1 q1) (he _)
theorem vals1 {x:V} {us:List Value} (r:zM [x] us):∃ u,us = [u]∧RelV x u:=by
 cases r with
 | cons r1 r2=>cases r2; exact⟨_,rfl,r1⟩
theorem vals2 {x y:V} {us:List Value} (r:zM [x,y] us):∃ u w',us = [u,w']∧RelV x u∧RelV y w':=by
 cases r with
 | cons r1 r2 =>
  cases r2 with
  | cons r3 r4=>cases r4; exact⟨_,_,rfl,r1,r3⟩
theorem ziF (hc:X.calm=true):zci X (.builtin "min") (fun xs H Q=>∃ i j,xs = [.int i,.int j]∧Q (.int (if j < i then j else i)) H):=by
 intro ku s σ H xs us Q I r h;obtain⟨i,j,rfl,q⟩:=h;obtain⟨u,w',rfl,⟨t,rfl⟩,⟨t',rfl⟩⟩:=vals2 r;refine min_two_ints (I.ok.hd hc) fun h' tk k=>⟨_,H,I.kept k,?_,q⟩
 by_cases hj:j < i
 ·rw [if_pos hj,if_pos hj]; exact⟨_,rfl⟩
 ·rw [if_neg hj,if_neg hj]; exact⟨_,rfl⟩
end
structure Room (k:Nat) (A:Around):Prop where
 hd:A.handled=none
 dp:A.depth+3*k+5 < recursionLimit
 un:A.units+16*k+200 < cLine
theorem Room.mono {j k:Nat} {A:Around} (r:Room k A) (h:j≤k):Room j A:=⟨r.hd,by have:=r.dp; lia,by have:=r.un; lia⟩
theorem Room.deeper {k:Nat} {A:Around} (r:Room (k+1) A) (env:Env):Room k (A.deeper env) :=
 ⟨r.hd,by have:=r.dp; show A.depth+1+3*k+5 < _; lia,by have:=r.un; show A.units+3+16*k+200 < _; lia⟩
theorem Room.depth {k:Nat} {A:Around} (r:Room k A):A.depth < recursionLimit:=by have:=r.dp; lia
theorem Room.units {k:Nat} {A:Around} (r:Room k A):A.units+64 < cLine:=by have:=r.un; lia
def zoe:TA:=fun _ H Q=>Q [] H
def zl9 (ta:TE) (tr:TA):TA:=fun σ H Q=>ta σ H fun x H1=>tr σ H1 fun xs H2=>Q (x :: xs) H2
section
variable {X:Cx} {e:Expr} {es:List Expr} {te:TE} {t:TA} {pos:Pos}
theorem ze:PA X [] zoe:=fun _ _ _ _ H Q I h=>ju ⟨[],H,I,.nil,h⟩
theorem za (ha:PE X e te) (hr:PA X es t) (hs:starEach (e :: es) X.env=(false,eval e X.env) :: starEach es X.env:=by rfl):PA X (e :: es) (zl9 te t):=by
 intro pos ku s σ H Q I h;rw [hs];show wpAny _ _ (spliced ((false,eval e X.env) :: backTo pos (starEach es X.env))) _ _ s;refine jd (thn (ha ku s σ H _ I h) fun u s1 ⟨x,H1,I1,r1,q1⟩=>?_);exact thn (hr pos ku s1 σ H1 _ I1 q1) fun us s2 ⟨xs,H2,I2,r2,q2⟩=>⟨x :: xs,H2,I2,.cons r1 r2,q2⟩
theorem ya {X:Cx} {e:Expr} {te:TE} (a:PE X e te) (b:starEach [e] X.env=(false,eval e X.env) :: starEach [] X.env):PA X [e] (zl9 te zoe):=za a ze b
def zof (t:TA):TE:=fun σ H Q=>t σ H fun xs H1=>xs.length≤sizeLine∧∀ p,H1 p=none→Q (.ref p) (kB H1 p (.tup xs))
def zog (t:TA):TE:=fun σ H Q=>t σ H fun xs H1=>xs.length≤sizeLine∧∀ p,H1 p=none→Q (.ref p) (kB H1 p (.lst xs))
theorem zas {x1} (h:PA X es t):PE X (.Tuple es x1 pos) (zof t):=by
 intro ku s σ H Q I hq;refine wpAny_Tuple_spliced (thn (h pos ku s σ H _ I hq) fun us s1 ⟨xs,H1,I1,r,z,q⟩=>⟨by rw [← r.length]; exact z,?_⟩);have hf:H1 s1.heap.objs.size=none:=I1.hok.fresh (af _);refine⟨.ref s1.heap.objs.size,kB H1 s1.heap.objs.size (.tup xs),I1.laid (t':=s1.toks) (fun b u e=>ai _ e) (af _) ?_,rfl,q _ hf⟩;exact⟨z,us,r,⟨_,aH _ rfl,rfl,_,rfl⟩⟩
theorem zaT (h:PA X es t):PE X (.List es pos) (zog t):=by
 intro ku s σ H Q I hq;refine wpAny_List_spliced (thn (h pos ku s σ H _ I hq) fun us s1 ⟨xs,H1,I1,r,z,q⟩=>⟨by rw [← r.length]; exact z,?_⟩);have hf:H1 s1.heap.objs.size=none:=I1.hok.fresh (af _);refine⟨.ref s1.heap.objs.size,kB H1 s1.heap.objs.size (.lst xs),I1.laid (t':=s1.toks) (fun b u e=>ai _ e) (af _) ?_,rfl,q _ hf⟩;exact⟨z,us,0,r,aH _ rfl⟩
end
abbrev Sp:=List V→Hp→VK→XK→Prop
abbrev CXT:=List Env→Hp→Shared→XK→Value→Shared→Prop
structure Env0 (P:Program) (w:World) (K:ag) (mg:Str→Option Value) (base:Heap) (A:Around) (outer:List Env) (s:Shared) (H:Hp):Prop where
 frames:A.frames=some outer
 mod:Mod K mg base
 bs:∀ b o,base.get? b=some o→s.heap.get? b=some o∧H b=none
 bsz:base.objs.size≤s.heap.objs.size
 funs:s.heap.FunFrames base outer
 frf:∀ b∈frs outer,H b=none
 hok:HOk P w H s.heap
 bare:AllBare s.gens
def CE (outer:List Env) (P:Program) (w:World) (H:Hp) (s:Shared) (Q:VK) (u:Value) (s':Shared):Prop :=
 ∃ v H',s'.os=s.os∧AllBare s'.gens∧Un (frs outer) [] H H' s.heap s'.heap∧HOk P w H' s'.heap∧RelV v u∧Q v H'
def CR (CX:CXT) (outer:List Env) (P:Program) (w:World) (H:Hp) (s:Shared) (Q:VK) (E:XK) (r:Result) (s':Shared):Prop :=
 match r with
 | .ok (.ret u)=>CE outer P w H s Q u s'
 | .ok _=>False
 | .error e=>CX outer H s E e s'
structure FnOk (P:Program) (w:World) (K:ag) (mg:Str→Option Value) (base:Heap) (CX:CXT) (k:Nat) (f:Addr) (fd:FuncData) (ps:List Str) (sp:Sp):Prop where
 len:∀ vs H Q E,sp vs H Q E→vs.length=ps.length
 run:∀ (A:Around) (outer:List Env) (s:Shared) (H:Hp) (args:Args) (us:List Value) (vs:List V) (Q:VK) (E:XK),Room k A→Env0 P w K mg base A outer s H→BindsTo s fd args (ps.zip us)→zM vs us→sp vs H Q E →
  codeAny (model P w) A (.call (.ref f) args) (CR CX outer P w H s Q E) s
section
variable {X:Cx} {ku:List (Addr×Obj)} {σ:St} {H:Hp} {s s':Shared}
theorem Inv.env0 (I:Inv X ku σ H s):Env0 X.prog X.w X.K X.mg X.base X.A X.stack s H :=
 ⟨I.ok.frames,I.ok.mod,I.bs,aN I.ok.bsz I.sz,I.stack,I.stkFree,I.hok,I.bare⟩
theorem Inv.after {Q:VK} {u:Value} (I:Inv X ku σ H s) (h:CE X.stack X.prog X.w H s Q u s'):EP X ku σ Q u s':=by
 obtain⟨v,H',os,bare,un,hok,r,q⟩:=h;obtain⟨hh,g,d,t,os'⟩:=s';obtain rfl:os'=s.os:=os;exact⟨v,H',I.call (h':=hh) (g':=g) (d':=d) (t':=t) (ch:=[]) un hok bare (fun b z=>absurd z #[M]),r,q⟩
end
def znx (sp:Sp) (u9:List V) (E:XK) (t:TA):TE:=fun σ H Q=>t σ H fun vs H1=>sp (vs++u9) H1 Q E
def Binds (K:ag) (fd:FuncData) (ps:List Str) (ds:List Value):Prop :=
 ∀ (s:Shared) (us:List Value),K.In s.heap→(us++ds).length=ps.length→BindsTo s fd ⟨us,[]⟩ (ps.zip (us++ds))
theorem Binds.all {K:ag} {fd:FuncData} {ps:List Str} (h:∀ us:List Value,us.length=ps.length→bindArgs fd ⟨us,[]⟩=pure (ps.zip us)):Binds K fd ps []:=fun s us _ hl=>by
 rw [bE] at hl ⊢;exact .of_eq (h us hl)
def zgS (CX:CXT) (X:Cx) (E:XK):Prop:=∀ (ku:List (Addr×Obj)) (σ:St) (H:Hp) (s:Shared) (e:Value) (s':Shared),Inv X ku σ H s→CX X.stack H s E e s'→X.xe e s'
section
variable {X:Cx} {CX:CXT} {k:Nat} {f C:Addr} {fd:FuncData} {ps:List Str} {sp:Sp} {u9:List V} {ds:List Value} {E:XK} {x m:Str} {p pos apos:Pos} {e o:Expr} {es:List Expr} {ta:TE} {t:TA}
theorem zmz {ku:List (Addr×Obj)} {σ:St} {H:Hp} {s:Shared} {Q:VK} {us:List Value} {vs:List V} (F:FnOk X.prog X.w X.K X.mg X.base CX k f fd ps sp) (hr:Room k X.A) (hb:Binds X.K fd ps ds) (hd:zM u9 ds) (hx:zgS CX X E)
  (I:Inv X ku σ H s) (r:zM vs us) (h:sp (vs++u9) H Q E):wpAny (model X.prog X.w) X.A (call (.ref f) us) (EP X ku σ Q) X.xe s:=by
 have r2:zM (vs++u9) (us++ds):=r.append hd;have hl:(us++ds).length=ps.length:=by rw [← r2.length]; exact F.len _ _ _ _ h
 refine wpAny_call (je (F.run X.A X.stack s H ⟨us,[]⟩ (us++ds) (vs++u9) Q E hr I.env0 (hb s us I.kIn hl) r2 h) fun r s' hq=>?_);cases r with
 | error e=>exact hx ku σ H s e s' I hq
 | ok fl =>
  cases fl with
  | ret u=>exact I.after hq
  | next=>exact dt hq
  | brk=>exact dt hq
  | cont=>exact dt hq
theorem zq (F:FnOk X.prog X.w X.K X.mg X.base CX k f fd ps sp) (hr:Room k X.A) (hg:Gl X x) (hm:X.mg x=some (.ref f)) (hk:eV X.K (.ref f)=true) (hb:Binds X.K fd ps ds) (hd:zM u9 ds) (hx:zgS CX X E)
  (ha:PA X (e :: es) t) (xR:(x == ("__debug__" : Str))=false:=by decide) (he:starEach (e :: es) X.env=(false,eval e X.env) :: starEach es X.env:=by rfl) (kW:(backTo pos (starEach es X.env)).any (·.1)=false:=by rfl) :
  PE X (.Call (.Name x p) (e :: es) [] pos) (znx sp u9 E t):=by
 intro ku s σ H Q I h;refine ga (zk0 I hg hm ?_ xR);refine PySem.W.callWith_K (h₀:=X.base) I.ok.mod.kin hk (thn (ha pos ku s σ H _ I h) fun us s1 ⟨vs,H1,I1,r,q⟩=>⟨I1.kIn,?_⟩) he kW;exact zmz F hr hb hd hx I1 r q
end
structure FnScope (N P:List Str) (sc:Scope):Prop where
 kind:sc.kind = .function
 co:sc.isCoroutine=false
 gen:sc.isGenerator=false
 nd:N.Nodup
 pre:N.take P.length=P
 par:∀ x∈P,sc.names.lookup x=some .local∨sc.names.lookup x=some .cell
 nofree:∀ y∈sc.names,y.2≠.free
theorem zeW {kindOf:Str→Option NameKind} {x:Str}:∀ {binds:List (Str×Value)} {m:Str→Option Value},(∀ v,(x,v)∉binds)→bindL kindOf binds m x=m x
 | [],_,_=>rfl
 | (n,v) :: r,m,h=>by
  unfold bindL;rw [zeW fun w hw=>h w (av _ hw)];split
  ·have:x≠n:=by rintro rfl; exact h v aE
   simp [this]
  ·rfl
theorem zeX {kindOf:Str→Option NameKind} {x:Str}:∀ {binds:List (Str×Value)} {m:Str→Option Value},(∀ v,(x,v)∉binds)→bindC kindOf binds m x=m x
 | [],_,_=>rfl
 | (n,v) :: r,m,h=>by
  unfold bindC;rw [zeX fun w hw=>h w (av _ hw)];split
  ·rfl
  ·have:x≠n:=by rintro rfl; exact h v aE
   simp [this]
theorem zeY {kindOf:Str→Option NameKind} {x:Str} {v:Value}:∀ {P:List Str} {vs:List Value} {i:Nat} {m:Str→Option Value},P.Nodup→P[i]? = some x→vs[i]? = some v→kindOf x=some .local →
  bindL kindOf (P.zip vs) m x=some v
 | [],_,_,_,_,h,_,_=>by simp at h
 | _ :: _,[],_,_,_,_,h,_=>by simp at h
 | p :: P,w :: vs,0,m,nd,h1,h2,hk=>by
  simp at h1 h2; subst h1; subst h2;show bindL kindOf ((p,w) :: P.zip vs) m p=_;unfold bindL;rw [zeW fun v hv=>(cU.mp nd).1 (hU hv).1,if_pos hk];simp
 | p :: P,w :: vs,i+1,m,nd,h1,h2,hk=>by
  show bindL kindOf ((p,w) :: P.zip vs) m x=_;unfold bindL;exact zeY (i:=i) (cU.mp nd).2 (by simpa using h1) (by simpa using h2) hk
theorem zeZ {kindOf:Str→Option NameKind} {x:Str} {v:Value}:∀ {P:List Str} {vs:List Value} {i:Nat} {m:Str→Option Value},P.Nodup→P[i]? = some x→vs[i]? = some v→kindOf x≠some .local →
  bindC kindOf (P.zip vs) m x=some v
 | [],_,_,_,_,h,_,_=>by simp at h
 | _ :: _,[],_,_,_,_,h,_=>by simp at h
 | p :: P,w :: vs,0,m,nd,h1,h2,hk=>by
  simp at h1 h2; subst h1; subst h2;show bindC kindOf ((p,w) :: P.zip vs) m p=_;unfold bindC;rw [zeX fun v hv=>(cU.mp nd).1 (hU hv).1,if_neg hk];simp
 | p :: P,w :: vs,i+1,m,nd,h1,h2,hk=>by
  show bindC kindOf ((p,w) :: P.zip vs) m x=_;unfold bindC;exact zeZ (i:=i) (cU.mp nd).2 (by simpa using h1) (by simpa using h2) hk
def start (N:List Str) (vs:List V):St:=vs.map some++ar (N.length - vs.length) none
def ziG (CX:CXT) (P:Program) (w:World) (K:ag) (mg:Str→Option Value) (base:Heap) (N:List Str) (qual:Str) (scope:Scope) (f:Addr) (cd:Value) (A:Around) (outer:List Env) (s:Shared) (H:Hp) (E:XK):Cx where
 prog:=P
 w:=w
 K:=K
 mg:=mg
 base:=base
 A:=A.deeper (envOfC qual scope s.heap.objs.size f cd)
 N:=N
 s₀:=s
 H₀:=H
 env:=envOfC qual scope s.heap.objs.size f cd
 outer:=outer
 stack:=envOfC qual scope s.heap.objs.size f cd :: outer
 ex:=[]
 calm:=true
 fn:=fun _=>true
 pn:=[]
 xe:=fun e s'=>wpAny (model P w) (A.deeper (envOfC qual scope s.heap.objs.size f cd)) (leaving (envOfC qual scope s.heap.objs.size f cd) e) (fun _ xS=>CX outer H s E e xS) (fun e' xS=>CX outer H s E e' xS) s'
theorem zf1 {sc:Scope} {n:Nat} {x:Str} (h:sc.names.lookup x=some .cell):∃ c,(cellsFrom n sc.names []).lookup x=some c:=by
 have q:=iq sc.names n [] (.inl h);exact Option.isSome_iff_exists.mp q
theorem ziH {CX:CXT} {P:Program} {w:World} {K:ag} {mg:Str→Option Value} {base:Heap} {N ps:List Str} {qual:Str} {scope:Scope} {f:Addr} {cd:Value} {A:Around} {outer:List Env} {s s1:Shared} {H:Hp} {E:XK} {us:List Value} {vs:List V}
  (S:FnScope N ps scope) (hd:A.handled=none) (e0:Env0 P w K mg base A outer s H) (hl:vs.length=ps.length) (r:zM vs us)
  (x:InCallC s s.heap.objs.size (bindL (envOfC qual scope s.heap.objs.size f cd).kindOf (ps.zip us) fun _=>none) (cellsFrom (s.heap.objs.size+1) scope.names []) (bindC (envOfC qual scope s.heap.objs.size f cd).kindOf (ps.zip us) fun _=>none) s1) :
  Inv (ziG CX P w K mg base N qual scope f cd A outer s H E) [] (start N vs) H s1:=by
 have kW:ps.length≤N.length:=by have:=congrArg dW S.pre; rw [aD] at this; lia
 obtain⟨h1,tk,rfl,hk⟩:=x.done;have vK:∀ b:Addr,b∉(ziG CX P w K mg base N qual scope f cd A outer s H E).ex:=fun b z=>absurd (show b∈([]:List Addr) from z) #[M]
 refine⟨⟨e0.mod,S.kind,rfl,rfl,af _,fun y z c h1 h2=>?_,fun y hy=>?_,fun y c _ h=>?_,fun _=>hd,Around.frames_deeper e0.frames,.inr ⟨rfl,rfl⟩,fun b z=>absurd z (vK b),e0.bs,e0.bsz,fun b _ _=>vK b,fun b z=>absurd z (vK b),e0.funs,e0.frf⟩,
  rfl,e0.bare,Un.kept hk,⟨_,x.toInCall.ns,fun i y v h1 h2 h3=>?_⟩,fun y c h=>⟨_,x.cell y c h⟩,e0.hok.fresh (af _),fun y c h=>?_,fun p hp=>absurd (show p∈([]:List (Addr×Obj)) from hp) #[M],e0.hok.kept hk,?_⟩
 ·exact name_of_addr x.apart (dI h1) (dI h2)
 ·have hy:scope.names.lookup y=some .cell∨scope.names.lookup y=some .free:=hy;rcases hy with hy | hy
  ·exact zf1 hy
  ·exact absurd rfl (S.nofree _ (dI hy))
 ·exact gO (x.above y c (dI h))
 ·have hi:i < vs.length:=by
   unfold start at h2;by_cases hi:i < vs.length
   ·exact hi
   ·rw [bF (by simpa using hi)] at h2;rw [db] at h2;split at h2 <;> cases h2
  have ha:vs[i]? = some v:=by
   unfold start at h2;rw [bI (by simpa using hi),ah] at h2;cases e:vs[i]? with
   | none=>rw [e] at h2; cases h2
   | some a=>rw [e] at h2; cases h2; rfl
  obtain⟨u,hu,rv⟩:=r.get ha;have hp:ps[i]? = some y:=by
   rw [← S.pre,cw #[O]]; exact h1
  have ndP:ps.Nodup:=by rw [← S.pre]; exact S.nd.sublist (bT _ _)
  refine⟨u,rv,?_⟩;rcases S.par y (aB hp) with k | k
  ·exact .inl ⟨k,zeY ndP hp hu k⟩
  ·obtain⟨c,e⟩:=zf1 (n:=s.heap.objs.size+1) k;refine .inr ⟨.inl k,c,e,?_⟩;have q:=x.cell y c e;rw [zeZ ndP hp hu (by show scope.names.lookup y≠_; rw [k]; decide)] at q;exact q
 ·exact e0.hok.fresh (gO (x.above y c (dI h)))
 ·unfold start;show _=N.length;rw [ap,ab,aS];lia
theorem zny {CX:CXT} {P:Program} {w:World} {K:ag} {mg:Str→Option Value} {base:Heap} {k:Nat} {f:Addr} {name qual:Str} {params:Arguments} {body:List Stmt} {scope:Scope} {dV kV doc pm ly ct oc:Value} {an od:Option Addr}
  {va:Array (Option Value)} {N ps:List Str} {sp:Sp} (lk:K.lookup f=some ⟨oc,od,.func (cV name qual params body scope dV kV doc pm an ly ct),va⟩) (rj:eW K ly qual=true) (S:FnScope N ps scope)
  (len:∀ vs H Q E,sp vs H Q E→vs.length=ps.length)
  (sO:∀ (A:Around) (outer:List Env) (s:Shared) (H:Hp) (vs:List V) (Q:VK) (E:XK),Room k (A.deeper (envOfC qual scope s.heap.objs.size f ly))→sp vs H Q E →
   ∃ t,PSs (ziG CX P w K mg base N qual scope f ly A outer s H E) body t∧t { nx:=fun _ H'=>Q .non H',rt:=Q } (start N vs) H) :
  FnOk P w K mg base CX (k+1) f (cV name qual params body scope dV kV doc pm an ly ct) ps sp:=by
 refine⟨len,fun A outer s H args us vs Q E hr e0 hb r uh=>?_⟩;have hl:=len _ _ _ _ uh;have KX:K.In s.heap:=e0.mod.kin.keeps fun b o e=>(e0.bs b o e).1
 have lim:s.heap.NoLimit:=e0.mod.nolimit.keeps fun b o e=>(e0.bs b o e).1
 have pS:∀ y∈ps.zip us,scope.names.lookup y.1=some .local∨(scope.names.lookup y.1=some .cell∧((cellsFrom (s.heap.objs.size+1) scope.names []).lookup y.1).isSome=true):=fun ⟨n,v⟩ hy=>by
  rcases S.par n (hU hy).1 with q | q
  ·exact .inl q
  ·exact .inr ⟨q,iq _ _ _ (.inl q)⟩
 refine codeAny_call_function hr.depth (KX _ _ lk) rfl S.co S.gen rfl (PySem.W.codeRec_of KX rj) (hb _ _ _ _ ?_);refine wpAny_newFunctionEnv_cells S.kind pS fun env he s1 x=>?_
 subst he;refine⟨lim.keeps x.toInCall.keep,codeAny_func ?_⟩;obtain⟨t,ht,hq⟩:=sO A outer s H vs Q E (hr.deeper _) uh;have I:Inv (ziG CX P w K mg base N qual scope f ly A outer s H E) [] (start N vs) H s1:=ziH S hr.hd e0 hl r x;refine cJ (ht [] s1 (start N vs) H _ I hq) (fun fl s' hs=>?_) fun e s' hs=>hs
 have fin:∀ {σ':St} {H':Hp} {v:V} {u:Value},Inv (ziG CX P w K mg base N qual scope f ly A outer s H E) [] σ' H' s'→RelV v u→Q v H'→CE outer P w H s Q u s' :=
  fun {σ' H' v u} J rv q=>⟨v,H',J.os,J.bare,J.base,J.hok,rv,q⟩
 cases fl with
 | ret u =>
  obtain⟨v,σ',H',J,rv,q⟩:=hs;exact fin J rv q
 | next =>
  obtain⟨σ',H',J,q⟩:=hs;exact fin (v:=V.non) (u:=di) J rfl q
 | brk =>
  obtain⟨_,_,_,q⟩:=hs;exact dt q
 | cont =>
  obtain⟨_,_,_,q⟩:=hs;exact dt q
section
variable {X:Cx} {x:Str} {p pos:Pos} {e:Expr} {es:List Expr} {t:TA} {id T:String} {r:List V→Hp→VK→Prop}
def tCB (r:List V→Hp→VK→Prop) (t:TA):TE:=fun σ H Q=>t σ H fun vs H1=>r vs H1 Q
theorem zz (hc:zci X (.builtin id) r) (hg:Gl X x) (hm:X.mg x=none) (hv:bootBuiltins x=some (.builtin id)) (ha:PA X (e :: es) t) (hn:x≠"__name__":=by decide) (xR:(x == ("__debug__" : Str))=false:=by decide)
  (he:starEach (e :: es) X.env=(false,eval e X.env) :: starEach es X.env:=by rfl) (kW:(backTo pos (starEach es X.env)).any (·.1)=false:=by rfl):PE X (.Call (.Name x p) (e :: es) [] pos) (tCB r t):=by
 intro ku s σ H Q I h;refine ga (zbL I hg hm hv ?_ hn xR);exact PyProof.Rows.callWith_builtin1 (thn (ha pos ku s σ H _ I h) fun us s1 ⟨vs,H1,I1,r1,q1⟩=>hc ku s1 σ H1 vs us Q I1 r1 q1) he kW
theorem zaA (hc:zci X (.type T) r) (hg:Gl X x) (hm:X.mg x=none) (hv:bootBuiltins x=some (.type T)) (ha:PA X (e :: es) t) (hn:x≠"__name__":=by decide) (xR:(x == ("__debug__" : Str))=false:=by decide)
  (he:starEach (e :: es) X.env=(false,eval e X.env) :: starEach es X.env:=by rfl) (kW:(backTo pos (starEach es X.env)).any (·.1)=false:=by rfl):PE X (.Call (.Name x p) (e :: es) [] pos) (tCB r t):=by
 intro ku s σ H Q I h;refine ga (zbL I hg hm hv ?_ hn xR);exact bC (thn (ha pos ku s σ H _ I h) fun us s1 ⟨vs,H1,I1,r1,q1⟩=>hc ku s1 σ H1 vs us Q I1 r1 q1) he kW
end
end L2
namespace HT
open PySem PyProof.Rows
section
variable {prog:Program} {w:World} {A:Around} {E:Value→Shared→Prop} {s:Shared}
theorem cat_tup {t b:Addr} {vs ws:List Value} {Q:Value→Shared→Prop} (ht:IsTup s.heap t vs.toArray) (hb:IsTup s.heap b ws.toArray) (hv:vs≠[])
  (h1:ws = []→Q (.ref t) s) (h2:ws≠[]→Q (.ref s.heap.objs.size) { s with heap:=s.heap.push { cls:=.type "tuple",data:=.seq (vs++ws).toArray } })
  (hsz:vs.length+ws.length≤sizeLine):wpAny (model prog w) A (binaryOp .Add (.ref t) (.ref b)) Q E s:=by
 obtain⟨⟨cls,dd,data,sl⟩,ho,hc,n,hd⟩:=id ht;obtain⟨⟨BY,AW,data2,AX⟩,qO,sC,n2,hd2⟩:=id hb;simp only at hc hd sC hd2;subst hc hd sC hd2;have e:vs.toArray++ws.toArray=(vs++ws).toArray:=by simp
 by_cases hw:ws = []
 ·exact jf ⟨_,ho,rfl⟩ ⟨_,qO,rfl⟩ gP iW fg eZ (eL _ _)
   (tuple_addW1 t b vs.toArray ws.toArray n n2 dd AW sl AX (by simpa using hv) (by simp [hw])) ⟨ho,qO,h1 hw⟩
 ·refine jf ⟨_,ho,rfl⟩ ⟨_,qO,rfl⟩ gP iW fg eZ (eL _ _)
   (tuple_addW2 t b vs.toArray ws.toArray n n2 dd AW sl AX (by simpa using hv) (by simpa using hw) (by rw [au,au]; exact hsz)) ⟨ho,qO,?_⟩
  rw [e];exact h2 hw
def sIx (n d:Nat):Option Int→Nat
 | none=>d
 | some v=>if v < 0 then (v+(n:Int)).toNat else min v.toNat n
theorem sIx_none (n d:Nat):sIx n d none=d:=rfl
theorem sIx_nat (n d k:Nat):sIx n d (some (k:Int))=min k n:=by
 show (if (k:Int) < 0 then ((k:Int)+(n:Int)).toNat else min (k:Int).toNat n)=min k n;rw [if_neg #[O],bw]
theorem zmA (n d:Nat) (hd:d≤n) (o:Option Int):sIx n d o≤n:=by
 cases o with
 | none=>exact hd
 | some v =>
  show (if v < 0 then (v+(n:Int)).toNat else min v.toNat n)≤n;by_cases hv:v < 0
  ·rw [if_pos hv]; lia
  ·rw [if_neg hv]; exact Nat.min_le_right _ _
theorem zhC (v:Int) (n d:Nat):(if v < 0 then max (v+(n:Int)) 0 else min v (n:Int))=((sIx n d (some v):Nat):Int):=by
 show (if v < 0 then max (v+(n:Int)) 0 else min v (n:Int))=(((if v < 0 then (v+(n:Int)).toNat else min v.toNat n):Nat):Int);by_cases hv:v < 0
 ·simp only [if_pos hv]; lia
 ·simp only [if_neg hv]; lia
theorem zgT (lo hi:Option Int) (n:Nat):eG lo hi 1 (n:Int)=(((sIx n 0 lo:Nat):Int),((sIx n n hi:Nat):Int)):=by
 have h1:¬ ((1:Int) < 0):=by lia
 unfold eG;simp only [h1,if_false];refine km ?_ ?_
 ·cases lo with
  | none=>rfl
  | some v=>exact zhC v n 0
 ·cases hi with
  | none=>rfl
  | some v=>exact zhC v n n
theorem zgU (i j:Nat):du (i:Int) (j:Int) 1=j - i:=by
 unfold du;have h1:(1:Int) > 0:=by lia
 simp only [h1,if_true,Int.ediv_one];split <;> lia
theorem zd9 {v:Value} {o:Option Int} {Q:Option Int→Shared→Prop} (p:IsPart v o) (h:Q o s):wpAny (model prog w) A (Builtin.Slice.slicePartIndex v) Q E s:=by
 cases p with
 | none=>exact slicePart_none h
 | int i t=>exact slicePart_int h
theorem zbR {sl:Addr} {vl vu:Value} {lo hi:Option Int} {n:Nat} {Q:Int×Int×Nat→Shared→Prop} (hs:s.heap.IsSliceOf sl vl vu .none) (pl:IsPart vl lo) (pu:IsPart vu hi)
  (h:Q (((sIx n 0 lo:Nat):Int),1,sIx n n hi - sIx n 0 lo) s):wpAny (model prog w) A (gj (.ref sl) (pure (n:Int))) Q E s:=by
 obtain⟨os,vL,AY,xT⟩:=id hs;unfold gj Builtin.Slice.sliceFields;refine ae (ae (bn vL xT (x:=vl) rfl (ae (bn vL xT (x:=vu) rfl (ae (bn vL xT (x:=.none) rfl (ak ?_)))))));refine ae (slicePart_none ?_);show wpAny _ _ (if ((1:Int) == 0)=true then _ else _) _ _ s;rw [if_neg #[D]];refine ae (zd9 pl (ae (zd9 pu (ae (ak ?_)))));show wpAny _ _ (match eG lo hi 1 (n:Int) with | (lo,hi)=>pure (lo,(1:Int),du lo hi 1)) _ _ s;rw [zgT lo hi n];show wpAny _ _ (pure (((sIx n 0 lo:Nat):Int),(1:Int),du ((sIx n 0 lo:Nat):Int) ((sIx n n hi:Nat):Int) 1)) _ _ s;rw [zgU];exact ak h
theorem zjI (xs:Array Value) (i k:Nat):((aJ k).filterMap fun (m:Nat)=>xs[((i:Int)+(m:Int)*1).toNat]?).toArray=((xs.toList.drop i).take k).toArray:=by
 have e:(fun (m:Nat)=>xs[((i:Int)+(m:Int)*1).toNat]?)=fun m=>xs[i+m]?:=by
  funext m;have:((i:Int)+(m:Int)*1).toNat=i+m:=by lia
  rw [this]
 rw [e];have:=pick_run xs i k;rw [jg] at this;have e2:((fun x=>xs[x]?) ∘ fun x=>i+x)=fun m=>xs[i+m]?:=rfl
 rw [e2] at this;rw [this]
theorem getItem_tuple_cut {t sl:Addr} {items:Array Value} {vl vu:Value} {lo hi:Option Int} {Q:Value→Shared→Prop} (ht:IsTup s.heap t items) (hs:s.heap.IsSliceOf sl vl vu .none) (pl:IsPart vl lo) (pu:IsPart vu hi)
  (hw:¬ (sIx items.size 0 lo=0∧sIx items.size items.size hi=items.size))
  (h:Q (.ref s.heap.objs.size) { s with heap:=s.heap.push { cls:=.type "tuple",data:=.seq ((items.toList.drop (sIx items.size 0 lo)).take (sIx items.size items.size hi - sIx items.size 0 lo)).toArray } })
  (hsz:items.size≤sizeLine):wpAny (model prog w) A (getItem (.ref t) (.ref sl)) Q E s:=by
 have qP:sizeOk (.seq ((items.toList.drop (sIx items.size 0 lo)).take (sIx items.size items.size hi - sIx items.size 0 lo)).toArray):=by
  show ((items.toList.drop (sIx items.size 0 lo)).take (sIx items.size items.size hi - sIx items.size 0 lo)).toArray.size≤sizeLine;rw [au,aD,b7,aZ];lia
 have hj:sIx items.size items.size hi≤items.size:=zmA _ _ (af _) hi;obtain⟨os,vL,AY,xT⟩:=id hs;have AZ:s.TypeIs (.ref sl) "slice":=⟨os,vL,AY⟩;unfold getItem
 try with_reducible refine b8 ?_
 first | refine ae (ak ?_) | skip
 refine ae (wpAny_sequenceKey ht.typeIs #[D] ?_);refine ae (be (name:=bV "__getitem__") ht.typeIs cS
  (bq cS ht.typeIs i4 ?_ (jh _ _)))
 show wpAny _ _ (gk (.ref t) >>= _) _ _ s;refine ae (tupleItemsOf_ ht ?_);refine ae (ji AZ ?_);rw [if_pos #[D]];refine ae (zbR hs pl pu ?_);have xU:¬ ((((sIx items.size 0 lo:Nat):Int) == 0 && (1:Int) == 1 && (sIx items.size items.size hi - sIx items.size 0 lo) == items.size)=true):=by
  intro q;rw [cA,cA] at q;have q1:((sIx items.size 0 lo:Nat):Int)=0:=eq_of_beq q.1.1;have q2:sIx items.size items.size hi - sIx items.size 0 lo=items.size:=eq_of_beq q.2;exact hw ⟨#[O],#[O]⟩
 show wpAny _ _ (if (((sIx items.size 0 lo:Nat):Int) == 0 && (1:Int) == 1 && (sIx items.size items.size hi - sIx items.size 0 lo) == items.size)=true then _ else _) _ _ s;rw [if_neg xU,zjI]
 first
  | exact ae (m:=dD _) (bL (ak ⟨_,rfl,ak h⟩) qP)
  | exact ae (m:=dD _) (bL (ae (ak (ak ⟨_,rfl,ak h⟩))) qP)
  | exact ae (ae (m:=dD _) (bL (ak (ak ⟨_,rfl,ak h⟩)) qP))
  | exact ae (ae (m:=dD _) (bL (ak ⟨_,rfl,ak h⟩) qP))
end
end HT
namespace L2
open PySem PySem.Spec PyProof.Rows
abbrev TO:=St→Hp→(Option Int→Hp→Prop)→Prop
def PO (X:Cx) (e:Option Expr) (t:TO):Prop :=
 ∀ (ku:List (Addr×Obj)) (s:Shared) (σ:St) (H:Hp) (Q:Option Int→Hp→Prop),Inv X ku σ H s→t σ H Q →
  wpAny (model X.prog X.w) X.A (evalPart e X.env) (fun u s'=>∃ o H',Inv X ku σ H' s'∧IsPart u o∧Q o H') X.xe s
def zk6:TO:=fun _ H Q=>Q none H
def znz (t:TE):TO:=fun σ H Q=>t σ H fun x H1=>∃ i,x = .int i∧Q (some i) H1
theorem intsAre_of {ns:List Int}:∀ {us:List Value},zM (ns.map V.int) us→IntsAre us ns:=by
 induction ns with
 | nil=>intro us r; rw [eN] at r; cases r; exact .nil
 | cons n ns ih =>
  intro us r;rw [bh] at r;cases r with
  | cons r1 r2 =>
   obtain⟨t,e⟩:=r1;subst e;exact .cons n t (ih r2)
section
variable {X:Cx} {e:Expr} {te:TE} {lo hi:Option Expr} {tl th:TO} {pos p2:Pos}
theorem zb2:PO X none zk6:=by
 intro ku s σ H Q I h;rw [evalPart_none];exact ak ⟨none,H,I,.none,h⟩
theorem zbt (h:PE X e te):PO X (some e) (znz te):=by
 intro ku s σ H Q I hw;rw [evalPart_some];refine thn (h ku s σ H _ I hw) fun u s1 ⟨x,H1,I1,r1,q1⟩=>?_
 obtain⟨i,rfl,q⟩:=q1;obtain⟨t,rfl⟩:=r1;exact⟨some i,H1,I1,.int i t,q⟩
def SlR (X:Cx) (r:V→Option Int→Option Int→Hp→VK→Prop):Prop :=
 ∀ (ku:List (Addr×Obj)) (s:Shared) (σ:St) (H:Hp) (x:V) (v vl vu:Value) (lo hi:Option Int) (sl:Addr) (Q:VK),Inv X ku σ H s→RelV x v→s.heap.IsSliceOf sl vl vu .none→IsPart vl lo→IsPart vu hi→r x lo hi H Q →
  ∃ T id,typeLookup (.type T) "__getitem__" = pure (some (.builtin id))∧s.TypeIs v T∧wpAny (model X.prog X.w) X.A (getItem v (.ref sl)) (EP X ku σ Q) X.xe s
def tSl (r:V→Option Int→Option Int→Hp→VK→Prop) (te:TE) (tl th:TO):TE:=fun σ H Q=>te σ H fun x H1=>tl σ H1 fun l H2=>th σ H2 fun u H3=>r x l u H3 Q
theorem zbj {r:V→Option Int→Option Int→Hp→VK→Prop} (hr:SlR X r) (he:PE X e te) (hl:PO X lo tl) (hu:PO X hi th):PE X (.Subscript e (.Slice lo hi none p2) pos) (tSl r te tl th):=by
 intro ku s σ H Q I h;refine Subscript_ (thn (he ku s σ H _ I h) fun v s1 ⟨x,H1,I1,r1,q1⟩=>?_);refine wpAny_Slice (thn (hl ku s1 σ H1 _ I1 q1) fun vl s2 ⟨l,H2,I2,pl,q2⟩=>thn (hu ku s2 σ H2 _ I2 q2) fun vu s3 ⟨u,H3,I3,pu,q3⟩=>?_);rw [evalPart_none];refine ak ?_;have I4:Inv X ku σ H3 { s3 with heap:=s3.heap.push { cls:=.type "slice",data:=.fields #[vl,vu,.none] } }:=I3.kept (t':=s3.toks) fun b ob q=>ai _ q
 obtain⟨T,id,hT,ht,hg⟩:=hr ku { s3 with heap:=s3.heap.push { cls:=.type "slice",data:=.fields #[vl,vu,.none] } } σ H3 x v vl vu l u s3.heap.objs.size Q I4 r1 (Heap.IsSliceOf.new ..) pl pu q3;show wpAny (model X.prog X.w) X.A (subscriptTail e (.Slice lo hi none p2) v (.ref s3.heap.objs.size)) (EP X ku σ Q) X.xe { s3 with heap:=s3.heap.push { cls:=.type "slice",data:=.fields #[vl,vu,.none] } };exact tail_any (ops:=[.ref s3.heap.objs.size,v]) ht hT hg (by with_unfolding_all rfl)
def zbk (xs:List V) (lo hi:Option Int):List V:=(xs.drop (HT.sIx xs.length 0 lo)).take (HT.sIx xs.length xs.length hi - HT.sIx xs.length 0 lo)
theorem zdA (xs:List V) (lo hi:Option Int):(zbk xs lo hi).length≤xs.length:=by
 unfold zbk;rw [aD,b7];lia
def zoh (K:ag):V→Option Int→Option Int→Hp→VK→Prop:=fun x lo hi H Q=>∃ a xs,x = .ref a∧kF K H a xs ∧
 ¬ (HT.sIx xs.length 0 lo=0∧HT.sIx xs.length xs.length hi=xs.length)∧∀ p,H p=none→Q (.ref p) (kB H p (.tup (zbk xs lo hi)))
theorem zjJ:SlR X (zoh X.K):=by
 intro ku s σ H x v vl vu lo hi sl Q I rx hs pl pu h;obtain⟨a,xs,rfl,hx,hw,q⟩:=h;cases rx;obtain⟨kz,r,ht,hz⟩:=I.tuple hx;have kG:kz.toArray.size=xs.length:=by rw [au]; exact r.length.symm
 refine⟨"tuple",_,PyProof.Rows.slot_tuple_getitem.lookup,ht.typeIs,?_⟩;refine HT.getItem_tuple_cut ht hs pl pu (by rw [kG]; exact hw) ?_ (by rw [kG]; exact hz);rw [kG];refine⟨.ref s.heap.objs.size,_,I.laid (t':=s.toks) (o:=.tup (zbk xs lo hi)) (fun b ob q=>ai _ q) (af _) ?_,rfl,q _ (I.hok.fresh (af _))⟩;exact⟨aN (zdA xs lo hi) hz,_,(r.drop (HT.sIx xs.length 0 lo)).take (HT.sIx xs.length xs.length hi - HT.sIx xs.length 0 lo),hV _ _⟩
def znA (K:ag):R2:=fun x y H Q=>∃ a b xs ys,x = .ref a∧y = .ref b∧kF K H a xs∧kF K H b ys∧xs≠[]∧xs.length+ys.length≤sizeLine ∧
 (ys = []→Q (.ref a) H)∧(ys≠[]→∀ p,H p=none→Q (.ref p) (kB H p (.tup (xs++ys))))
theorem zM.nil_iff {xs:List V} {us:List Value} (r:zM xs us):us = []↔xs = []:=by
 cases r with
 | nil=>simp
 | cons _ _=>simp
theorem zk7:OpR X (binaryOp .Add) (znA X.K):=by
 intro ku s σ H x y v u Q I rx ry h;obtain⟨a,b,xs,ys,rfl,rfl,ha,hb,hx,hz,q1,q2⟩:=h;cases rx;cases ry;obtain⟨kz,r1,p1,_⟩:=I.tuple ha;obtain⟨lO,r2,p2,_⟩:=I.tuple hb;refine HT.cat_tup p1 p2 (fun z=>hx (r1.nil_iff.mp z)) (fun z=>⟨.ref a,H,I,rfl,q1 (r2.nil_iff.mp z)⟩) (fun z=>?_) (by rw [← r1.length,← r2.length]; exact hz);refine⟨.ref s.heap.objs.size,_,I.laid (t':=s.toks) (o:=.tup (xs++ys)) (fun b ob q=>ai _ q) (af _) ?_,rfl,q2 (fun w=>z (r2.nil_iff.mpr w)) _ (I.hok.fresh (af _))⟩;exact⟨by rw [ap]; exact hz,_,r1.append r2,hV _ _⟩
end
def ixN (n:Nat) (i:Int):Option Nat:=if 0≤i then (if i < n then some i.toNat else none) else if -(n:Int)≤i then some (i+n).toNat else none
def atI {α:Type} (xs:List α) (i:Int):Option α:=(ixN xs.length i).bind fun j=>xs[j]?
theorem zhD {n:Nat} {i:Int} {j:Nat} (h:ixN n i=some j):seqIndex? i n=some j∧j < n∧-(n:Int)≤i∧i < n:=by
 unfold ixN at h;by_cases h0:0≤i
 ·rw [if_pos h0] at h;by_cases h1:i < n
  ·rw [if_pos h1] at h;have e:i.toNat=j:=aQ h;exact⟨by rw [fh h0 h1,e],#[O],#[O],h1⟩
  ·rw [if_neg h1] at h; cases h
 ·rw [if_neg h0] at h;by_cases h1:-(n:Int)≤i
  ·rw [if_pos h1] at h;have e:(i+n).toNat=j:=aQ h;exact⟨by rw [jj #[O] h1,e],#[O],h1,#[O]⟩
  ·rw [if_neg h1] at h; cases h
theorem zhE {α:Type} {xs:List α} {i:Int} {v:α} (h:atI xs i=some v):∃ j,seqIndex? i xs.length=some j∧xs[j]? = some v∧j < xs.length∧-(xs.length:Int)≤i∧i < xs.length:=by
 unfold atI at h;cases e:ixN xs.length i with
 | none=>rw [e] at h; cases h
 | some j =>
  rw [e] at h;obtain⟨h1,h2,h3,h4⟩:=zhD e;exact⟨j,h1,h,h2,h3,h4⟩
theorem zaO {α:Type} {xs:List α} {j:Nat} {v:α} (h:xs[j]? = some v):atI xs (j:Int)=some v:=by
 have hj:j < xs.length:=(az.mp h).1;have e:ixN xs.length (j:Int)=some j:=by
  unfold ixN;rw [if_pos #[O],if_pos #[O]]; simp
 unfold atI; rw [e]; exact h
def zk8 (b:Expr):Prop:=∀ o i,subscripted b false o i=operate [o,i] (getItem o i)
def IxR (X:Cx) (r:R2):Prop :=
 ∀ (value slice:Expr) (ku:List (Addr×Obj)) (s:Shared) (σ:St) (H:Hp) (x y:V) (v u:Value) (Q:VK),Inv X ku σ H s→RelV x v→RelV y u→r x y H Q →
  subscripted slice false v u=operate [v,u] (getItem v u)→wpAny (model X.prog X.w) X.A (subscriptTail value slice v u) (EP X ku σ Q) X.xe s
def MtR (X:Cx) (id:String) (r:V→List V→Hp→VK→Prop):Prop :=
 ∀ (ku:List (Addr×Obj)) (s:Shared) (σ:St) (H:Hp) (x:V) (xs:List V) (v:Value) (us:List Value) (Q:VK),Inv X ku σ H s→RelV x v→zM xs us→r x xs H Q →
  wpAny (model X.prog X.w) X.A (call (.builtin id) (v :: us)) (EP X ku σ Q) X.xe s
section
variable {X:Cx} {a b:Expr} {ta tb:TE} {pos:Pos}
theorem zab {r:R2} (hr:IxR X r) (ha:PE X a ta) (hb:PE X b tb) (hs:zk8 b):PE X (.Subscript a b pos) (tOp r ta tb):=by
 intro ku s σ H Q I h;exact Subscript_ (znr ha hb I h fun v u s2 x y H2 I2 rx ry q=>hr a b ku s2 σ H2 x y v u Q I2 rx ry q (hs _ _))
def znB (K:ag):R2:=fun x y H Q=>∃ p xs i v,x = .ref p∧y = .int i∧ky K H p xs∧atI xs i=some v∧Q v H
def znC (K:ag):R2:=fun x y H Q=>∃ p xs i v,x = .ref p∧y = .int i∧kF K H p xs∧atI xs i=some v∧Q v H
theorem zay:IxR X (znB X.K):=by
 intro value slice ku s σ H x y v u Q I rx ry h hs;obtain⟨p,xs,i,z,rfl,rfl,hq,he,q⟩:=h;cases rx;obtain⟨t,rfl⟩:=ry;obtain⟨kz,r,pl,hz⟩:=I.list hq;obtain⟨j,h1,h2,h3,h4,h5⟩:=zhE he;obtain⟨w,ew,vM⟩:=r.get h2;have hl:=r.length;have hn:=zd8;have fin:EP X ku σ Q w s:=⟨z,H,I,vM,q⟩;by_cases h0:0≤i
 ·have hj:i.toNat=j:=by
   rw [fh h0 h5] at h1;exact aQ h1
  exact item_listR pl.isList h0 #[O] (by rw [hj]; simpa using ew) fin hs
 ·have hj:(i+(kz.toArray.size:Int)).toNat=j:=by
   rw [jj #[O] h4] at h1;rw [au,← hl];exact aQ h1
  exact ir (x:=w) pl.isList.typeIs slot_list_getitem.lookup
   (wpAny_getItem_list_neg (Q:=fun r s'=>r=w∧EP X ku σ Q r s') pl.isList #[O] (by rw [au] <;> lia) #[O] (by rw [hj]; simpa using ew) ⟨rfl,fin⟩) hs
theorem zbM:IxR X (znC X.K):=by
 intro value slice ku s σ H x y v u Q I rx ry h hs;obtain⟨p,xs,i,z,rfl,rfl,hq,he,q⟩:=h;cases rx;obtain⟨t,rfl⟩:=ry;obtain⟨kz,r,pl,hz⟩:=I.tuple hq;obtain⟨j,h1,h2,h3,h4,h5⟩:=zhE he;obtain⟨w,ew,vM⟩:=r.get h2;have hl:=r.length;have hn:=zd8;have fin:EP X ku σ Q w s:=⟨z,H,I,vM,q⟩;exact ir (x:=w) pl.typeIs slot_tuple_getitem.lookup
  (getItem_tuple (j:=j) (Q:=fun r s'=>r=w∧EP X ku σ Q r s') pl #[O] #[O] (by rw [au,← hl]; exact h1) (by simpa using ew) ⟨rfl,fin⟩) hs
theorem zgV (kz:List Value) (n j:Nat) (u:Value):cW (·.setIfInBounds j u) { cls:=.type "list",data:=.seq kz.toArray n } = { cls:=.type "list",data:=.seq (kz.set j u).toArray n }:=by
 simp [cW]
theorem Inv.lst {ku:List (Addr×Obj)} {σ:St} {H:Hp} {s:Shared} {p:Addr} {xs:List V} (I:Inv X ku σ H s) (h:H p=some (.lst xs)) :
  ∃ (kz:List Value) (n:Nat),zM xs kz∧s.heap.get? p=some { cls:=.type "list",data:=.seq kz.toArray n }∧xs.length≤sizeLine:=by
 obtain⟨z,kz,n,r,e⟩:=I.hok p _ h;exact⟨kz,n,r,e,z⟩
theorem Inv.lstUpd {ku:List (Addr×Obj)} {σ:St} {H:Hp} {s:Shared} {p:Addr} {xs ys:List V} {kz its':List Value} {n n':Nat} {f:Obj→Obj} (I:Inv X ku σ H s) (h:H p=some (.lst xs))
  (ho:s.heap.get? p=some { cls:=.type "list",data:=.seq kz.toArray n }) (hf:f { cls:=.type "list",data:=.seq kz.toArray n } = { cls:=.type "list",data:=.seq its'.toArray n' }) (r:zM ys its') (hz:ys.length≤sizeLine) (t:Nat) :
  Inv X ku σ (kB H p (.lst ys)) { s with heap:=s.heap.update p f,toks:=t }:=by
 have e:(s.heap.update p f).get? p=some { cls:=.type "list",data:=.seq its'.toArray n' }:=by
  rw [dm f ho (by rw [hf] <;> rfl),hf]
 refine I.write (x:=p) (e:=p) (by rw [h]; trivial) (.inl rfl) (fun b u hb q=>(fi _ _ (dz hb)).trans q) ⟨_,e⟩ ?_;exact⟨hz,its',n',r,e⟩
def znD:V→V→V→Hp→(Hp→Prop)→Prop:=fun o i v H Q=>∃ p xs k j,o = .ref p∧i = .int k∧H p=some (.lst xs)∧ixN xs.length k=some j∧Q (kB H p (.lst (xs.set j v)))
theorem set_list:znm X znD:=by
 intro ku s σ H o i v ov iv u Q I ro ri rv h;obtain⟨p,xs,k,j,rfl,rfl,hp,hj,q⟩:=h;cases ro;obtain⟨t,rfl⟩:=ri;obtain⟨kz,n,r,ho,hz⟩:=I.lst hp;obtain⟨h1,h2,h3,h4⟩:=zhD hj;have hl:=r.length;have hn:=zd8;have I':Inv X ku σ (kB H p (.lst (xs.set j v))) { s with heap:=s.heap.update p (cW (·.setIfInBounds j u)) } :=
  I.lstUpd hp ho (zgV kz n j u) (r.set rv j) (by rw [fA]; exact hz) s.toks
 by_cases h0:0≤k
 ·have hk:k.toNat=j:=by
   rw [fh h0 h4] at h1;exact aQ h1
  exact PySem.W.ki_setAt ho h0 #[O] (by rw [au,← hl]; exact h4) (by rw [hk]; exact⟨_,I',q⟩)
 ·have hk:(k+(kz.toArray.size:Int)).toNat=j:=by
   rw [jj #[O] h3] at h1;rw [au,← hl];exact aQ h1
  exact PySem.W.ki_setBack ho #[O] (by rw [au,← hl]; exact h3) #[O] (by rw [hk]; exact⟨_,I',q⟩)
theorem zfk (lo hi:Option Int) (n:Nat):(sliceBounds lo hi none n).1=((HT.sIx n 0 lo:Nat):Int)∧(sliceBounds lo hi none n).2.1=((HT.sIx n n hi:Nat):Int)∧(sliceBounds lo hi none n).2.2=1:=by
 refine⟨?_,?_,rfl⟩
 ·cases lo with
  | none=>simp [sliceBounds,HT.sIx]
  | some i =>
   simp only [sliceBounds,HT.sIx,jI,show (1:Int) > 0 by decide,if_true];by_cases h:i < 0
   ·simp only [h,if_true] <;> lia
   ·simp only [h,if_false] <;> lia
 ·cases hi with
  | none=>simp [sliceBounds,HT.sIx]
  | some i =>
   simp only [sliceBounds,HT.sIx,jI,show (1:Int) > 0 by decide,if_true];by_cases h:i < 0
   ·simp only [h,if_true] <;> lia
   ·simp only [h,if_false] <;> lia
theorem zeH (kz:List Value) (lo hi:Option Int):slicePick kz.toArray lo hi none=((kz.drop (HT.sIx kz.length 0 lo)).take (HT.sIx kz.length kz.length hi - HT.sIx kz.length 0 lo)).toArray:=by
 obtain⟨h1,h2,h3⟩:=zfk lo hi kz.toArray.size;unfold slicePick;rw [h1,h2,h3];simp only [sliceRange_one,pick_run,au] <;> rfl
def zoi (K:ag):V→Option Int→Option Int→Hp→VK→Prop:=fun x lo hi H Q=>∃ a xs,x = .ref a∧ky K H a xs∧∀ p,H p=none→Q (.ref p) (kB H p (.lst (zbk xs lo hi)))
theorem zcq:SlR X (zoi X.K):=by
 intro ku s σ H x v vl vu lo hi sl Q I rx hs pl pu h;obtain⟨a,xs,rfl,hx,q⟩:=h;cases rx;obtain⟨kz,r,ht,hz⟩:=I.list hx;have kG:=r.length;refine⟨"list",_,slot_list_getitem.lookup,ht.isList.typeIs,?_⟩;refine wpAny_getItem_list_slice ht.isList hs pl pu .none #[M] ?_ (by rw [au] <;> lia);rw [zeH,← kG];refine⟨.ref s.heap.objs.size,_,I.laid (t':=s.toks) (o:=.lst (zbk xs lo hi)) (fun b ob q=>ai _ q) (af _) ?_,rfl,q _ (I.hok.fresh (af _))⟩;exact⟨aN (zdA xs lo hi) hz,_,0,(r.drop (HT.sIx xs.length 0 lo)).take (HT.sIx xs.length xs.length hi - HT.sIx xs.length 0 lo),aH _ rfl⟩
def zcF:V→Bool
 | .non=>true
 | .bl _=>true
 | .int _=>true
 | .str _=>true
 | _=>false
def eqV:V→V→Bool
 | .non,.non=>true
 | .bl a,.bl b=>a == b
 | .bl a,.int b=>(if a then 1 else 0) == b
 | .int a,.bl b=>a == (if b then 1 else 0)
 | .int a,.int b=>a == b
 | .str a,.str b=>a == b
 | _,_=>false
theorem zjK {A:Around} {s:Shared} {y x:V} {u v:Value} (ry:RelV y u) (rx:RelV x v) (fy:zcF y=true) (fx:zcF x=true):jW A s u v (eqV y x):=by
 cases y with
 | non =>
  cases ry;cases x with
  | non=>cases rx; exact jX _
  | bl b=>cases rx; exact SeqAt.EqAt.none_bool b
  | int b=>obtain⟨t,rfl⟩:=rx; exact SeqAt.EqAt.none_int b t
  | str b=>obtain⟨t,rfl⟩:=rx; exact SeqAt.EqAt.none_str b t
  | _=>exact absurd (show false=true from fx) aO
 | bl a =>
  cases ry;cases x with
  | non=>cases rx; exact SeqAt.EqAt.bool_none a
  | bl b=>cases rx; exact SeqAt.EqAt.bool_bool a b
  | int b=>obtain⟨t,rfl⟩:=rx; exact SeqAt.EqAt.bool_int a b t
  | str b=>obtain⟨t,rfl⟩:=rx; exact SeqAt.EqAt.bool_str a b t
  | _=>exact absurd (show false=true from fx) aO
 | int a =>
  obtain⟨t',rfl⟩:=ry;cases x with
  | non=>cases rx; exact SeqAt.EqAt.int_none a t'
  | bl b=>cases rx; exact SeqAt.EqAt.int_bool a t' b
  | int b=>obtain⟨t,rfl⟩:=rx; exact SeqAt.EqAt.int_int a t' b t
  | str b=>obtain⟨t,rfl⟩:=rx; exact ja a t' b t
  | _=>exact absurd (show false=true from fx) aO
 | str a =>
  obtain⟨t',rfl⟩:=ry;cases x with
  | non=>cases rx; exact SeqAt.EqAt.str_none a t'
  | bl b=>cases rx; exact SeqAt.EqAt.str_bool a t' b
  | int b=>obtain⟨t,rfl⟩:=rx; exact jb a t' b t
  | str b=>obtain⟨t,rfl⟩:=rx; exact SeqAt.EqAt.str_str a t' b t
  | _=>exact absurd (show false=true from fx) aO
 | _=>exact absurd (show false=true from fy) aO
def eqU (x:V) (u:Value):Bool:=match u with
 | .none=>eqV .non x
 | .bool b=>eqV (.bl b) x
 | .int i _=>eqV (.int i) x
 | .str z _=>eqV (.str z) x
 | _=>false
theorem zjL {x y:V} {u:Value} (r:RelV y u) (f:zcF y=true):eqU x u=eqV y x:=by
 cases y with
 | non=>cases r; rfl
 | bl b=>cases r; rfl
 | int i=>obtain⟨t,rfl⟩:=r; rfl
 | str z=>obtain⟨t,rfl⟩:=r; rfl
 | _=>exact absurd (show false=true from f) aO
theorem zfl {x:V}:∀ {xs:List V} {us:List Value},zM xs us→xs.all zcF=true→us.any (eqU x)=xs.any fun y=>eqV y x
 | _,_,.nil,_=>rfl
 | y :: xs,u :: us,.cons r t,f=>by
  rw [kf,cA] at f;rw [dP,dP,zjL r f.1,zfl t f.2]
theorem zea {A:Around} {s:Shared} {x:V} {v:Value} (rx:RelV x v) (fx:zcF x=true):∀ {xs:List V} {us:List Value},zM xs us→xs.all zcF=true→∀ u∈us,jW A s u v (eqU x u)
 | _,_,.nil,_=>fun u hu=>by cases hu
 | y :: xs,u :: us,.cons r t,f=>fun u' hu=>by
  rw [kf,cA] at f;rcases aC.mp hu with rfl | hu
  ·rw [zjL r f.1]; exact zjK r rx f.1 fx
  ·exact zea rx fx t f.2 u' hu
def inV (x:V) (xs:List V):Bool:=xs.any fun y=>eqV y x
def rIn (K:ag) (neg:Bool):R2:=fun x y H Q=>∃ p xs,y = .ref p∧(ky K H p xs∨kF K H p xs)∧zcF x=true∧xs.all zcF=true∧Q (.bl (if neg then !inV x xs else inV x xs)) H
theorem ziI:OpR X (compareOp .In) (rIn X.K false):=by
 intro ku s σ H x y v u Q I rx ry h;obtain⟨p,xs,rfl,hq,fx,fs,q⟩:=h;cases ry;rcases hq with hq | hq
 ·obtain⟨kz,r,pl,hz⟩:=I.list hq;refine SeqAt.in_listAt (eqU x) pl.isList (fun w hw=>zea rx fx r fs w (by simpa using hw)) ⟨.bl _,H,I,rfl,?_⟩;rw [show kz.toArray.any (eqU x)=kz.any (eqU x) by simp,zfl r fs];exact q
 ·obtain⟨kz,r,pl,hz⟩:=I.tuple hq;refine SeqAt.in_tupleAt (eqU x) pl (fun w hw=>zea rx fx r fs w (by simpa using hw)) ⟨.bl _,H,I,rfl,?_⟩;rw [show kz.toArray.any (eqU x)=kz.any (eqU x) by simp,zfl r fs];exact q
theorem zt:zci X (.builtin "len") (fun xs H Q=>∃ p ys,xs = [.ref p]∧(ky X.K H p ys∨kF X.K H p ys)∧Q (.int ys.length) H):=by
 intro ku s σ H xs us Q I r h;obtain⟨p,ys,rfl,hq,q⟩:=h;obtain⟨u,rfl,rx⟩:=vals1 r;cases rx;have hn:=zd8;rcases hq with hq | hq
 ·obtain⟨kz,r',pl,hz⟩:=I.list hq;have kG:=r'.length;exact Calls.call_len_list pl.isList (by simp only [au] <;> lia) ⟨.int ys.length,H,I.tok _,⟨s.toks+1,by rw [au,kG]⟩,q⟩
 ·obtain⟨kz,r',pl,hz⟩:=I.tuple hq;have kG:=r'.length;exact len_tuple pl (by simp only [au] <;> lia) ⟨.int ys.length,H,I.tok _,⟨s.toks+1,by rw [au,kG]⟩,q⟩
theorem zaU:zci X (.type "tuple") (fun xs H Q=>∃ p ys,xs = [.ref p]∧((ky X.K H p ys∧∀ l,H l=none→Q (.ref l) (kB H l (.tup ys)))∨(kF X.K H p ys∧Q (.ref p) H))):=by
 intro ku s σ H xs us Q I r h;obtain⟨p,ys,rfl,h⟩:=h;obtain⟨u,rfl,rx⟩:=vals1 r;cases rx;rcases h with ⟨hq,q⟩ | ⟨hq,q⟩
 ·obtain⟨kz,r',pl,hz⟩:=I.list hq;have kG:=r'.length;refine call_tuple_list pl.isList (fun h' kp=>?_) (by simp only [au] <;> lia);have I1:Inv X ku σ H { s with heap:=h' }:=I.kept (t':=s.toks) kp;have I2:Inv X ku σ (kB H h'.objs.size (.tup ys)) { s with heap:=h'.push { cls:=.type "tuple",data:=.seq kz.toArray } } :=
   I1.laid (t':=s.toks) (fun b o e=>ai _ e) (af _) (show zaD X.prog X.w _ _ _ (.tup ys) from ⟨hz,kz,r',hV _ _⟩)
  exact⟨.ref h'.objs.size,_,I2,rfl,q _ (I1.hok.fresh (af _))⟩
 ·obtain⟨kz,r',pl,hz⟩:=I.tuple hq;exact call_tuple_same pl ⟨.ref p,H,I,rfl,q⟩
def tyV (K:ag) (T:String) (x:V) (H:Hp):Prop:=match x with
 | .str _=>T = "str"
 | .int _=>T = "int"
 | .ref p=>(T = "list"∧∃ xs,ky K H p xs)∨(T = "tuple"∧∃ o,K.lookup p=some o∧o.cls = .type "tuple"∧o.dict=none) ∨
   (T = "dict"∧((∃ kE,H p=some (.dK kE))∨∃ kE,H p=some (.dT kE)))∨(T = "set"∧∃ S n,H p=some (.set S n))
 | _=>False
theorem zmB {ku:List (Addr×Obj)} {σ:St} {H:Hp} {s:Shared} {T:String} {x:V} {v:Value} (I:Inv X ku σ H s) (r:RelV x v) (ty:tyV X.K T x H) :
  s.TypeIs v T∧∀ a,v = .ref a→∃ ob,s.heap.get? a=some ob∧ob.dict=none:=by
 cases x with
 | str z =>
  obtain⟨t,rfl⟩:=r;cases (show T = "str" from ty);exact⟨typeIs_str s z t,fun _ e=>nomatch e⟩
 | int i =>
  obtain⟨t,rfl⟩:=r;cases (show T = "int" from ty);exact⟨gI s i t,fun _ e=>nomatch e⟩
 | ref p =>
  cases r;rcases ty with ⟨rfl,xs,hq⟩ | ⟨rfl,o,hk,hc,hd⟩ | ⟨rfl,hk⟩ | ⟨rfl,S,n,hk⟩
  ·obtain⟨kz,_,pl,_⟩:=I.list hq;refine⟨pl.isList.typeIs,fun a e=>?_⟩;cases e;obtain⟨o,n,e,c,hd,_⟩:=pl;exact⟨o,e,hd⟩
  ·refine⟨⟨o,I.kIn p o hk,hc⟩,fun a e=>?_⟩;cases e;exact⟨o,I.kIn _ o hk,hd⟩
  ·have z:∃ o,s.heap.get? p=some o∧o.ExactDict:=by
    rcases hk with ⟨kE,hk⟩ | ⟨kE,hk⟩
    ·obtain⟨_,_,_,_,o,_,_,e,ex,_⟩:=I.hok p _ hk;exact⟨o,e,ex⟩
    ·obtain⟨_,_,_,_,o,_,_,e,ex,_⟩:=I.hok p _ hk;exact⟨o,e,ex⟩
   obtain⟨o,e,ex⟩:=z;refine⟨⟨o,e,ex.1⟩,fun a e2=>?_⟩;cases e2;exact⟨o,e,ex.2.1⟩
  ·obtain⟨o,_,_,_,e,ex,_⟩:=I.hok p _ hk;refine⟨⟨o,e,ex.1⟩,fun a e2=>?_⟩;cases e2;exact⟨o,e,ex.2.1⟩
 | _=>exact dt ty
def tBM (K:ag) (T:String) (r:V→List V→Hp→VK→Prop) (to:TE) (t:TA):TE:=fun σ H Q=>to σ H fun x H1=>tyV K T x H1∧t σ H1 fun xs H2=>r x xs H2 Q
variable {o e:Expr} {es:List Expr} {to:TE} {t:TA} {name:Str} {apos nv:Pos} {T id:String} {r:V→List V→Hp→VK→Prop}
theorem zf2 (pa:PlainAttrs T) (slot:Slot T name id) (BZ:typeOf (.builtin id)=pure (.type "method_descriptor")) (hm:MtR X id r) (ho:PE X o to) (ha:PA X (e :: es) t)
  (sP:attributeBase o name X.env (eval o X.env)=eval o X.env:=by rfl)
  (vN:((backTo nv (starEach (e :: es) X.env)).all (fun x=>!x.1) && (backToKw nv (keywordEach [] X.env)).all (fun x=>x.1.isSome)
   && decide ((e :: es).length+([]:List Keyword).length+(if ([]:List Keyword).isEmpty then 0 else 1) < 30))=true:=by rfl)
  (sQ:(apos.endLine == nv.line)=true:=by rfl) (hs:starEach (e :: es) X.env=(false,eval e X.env) :: starEach es X.env:=by rfl) (qi:(backTo nv (starEach es X.env)).any (·.1)=false:=by rfl) :
  PE X (.Call (.Attribute o name apos) (e :: es) [] nv) (tBM X.K T r to t):=by
 intro ku s σ H Q I h;refine wpAny_Call_method_late sP vN sQ rfl (thn (ho ku s σ H _ I h) fun v s1 ⟨x,H1,I1,r1,ty,q1⟩=>?_);obtain⟨h1,h2⟩:=zmB I1 r1 ty;refine⟨T,id,pa,slot,BZ,h1,h2,?_⟩;have hA:=ha nv ku s1 σ H1 _ I1 q1;rw [hs] at hA ⊢;refine Calls.callWith_builtin (by show (false || (backTo nv (starEach es X.env)).any (·.1))=false; rw [qi] <;> rfl) (Calls.evalArgs_plain ?_);exact thn hA fun us s2 ⟨vs,H2,I2,r2,q2⟩=>hm ku s2 σ H2 x vs v us Q I2 r1 r2 q2
end
def MtM (X:Cx) (id:String) (r:V→List V→Hp→VK→Prop):Prop :=
 ∀ (ku:List (Addr×Obj)) (s:Shared) (σ:St) (H:Hp) (x:V) (xs:List V) (v:Value) (us:List Value) (Q:VK),Inv X ku σ H s→RelV x v→zM xs us→r x xs H Q →
  wpAny (model X.prog X.w) X.A (call (.builtin id) (v :: us)) (EP X ku σ Q) X.xe s
theorem zM.one:∀ {x:V} {us:List Value},zM [x] us→∃ u,us = [u]∧RelV x u
 | _,_,.cons r .nil=>⟨_,rfl,r⟩
theorem zM.eraseIdx:∀ {xs:List V} {us:List Value} (i:Nat),zM xs us→zM (xs.eraseIdx i) (us.eraseIdx i)
 | _,_,_,.nil=>.nil
 | _,_,0,.cons _ t=>t
 | _,_,i+1,.cons r t=>.cons r (zM.eraseIdx i t)
theorem zM.rep {xs:List V} {us:List Value} (h:zM xs us):∀ k:Nat,zM (ar k xs).flatten (ar k us).flatten
 | 0=>.nil
 | k+1=>by
  rw [cm,cm,dZ,dZ];exact zM.append h (zM.rep h k)
theorem ze0 {α:Type}:∀ (l:List α) (i:Nat),(l.eraseIdx i).length≤l.length
 | [],_=>af _
 | _ :: _,0=>f7 _
 | _ :: r,i+1=>fm (ze0 r i)
theorem foldl_rep (kz:List Value):∀ (k:Nat) (acc:List Value),
  fB (fun x1 x2=>x1++x2) acc.toArray (ar k kz.toArray)=(acc++(ar k kz).flatten).toArray
 | 0,acc=>by simp
 | k+1,acc=>by
  have e:acc.toArray++kz.toArray=(acc++kz).toArray:=by simp
  have e2:(acc++kz)++(ar k kz).flatten=acc++(ar (k+1) kz).flatten:=by
   rw [cm,dZ,bi]
  rw [← e2,← foldl_rep kz k (acc++kz),← e,cm,hW]
section
variable {X:Cx} {ku:List (Addr×Obj)} {σ:St} {H:Hp} {s:Shared} {l b:Addr} {xs ys zs:List V}
theorem Inv.lset {kz its':List Value} {n:Nat} {f:Array Value→Array Value} {t':Nat} (I:Inv X ku σ H s) (hH:H l=some (.lst xs))
  (e:s.heap.get? l=some { cls:=.type "list",data:=.seq kz.toArray n }) (hf:f kz.toArray=its'.toArray) (hv:zM ys its') (hz:ys.length≤sizeLine) :
  Inv X ku σ (kB H l (.lst ys)) { s with heap:=s.heap.update l (cW f),toks:=t' }:=by
 have q:=jJ e f;rw [hf] at q;refine I.write (x:=l) (e:=l) (by rw [hH]; exact trivial) (.inl rfl) (fun b' u hb hu=>(fi s.heap (cW f) (dz hb)).trans hu) ⟨_,q⟩ ?_;exact⟨hz,its',_,hv,q⟩
theorem Inv.lnew {kz:List Value} {t':Nat} (I:Inv X ku σ H s) (hv:zM ys kz) (hz:ys.length≤sizeLine) :
  Inv X ku σ (kB H s.heap.objs.size (.lst ys)) { s with heap:=s.heap.push { cls:=.type "list",data:=.seq kz.toArray },toks:=t' } :=
 I.laid (fun _ _ q=>ai _ q) (af _) ⟨hz,kz,0,hv,aH _ rfl⟩
theorem Inv.fresh (I:Inv X ku σ H s):H s.heap.objs.size=none:=I.hok.fresh (af _)
theorem Inv.lstM (I:Inv X ku σ H s) (hH:H l=some (.lst xs)):xs.length≤sizeLine∧∃ (kz:List Value) (n:Nat),zM xs kz∧xs.length=kz.length∧s.heap.get? l=some { cls:=.type "list",data:=.seq kz.toArray n }:=by
 obtain⟨z,kz,n,r,e⟩:=I.hok l _ hH;exact⟨z,kz,n,r,r.length,e⟩
theorem zjM {n:Nat} (h:n≤sizeLine):eP n=false:=by
 unfold eP;exact decide_eq_false #[O]
end
section
variable {X:Cx}
def zk9:V→List V→Hp→VK→Prop:=fun x vs H Q=>∃ l xs y,x = .ref l∧vs = [y]∧H l=some (.lst xs)∧xs.length < sizeLine∧Q .non (kB H l (.lst (xs++[y])))
theorem zcr:MtM X "list.append" zk9:=by
 intro ku s σ H x vs v us Q I rx rv h;obtain⟨l,xs,y,rfl,rfl,hH,hz,q⟩:=h;cases rx;obtain⟨u,rfl,ru⟩:=rv.one;obtain⟨z,kz,n,r,hl,e⟩:=I.lstM hH;refine dQ jk ⟨_,e,rfl⟩ i5 (iQ _ _) (jv l kz.toArray n u (by rw [au]; lia)) ⟨e,?_⟩;refine⟨.non,_,I.lset (its':=kz++[u]) hH e #[M] (r.append (.cons ru .nil)) ?_,rfl,q⟩;rw [ap,d8];lia
def zmC:V→List V→Hp→VK→Prop:=fun x vs H Q=>∃ l xs i k y,x = .ref l∧vs = [.int i]∧H l=some (.lst xs)∧-(2 ^ 63)≤i∧i < 2 ^ 63∧seqIndex? i xs.length=some k∧xs[k]? = some y∧Q y (kB H l (.lst (xs.eraseIdx k)))
theorem zf3:MtM X "list.pop" zmC:=by
 intro ku s σ H x vs v us Q I rx rv h;obtain⟨l,xs,i,k,y,rfl,rfl,hH,h1,h2,hk,hy,q⟩:=h;cases rx;obtain⟨u,rfl,ru⟩:=rv.one;obtain⟨t,rfl⟩:=ru;obtain⟨z,kz,n,r,hl,e⟩:=I.lstM hH;obtain⟨w,hw,vM⟩:=r.get hy;refine dQ F.slot_list_pop ⟨_,e,rfl⟩ F.entry_list_pop (F.args_list_pop_2 _ _)
  (MeetsSeq.list_pop_at l kz.toArray n i t k w (fitsIndex_both h1 h2) (by rw [au,← hl]; exact hk) (by rw [← bo]; exact hw) (by rw [au]; lia)) ⟨e,?_⟩
 refine⟨y,_,I.lset (its':=kz.eraseIdx k) hH e ?_ (r.eraseIdx k) ?_,vM,q⟩
 ·show kz.toArray.eraseIdxIfInBounds k=(kz.eraseIdx k).toArray;rw [List.eraseIdxIfInBounds_toArray]
 ·have:=ze0 xs k;lia
def zoj:R2:=fun x y H Q=>∃ l b xs zs,x = .ref l∧y = .ref b∧H l=some (.lst xs)∧H b=some (.lst zs)∧xs.length+zs.length≤sizeLine∧∀ p,H p=none→Q (.ref p) (kB H p (.lst (xs++zs)))
theorem zeb:OpR X (binaryOp .Add) zoj:=by
 intro ku s σ H x y v u Q I rx ry h;obtain⟨l,b,xs,zs,rfl,rfl,hH,hB,hz,q⟩:=h;cases rx;cases ry;obtain⟨z,kz,n,r,hl,e⟩:=I.lstM hH;obtain⟨z2,lO,n2,r2,rk,e2⟩:=I.lstM hB;refine PySem.P.add_list e e2 ?_ (by rw [au,au]; lia);have ea:kz.toArray++lO.toArray=(kz++lO).toArray:=by simp
 rw [ea];exact⟨.ref _,_,I.lnew (t':=s.toks) (r.append r2) (by rw [ap]; lia),rfl,q _ I.fresh⟩
def zok:R2:=fun x y H Q=>∃ l k xs,x = .ref l∧y = .int k∧H l=some (.lst xs)∧-(2 ^ 63)≤k∧k < 2 ^ 63∧xs.length*k.toNat≤sizeLine ∧
 ∀ p,H p=none→Q (.ref p) (kB H p (.lst (ar k.toNat xs).flatten))
theorem len_rep {α:Type} (xs:List α) (k:Nat):(ar k xs).flatten.length=k*xs.length:=by
 induction k with
 | zero=>simp
 | succ k ih=>rw [cm,dZ,ap,ih,Nat.succ_mul,Nat.add_comm]
theorem zjN:OpR X (binaryOp .Mult) zok:=by
 intro ku s σ H x y v u Q I rx ry h;obtain⟨l,k,xs,rfl,rfl,hH,h1,h2,hz,q⟩:=h;cases rx;obtain⟨t,rfl⟩:=ry;obtain⟨z,kz,n,r,hl,e⟩:=I.lstM hH;have kG:kz.toArray.size*k.toNat≤sizeLine:=by rw [au,← hl]; exact hz
 have B0:¬ kz.toArray.size*k.toNat > (2 ^ 63 - 1) / 8:=by
  have:(sizeLine:Nat)≤(2 ^ 63 - 1) / 8:=by decide
  lia
 have B1:¬ (!Builtin.List.listFitsIndex k)=true:=by
  rw [fitsIndex_both h1 h2];exact aO
 have xV:¬ eP (kz.toArray.size*k.toNat)=true:=by
  rw [zjM kG];exact aO
 have uy:fB (fun x1 x2=>x1++x2) #[] (ar (if kz.toArray.isEmpty=true then 0 else k.toNat) kz.toArray)=(ar k.toNat kz).flatten.toArray:=by
  have f0:∀ m:Nat,fB (fun x1 x2=>x1++x2) #[] (ar m kz.toArray)=(ar m kz).flatten.toArray:=fun m=>by
   have:=foldl_rep kz m [];rw [ic] at this;exact this
  rw [f0];cases kz with
  | nil=>simp
  | cons a r'=>rw [if_neg #[M]]
 refine gJ (T:="list") (U:="int") #[D] ⟨_,e,rfl⟩ (fun s'=>gI s' k t) noFill_list_mul F.fills_int_mul fC repeat_list F.slot_int_index.lookup
  (dQ fC (gI s k t) jK (jw _ _) (int___rmul___int_list k t l kz.toArray n)
   ⟨e,rfl,⟨_,e,rfl⟩,dQ F.slot_list_mul ⟨_,e,rfl⟩ F.entry_list_mul (F.args_list_mul_2 _ _) (AutoListH.list___mul___list_int_3 l kz.toArray n k t B1 B0 xV) ⟨e,?_⟩⟩)
 rw [uy];exact⟨.ref _,_,I.lnew (t':=s.toks) (r.rep k.toNat) (by rw [len_rep,jl]; exact hz),rfl,q _ I.fresh⟩
end
end L2
namespace Att
open PySem PySem.W PySem.Calls PyProof.Rows
theorem zdK {P:Params} {h:Heap}:∀ (ns:List Int) (vs:List Value),WellAll P h vs (ns.map WData.int)→IntsAre vs ns:=by
 intro ns;induction ns with
 | nil =>
  intro vs w;rw [eN] at w;cases w;exact .nil
 | cons n ns ih =>
  intro vs w;rw [bh] at w;cases w with
  | cons a b =>
   cases a;exact .cons _ _ (ih _ b)
theorem ziJ {l:OpenLaw} {n:Nat} (hn:l.most=some n) {P:Params} {h:Heap} {args:List WData} {vals:List Value}
  (uz:l.row.toRowW.claim.pre args=true) (qQ:WellAll P h vals args) :
  ∃ a vs ns,vals = [bf a]∧args = [WData.list (ns.map WData.int)]∧h.get? a=some { cls:=.type "list",data:=.seq vs.toArray }∧IntsAre vs ns∧ns.length≤n:=by
 have hsh:WShape.hasAll [] args [.list .int]=true:=(pre_splitW uz).1;have hc:l.pre.holds [] { args:=args }=true:=(pre_splitW uz).2;obtain⟨d,r,rfl,h1,h2⟩:=hasAllW_cons hsh;obtain rfl:=hasAllW_nil h2;obtain⟨xs,rfl,h3⟩:=hasW_list h1;obtain⟨ns,rfl⟩:=items_int h3;have kG:ns.length≤n:=by
  unfold OpenLaw.pre at hc;have h4:(WTm.not (.lt (.lit (.int (n:Int))) (.len (.arg 0)))).holds [] { args:=[.list (ns.map .int)] }=true:=by
   have h4:=(holds_andW hc).1;rw [hn] at h4;exact h4
  have h5:=condW_of h4 (w_not (w_lt w_lit (w_len_list (w_arg rfl))));rw [ab] at h5;refine fo fun q=>?_
  have q':(n:Int) < ((ns.length:Nat):Int):=by lia
  first
   | (rw [decide_eq_true q'] at h5; exact absurd h5 #[D])
   | (simp at h5; lia)
 cases qQ with
 | cons w1 w2 =>
  cases w2;cases w1 with
  | list ho lP=>exact⟨_,_,ns,rfl,rfl,ho,zdK ns _ lP,kG⟩
theorem ziK (l:OpenLaw) (args:List WData):l.row.toRowW.claim.post args (.bool true) args=true :=
 postW_of (r:=l.row.toRowW) (X:=(true == true))
  (show WShape.has [] (.bool true) .bool=true by first | rfl | decide | simp [WShape.has,WShape.arms,WShape.armsAll])
  (show (WTm.eq .res (.lit (.bool true))).value [] { args:=args,res:=some (.bool true),after:=args }=some (.bool (true == true)) from w_eq_bool (w_res rfl) w_lit) rfl
theorem attach_call {l:OpenLaw} {n:Nat} {q:Program} {loose:List Str} {XP:(Str→Option Value)→Heap→Prop} {YP:World→Heap→Prop} {d:DefRec}
  (hn:l.most=some n) (xW:d.params.defaults = [])
  (call:∀ (w:World) (s₀ s₁:Shared) (mg mb:Str→Option Value) (fa:Addr) (o:Obj) (pm cd doc:Value) (a:Addr) (vs:List Value) (ns:List Int),
   Ground q loose [] XP w s₀ mg mb s₁.heap→YP w s₁.heap →
   s₁.heap.get? fa=some o→o.data = .func (docDef d.name d.params d.body d.scope pm cd doc)→s₁.heap.CodeRec cd d.name→mg d.name=some (.ref fa) →
   s₁.heap.get? a=some { cls:=.type "list",data:=.seq vs.toArray }→IntsAre vs ns→ns.length≤n→s₁.gens = #[] →
   codeAny (model l.prog w) callerA (.call (.ref fa) ⟨[.ref a],[]⟩) (fun r s'=>r = .ok (.ret (.bool true))∧OldK s₁.heap s'.heap∧s'.os=s₁.os∧AllBare s'.gens) s₁) :
  WalkO q loose XP YP l.row.toRowW d [] (fun f vs=>jY f vs):=by
 intro w s₀ s₁ mg mb G Y fa o pm cd doc dV kV ho hd rj hD rm hg args vals as uz hlay hrd qQ oR;obtain rfl:dV = .none:=Dflts.none hD xW;obtain rfl:kV = .none:=Dflts.noKw hD;obtain⟨a,vs,ns,rfl,rfl,vO,hints,kG⟩:=ziJ hn uz qQ;refine enter_call (je (call w s₀ s₁ mg mb fa o pm cd doc a vs ns G Y ho (fd_plain hd) rj rm vO hints kG hg) fun r s' hq=>?_);obtain⟨rfl,h2,h3,h4⟩:=hq;exact⟨.inl ⟨.bool true,.bool true,[],rfl,fun _=>rfl,.bool true,ziK l _,fun _=>⟨gw,fun _ hm=>(nomatch hm)⟩⟩,h2,h3,h4⟩
end Att
namespace L2
open PySem PySem.Spec PyProof.Rows
theorem ze1:∀ {vs:List Value} {ns:List Int},IntsAre vs ns→zM (ns.map V.int) vs
 | _,_,.nil=>.nil
 | _,_,.cons n t h=>.cons ⟨t,rfl⟩ (ze1 h)
def zmD (H:Hp):Prop:=∀ b,H b=none∨∃ o xs,H b=some (.frz o (.lst xs))
theorem zjO {P:Program} {w:World} {K:ag} {mg mb:Str→Option Value} {CX:CXT} {k:Nat} {fa a:Addr} {fd:FuncData} {x:Str} {sp:Sp} {s₁:Shared} {vs:List Value} {ns:List Int}
  (KX:K.In s₁.heap) (ui:s₁.heap.Ns mainGlobals mg) (hb:s₁.heap.Ns builtinsNs mb) (hbb:∀ x:Str,x≠"__name__"→mb x=bootBuiltins x) (B2:s₁.heap.NoLimit) (hg:s₁.gens = #[])
  (ha:s₁.heap.get? a=some { cls:=.type "list",data:=.seq vs.toArray }) (hi:IntsAre vs ns) (hl:ns.length≤sizeLine) (hr:Room k callerA)
  (F:∀ base:Heap,K.In base→base.Ns mainGlobals mg→FnOk P w K mg base CX k fa fd [x] sp) (xX:∀ (s:Shared) (u:Value),BindsTo s fd ⟨[u],[]⟩ [(x,u)])
  (uh:∀ H:Hp,zmD H→ky K H a (ns.map V.int)→sp [.ref a] H (fun v _=>v = .bl true) fun _ _ _=>False)
  (B3:∀ H e s',CX [] H s₁ (fun _ _ _=>False) e s'→False) :
  codeAny (model P w) callerA (.call (.ref fa) ⟨[.ref a],[]⟩) (fun r s'=>r = .ok (.ret (.bool true))∧OldK s₁.heap s'.heap∧s'.os=s₁.os∧AllBare s'.gens) s₁:=by
 have rv:=ze1 hi;have B4:=hi.length;have core:∀ H:Hp,zmD H→ky K H a (ns.map V.int)→HOk P w H s₁.heap→(∀ b,H b≠none→b=a)→(H a≠none→K.lookup a=none) →
   codeAny (model P w) callerA (.call (.ref fa) ⟨[.ref a],[]⟩) (fun r s'=>r = .ok (.ret (.bool true))∧OldK s₁.heap s'.heap∧s'.os=s₁.os∧AllBare s'.gens) s₁:=by
  intro H hO hS hok hA hK;have qR:∀ {b:Addr} {o:Obj},s₁.heap.get? b=some o→H b=none→(zfh s₁.heap H).get? b=some o:=fun e n=>zjv e n
  have vK:∀ {b:Addr} {o:Obj} {es:Array DictEntry} {ep:Nat},s₁.heap.get? b=some o→o.data = .dict es ep→H b=none:=fun {b o es ep} e d=>by
   cases q:H b with
   | none=>rfl
   | some u =>
    have e':b=a:=hA b (by rw [q]; simp);subst e';rw [ha] at e; cases e;have d':ko vs.toArray _=Data.dict es ep:=d;cases d'
  have A0:∀ {b:Addr} {m:Str→Option Value},s₁.heap.Ns b m→(zfh s₁.heap H).Ns b m:=fun {b m} ⟨o,es,ep,e,d,r⟩=>⟨o,es,ep,qR e (vK e d),d,r⟩
  have hKb:K.In (zfh s₁.heap H):=fun b o e=>qR (KX b o e) (by
   cases q:H b with
   | none=>rfl
   | some u =>
    have e':b=a:=hA b (by rw [q]; simp);subst e';rw [hK (by rw [q]; simp)] at e; cases e)
  have hM:Mod K mg (zfh s₁.heap H):=⟨hKb,A0 ui,⟨mb,A0 hb,hbb⟩,let ⟨mc,h1,h2⟩:=B2; ⟨mc,A0 h1,h2⟩⟩;have e0:Env0 P w K mg (zfh s₁.heap H) callerA [] s₁ H:=⟨rfl,hM,fun b o e=>zkZ e,Nat.le_of_eq (ziB _ _),trivial,fun b hb=>absurd (show b∈([]:List Addr) from hb) #[M],hok,.of_eq hg⟩;refine je ((F _ hKb (A0 ui)).run callerA [] s₁ H ⟨[.ref a],[]⟩ [.ref a] [.ref a] _ _ hr e0 (xX s₁ (.ref a)) (.cons rfl .nil) (uh H hO hS)) fun r s' h=>?_
  cases r with
  | error e=>exact (B3 H e s' h).elim
  | ok fl =>
   cases fl with
   | next=>exact dt h
   | brk=>exact dt h
   | cont=>exact dt h
   | ret u =>
    obtain⟨v,H',os,bare,un,B5,r',q⟩:=h;have q':v = .bl true:=q;subst q';obtain rfl:u=Value.bool true:=r';refine⟨rfl,OldK.of_keep fun b o e=>?_,os,bare⟩;cases q:H b with
    | none=>exact un.keep b o e q (by intro z; exact absurd (show b∈([]:List Addr) from z) #[M]) #[M]
    | some u =>
     rcases hO b with z | ⟨ob,xs,z⟩
     ·rw [q] at z; cases z
     ·have z2:=un.frzs b ob _ z;obtain⟨e1,_⟩:=hok b _ z;obtain⟨e2,_⟩:=B5 b _ z2;rw [e] at e1; cases e1;exact e2
 cases hk:K.lookup a with
 | some o =>
  have e:=KX a o hk;rw [ha] at e;cases e;refine core (fun _=>none) (fun _=>.inl rfl) (.inr ⟨_,vs.toArray,_,hk,rfl,rfl,rfl,by rw [au,B4]; exact hl,by simpa using rv⟩) (fun b u z=>by have z':(none:Option HO)=some u:=z; cases z') (fun b z=>absurd rfl z) fun z=>absurd rfl z
 | none =>
  refine core (fun b=>if b=a then some (.frz { cls:=.type "list",data:=.seq vs.toArray } (.lst (ns.map V.int))) else none) (fun b=>?_) (.inl (.inr ⟨{ cls:=.type "list",data:=.seq vs.toArray },if_pos rfl⟩)) (fun b u z=>?_) (fun b z=>?_) fun _=>hk
  ·by_cases hb:b=a
   ·exact .inr ⟨_,_,if_pos hb⟩
   ·exact .inl (if_neg hb)
  ·by_cases hb:b=a
   ·have z':=(if_pos hb).symm.trans z;cases z';subst hb;exact⟨ha,by rw [ab]; exact hl,vs,_,rv,ha⟩
   ·have z':=(if_neg hb).symm.trans z;cases z'
  ·by_cases hb:b=a
   ·exact hb
   ·exact absurd (if_neg hb) z
theorem zla {l:ie} {n k:Nat} {q:Program} {loose:List Str} {XP:(Str→Option Value)→Heap→Prop} {YP:World→Heap→Prop} {d:DefRec} {K:Params→ag} {CX:World→CXT} {sp:World→Sp} {x:Str}
  (hn:l.most=some n) (qS:n≤sizeLine) (xW:d.params.defaults = []) (hr:Room k callerA)
  (hY:∀ (w:World) (h:Heap),YP w h→(K w.params).In h)
  (F:∀ (w:World) (mg:Str→Option Value) (fa:Addr) (h:Heap),(K w.params).In h→h.Ns mainGlobals mg→mg d.name=some (.ref fa) →
   ∃ fd:FuncData,(∀ (s:Shared) (u:Value),BindsTo s fd ⟨[u],[]⟩ [(x,u)]) ∧
    ∀ base:Heap,(K w.params).In base→base.Ns mainGlobals mg→FnOk l.prog w (K w.params) mg base (CX w) k fa fd [x] (sp w))
  (uh:∀ (w:World) (H:Hp) (a:Addr) (ns:List Int),ns.length≤n→zmD H→ky (K w.params) H a (ns.map V.int)→sp w [.ref a] H (fun v _=>v = .bl true) fun _ _ _=>False)
  (B3:∀ (w:World) (H:Hp) (s:Shared) (e:Value) (s':Shared),CX w [] H s (fun _ _ _=>False) e s'→False) :
  kg q loose XP YP l.row.toRowW d [] (fun f vs=>jY f vs):=by
 refine Att.attach_call hn xW fun w s₀ s₁ mg mb fa o pm cd doc a vs ns G Y ho hd rj rm vO hints kG hg=>?_
 have KX:=hY w _ Y;obtain⟨fd,hb,hF⟩:=F w mg fa _ KX G.T.g rm;exact zjO KX G.T.g G.T.b G.T.builtins G.T.nolimit hg vO hints (aN kG qS) hr hF hb (fun H hO hS=>uh w H a ns kG hO hS) fun H e s'=>B3 w H s₁ e s'
def zbF (s:Stmt):Arguments:=match s with
 | .FunctionDef _ a _ _ _ _ _ _ _ _=>a
 | _=>{ posonlyargs:=[],args:=[],vararg:=none,kwonlyargs:=[],kw_defaults:=[],kwarg:=none,defaults:=[] }
def zbu (s:Stmt):List Stmt:=match s with
 | .FunctionDef _ _ b _ _ _ _ _ _ _=>b
 | _=>[]
def zg (s:Stmt):Scope:=match s with
 | .FunctionDef _ _ _ _ _ _ sc _ _ _=>sc
 | _=>{ kind:=.function,names:=[],isGenerator:=false,isCoroutine:=false }
abbrev CX0:CXT:=fun _ _ _ _ _ _=>False
abbrev E0:XK:=fun _ _ _=>False
theorem zL {X:Cx}:zgS CX0 X E0:=fun _ _ _ _ _ _ _ h=>h.elim
structure Fun (K:ag) (x qual:Str) (st:Stmt) (f:Addr) (fd:FuncData):Prop where
 ex:∃ (oc:Value) (od:Option Addr) (kV doc pm:Value) (an:Option Addr) (ly ct:Value) (va:Array (Option Value)),
  fd=cV x qual (zbF st) (zbu st) (zg st) .none kV doc pm an ly ct∧K.lookup f=some ⟨oc,od,.func fd,va⟩∧eW K ly qual=true
 kp:eV K (.ref f)=true
section
variable {P:Program} {w:World} {K:ag} {mg:Str→Option Value} {base:Heap}
theorem Fun.ok {x qual:Str} {st:Stmt} {f:Addr} {fd:FuncData} {N ps:List Str} {k:Nat} {sp:Sp} (F:Fun K x qual st f fd) (S:FnScope N ps (zg st)) (len:∀ vs H Q E,sp vs H Q E→vs.length=ps.length)
  (sO:∀ (ly:Value) (A:Around) (outer:List Env) (s:Shared) (H:Hp) (vs:List V) (Q:VK) (E:XK),Room k (A.deeper (envOfC qual (zg st) s.heap.objs.size f ly))→sp vs H Q E →
   ∃ t,PSs (ziG CX0 P w K mg base N qual (zg st) f ly A outer s H E).nox (zbu st) t∧t { nx:=fun _ H'=>Q .non H',rt:=Q } (start N vs) H):FnOk P w K mg base CX0 (k+1) f fd ps sp:=by
 obtain⟨oc,od,kV,doc,pm,an,ly,ct,va,rfl,lk,rj⟩:=F.ex;refine zny lk rj S len fun A outer s H vs Q E hr uh=>?_
 obtain⟨t,h,q⟩:=sO ly A outer s H vs Q E hr uh;exact⟨t,h.nox,q⟩
theorem Fun.binds {x qual:Str} {st:Stmt} {f:Addr} {fd:FuncData} {ps:List Str} (F:Fun K x qual st f fd)
  (h:∀ (kV doc pm:Value) (an:Option Addr) (ly ct:Value) (us:List Value),us.length=ps.length→bindArgs (cV x qual (zbF st) (zbu st) (zg st) .none kV doc pm an ly ct) ⟨us,[]⟩=pure (ps.zip us)):Binds K fd ps []:=by
 obtain⟨oc,od,kV,doc,pm,an,ly,ct,va,rfl,lk,rj⟩:=F.ex;exact .all (h kV doc pm an ly ct)
theorem zjP {x qual:Str} {st:Stmt} {f:Addr} {oc:Value} {od an:Option Addr} {va:Array (Option Value)} {kV doc pm ly ct:Value} (l:K.lookup f=some ⟨oc,od,.func (cV x qual (zbF st) (zbu st) (zg st) .none kV doc pm an ly ct),va⟩)
  (c:eW K ly qual=true) (k:eV K (.ref f)=true):Fun K x qual st f (cV x qual (zbF st) (zbu st) (zg st) .none kV doc pm an ly ct):=⟨⟨oc,od,kV,doc,pm,an,ly,ct,va,rfl,l,c⟩,k⟩
end
theorem ziL {A B:Prop} (h:B):if false=true then A else B:=by
 rw [if_neg aO];exact h
theorem zol {A B:Prop} (h:A):if true=true then A else B:=by
 rw [if_pos rfl];exact h
theorem zaP {c A B:Prop} [Decidable c] (h1:c→A) (h2:¬ c→B):if c then A else B:=by
 by_cases h:c
 ·rw [if_pos h];exact h1 h
 ·rw [if_neg h];exact h2 h
def zu (H H':Hp):Prop:=∀ b o,H b=some o→H' b=some o
theorem zu.trans {H H1 H2:Hp} (a:zu H H1) (b:zu H1 H2):zu H H2:=fun c o h=>b c o (a c o h)
theorem zu.free {H H':Hp} (e:zu H H') {l:Addr} (h:H' l=kr):H l=kr:=by
 cases q:H l with
 | none=>rfl
 | some o =>
  rw [e l o q] at h;cases h
theorem zu.seq {K:ag} {H H':Hp} {a:Addr} {xs:List V} (e:zu H H') (h:ky K H a xs):ky K H' a xs:=by
 rcases h with (h | ⟨o,h⟩) | h
 ·exact .inl (.inl (e _ _ h))
 ·exact .inl (.inr ⟨o,e _ _ h⟩)
 ·exact .inr h
end L2
section
namespace L2
open PySem
abbrev Ends.n (D:Ends) (N:St→Hp→Prop):Ends:={ D with nx:=N }
section
variable {r1 r2 r3 r4 r5 r6 r7 r8 r9 B6 B7 B8 B9 B' Ca:TS} {D:Ends} {σ:St} {H:Hp}
theorem zmE (h:let N2:=r2 D; r1 (D.n N2) σ H):(zam r1 r2) D σ H:=h
theorem ziM (h:let N3:=r3 D; let N2:=r2 (D.n N3); r1 (D.n N2) σ H):(zam r1 (zam r2 r3)) D σ H:=h
theorem zjQ (h:let N4:=r4 D; let N3:=r3 (D.n N4); let N2:=r2 (D.n N3); r1 (D.n N2) σ H):(zam r1 (zam r2 (zam r3 r4))) D σ H:=h
theorem znE (h:let N5:=r5 D; let N4:=r4 (D.n N5); let N3:=r3 (D.n N4); let N2:=r2 (D.n N3); r1 (D.n N2) σ H):(zam r1 (zam r2 (zam r3 (zam r4 r5)))) D σ H:=h
theorem zmF (h:let N6:=r6 D; let N5:=r5 (D.n N6); let N4:=r4 (D.n N5); let N3:=r3 (D.n N4); let N2:=r2 (D.n N3); r1 (D.n N2) σ H):(zam r1 (zam r2 (zam r3 (zam r4 (zam r5 r6))))) D σ H:=h
theorem zom (h:let N7:=r7 D; let N6:=r6 (D.n N7); let N5:=r5 (D.n N6); let N4:=r4 (D.n N5); let N3:=r3 (D.n N4); let N2:=r2 (D.n N3); r1 (D.n N2) σ H):(zam r1 (zam r2 (zam r3 (zam r4 (zam r5 (zam r6 r7)))))) D σ H:=h
theorem znF (h:let N8:=r8 D; let N7:=r7 (D.n N8); let N6:=r6 (D.n N7); let N5:=r5 (D.n N6); let N4:=r4 (D.n N5); let N3:=r3 (D.n N4); let N2:=r2 (D.n N3); r1 (D.n N2) σ H):(zam r1 (zam r2 (zam r3 (zam r4 (zam r5 (zam r6 (zam r7 r8))))))) D σ H:=h
theorem zbb {X0:Cx} {B:List PySem.Stmt} (h:let X:=X0; ∃ t,PSs X B t∧t D σ H):∃ t,PSs X0 B t∧t D σ H:=h
end
end L2
end
section
namespace L2
open PySem PySem.Spec PyProof.Rows
def zah (cs:List (Str×Addr)):List (Str×NameKind)→List (Str×Addr)→List (Str×Addr)
 | [],acc=>acc
 | (n,k) :: r,acc=>if k == .free then zah cs r ((n,(cs.lookup n).getD 0) :: acc) else zah cs r acc
theorem zcG {scope:Scope} {env:Env} (h:∀ y∈scope.names,y.2 = .free→∃ c,env.cells.lookup y.1=some c) :
  closureFor scope env=pure (zah env.cells scope.names []):=by
 have go:∀ (names:List (Str×NameKind)) (acc:List (Str×Addr)),(∀ y∈names,y.2 = .free→∃ c,env.cells.lookup y.1=some c) →
   (forIn names acc (fun (x:Str×NameKind) (cs:List (Str×Addr))=>(if (x.2 == bX)=true then do
    let a ← cellOf env x.1
    pure (cp ((x.1,a) :: cs)) else pure (cp cs):Sem (ForInStep (List (Str×Addr))))))=(pure (zah env.cells names acc):Sem _):=by
  intro names;induction names with
  | nil=>intro acc _; rfl
  | cons y r ih =>
   intro acc hy;obtain⟨n,k⟩:=y;rw [dR];cases hk:(k == bX) with
   | true =>
    obtain⟨c,hc⟩:=hy (n,k) aE (by simpa using hk);have nV:cellOf env n=pure c:=by
     unfold cellOf;have kI:env.cells.lookup n=some c:=hc;rw [kI]
    simp only [hk,if_true,nV];have e:=ih ((n,c) :: acc) fun y vP=>hy y (av _ vP)
    have kI:env.cells.lookup n=some c:=hc;simp only [zah,hk,if_true,kI,jL];exact e
   | false =>
    simp only [hk,bj,if_false];have e:=ih acc fun y vP=>hy y (av _ vP)
    simp only [zah,hk,bj,if_false];exact e
 have e:=go scope.names [] h;unfold closureFor;show (forIn scope.names [] _ >>= fun cs=>pure cs)=_
 first
  | (rw [e]; rfl)
  | (simp only []; rw [e]; rfl)
  | (have e':=e; simp at e' ⊢; exact e')
theorem zbN {cs:List (Str×Addr)}:∀ (names:List (Str×NameKind)) (acc:List (Str×Addr)),
  (∀ y∈names,y.2 = .free→∃ c,cs.lookup y.1=some c)→(∀ x c,acc.lookup x=some c→cs.lookup x=some c) →
  ∀ x c,(zah cs names acc).lookup x=some c→cs.lookup x=some c
 | [],acc,_,h,x,c,e=>h x c e
 | (n,k) :: r,acc,hy,h,x,c,e=>by
  have hr:∀ y∈r,y.2 = .free→∃ c,cs.lookup y.1=some c:=fun y vP=>hy y (av _ vP)
  unfold zah at e;cases hk:(k == bX) with
  | false =>
   rw [hk] at e;exact zbN r acc hr h x c e
  | true =>
   rw [hk] at e;obtain⟨d,hd⟩:=hy (n,k) aE (by simpa using hk);have xc:cs.lookup n=some d:=hd;refine zbN r _ hr (fun x c e'=>?_) x c e;rw [xc,jL,bx] at e';cases hx:(x == n) with
   | true =>
    rw [hx] at e';have:x=n:=by simpa using hx
    subst this;rw [xc];exact e'
   | false =>
    rw [hx] at e';exact h x c e'
theorem zb3 {cs:List (Str×Addr)}:∀ (names:List (Str×NameKind)) (acc:List (Str×Addr)) (x:Str),
  ((∃ c,acc.lookup x=some c)∨(x,bX)∈names)→∃ c,(zah cs names acc).lookup x=some c
 | [],acc,x,h=>by
  rcases h with h | h
  ·exact h
  ·cases h
 | (n,k) :: r,acc,x,h=>by
  unfold zah;cases hk:(k == bX) with
  | false =>
   refine zb3 r acc x ?_;rcases h with h | h
   ·exact .inl h
   ·rcases aC.mp h with h | h
    ·cases h;exact absurd hk #[D]
    ·exact .inr h
  | true =>
   refine zb3 r _ x ?_;cases hx:(x == n) with
   | true=>exact .inl ⟨_,by rw [bx,hx]⟩
   | false =>
    rcases h with ⟨c,h⟩ | h
    ·exact .inl ⟨c,by rw [bx,hx]; exact h⟩
    ·rcases aC.mp h with h | h
     ·cases h;simp at hx
     ·exact .inr h
theorem lookup_mem {α:Type}:∀ {l:List (Str×α)} {x:Str} {k:α},l.lookup x=some k→(x,k)∈l
 | [],x,k,h=>by simp at h
 | (n,j) :: r,x,k,h=>by
  rw [bx] at h;cases hx:(x == n) with
  | true =>
   rw [hx] at h;have:x=n:=by simpa using hx
   subst this;cases h;exact aE
  | false =>
   rw [hx] at h;exact av _ (lookup_mem h)
theorem zbr {env:Env}:∀ {names:List (Str×NameKind)} {x:Str},names.lookup x=some .free →
  (names.map fun (n,k)=>if (k == bX && env.scope.kind == .function && env.kindOf n == some .cell) then (n,cK) else (n,k)).lookup x=some .cell ∨
  (names.map fun (n,k)=>if (k == bX && env.scope.kind == .function && env.kindOf n == some .cell) then (n,cK) else (n,k)).lookup x=some .free
 | [],_,h=>by simp at h
 | (n,k) :: r,x,h=>by
  have ih:=@zbr env r x;simp only [bh];cases hx:x == n with
  | true =>
   simp only [bx,hx] at h; cases h;by_cases hc:(bX == bX && env.scope.kind == .function && env.kindOf n == some .cell)=true
   ·rw [if_pos hc]; left; simp only [bx,hx]
   ·rw [if_neg hc]; right; simp only [bx,hx]
  | false =>
   simp only [bx,hx] at h; rcases jm ((k == bX && env.scope.kind == .function && env.kindOf n == some .cell)=true) with hc | hc
   ·exact (by rw [if_pos hc]; simp only [bx,hx]; exact ih h)
   ·exact (by rw [if_neg hc]; simp only [bx,hx]; exact ih h)
theorem zcV {env:Env}:∀ {names:List (Str×NameKind)} {x:Str},
  ((names.map fun (n,k)=>if (k == bX && env.scope.kind == .function && env.kindOf n == some .cell) then (n,cK) else (n,k)).lookup x=some .cell ∨
  (names.map fun (n,k)=>if (k == bX && env.scope.kind == .function && env.kindOf n == some .cell) then (n,cK) else (n,k)).lookup x=some .free) →
  names.lookup x=some .free∨names.lookup x=some .cell
 | [],_,h=>by simp at h
 | (n,k) :: r,x,h=>by
  have ih:=@zcV env r x;simp only [bh] at h;cases hx:x == n with
  | true =>
   rcases jm ((k == bX && env.scope.kind == .function && env.kindOf n == some .cell)=true) with hc | hc
   ·have hk:k = .free:=by
     simp only [cA] at hc; simpa using hc.1.1
    subst hk;exact .inl (by simp only [bx,hx])
   ·rw [if_neg hc] at h;simp only [bx,hx] at h ⊢;rcases h with h | h
    ·exact .inr h
    ·exact .inl h
  | false =>
   rcases jm ((k == bX && env.scope.kind == .function && env.kindOf n == some .cell)=true) with hc | hc
   ·rw [if_pos hc] at h;simp only [bx,hx] at h ⊢;exact ih h
   ·rw [if_neg hc] at h;simp only [bx,hx] at h ⊢;exact ih h
theorem zfm:∀ (names:List (Str×NameKind)) (n:Nat) (acc:List (Str×Addr)) (x:Str),(x,cK)∉names→(cellsFrom n names acc).lookup x=acc.lookup x
 | [],_,_,_,_=>rfl
 | (y,k) :: r,n,acc,x,h=>by
  have hr:(x,cK)∉r:=fun z=>h (av _ z)
  unfold cellsFrom;split
  ·rename_i hk
   have rn:k = .cell:=by simpa using hk
   rw [zfm r _ _ x hr,bx];cases hx:(x == y) with
   | true =>
    have:x=y:=by simpa using hx
    subst this;subst rn;exact absurd aE h
   | false=>rfl
  ·exact zfm r _ _ x hr
theorem zfn:∀ (names:List (Str×NameKind)) (n:Nat) (acc:List (Str×Addr)) (x:Str),(x,cK)∈names→∃ c,(cellsFrom n names acc).lookup x=some c∧n≤c
 | (y,k) :: r,n,acc,x,h=>by
  by_cases hr:(x,cK)∈r
  ·unfold cellsFrom;split
   ·obtain⟨c,e,l⟩:=zfn r (n+1) ((y,n) :: acc) x hr;exact⟨c,e,#[O]⟩
   ·exact zfn r n acc x hr
  ·rcases aC.mp h with e | e
   ·cases e;unfold cellsFrom;rw [if_pos #[D],zfm r _ _ _ hr,bx,beq_self_eq_true];exact⟨n,rfl,af _⟩
   ·exact absurd e hr
structure CO (h:Heap) (lo:Nat) (old cs:List (Str×Addr)):Prop where
 each:∀ x c,cs.lookup x=some c→(h.IsCell c none∧lo≤c)∨(old.lookup x=some c∧c < lo)
 inj:∀ x y c,cs.lookup x=some c→cs.lookup y=some c→x=y
theorem zjR {lo:Nat} {old:List (Str×Addr)}:∀ (names:List (Str×NameKind)) (h:Heap) (acc:List (Str×Addr)),CO h lo old acc→lo≤h.objs.size→CO (pushCells h names) lo old (cellsFrom h.objs.size names acc)
 | [],_,_,a,_=>a
 | (y,k) :: r,h,acc,a,hl=>by
  unfold pushCells cellsFrom;split
  ·have lt:∀ x c,acc.lookup x=some c→c < h.objs.size:=fun x c e=>(a.each x c e).elim (fun z=>z.1.lt) fun z=>bb z.2 hl
   have key:∀ x c,List.lookup x ((y,h.objs.size) :: acc)=some c→(x=y∧c=h.objs.size)∨acc.lookup x=some c:=fun x c e=>by
    rw [bx] at e;cases hx:(x == y) with
    | true =>
     rw [hx] at e;exact .inl ⟨by simpa using hx,(aQ e).symm⟩
    | false =>
     rw [hx] at e;exact .inr e
   have:=zjR (lo:=lo) (old:=old) r (h.push { cls:=.type "cell",data:=.cell none }) ((y,h.objs.size) :: acc) ⟨fun x c e=>?_,fun x z c e1 e2=>?_⟩ (by rw [bK]; lia)
   ·rw [bK] at this;exact this
   ·rcases key x c e with ⟨_,rfl⟩ | e
    ·exact .inl ⟨⟨_,aH _ rfl,rfl⟩,hl⟩
    ·rcases a.each x c e with z | z
     ·exact .inl ⟨z.1.keeps fun b o e=>ai _ e,z.2⟩
     ·exact .inr z
   ·rcases key x c e1 with ⟨p1,q1⟩ | f1 <;> rcases key z c e2 with ⟨p2,q2⟩ | f2
    ·exact p1.trans p2.symm
    ·exact absurd (lt _ _ f2) (by rw [q1]; exact cj _)
    ·exact absurd (lt _ _ f1) (by rw [q2]; exact cj _)
    ·exact a.inj x z c f1 f2
  ·exact zjR r h acc a hl
theorem ziN {M:Model} {A:Around} {E:Value→Shared→Prop} {s:Shared} {scope:Scope} {globals:Addr} {closure:List (Str×Addr)} {qual:Str} {env:Env} {Q:Env→Shared→Prop}
  (h:Q (newEnv scope s.heap.objs.size globals (cellsFrom (s.heap.objs.size+1) scope.names closure) qual none .none (some env) builtinsNs) { s with heap:=pushCells (s.heap.push { cls:=.type "dict",data:=.dict #[] }) scope.names }) :
  wpAny M A (newFunctionEnv scope globals closure [] qual none .none (some env)) Q E s:=by
 (simp only [newFunctionEnv,jn,if_true])
 (refine ae (wpAny_alloc ?_))
 (refine ae (wpAny_layCells _ (fun name kind cells=>by cases hkc:kind == cK <;> simp [hkc]) _ _ _ _ ?_))
 rw [show ({ s with heap:=s.heap.push { cls:=.type "dict",data:=.dict #[] } }:Shared).heap.objs.size=s.heap.objs.size+1 from bK ..]
 (exact ae (ak (ak h)))
abbrev zF (X:Cx) (N':List Str) (scope:Scope) (s₃:Shared) (H₃:Hp) (ex:List Addr) (ku:List (Addr×Obj)):Cx :=
 { X with N:=N',s₀:=s₃,H₀:=H₃,env:=compEnvC scope (cellsFrom (s₃.heap.objs.size+1) scope.names (zah X.env.cells scope.names [])) s₃.heap.objs.size X.env,outer:=X.stack,stack:=X.stack,ex:=ex,fn:=fun x=>scope.names.lookup x == some .cell,pn:=X.pn++ku,xe:=fun _ _=>False }
def zgW (ifs:List Expr) (env:Env):Sem Bool :=
 forIn ifs true fun c r=>if r=true then do let ok ← isTrue c env (eval c env); pure (cp ok) else pure (cp r)
def zcW (X:Cx) (ifs:List Expr) (t:TT):Prop :=
 ∀ (ku:List (Addr×Obj)) (s:Shared) (σ:St) (H:Hp) (Q:Bool→Hp→Prop),Inv X ku σ H s→t σ H Q→wpAny (model X.prog X.w) X.A (zgW ifs X.env) (TP X ku σ Q) X.xe s
def zmG:TT:=fun _ H Q=>Q true H
theorem zG {X:Cx}:zcW X [] zmG:=fun _ _ _ H _ I h=>ak ⟨H,I,h⟩
theorem zbl {X:Cx} {c:Expr} {t:TT} (h:PT X c t):zcW X [c] t:=by
 intro ku s σ H Q I hw;unfold zgW;rw [dR];simp only [if_true];exact ae (ae (thn (h ku s σ H _ I hw) fun b s1 q=>ak (ak q)))
structure CompSc (X:Cx) (N':List Str) (ix:List (Option Nat)) (scope:Scope):Prop where
 kind:scope.kind = .function
 cells:∀ y∈scope.names,y.2 = .cell→scope.names.lookup y.1=some .cell
 names:∀ y∈scope.names,y.2 = .local→scope.names.lookup y.1=some .local
 free:∀ y∈scope.names,y.2 = .free→X.env.kindOf y.1=some .cell∨X.env.kindOf y.1=some .free
 len:N'.length=ix.length
 cap:∀ j i:Nat,ix[j]? = some (some i)→∃ x,N'[j]? = some x∧X.N[i]? = some x∧scope.names.lookup x=some .free
def zhF (xg:Scope) (oN N':List Str) (ix:List (Option Nat)) (scope:Scope):Bool :=
 (scope.kind == .function) && (scope.names.all fun y=>y.2 != .cell || scope.names.lookup y.1 == some .cell) && (scope.names.all fun y=>y.2 != .local || scope.names.lookup y.1 == some .local) &&
 (scope.names.all fun y=>y.2 != .free || (xg.names.lookup y.1 == some .cell || xg.names.lookup y.1 == some .free)) && (N'.length == ix.length) &&
 ((aJ ix.length).all fun j=>match ix[j]? with
  | some (some i)=>(match N'[j]? with
   | some x=>oN[i]? == some x && scope.names.lookup x == some .free
   | none=>false)
  | _=>true)
theorem CompSc.of {X:Cx} {N':List Str} {ix:List (Option Nat)} {scope:Scope} (xg:Scope) (oN:List Str) (h1:X.env.scope=xg) (h2:X.N=oN) (hb:zhF xg oN N' ix scope=true):CompSc X N' ix scope:=by
 unfold zhF at hb;simp only [cA,cN] at hb;obtain⟨⟨⟨⟨⟨a,b⟩,c⟩,d⟩,e⟩,f⟩:=hb;refine⟨?_,fun y hy hl=>?_,fun y hy hl=>?_,fun y hy hf=>?_,by simpa using e,fun j i hj=>?_⟩
 ·revert a
  cases scope.kind <;> first | (intro _; rfl) | (intro h; exact absurd h #[D])
 ·have:=b y hy;rw [hl] at this;simpa using this
 ·have:=c y hy;rw [hl] at this;simpa using this
 ·have:=d y hy;rw [hf] at this;have e1:X.env.kindOf y.1=xg.names.lookup y.1:=by rw [← h1]; rfl
  rw [e1];simpa using this
 ·have kU:j < ix.length:=(az.mp hj).1;have:=f j (bd.mpr kU);rw [hj] at this;cases hN:N'[j]? with
  | none =>
   rw [hN] at this;simp at this
  | some x =>
   rw [hN] at this;refine⟨x,rfl,?_⟩;rw [h2];simpa using this
def zcX (ix:List (Option Nat)) (σ:St):St:=ix.map fun o=>match o with
 | none=>none
 | some i=>(σ[i]?).join
theorem Inv.track {X:Cx} {ku:List (Addr×Obj)} {σ:St} {H:Hp} {s:Shared} {D:Addr} {o:HO} (I:Inv X ku σ H s) (hn:H D=none) (hs:X.s₀.heap.objs.size≤D) (hL:X.env.locals≠D)
  (hC:∀ x c,X.env.cells.lookup x=some c→c≠D) (hp:∀ p∈X.pn++ku,p.1≠D) (ok:zaD X.prog X.w (kB H D o) s.heap D o):Inv X ku σ (kB H D o) s:=by
 have ne:∀ b u,H b=some u→b≠D:=fun b u e=>zQ e hn
 refine⟨I.ok,I.os,I.bare,⟨I.base.keep,I.base.slot,fun b u e n hx=>?_,I.base.there,fun b xs e=>?_,fun b u xs e=>?_,fun b ps e=>?_⟩,I.loc,I.cell,?_,fun x c e=>?_,fun p pT=>?_,fun b u e=>?_,I.len⟩
 ·have:b≠D:=bp (bb (aI e) hs);rw [zr this];exact I.base.free b u e n hx
 ·have:=I.base.tups b xs e;rw [zr (ne b _ this)];exact this
 ·have:=I.base.frzs b u xs e;rw [zr (ne b _ this)];exact this
 ·obtain⟨more,q⟩:=I.base.tbls b ps e;exact⟨more,by rw [zr (ne b _ q)]; exact q⟩
 ·rw [zr hL];exact I.free
 ·rw [zr (hC x c e)];exact I.freeC x c e
 ·obtain⟨a1,a2,a3⟩:=I.pin p pT;exact⟨a1,by rw [zr (hp p pT)]; exact a2,a3⟩
 ·by_cases hb:b=D
  ·subst hb;rw [zb] at e;cases e;exact ok
  ·rw [zr hb] at e;exact (I.hok b u e).stay (fun c v _ q=>q) (fun c q=>by rw [zr (ne c _ q)]; exact q) fun c xs q=>by rw [zr (ne c _ q)]; exact q
def cGo (g:TG) (ts:TT) (te:TE) (σ0:St) (J:It) (Q:VK) (H1:Hp):Prop :=
 ∃ W:Nat→Nat→List V→Hp→Prop,(∃ m,W 0 m [] H1)∧∀ i m ys H,W i m ys H →
  (J.stop i H∧∀ D,H D=none→Q (.ref D) (kB H D (.lst ys))) ∨
  (J.go i H∧∃ N:List V→Hp→Prop,(∀ lJ H',N lJ H'→∃ m',m' < m∧W (i+1) m' lJ H')∧∀ x H',J.yld i H x H'→g x σ0 H' fun σ2 H2=>ts σ2 H2 fun b H3 =>
   if b=true then te σ2 H3 fun y H4=>ys.length < sizeLine∧N (ys++[y]) H4 else N ys H3)
def zma (ix:List (Option Nat)) (wi:TI) (g:TG) (ts:TT) (te:TE):TE:=fun σ H Q=>wi σ H fun J H1=>cGo g ts te (zcX ix σ) J Q H1
theorem zdN {J:It} {n:Nat} {g:TG} {ts:TT} {te:TE} {σ0:St} {Q:VK} {H:Hp} (Pv:Nat→List V→Hp→Prop) (h0:Pv 0 [] H) (uA:∀ i ys H,i < n→Pv i ys H→J.go i H) (oZ:∀ ys H,Pv n ys H→J.stop n H)
  (hs:∀ i x ys H H',i < n→Pv i ys H→J.yld i H x H'→g x σ0 H' fun σ2 H2=>ts σ2 H2 fun b H3=>if b=true then te σ2 H3 fun y H4=>ys.length < sizeLine∧Pv (i+1) (ys++[y]) H4 else Pv (i+1) ys H3)
  (hd:∀ ys H D,Pv n ys H→H D=none→Q (.ref D) (kB H D (.lst ys))):cGo g ts te σ0 J Q H:=by
 refine⟨fun i m ys H=>m=n - i∧i≤n∧Pv i ys H,⟨n,#[M],bu _,h0⟩,?_⟩;rintro i m ys H ⟨rfl,hi,p⟩;by_cases kU:i < n
 ·exact .inr ⟨uA i ys H kU p,Pv (i+1),fun lJ H' p'=>⟨n - (i+1),#[O],rfl,kU,p'⟩,fun x H' y=>hs i x ys H H' kU p y⟩
 ·have e:i=n:=by lia
  subst e;exact .inl ⟨oZ ys H p,fun D hD=>hd ys H D p hD⟩
theorem zmH {J:It} {n:Nat} {g:TG} {tb:TS} {D:Ends} {σ:St} {H:Hp} (Pv:Nat→St→Hp→Prop) (h0:Pv 0 σ H) (uA:∀ i σ H,i < n→Pv i σ H→J.go i H) (oZ:∀ σ H,Pv n σ H→J.stop n H)
  (hs:∀ i x σ H H',i < n→Pv i σ H→J.yld i H x H'→g x σ H' fun σ2 H2=>tb { D with nx:=Pv (i+1),ct:=Pv (i+1),bk:=D.nx } σ2 H2) (hd:∀ σ H,Pv n σ H→D.nx σ H) :
  ∃ W:Nat→Nat→St→Hp→Prop,(∃ m,W 0 m σ H)∧∀ i m σ H,W i m σ H →
   (J.stop i H∧D.nx σ H)∨(J.go i H∧∃ N:St→Hp→Prop,(∀ σ' H',N σ' H'→∃ m',m' < m∧W (i+1) m' σ' H')∧∀ x H',J.yld i H x H'→g x σ H' fun σ2 H2=>tb { D with nx:=N,ct:=N,bk:=D.nx } σ2 H2):=by
 refine⟨fun i m σ H=>m=n - i∧i≤n∧Pv i σ H,⟨n,#[M],bu _,h0⟩,?_⟩;rintro i m σ H ⟨rfl,hi,p⟩;by_cases kU:i < n
 ·exact .inr ⟨uA i σ H kU p,Pv (i+1),fun σ' H' p'=>⟨n - (i+1),#[O],rfl,kU,p'⟩,fun x H' y=>hs i x σ H H' kU p y⟩
 ·have e:i=n:=by lia
  subst e;exact .inl ⟨oZ σ H p,hd σ H p⟩
end L2
end
section
namespace L2
open PySem
abbrev Lp (J:It) (g:TG) (tb:TS) (D:Ends) (σ:St) (H:Hp):Prop:=∃ W:Nat→Nat→St→Hp→Prop,(∃ m,W 0 m σ H)∧∀ i m σ H,W i m σ H→(J.stop i H∧D.nx σ H)∨(J.go i H∧∃ N:St→Hp→Prop,(∀ σ' H',N σ' H'→∃ m',m' < m∧W (i+1) m' σ' H')∧∀ x H',J.yld i H x H'→g x σ H' fun σ2 H2=>tb { D with nx:=N,ct:=N,bk:=D.nx } σ2 H2)
abbrev Ends.l (D:Ends) (Pv:Nat→St→Hp→Prop) (i:Nat):Ends:={ D with nx:=Pv (i+1),ct:=Pv (i+1),bk:=D.nx }
section
variable {g:TG} {tb:TS} {D:Ends} {σ:St} {H:Hp} (Pv:Nat→St→Hp→Prop) {n:Nat} {K:ag} {a:Addr} {xs:List V}
theorem zfo {J:It} (h0:Pv 0 σ H) (uA:∀ i σ H,i < n→Pv i σ H→J.go i H) (oZ:∀ σ H,Pv n σ H→J.stop n H) (hs:let N:=D.l Pv; let T:=tb; ∀ i x σ H H',i < n→Pv i σ H→J.yld i H x H'→g x σ H' (T (N i))) (hd:∀ σ H,Pv n σ H→D.nx σ H):Lp J g tb D σ H:=zmH Pv h0 uA oZ hs hd
theorem zaQ (h0:Pv 0 σ H) (hl:∀ i σ H,i≤xs.length→Pv i σ H→ky K H a xs) (hs:let N:=D.l Pv; let T:=tb; ∀ i x σ H,xs[i]? = some x→Pv i σ H→g x σ H (T (N i))) (hd:∀ σ H,Pv xs.length σ H→D.nx σ H):Lp (Itl K a) g tb D σ H:=zjC Pv h0 hl hs hd
theorem zjS (h0:Pv 0 σ H) (hl:∀ i σ H,i≤xs.length→Pv i σ H→kF K H a xs) (hs:let N:=D.l Pv; let T:=tb; ∀ i x σ H,xs[i]? = some x→Pv i σ H→g x σ H (T (N i))) (hd:∀ σ H,Pv xs.length σ H→D.nx σ H):Lp (Itt K a) g tb D σ H:=zk1 Pv h0 hl hs hd
theorem zec {lo:Int} (h0:Pv 0 σ H) (hs:let N:=D.l Pv; let T:=tb; ∀ i σ H,i < n→Pv i σ H→g (.int (lo+i)) σ H (T (N i))) (hd:∀ σ H,Pv n σ H→D.nx σ H):Lp (Itr lo n) g tb D σ H:=ziE Pv h0 hs hd
end
theorem zH {J:It} {n:Nat} {g:TG} {ts:TT} {te:TE} {σ0:St} {Q:VK} {H:Hp} (Pv:Nat→List V→Hp→Prop) (h0:Pv 0 [] H) (uA:∀ i ys H,i < n→Pv i ys H→J.go i H) (oZ:∀ ys H,Pv n ys H→J.stop n H)
  (hs:let S:=σ0; let T:=ts; let E:=te; ∀ i x ys H H',i < n→Pv i ys H→J.yld i H x H'→g x S H' fun σ2 H2=>T σ2 H2 fun b H3=>if b=true then E σ2 H3 fun y H4=>ys.length < sizeLine∧Pv (i+1) (ys++[y]) H4 else Pv (i+1) ys H3)
  (hd:∀ ys H D,Pv n ys H→H D=none→Q (.ref D) (kB H D (.lst ys))):cGo g ts te σ0 J Q H:=zdN Pv h0 uA oZ hs hd
end L2
end
section
namespace L2
end L2
end
section
namespace L2
open PySem PySem.Spec PyProof.Rows
abbrev TM:=List V→St→Hp→(List V→Hp→Prop)→Prop
abbrev zdL (kz:List Value) (nn:Nat):Obj:={ cls:=.type "list",data:=.seq kz.toArray nn }
structure AccAt (Y:Cx) (ku:List (Addr×Obj)) (H:Hp) (s:Shared) (D:Addr) (ys:List V) (kz:List Value) (nn:Nat):Prop where
 fp:zcg Y ku H D
 here:s.heap.get? D=some (zdL kz nn)
 vals:zM ys kz
 len:ys.length≤sizeLine
def zfp (js:List Nat) (σ:St):Prop:=∀ j∈js,∀ v,σ[j]?≠some (some v)
def Kp (js:List Nat) (σ σ2:St):Prop:=σ2.length=σ.length∧∀ j,j∉js→σ2[j]? = σ[j]?
theorem Kp.refl {js:List Nat} {σ:St}:Kp js σ σ:=⟨rfl,fun _ _=>rfl⟩
theorem Kp.set {js:List Nat} {σ σ2:St} {i:Nat} {v:Option V} (hi:i∈js) (h:Kp js σ σ2):Kp js σ (σ2.set i v):=by
 refine⟨by rw [fA]; exact h.1,fun j hj=>?_⟩;rw [cT (fun z=>hj (by rw [← z]; exact hi))];exact h.2 j hj
def GS (js:List Nat) (g:TG):Prop:=∀ (σ σ1:St) (x:V) (H:Hp) (Q:St→Hp→Prop),Kp js σ σ1→g x σ1 H Q→g x σ1 H fun σ2 H2=>Kp js σ σ2∧Q σ2 H2
def GSs (js:List Nat) (g:TGs):Prop:=∀ (σ σ1:St) (xs:List V) (H:Hp) (Q:St→Hp→Prop),Kp js σ σ1→g xs σ1 H Q→g xs σ1 H fun σ2 H2=>Kp js σ σ2∧Q σ2 H2
theorem zdO {js:List Nat} {i:Nat} (hi:i∈js):GS js (zbc i):=fun σ σ1 x H Q hw h=>⟨hw.set hi,h⟩
theorem zhG {js:List Nat}:GSs js ziC:=fun σ σ1 xs H Q hw h=>⟨h.1,hw,h.2⟩
theorem zed {js:List Nat} {i:Nat} {u:TGs} (hi:i∈js) (h2:GSs js u):GSs js (zcE (zbc i) u):=fun σ σ1 xs H Q hw h=>by
 obtain⟨v,r,e,h⟩:=h;exact⟨v,r,e,h2 σ _ r H Q (hw.set hi) h⟩
theorem zjT {js:List Nat} {K:ag} {n:Nat} {t:TGs} (h:GSs js t):GS js (zgP K n t):=fun σ σ1 x H Q hw hg=>by
 obtain⟨a,xs,e,hq,hl,hg⟩:=hg;exact⟨a,xs,e,hq,hl,h σ σ1 xs H Q hw hg⟩
theorem Inv.fewer {X:Cx} {ku nU:List (Addr×Obj)} {σ:St} {H:Hp} {s:Shared} (I:Inv X ku σ H s) (h:∀ p∈nU,p∈ku):Inv X nU σ H s :=
 I.pins_of fun p hp=>I.pin p (aG _ (h p hp))
section
variable {Y:Cx} {ku:List (Addr×Obj)} {σ:St} {H:Hp} {s:Shared} {D:Addr} {ys:List V} {kz:List Value} {nn:Nat}
theorem AccAt.pin (a:AccAt Y ku H s D ys kz nn) (I:Inv Y ku σ H s):Inv Y (ku++[(D,zdL kz nn)]) σ H s :=
 I.pins_of fun p hp=>by
  rcases (aL.mp hp) with hp | hp
  ·exact I.pin p (aG _ hp)
  ·obtain rfl:p=(D,zdL kz nn):=by simpa using hp
   obtain⟨a0,a1,a2,_⟩:=a.fp;exact⟨a.here,a0,a1,a2,fun v z=>by cases z⟩
theorem AccAt.back {nU:List (Addr×Obj)} {σ':St} {H':Hp} {s':Shared} (a:AccAt Y ku H s D ys kz nn) (I:Inv Y nU σ' H' s') (hm:(D,zdL kz nn)∈nU):AccAt Y ku H' s' D ys kz nn:=by
 have p:=I.pin (D,zdL kz nn) (aG _ hm);exact⟨⟨p.2.1,a.fp.2⟩,p.1,a.vals,a.len⟩
end
def PM (Y:Cx) (D:Addr) (js:List Nat) (mk:Sem Fin→Sem Fin) (tm:TM):Prop :=
 ∀ (last:Sem Fin) (ku:List (Addr×Obj)) (s:Shared) (σ:St) (H:Hp) (ys:List V) (kz:List Value) (nn:Nat) (Q:List V→Hp→Prop) (Φ:Fin→Shared→Prop),Inv Y ku σ H s→AccAt Y ku H s D ys kz nn→zfp js σ→tm ys σ H Q →
  (∀ (s':Shared) (lJ:List V) (its':List Value) (vQ:Nat) (H':Hp),Inv Y ku σ H' s'→AccAt Y ku H' s' D lJ its' vQ→Q lJ H'→wpAny (model Y.prog Y.w) Y.A last Φ (fun _ _=>False) s') →
  wpAny (model Y.prog Y.w) Y.A (mk last) Φ (fun _ _=>False) s
def ze2 (elt:Expr) (acc:Value) (env:Env) (last:Sem Fin):Sem Fin:=(eval elt env >>= fun x=>call (.builtin "list.append") [acc,x] >>= fun _=>pure ()) >>= fun _=>last
def zhH (e iter:Expr) (d:Nat) (acc:Value) (env:Env) (last:Sem Fin):Sem Fin :=
 eval iter env >>= fun x=>standAt iter.pos >>= fun _=>foldedSetIterable iter env x >>= fun x=>holding [x] (pyIter x) >>= fun vI=>runOwn (.compStart e d vI acc env) env >>= fun _=>last
def zhI (te:TE):TM:=fun ys σ H Q=>te σ H fun y H4=>ys.length < sizeLine∧Q (ys++[y]) H4
def cIn (g:TG) (ts:TT) (tm:TM) (σ:St) (J:It) (Q:List V→Hp→Prop) (ys:List V) (H1:Hp):Prop :=
 ∃ W:Nat→Nat→List V→Hp→Prop,(∃ m,W 0 m ys H1)∧∀ i m ys H,W i m ys H →
  (J.stop i H∧Q ys H) ∨
  (J.go i H∧∃ N:List V→Hp→Prop,(∀ lJ H',N lJ H'→∃ m',m' < m∧W (i+1) m' lJ H')∧∀ x H',J.yld i H x H'→g x σ H' fun σ2 H2=>ts σ2 H2 fun b H3 =>
   if b=true then tm ys σ2 H3 N else N ys H3)
def zhJ (wi:TI) (g:TG) (ts:TT) (tm:TM):TM:=fun ys σ H Q=>wi σ H fun J H1=>cIn g ts tm σ J Q ys H1
def zfq (ix:List (Option Nat)) (wi:TI) (g:TG) (ts:TT) (tm:TM):TE:=fun σ H Q=>wi σ H fun J H1=>cIn g ts tm (zcX ix σ) J (fun ys H'=>∀ D,H' D=none→Q (.ref D) (kB H' D (.lst ys))) [] H1
theorem thx {α:Type} {X:Cx} {m:Sem α} {P Q:α→Shared→Prop} {E:Value→Shared→Prop} {s:Shared} (hx:X.xe=fun _ _=>False) (h:wpAny (model X.prog X.w) X.A m P X.xe s) (k:∀ a s',P a s'→Q a s'):wpAny (model X.prog X.w) X.A m Q E s :=
 cJ h k fun _ _ z=>by rw [hx] at z; exact z.elim
theorem zgX {Y:Cx} {D:Addr} {elt:Expr} {te:TE} (hx:Y.xe=fun _ _=>False) (he:PE Y elt te):PM Y D [] (ze2 elt (.ref D) Y.env) (zhI te):=by
 intro last ku s σ H ys kz nn Q Φ I a no h k;unfold ze2;refine ae (ae (thx hx (he (ku++[(D,zdL kz nn)]) s σ H _ (a.pin I) h) fun yv s1 ⟨y,H1,I1,r1,hz,q1⟩=>ae ?_));have a1:=a.back I1 (aG _ aE);have J1:Inv Y ku σ H1 s1:=I1.fewer fun p hp=>aP _ hp
 have xY:=a1.vals.length;refine dQ jk ⟨_,a1.here,rfl⟩ i5 (iQ _ _) (jv D kz.toArray nn yv (by rw [au]; lia)) ⟨a1.here,?_⟩;refine ak ?_;have q:=jJ a1.here (·.push yv);have k10:∀ b o,b≠D→s1.heap.get? b=some o→(s1.heap.update D (cW (·.push yv))).get? b=some o:=fun b o hb e=>(fi s1.heap (cW (·.push yv)) (dz hb)).trans e
 obtain⟨b0,b1,b2,b3,b4,b5⟩:=a1.fp;have I11:Inv Y ku σ H1 { s1 with heap:=s1.heap.update D (cW (·.push yv)) }:=J1.turned (t':=s1.toks) k10 b0 b1 b3 b4 b5;have e1:kz.toArray.push yv=(kz++[yv]).toArray:=by simp
 rw [e1] at q;refine k _ (ys++[y]) (kz++[yv]) _ H1 I11 ⟨a1.fp,q,a1.vals.append (.cons r1 .nil),?_⟩ q1;rw [ap,d8];lia
section
variable {Y:Cx} {D:Addr} {js js':List Nat} {elt:Expr} {gens:List Comprehension} {scope:Scope} {pos:Pos} {d:Nat} {tg:Expr} {ifs:List Expr} {p:Pos} {mk:Sem Fin→Sem Fin} {g:TG} {ts:TT} {tm:TM}
def zb4 (tg:Expr) (ifs:List Expr) (p:Pos) (mk:Sem Fin→Sem Fin) (c:Code) (it:Value) (env:Env):Sem Fin :=
 standAt p >>= fun _=>pyNext it >>= fun r=>match r with
  | none=>pure (.done .next)
  | some v=>letOwnedTupleGo tg it v >>= fun _=>assign tg env v >>= fun _=>zgW ifs env >>= fun ok=>if ok=true then mk (again c) else again c
theorem zhK (hc:Y.calm=true) (hx:Y.xe=fun _ _=>False) (sE:GS js g) (nA:∀ j∈js,j∉js') (hg:PG Y tg g) (ht:zcW Y ifs ts) (hm:PM Y D js' mk tm)
  (ng:∀ it,compTurn (.ListComp elt gens scope pos) d it (.ref D) Y.env=zb4 tg ifs p mk (.compLoop (.ListComp elt gens scope pos) d it (.ref D) Y.env) it Y.env)
  {ku:List (Addr×Obj)} {σ:St} {H2:Hp} {s2:Shared} {it:Addr} {fp:List Addr} {tn:Nat→Heap→Prop} {J:It} {Q:List V→Hp→Prop} {R:Result→Shared→Prop} {ys:List V} {kz:List Value} {nn:Nat}
  (I2:Inv Y ku σ H2 s2) (a2:AccAt Y ku H2 s2 D ys kz nn) (no:zfp (js++js') σ) (T:Turn Y.prog Y.w Y.K tg J fp it tn) (lH:tn 0 s2.heap) (f2:∀ b∈fp,zcg Y ku H2 b) (fD:∀ b∈fp,b≠D) (q:cIn g ts tm σ J Q ys H2)
  (hR:∀ (s':Shared) (lJ:List V) (its':List Value) (vQ:Nat) (H':Hp),Inv Y ku σ H' s'→AccAt Y ku H' s' D lJ its' vQ→Q lJ H'→R (.ok .next) s') :
  codeAny (model Y.prog Y.w) Y.A (.compLoop (.ListComp elt gens scope pos) d (.ref it) (.ref D) Y.env) R s2:=by
 obtain⟨W,⟨m0,w0⟩,turn⟩:=q;have xh:∀ {H':Hp} {kz:List Value} {nn:Nat},(∀ b∈fp,H' b=none)→∀ b∈fp,zcg Y (ku++[(D,zdL kz nn)]) H' b:=fun {H' kz nn} hn b hb=>by
  obtain⟨_,a1,a2,a3,a4,a5⟩:=f2 b hb;refine⟨hn b hb,a1,a2,a3,a4,fun p hp=>?_⟩;rcases (aL.mp hp) with hp | hp
  ·exact a5 p (aP _ hp)
  ·rcases (aL.mp hp) with hp | hp
   ·exact a5 p (aG _ hp)
   ·obtain rfl:p=(D,zdL kz nn):=by simpa using hp
    exact (fD b hb).symm
 refine codeAny_loop rfl (fun n s'=>∃ i ys H' kz nn,Inv Y ku σ H' s'∧tn i s'.heap∧(∀ b∈fp,H' b=none)∧AccAt Y ku H' s' D ys kz nn∧W i n ys H') ?_ m0
  ⟨0,ys,H2,kz,nn,I2,lH,fun b hb=>(f2 b hb).1,a2,w0⟩
 rintro n s5 ⟨i,ys,H5,kz,nn,I5,xf,fr5,a5,w5⟩;show wpAny _ Y.A ((compTurn (.ListComp elt gens scope pos) d (.ref it) (.ref D) Y.env).onRaise (fun x=>do noteFrame x Y.env; theTreesLotGoes x)) _ _ s5;refine wpAny_noted ?_;rw [ng];unfold zb4;have I5p:=a5.pin I5
 (refine ae (eA (ae ?_)))
 rcases turn i n ys H5 w5 with ⟨stop,qn⟩ | ⟨go,N,hN,step⟩
 ·refine cJ (T.done Y rfl rfl rfl hc i _ s5 _ H5 (fun _ _=>False) I5p (xh fr5) xf stop) (fun r s6 ⟨hr,I6⟩=>?_) fun _ _ z=>z.elim
  subst hr;exact ak (hR s6 ys kz nn H5 (I6.fewer fun p hp=>aP _ hp) (a5.back I6 (aG _ aE)) qn)
 ·refine cJ (T.item Y rfl rfl rfl hc i _ s5 _ H5 (fun _ _=>False) I5p (xh fr5) xf go) (fun r s6 ⟨u,hr,h6⟩=>?_) fun _ _ z=>z.elim
  subst hr;refine ae (cJ h6 (fun _ s7 ⟨x,H7,I7,r7,y7,Cb,fr7⟩=>?_) fun _ _ z=>z.elim);have I7':=I7.pinned (xh fr7) (T.obj _ _ Cb);refine ae (thx hx (hg _ s7 _ H7 x u _ I7' r7 (sE σ σ x H7 _ Kp.refl (step x H7 y7))) fun _ s8 ⟨σ8,H8,I8,kp,q8⟩=>?_);refine ae (thx hx (ht _ s8 σ8 H8 _ I8 q8) fun ok s9 ⟨H9,I9,q9⟩=>?_);have mD:(D,zdL kz nn)∈(ku++[(D,zdL kz nn)])++zch fp s7.heap:=aP _ (aG _ aE);have a9:=a5.back I9 mD;have K9:Inv Y (ku++zch fp s7.heap) σ8 H9 s9:=I9.fewer fun p hp=>(aL.mp hp).elim (fun z=>aP _ (aP _ z)) fun z=>aG _ z
  have wk:∀ (j:Nat) v,σ[j]? = some (some v)→σ8[j]? = some (some v):=fun j v e=>by
   have hj:j∉js:=fun z=>no j (aP _ z) v e
   rw [kp.2 j hj];exact e
  have back:∀ {H':Hp} {s':Shared},Inv Y (ku++zch fp s7.heap) σ8 H' s'→Inv Y ku σ H' s'∧tn (i+1) s'.heap∧∀ b∈fp,H' b=none:=fun {H' s'} I'=>by
   refine⟨(I'.fewer fun p hp=>aP _ hp).weak kp.1.symm wk,T.keep _ _ _ Cb fun b hb o e=>(I'.pin (b,o) (aG _ (aG _ (zb0 hb e)))).1,fun b hb=>?_⟩;obtain⟨o,e,d⟩:=T.obj _ _ Cb b hb;exact (I'.pin (b,o) (aG _ (aG _ (zb0 hb e)))).2.1
  cases ok with
  | false =>
   rw [if_neg aO] at q9 ⊢;obtain⟨m',Cc,w9⟩:=hN _ _ q9;obtain⟨b1,b2,b3⟩:=back K9;exact ak ⟨rfl,m',Cc,i+1,ys,H9,kz,nn,b1,b2,b3,a9,w9⟩
  | true =>
   rw [if_pos rfl] at q9 ⊢;have a9':AccAt Y (ku++zch fp s7.heap) H9 s9 D ys kz nn:=by
    obtain⟨b0,b1,b2,b3,b4,b5⟩:=a9.fp;refine⟨⟨b0,b1,b2,b3,b4,fun p hp=>?_⟩,a9.here,a9.vals,a9.len⟩;rcases (aL.mp hp) with hp | hp
    ·exact b5 p (aP _ hp)
    ·rcases (aL.mp hp) with hp | hp
     ·exact b5 p (aG _ hp)
     ·exact fD _ (zeU hp).1
   have no':zfp js' σ8:=fun j hj v e=>by
    have oj:j∉js:=fun z=>nA j z hj
    rw [kp.2 j oj] at e;exact no j (aG _ hj) v e
   refine cJ (hm (again _) _ s9 σ8 H9 ys kz nn N (fun fin s'=>match fin with | .done f=>R (.ok f) s' | .again c'=>c'=_∧∃ m,m < n∧_) K9 a9' no' q9 fun s' lJ its' vQ H' I' a' n'=>?_) (fun _ _ z=>z) fun _ _ z=>z.elim
   obtain⟨m',Cc,w'⟩:=hN _ _ n';obtain⟨b1,b2,b3⟩:=back I';obtain⟨c0,c1,c2,c3,c4,c5⟩:=a'.fp;refine ak ⟨rfl,m',Cc,i+1,lJ,H',its',vQ,b1,b2,b3,⟨⟨c0,c1,c2,c3,c4,fun p hp=>?_⟩,a'.here,a'.vals,a'.len⟩,w'⟩;rcases (aL.mp hp) with hp | hp
   ·exact c5 p (aP _ hp)
   ·exact c5 p (aG _ (aP _ hp))
theorem zf4 {prog:Program} {w:World} {A:Around} {R:Result→Shared→Prop} {s:Shared} {iter:Expr} {it acc:Value} {env:Env} (hd:gens[d]? = some ⟨tg,iter,ifs,0⟩)
  (h0:codeAny (model prog w) A (.compLoop (.ListComp elt gens scope pos) d it acc env) R s)
  (h:wpAny (model prog w) A (pyIter it) (fun Cd s'=>codeAny (model prog w) A (.compLoop (.ListComp elt gens scope pos) d Cd acc env) R s') (fun _ _=>False) s) :
  codeAny (model prog w) A (.compStart (.ListComp elt gens scope pos) d it acc env) R s:=by
 refine codeAny_of_tree ?_;show wpAny _ _ ((compStart (.ListComp elt gens scope pos) d it acc env).onRaise (fun x=>do noteFrame x env; standAt theWindowsPlace)) _ _ s;refine wpAny_notedAt ?_;unfold compStart;have e1:(clausesOf (.ListComp elt gens scope pos))[d]? = some ⟨tg,iter,ifs,0⟩:=hd;rw [e1]
 (show wpAny _ _ (ask >>= _) _ _ s)
 (refine ae (wpAny_askSetting (wpAny_ite ?_)))
 split
 ·first
   | (exact ae (ak (ak ⟨rfl,h0⟩)))
   | (exact ak ⟨rfl,h0⟩)
 ·first
   | exact ae (cg (ae (eA (ae (cJ h (fun Cd s' h'=>ak (And.intro rfl h')) fun _ _ x=>x.elim)))))
   | (refine ae (cg ?_); show wpAny _ _ (standAt iter.pos >>= _) _ _ s; exact ae (eA (ae (cJ h (fun Cd s' h'=>ak (And.intro rfl h')) fun _ _ x=>x.elim))))
theorem zmI {iter:Expr} {wi:TI} (hc:Y.calm=true) (hx:Y.xe=fun _ _=>False) (sE:GS js g) (nA:∀ j∈js,j∉js') (hi:PI Y tg iter wi) (hg:PG Y tg g) (ht:zcW Y ifs ts) (hm:PM Y D js' mk tm) (hd:gens[d]? = some ⟨tg,iter,ifs,0⟩)
  (ng:∀ it,compTurn (.ListComp elt gens scope pos) d it (.ref D) Y.env=zb4 tg ifs p mk (.compLoop (.ListComp elt gens scope pos) d it (.ref D) Y.env) it Y.env)
  (hs:∀ x,foldedSetIterable iter Y.env x=pure x:=by intro _; rfl) :
  PM Y D (js++js') (zhH (.ListComp elt gens scope pos) iter d (.ref D) Y.env) (zhJ wi g ts tm):=by
 intro last ku s σ H ys kz nn Q Φ I a no h k;unfold zhH;refine ae (thx hx (hi (ku++[(D,zdL kz nn)]) s σ H _ (a.pin I) h) fun v s1 h1=>ae (eA (ae ?_)));rw [hs v];refine ak (ae (b8 (thx hx h1 fun vI s2 h2=>?_)));obtain⟨it,fp,tn,J,H2,e,I2,T,lH,f2,q⟩:=h2;subst e;have a2:=a.back I2 (aG _ aE);have J2:Inv Y ku σ H2 s2:=I2.fewer fun p hp=>aP _ hp
 have Ce:∀ b∈fp,zcg Y ku H2 b:=fun b hb=>by
  obtain⟨c0,c1,c2,c3,c4,c5⟩:=f2 b hb;refine⟨c0,c1,c2,c3,c4,fun p hp=>?_⟩;rcases (aL.mp hp) with hp | hp
  ·exact c5 p (aP _ hp)
  ·exact c5 p (aG _ (aP _ hp))
 have fD:∀ b∈fp,b≠D:=fun b hb=>((f2 b hb).2.2.2.2.2 (D,zdL kz nn) (aG _ (aG _ aE))).symm
 have loop:codeAny (model Y.prog Y.w) Y.A (.compLoop (.ListComp elt gens scope pos) d (.ref it) (.ref D) Y.env) (fun r s'=>match r with | .ok f=>wpAny (model Y.prog Y.w) Y.A last Φ (fun _ _=>False) s' | .error e=>cameBackBy (model Y.prog Y.w) Y.A Y.env (fun _ _=>False) e s') s2 :=
  zhK hc hx sE nA hg ht hm ng J2 a2 no T lH Ce fD q fun s' lJ its' vQ H' I' a' q'=>k s' lJ its' vQ H' I' a' q'
 exact ae (wpAny_runOwn (zf4 hd loop (T.self _ 0 _ _ _ lH loop)))
end
section
variable {X:Cx} {elt tg iter:Expr} {ifs:List Expr} {gs:List Comprehension} {scope:Scope} {pos:Pos} {N':List Str} {ix:List (Option Nat)} {js js':List Nat} {g:TG} {ts:TT} {tm:TM} {mk:Addr→Env→Sem Fin→Sem Fin}
theorem zdB {ku:List (Addr×Obj)} {σ:St} {H2:Hp} {s2:Shared} {it:Addr} {fp:List Addr} {tn:Nat→Heap→Prop} {J:It} {Q:VK} {E:Value→Shared→Prop} {RR:Value→Addr→Result→Shared→Prop}
  (SC:CompSc X N' ix scope) (hc:X.calm=true) (sE:GS js g) (nA:∀ j∈js,j∉js') (sR:∀ j∈js++js',ix[j]? = some none)
  (hg:∀ s₃ H₃ ex ku,PG (zF X N' scope s₃ H₃ ex ku) tg g) (ht:∀ s₃ H₃ ex ku,zcW (zF X N' scope s₃ H₃ ex ku) ifs ts) (hm:∀ s₃ H₃ ex ku D,PM (zF X N' scope s₃ H₃ ex ku) D js' (mk D (zF X N' scope s₃ H₃ ex ku).env) tm)
  (ng:∀ it D env,compTurn (.ListComp elt (⟨tg,iter,ifs,0⟩ :: gs) scope pos) 0 it (.ref D) env=zb4 tg ifs iter.pos (mk D env) (.compLoop (.ListComp elt (⟨tg,iter,ifs,0⟩ :: gs) scope pos) 0 it (.ref D) env) it env)
  (I2:Inv X ku σ H2 s2) (T:Turn X.prog X.w X.K tg J fp it tn) (lH:tn 0 s2.heap) (f2:∀ b∈fp,zcg X ku H2 b) (q:cIn g ts tm (zcX ix σ) J (fun ys H'=>∀ D,H' D=none→Q (.ref D) (kB H' D (.lst ys))) [] H2)
  (hRR:∀ (D C:Addr) (s':Shared) (ys:List V) (H':Hp) (m:Str→Option Value),Inv X ku σ (kB H' D (.lst ys)) s'→zcg X ku (kB H' D (.lst ys)) C→s'.heap.Ns C m→Q (.ref D) (kB H' D (.lst ys))→RR (.ref D) C (.ok .next) s') :
  wpAny (model X.prog X.w) X.A (newList []) (fun acc s₃=>wpAny (model X.prog X.w) X.A (newFunctionEnv scope X.env.globals (zah X.env.cells scope.names []) [] X.env.qual none .none (some X.env)) (fun xZ s₄ =>
   codeAny (model X.prog X.w) X.A (.compStart (.ListComp elt (⟨tg,iter,ifs,0⟩ :: gs) scope pos) 0 (.ref it) acc { xZ with scope:=relabel scope X.env }) (RR acc xZ.locals) s₄) E s₃) E s2:=by
 have x3:∀ y∈scope.names,y.2 = .free→∃ c,X.env.cells.lookup y.1=some c:=fun y hy hf=>I2.ok.has y.1 (SC.free y hy hf)
 have qf:∀ x c,(zah X.env.cells scope.names []).lookup x=some c→X.env.cells.lookup x=some c:=zbN scope.names [] x3 (fun x c e=>by simp at e);refine bL (ziN ?_);have I3:Inv X ku σ H2 { s2 with heap:=s2.heap.push { cls:=.type "list",dict:=none,data:=.seq ([]:List Value).toArray } }:=I2.kept (t':=s2.toks) fun b o e=>ai _ e
 have xi:(s2.heap.push { cls:=.type "list",dict:=none,data:=.seq ([]:List Value).toArray }).get? s2.heap.objs.size=some { cls:=.type "list",dict:=none,data:=.seq ([]:List Value).toArray }:=aH _ rfl;have x4:tn 0 (s2.heap.push { cls:=.type "list",dict:=none,data:=.seq ([]:List Value).toArray }):=T.keep _ _ _ lH fun b hb o e=>ai _ e
 have x5:(s2.heap.push { cls:=.type "list",dict:=none,data:=.seq ([]:List Value).toArray }).objs.size=s2.heap.objs.size+1:=bK _ _;generalize hh3:s2.heap.push { cls:=.type "list",dict:=none,data:=.seq ([]:List Value).toArray }=h3 at *;have Cf:=T.obj _ _ lH;have vb:∀ b∈fp,b < s2.heap.objs.size:=fun b hb=>by obtain⟨o,e,_⟩:=Cf b hb; exact aI e
 have stk:∀ b∈frs X.stack,b=X.env.locals∨b∈X.fs:=fun b hb=>aC.mp (I2.stkSub b hb)
 have x6:zcg X ku H2 s2.heap.objs.size:=I2.fpOk (af _) I2.fresh;have rA:∀ b∈s2.heap.objs.size :: fp,zcg X ku H2 b:=fun b hb=>by
  rcases (aC.mp hb) with e | hb
  ·rw [e]; exact x6
  ·exact f2 b hb
 have vR:∀ b∈s2.heap.objs.size :: fp,b < h3.objs.size:=fun b hb=>by
  rw [x5];rcases (aC.mp hb) with e | hb; · rw [e]; exact jM _
  ·exact d6 (vb b hb)
 have vc:∀ b∈s2.heap.objs.size :: fp,b∉frs X.stack:=fun b hb z=>by
  obtain⟨_,a1,a2,_⟩:=rA b hb;rcases stk b z with e | e
  ·exact a1 e
  ·exact a2 e
 have hns₁:(pushCells (h3.push { cls:=.type "dict",data:=.dict #[] }) scope.names).Ns h3.objs.size (fun _=>none):=(Heap.Ns.new h3 (.type "dict")).keeps (pushCells_keeps _ _);have old:∀ b o,h3.get? b=some o→(pushCells (h3.push { cls:=.type "dict",data:=.dict #[] }) scope.names).get? b=some o:=fun b o e=>pushCells_keeps _ _ b o (ai _ e)
 have Ci:∀ x c,X.env.cells.lookup x=some c→c < h3.objs.size:=fun x c e=>by
  obtain⟨v,q⟩:=I3.cell x c e;exact q.lt
 have co:CO (pushCells (h3.push { cls:=.type "dict",data:=.dict #[] }) scope.names) (h3.objs.size+1) (zah X.env.cells scope.names []) (cellsFrom (h3.objs.size+1) scope.names (zah X.env.cells scope.names [])):=by
  have:=zjR (lo:=h3.objs.size+1) (old:=zah X.env.cells scope.names []) scope.names (h3.push { cls:=.type "dict",data:=.dict #[] }) (zah X.env.cells scope.names [])
   ⟨fun x c e=>.inr ⟨e,d6 (Ci x c (qf x c e))⟩,fun x y c e1 e2=>I2.ok.inj x y c (qf x c e1) (qf y c e2)⟩ (by rw [bK]; exact af _)
  rw [bK] at this;exact this
 generalize pushCells (h3.push { cls:=.type "dict",data:=.dict #[] }) scope.names=h₁ at hns₁ old co ⊢;have Cj:∀ {x c},(cellsFrom (h3.objs.size+1) scope.names (zah X.env.cells scope.names [])).lookup x=some c→(h₁.IsCell c none∧h3.objs.size+1≤c)∨X.env.cells.lookup x=some c:=fun {x c} e=>(co.each x c e).elim .inl fun z=>.inr (qf x c z.1)
 have cfr:∀ x,scope.names.lookup x=some .free→(cellsFrom (h3.objs.size+1) scope.names (zah X.env.cells scope.names [])).lookup x=(zah X.env.cells scope.names []).lookup x:=fun x hx=>zfm _ _ _ _ fun z=>by
  have:=SC.cells _ z rfl;rw [hx] at this;cases this
 let s3:Shared:={ s2 with heap:=h3 }
 let Y:Cx:=zF X N' scope s3 H2 (s2.heap.objs.size :: fp) ku
 have sF:Inv X ku σ H2 s3:=I3;have okY:Y.Ok:=by
  refine⟨I2.ok.mod,SC.kind,I2.ok.glob,I2.ok.blt,af _,co.inj,fun x hx=>?_,fun x c z e=>?_,I2.ok.hd,I2.ok.frames,.inl rfl,fun b hb=>?_,fun b o e=>sF.bs b o e,?_,fun b o e hb=>?_,vc,sF.stack,sF.stkFree⟩
  ·have sS:=zcV (env:=X.env) (names:=scope.names) (x:=x) hx;rcases sS with sS | sS
   ·obtain⟨c,e⟩:=zb3 (cs:=X.env.cells) scope.names [] x (.inr (lookup_mem sS));exact⟨c,(cfr x sS).trans e⟩
   ·obtain⟨c,e,_⟩:=zfn scope.names (h3.objs.size+1) (zah X.env.cells scope.names []) x (lookup_mem sS);exact⟨c,e⟩
  ·obtain⟨c',e',l'⟩:=zfn scope.names (h3.objs.size+1) (zah X.env.cells scope.names []) x (lookup_mem (by have z':(scope.names.lookup x == some cK)=true:=z; simpa using z'));have e2:(cellsFrom (h3.objs.size+1) scope.names (zah X.env.cells scope.names [])).lookup x=some c:=e;rw [e'] at e2;cases e2;exact gz l'
  ·refine⟨bp (vR b hb),fun x c e=>(Cj e).elim (fun z y=>?_) fun z=>(rA b hb).2.2.2.2.1 x c z⟩;subst y;exact cj _ (bb (vR _ hb) (gz z.2))
  ·exact aN I2.ok.bsz sF.sz
  ·obtain⟨_,_,_,a3,_⟩:=rA b hb;rcases a3 with z | z
   ·exact I2.ok.noex b o e z
   ·have:=(I2.ok.bs b o e).1;exact absurd (bb (aI this) z) (cj _)
 have Ck:Inv Y [] (zcX ix σ) H2 { s3 with heap:=h₁ }:=by
  refine⟨okY,rfl,I2.bare,Un.kept old,⟨_,hns₁,fun j x v e1 e2 e3=>?_⟩,fun x c e=>?_,sF.fresh,fun x c e=>(Cj e).elim (fun z=>sF.hok.fresh (gz z.2)) fun z=>I2.freeC x c z,fun p hp=>?_,sF.hok.kept old,?_⟩
  ·unfold zcX at e2;rw [ah] at e2;cases hj:ix[j]? with
   | none=>rw [hj] at e2; simp at e2
   | some oi =>
    rw [hj] at e2;cases oi with
    | none=>simp at e2
    | some i =>
     obtain⟨y,h1,h2,A8⟩:=SC.cap j i hj;have hxy:y=x:=by
      have e1':N'[j]? = some x:=e1;rw [h1] at e1';exact aQ e1'
     subst hxy;have x8:(σ[i]?).join=some v:=by simpa using e2
     have Cm:σ[i]? = some (some v):=by
      cases hs:σ[i]? with
      | none=>rw [hs] at x8; simp at x8
      | some w=>rw [hs] at x8; simp at x8; rw [x8]
     obtain⟨m,hn,hl⟩:=sF.loc;have hk:=SC.free (y,.free) (lookup_mem A8) rfl;have Cn:Vis X.env.scope y:=hk.elim (fun z=>.inr (.inl z)) fun z=>.inr (.inr z)
     obtain⟨u,r,l⟩:=hl i y v h2 Cm Cn;refine⟨u,r,.inr ⟨zbr A8,?_⟩⟩;obtain⟨c,lR⟩:=zb3 (cs:=X.env.cells) scope.names [] y (.inr (lookup_mem A8));refine⟨c,(cfr y A8).trans lR,?_⟩;rcases l with ⟨rn,_⟩ | ⟨_,c',kI,nV⟩
     ·rcases hk with hk | hk
      ·have pU:X.env.kindOf y=some .cell:=hk;rw [pU] at rn; cases rn
      ·have pU:X.env.kindOf y=some .free:=hk;rw [pU] at rn; cases rn
     ·have:=qf y c lR;rw [kI] at this;cases this;obtain⟨o,ho,hd⟩:=nV;exact⟨o,old _ _ ho,hd⟩
  ·rcases Cj e with z | z
   ·exact⟨_,z.1⟩
   ·obtain⟨v,o,ho,hd⟩:=sF.cell x c z;exact⟨v,o,old _ _ ho,hd⟩
  ·have pT:p∈X.pn++ku:=by
    have:p∈(X.pn++ku)++([]:List (Addr×Obj)):=hp;simpa using this
   obtain⟨a1,a2,a3,a4,a5⟩:=sF.pin p pT;exact⟨old _ _ a1,a2,bp (aI a1),fun z=>(stk _ z).elim a3 a4,a5⟩
  ·unfold zcX;rw [ab];exact SC.len.symm
 have xh:∀ {H':Hp},(∀ b∈s2.heap.objs.size :: fp,H' b=none)→∀ b∈s2.heap.objs.size :: fp,zcg Y [] H' b:=fun {H'} hn b hb=>by
  obtain⟨_,a1,a2,a3,a4,a5⟩:=rA b hb;refine⟨hn b hb,bp (vR b hb),vc b hb,.inl hb,(okY.exf b hb).2,fun p hp=>?_⟩;have:p∈(X.pn++ku)++([]:List (Addr×Obj)):=hp;exact a5 p (by simpa using this)
 have nn2:∀ b∈s2.heap.objs.size :: fp,H2 b=none:=fun b hb=>(rA b hb).1
 have vK:zfp (js++js') (zcX ix σ):=fun j hj v e=>by
  unfold zcX at e;rw [ah,sR j hj] at e;simp at e
 have loop:∀ s₅:Shared,s₅ = { s2 with heap:=h₁ } →
   codeAny (model X.prog X.w) X.A (.compLoop (.ListComp elt (⟨tg,iter,ifs,0⟩ :: gs) scope pos) 0 (.ref it) (.ref s2.heap.objs.size) (compEnvC scope (cellsFrom (h3.objs.size+1) scope.names (zah X.env.cells scope.names [])) h3.objs.size X.env)) (RR (.ref s2.heap.objs.size) h3.objs.size) s₅:=by
  rintro s₅ rfl;refine zhK (Y:=Y) (ku:=[]) (σ:=zcX ix σ) (kz:=[]) (nn:=0) hc rfl sE nA (hg s3 H2 _ ku) (ht s3 H2 _ ku) (hm s3 H2 _ ku s2.heap.objs.size) (fun it=>ng it _ _) Ck ⟨xh nn2 _ aE,old _ _ xi,.nil,bu _⟩ vK T (T.keep _ _ _ x4 fun b hb o e=>old b o e)
   (fun b hb=>xh nn2 b (av _ hb)) (fun b hb=>bp (vb b hb)) q fun s6 ys kz nn H5 I6 a6 qn=>?_
  have dn5:H5 s2.heap.objs.size=none:=a6.fp.1;have I7:Inv X ku σ H5 s6:=by
   refine sF.call' (s':=s6) (ch:=s2.heap.objs.size :: fp) I6.os I6.base I6.hok I6.bare fun b hb=>?_
   obtain⟨_,a1,a2,a3,a4,a5⟩:=rA b hb;exact⟨a3,a1,a4,a5⟩
  have I8:Inv X ku σ (kB H5 s2.heap.objs.size (.lst ys)) s6:=by
   obtain⟨_,a1,a2,a3,a4,a5⟩:=x6;exact I7.track dn5 I2.sz (dz a1) a4 a5 ⟨a6.len,kz,nn,a6.vals,a6.here⟩
  obtain⟨mm,vd,_⟩:=I6.loc;have dne:h3.objs.size≠s2.heap.objs.size:=by rw [x5]; exact gQ _
  refine hRR _ _ s6 ys H5 mm I8 (sF.fpOk (H':=kB H5 s2.heap.objs.size (.lst ys)) (af _) ?_) vd (qn _ dn5);show kB H5 s2.heap.objs.size (.lst ys) h3.objs.size=none;rw [zr dne];exact I6.free
 exact zf4 rfl (loop _ rfl) (T.self _ 0 _ _ _ (T.keep _ _ _ x4 fun b hb o e=>old b o e) (loop _ rfl))
theorem zf5 {wi:TI} (SC:CompSc X N' ix scope) (hc:X.calm=true) (sE:GS js g) (nA:∀ j∈js,j∉js') (sR:∀ j∈js++js',ix[j]? = some none) (hi:PI X tg iter wi)
  (hg:∀ s₃ H₃ ex ku,PG (zF X N' scope s₃ H₃ ex ku) tg g) (ht:∀ s₃ H₃ ex ku,zcW (zF X N' scope s₃ H₃ ex ku) ifs ts) (hm:∀ s₃ H₃ ex ku D,PM (zF X N' scope s₃ H₃ ex ku) D js' (mk D (zF X N' scope s₃ H₃ ex ku).env) tm)
  (ng:∀ it D env,compTurn (.ListComp elt (⟨tg,iter,ifs,0⟩ :: gs) scope pos) 0 it (.ref D) env=zb4 tg ifs iter.pos (mk D env) (.compLoop (.ListComp elt (⟨tg,iter,ifs,0⟩ :: gs) scope pos) 0 it (.ref D) env) it env)
  (hs:∀ x,foldedSetIterable iter X.env x=pure x:=by intro _; rfl):PE X (.ListComp elt (⟨tg,iter,ifs,0⟩ :: gs) scope pos) (zfq ix wi g ts tm):=by
 intro ku s σ H Q I h;rw [eval_ListComp];have x3:∀ y∈scope.names,y.2 = .free→∃ c,X.env.cells.lookup y.1=some c:=fun y hy hf=>I.ok.has y.1 (SC.free y hy hf)
 refine gR (use:=none) rfl hs (zcG x3) SC.kind SC.names (thn (hi ku s σ H _ I h) fun v s1 h1=>thn h1 fun vI s2 h2=>?_);obtain⟨it,fp,tn,J,H2,e,I2,T,lH,f2,q⟩:=h2;subst e;refine zdB (RR:=fun acc C=>compPost (model X.prog X.w) X.A X.xe none (EP X ku σ Q) acc C) SC hc sE nA sR hg ht hm ng I2 T lH f2 q ?_;intro D C s' ys H' m I' Co hm q';refine⟨m,hm,fun uj mP=>⟨.ref D,_,?_,rfl,q'⟩⟩;obtain⟨f0,f1,Ce,f3,f4,f5⟩:=Co;exact I'.turned (t':=s'.toks) (fun b o hb e=>mP.extBut b o hb e) f0 f1 f3 f4 f5
theorem zdC {wi:TI} {i:Nat} {x:Str} {pos' pV:Pos} (hN:X.N.Nodup) (x9:X.N[i]? = some x) (hx:Loc X.env.scope x) (SC:CompSc X N' ix scope) (hc:X.calm=true) (sE:GS js g) (nA:∀ j∈js,j∉js') (sR:∀ j∈js++js',ix[j]? = some none) (hi:PI X tg iter wi)
  (hg:∀ s₃ H₃ ex ku,PG (zF X N' scope s₃ H₃ ex ku) tg g) (ht:∀ s₃ H₃ ex ku,zcW (zF X N' scope s₃ H₃ ex ku) ifs ts) (hm:∀ s₃ H₃ ex ku D,PM (zF X N' scope s₃ H₃ ex ku) D js' (mk D (zF X N' scope s₃ H₃ ex ku).env) tm)
  (ng:∀ it D env,compTurn (.ListComp elt (⟨tg,iter,ifs,0⟩ :: gs) scope pos) 0 it (.ref D) env=zb4 tg ifs iter.pos (mk D env) (.compLoop (.ListComp elt (⟨tg,iter,ifs,0⟩ :: gs) scope pos) 0 it (.ref D) env) it env)
  (yb:swapsWith (.ListComp elt (⟨tg,iter,ifs,0⟩ :: gs) scope pos) (some (.Name x pos')) pV.line X.env=pure true:=by rfl)
  (hs:∀ x,foldedSetIterable iter X.env x=pure x:=by intro _; rfl) (hf:X.fn x=true∨X.env.scope.names.lookup x=some .local:=by first | exact .inl rfl | exact .inr rfl | assumption) :
  PS X (.Assign [.Name x pos'] (.ListComp elt (⟨tg,iter,ifs,0⟩ :: gs) scope pos) pV) (zjy (zfq ix wi g ts tm) (zbc i)):=by
 intro ku s σ H D I h;have x3:∀ y∈scope.names,y.2 = .free→∃ c,X.env.cells.lookup y.1=some c:=fun y hy hf=>I.ok.has y.1 (SC.free y hy hf)
 rw [exec_Assign_Name_used _ _ _ _ yb]; refine ae (eA (ae ?_));show wpAny _ X.A (do let _ ← comprehension (.ListComp elt (⟨tg,iter,ifs,0⟩ :: gs) scope pos) scope X.env _ (newList []) false (eval iter X.env) (some (assign (.Name x pos') X.env))) _ _ s;refine ae (cJ (gR (use:=some (assign (.Name x pos') X.env)) (Q:=fun _ s'=>SP X ku D .next s') rfl hs (zcG x3) SC.kind SC.names
  (thn (hi ku s σ H _ I h) fun v s1 h1=>thn h1 fun vI s2 h2=>?_)) (fun _ s' hq=>ak (ak hq)) fun _ _ e=>e)
 obtain⟨it,fp,tn,J,H2,e,I2,T,lH,f2,q⟩:=h2;subst e;refine zdB (Q:=fun x H1=>zbc i x σ H1 D.nx) (RR:=fun acc C=>compPost (model X.prog X.w) X.A X.xe (some (assign (.Name x pos') X.env)) (fun _ s'=>SP X ku D .next s') acc C) SC hc sE nA sR hg ht hm ng I2 T lH f2 q ?_;intro Da C s' ys H' m I' Co hm q';show wpAny _ X.A (assign (.Name x pos') X.env (.ref Da)) _ _ _;refine wpAny_assign_Name (zeR I' hN x9 hx (show RelV (.ref Da) (.ref Da) from rfl) (fun xS I'' ⟨a,mj,ha⟩=>?_) hf);obtain⟨f0,f1,Ce,f3,f4,f5⟩:=Co;have hCa:C≠a:=by
  rcases ha with e | e
  ·rw [e]; exact f1
  ·exact dz (f4 x a e)
 refine⟨m,hm.sameBut mj hCa,fun h₃ hs₃=>⟨_,_,?_,q'⟩⟩;exact I''.turned (t':=xS.toks) (fun b o hb e=>hs₃.extBut b o hb e) f0 f1 f3 f4 f5
end
theorem zjU {elt t1 i1 t2 i2:Expr} {f1 f2:List Expr} {scope:Scope} {pos:Pos} (it:Value) (D:Addr) (env:Env):compTurn (.ListComp elt [⟨t1,i1,f1,0⟩,⟨t2,i2,f2,0⟩] scope pos) 0 it (.ref D) env =
  zb4 t1 f1 i1.pos (zhH (.ListComp elt [⟨t1,i1,f1,0⟩,⟨t2,i2,f2,0⟩] scope pos) i2 1 (.ref D) env) (.compLoop (.ListComp elt [⟨t1,i1,f1,0⟩,⟨t2,i2,f2,0⟩] scope pos) 0 it (.ref D) env) it env:=by rfl
theorem zmJ {elt t1 i1 t2 i2:Expr} {f1 f2:List Expr} {scope:Scope} {pos:Pos} (it:Value) (D:Addr) (env:Env):compTurn (.ListComp elt [⟨t1,i1,f1,0⟩,⟨t2,i2,f2,0⟩] scope pos) 1 it (.ref D) env =
  zb4 t2 f2 i2.pos (ze2 elt (.ref D) env) (.compLoop (.ListComp elt [⟨t1,i1,f1,0⟩,⟨t2,i2,f2,0⟩] scope pos) 1 it (.ref D) env) it env:=by rfl
def zdn (ix:List (Option Nat)):List Nat:=(aJ ix.length).filter fun j=>ix[j]? == some none
theorem zb5 {ix:List (Option Nat)} {i:Nat}:i∈zdn ix↔ix[i]? = some none:=by
 unfold zdn;rw [aU,bd,beq_iff_eq];exact⟨fun h=>h.2,fun h=>⟨(az.mp h).1,h⟩⟩
def GK (ix:List (Option Nat)) (g:TG):Prop:=GS (zdn ix) g
def GKs (ix:List (Option Nat)) (g:TGs):Prop:=GSs (zdn ix) g
theorem zai {ix:List (Option Nat)} {i:Nat} (hi:ix[i]? = some none):GK ix (zbc i):=zdO (zb5.2 hi)
theorem zaR {ix:List (Option Nat)}:GKs ix ziC:=zhG
theorem zN {ix:List (Option Nat)} {i:Nat} {u:TGs} (hi:ix[i]? = some none) (h2:GKs ix u):GKs ix (zcE (zbc i) u):=zed (zb5.2 hi) h2
theorem zbe {ix:List (Option Nat)} {K:ag} {n:Nat} {t:TGs} (h:GKs ix t):GK ix (zgP K n t):=zjT h
theorem ziO {ix:List (Option Nat)} {g:TG} {u:TGs} (h1:GK ix g) (h2:GKs ix u) (mono:∀ (x:V) (σ:St) (H:Hp) (Q Q':St→Hp→Prop),(∀ σ' H',Q σ' H'→Q' σ' H')→g x σ H Q→g x σ H Q'):GKs ix (zcE g u):=fun σ σ1 xs H Q hw h=>by
 obtain⟨v,r,e,h⟩:=h;refine⟨v,r,e,mono v σ1 H _ _ (fun σ' H' q=>?_) (h1 σ σ1 v H _ hw h)⟩;exact h2 σ σ' r H' Q q.1 q.2
theorem zmb {elt t1 i1:Expr} {f1:List Expr} {scope:Scope} {pos:Pos} (it:Value) (D:Addr) (env:Env):compTurn (.ListComp elt [⟨t1,i1,f1,0⟩] scope pos) 0 it (.ref D) env =
  zb4 t1 f1 i1.pos (ze2 elt (.ref D) env) (.compLoop (.ListComp elt [⟨t1,i1,f1,0⟩] scope pos) 0 it (.ref D) env) it env:=by rfl
section
variable {X:Cx} {elt tg iter:Expr} {ifs:List Expr} {scope:Scope} {pos:Pos} {N':List Str} {ix:List (Option Nat)} {g:TG} {ts:TT} {te:TE}
theorem zad {wi:TI} (SC:CompSc X N' ix scope) (hc:X.calm=true) (hk:GK ix g) (hi:PI X tg iter wi)
  (hg:∀ s₃ H₃ ex ku,PG (zF X N' scope s₃ H₃ ex ku) tg g) (ht:∀ s₃ H₃ ex ku,zcW (zF X N' scope s₃ H₃ ex ku) ifs ts) (he:∀ s₃ H₃ ex ku,PE (zF X N' scope s₃ H₃ ex ku) elt te)
  (hs:∀ x,foldedSetIterable iter X.env x=pure x:=by intro _; rfl):PE X (.ListComp elt [⟨tg,iter,ifs,0⟩] scope pos) (zma ix wi g ts te) :=
 zf5 (mk:=fun D env=>ze2 elt (.ref D) env) (js:=zdn ix) (js':=[]) SC hc hk (fun _ _ h=>nomatch h) (fun j h=>zb5.1 (by simpa using h)) hi hg ht (fun s₃ H₃ ex ku D=>zgX rfl (he s₃ H₃ ex ku)) (fun _ _ _=>zmb _ _ _) hs
theorem zat {wi:TI} {i:Nat} {x:Str} {pos' pV:Pos} (hN:X.N.Nodup) (x9:X.N[i]? = some x) (hx:Loc X.env.scope x) (SC:CompSc X N' ix scope) (hc:X.calm=true) (hk:GK ix g) (hi:PI X tg iter wi)
  (hg:∀ s₃ H₃ ex ku,PG (zF X N' scope s₃ H₃ ex ku) tg g) (ht:∀ s₃ H₃ ex ku,zcW (zF X N' scope s₃ H₃ ex ku) ifs ts) (he:∀ s₃ H₃ ex ku,PE (zF X N' scope s₃ H₃ ex ku) elt te)
  (yb:swapsWith (.ListComp elt [⟨tg,iter,ifs,0⟩] scope pos) (some (.Name x pos')) pV.line X.env=pure true:=by rfl)
  (hs:∀ x,foldedSetIterable iter X.env x=pure x:=by intro _; rfl) (hf:X.fn x=true∨X.env.scope.names.lookup x=some .local:=by first | exact .inl rfl | exact .inr rfl | assumption) :
  PS X (.Assign [.Name x pos'] (.ListComp elt [⟨tg,iter,ifs,0⟩] scope pos) pV) (zjy (zma ix wi g ts te) (zbc i)) :=
 zdC (mk:=fun D env=>ze2 elt (.ref D) env) (js:=zdn ix) (js':=[]) hN x9 hx SC hc hk (fun _ _ h=>nomatch h) (fun j h=>zb5.1 (by simpa using h)) hi hg ht (fun s₃ H₃ ex ku D=>zgX rfl (he s₃ H₃ ex ku)) (fun _ _ _=>zmb _ _ _) yb hs hf
end
section
variable {X:Cx} {ku:List (Addr×Obj)} {σ:St} {H:Hp} {s:Shared} {h':Heap}
theorem Inv.turnedL {t':Nat} {ch:List Addr} (I:Inv X ku σ H s) (k:∀ b o,b∉ch→s.heap.get? b=some o→h'.get? b=some o) (hf:∀ b∈ch,zcg X ku H b)
  (th:∀ b∈ch,∃ o,h'.get? b=some o):Inv X ku σ H { s with heap:=h',toks:=t' }:=by
 have qL:∀ b u,H b=some u→b∉ch:=fun b u e z=>by rw [(hf b z).1] at e; cases e
 refine I.step (g':=s.gens) (d':=s.drawn) (ch:=ch) (fun b hb=>?_) (fun b o _ _ hc e _=>k b o hc e) (fun b o _ _ hc e _=>⟨o.slots,k b o hc e⟩) (fun _ _ _ _ n=>n)
  (fun b o hc e=>⟨o,k b o hc e⟩) (fun _ _ e=>e) (fun _ _ _ e=>e) (fun b ps e=>⟨#[],by rw [e]; simp⟩) (fun m hm=>?_) (fun b u e=>?_) I.bare
 ·obtain⟨_,a1,_,a3,a4,a5⟩:=hf b hb;exact⟨a3,a1,a4,a5⟩
 ·obtain⟨o,es,ep,ho,r⟩:=hm;exact⟨o,es,ep,k _ o (fun z=>(hf _ z).2.1 rfl) ho,r⟩
 ·refine (I.hok b u e).stay (fun c v hc q=>k c v ?_ q) (fun _ q=>q) fun _ _ q=>q
  rcases hc with z | z
  ·rw [z]; exact qL b u e
  ·exact qL c _ z
theorem Inv.turnedNew {t':Nat} {ch:List Addr} {T:Addr} {o:HO} (I:Inv X ku σ H s) (k:∀ b o,b∉ch→s.heap.get? b=some o→h'.get? b=some o) (hf:∀ b∈ch,zcg X ku H b)
  (th:∀ b∈ch,∃ o,h'.get? b=some o) (hT:s.heap.objs.size≤T) (ok:zaD X.prog X.w (kB H T o) h' T o):Inv X ku σ (kB H T o) { s with heap:=h',toks:=t' }:=by
 have I1:Inv X ku σ H { s with heap:=h',toks:=t' }:=I.turnedL k hf th;have hn:H T=none:=I.hok.fresh hT;obtain⟨_,a1,a2,a3,a4,a5⟩:=I.fpOk (H':=H) hT hn;exact I1.track hn (aN I.sz hT) (dz a1) a4 a5 ok
end
def zmK (Sq:Hp→Addr→List V→Prop) (a:Addr):It :=
 ⟨fun i H=>∃ xs x,Sq H a xs∧xs[i]? = some x,fun i H x H'=>∃ T v,H T=none∧x = .ref T∧H'=kB H T (.tup [.int i,v])∧∀ xs,Sq H a xs→xs[i]? = some v,fun i H=>∃ xs,Sq H a xs∧xs.length≤i⟩
theorem zbz {h:Heap} {T:Addr} {a b:Value} (e:h.get? T=some { cls:=.type "tuple",data:=.seq #[a,b] }):IsTup h T ([a,b]:List Value).toArray:=⟨_,e,rfl,_,rfl⟩
theorem zbm:2≤sizeLine:=by rw [ba]; decide
theorem zgY {P:Program} {w:World} {K:ag} {es:List Expr} {k:Nat} {pos:Pos} (a it e:Addr) (hei:e≠it):Turn P w K (.Tuple es k pos) (zmK (ky K) a) [e,it] e (fun i h=>(∃ old,IsEnum h e it i old)∧h.IsListIter it a i) where
 mem:=by simp
 obj:=fun i h st b hb=>by
  obtain⟨⟨old,he⟩,o,ho,hc,hd⟩:=st;rcases aC.mp hb with z | z
  ·subst z;exact⟨_,he,fun v z=>by cases z⟩
  ·have z:b=it:=by simpa using z
   subst z;exact⟨o,ho,fun v z=>by rw [hd] at z; cases z⟩
 keep:=fun i h h' st kk=>⟨st.1.imp fun old he=>kk e #[M] _ he,st.2.at fun o eo=>kk it #[M] o eo⟩
 item:=by
  intro X hP hw hK hc i ku s σ H E I hf st hg;subst hP hw hK;obtain⟨xs,x,hq,hx⟩:=hg;obtain⟨⟨old,he⟩,hit⟩:=st;obtain⟨kz,rv,p,hz⟩:=I.list hq;obtain⟨u,hu,ru⟩:=rv.get hx;have sT:e < s.heap.objs.size:=aI he;have hits:it < s.heap.objs.size:=by obtain⟨o,ho,_⟩:=hit; exact aI ho
  refine wpAny_pyNext_enum_item he hit p.isList (x:=u) (by simpa using hu) hei fun h' ug qj hT hsz kk=>?_
  have k1:∀ b o,b∉[e,it]→s.heap.get? b=some o→h'.get? b=some o:=fun b o hb eo=>kk b o (fun z=>hb (by simp [z])) (fun z=>hb (by simp [z])) eo
  have vS:∀ b∈[e,it],∃ o,h'.get? b=some o:=fun b hb=>by
   rcases aC.mp hb with z | z
   ·subst z; exact⟨_,ug⟩
   ·have z:b=it:=by simpa using z
    subst z;obtain⟨o,eo,_⟩:=qj;exact⟨o,eo⟩
  have I1:Inv X ku σ (kB H s.heap.objs.size (.tup [.int i,x])) { s with heap:=h',toks:=s.toks+1 } :=
   I.turnedNew k1 hf vS (af _) ⟨zbm,_,.cons ⟨s.toks,rfl⟩ (.cons ru .nil),zbz hT⟩
  refine⟨_,rfl,gm ug fun uj qk mP=>?_⟩;have fr:∀ b∈[e,it],kB H s.heap.objs.size (.tup [.int i,x]) b=none:=fun b hb=>by
   have kU:b < s.heap.objs.size:=by
    rcases aC.mp hb with z | z
    ·subst z; exact sT
    ·have z:b=it:=by simpa using z
     subst z; exact hits
   rw [zr (bp kU)];exact (hf b hb).1
  have I2:Inv X ku σ (kB H s.heap.objs.size (.tup [.int i,x])) { s with heap:=uj,toks:=s.toks+1 } :=
   Inv.turnedL (s:={ s with heap:=h',toks:=s.toks+1 }) (ch:=[e]) (t':=s.toks+1) I1 (fun b o hb eo=>mP.extBut b o (by simpa using hb) eo) (fun b hb=>by
    have z:b=e:=by simpa using hb
    subst z;exact⟨fr b #[M],(hf b #[M]).2⟩) (fun b hb=>by
    have z:b=e:=by simpa using hb
    subst z;exact⟨_,qk⟩)
  refine⟨.ref s.heap.objs.size,_,I2,rfl,⟨_,x,I.fresh,rfl,rfl,fun ys hy=>by rw [I.list_inj hy hq]; exact hx⟩,⟨⟨_,by simpa using qk⟩,qj.extBut mP.extBut (dz hei)⟩,fr⟩
 done:=by
  intro X hP hw hK hc i ku s σ H E I hf st hg;subst hP hw hK;obtain⟨xs,hq,hx⟩:=hg;obtain⟨⟨old,he⟩,hit⟩:=st;obtain⟨kz,rv,p,hz⟩:=I.list hq;have hl:=rv.length;obtain⟨f0,f1,f2,f3,f4,f5⟩:=hf it #[M];exact wpAny_pyNext_enum_end (I.ok.hd hc) he hit p.isList (by simp; lia) fun h' eb=>⟨rfl,I.turned (t':=s.toks) (fun b o hb e=>eb b o hb e) f0 f1 f3 f4 f5⟩
 self:=fun _ _ _ _ _ st h=>by
  obtain⟨⟨old,he⟩,_⟩:=st;exact fb he h
def iEn (Sq:Hp→Addr→List V→Prop) (ta:TA):TI:=fun σ H R=>ta σ H fun vs H1=>∃ a xs,vs = [.ref a]∧Sq H1 a xs∧R (zmK Sq a) H1
theorem zf6 {X:Cx} {es:List Expr} {k:Nat} {om p pos:Pos} {a:Expr} {ta:TA} (hg:Gl X "enumerate") (hm:X.mg "enumerate" = none) (ha:PA X [a] ta) (hs:starEach [a] X.env = [(false,eval a X.env)]:=by rfl) :
  PI X (.Tuple es k om) (.Call (.Name "enumerate" p) [a] [] pos) (iEn (ky X.K) ta):=by
 intro ku s σ H R I h;refine Call_ (zbL I hg hm boot_enumerate (bC (thn (ha pos ku s σ H _ I h) fun us s1 ⟨vs,H1,I1,r1,q1⟩=>?_) hs rfl));obtain⟨l,xs,e,hq,q⟩:=q1;subst e;cases r1 with
 | cons r rr =>
  cases rr;cases r;obtain⟨kz,rv,pl,hz⟩:=I1.list hq;refine call_enumerate_list pl.isList fun h' he hi hsz kk=>?_
  have I2:Inv X ku σ H1 { s1 with heap:=h' }:=I1.kept (t':=s1.toks) kk;refine fb he ?_; refine⟨_,[s1.heap.objs.size+1,s1.heap.objs.size],_,zmK (ky X.K) l,H1,rfl,I2,zgY l s1.heap.objs.size (s1.heap.objs.size+1) (gQ _),⟨⟨_,he⟩,hi⟩,fun b hb=>?_,q⟩;have hle:s1.heap.objs.size≤b:=by
   rcases aC.mp hb with z | z
   ·rw [z]; exact f7 _
   ·have z:b=s1.heap.objs.size:=by simpa using z
    rw [z]; exact af _
  exact I1.fpOk hle (I1.hok.fresh hle)
def ziP (o7 o8:Hp→Addr→List V→Prop) (a b:Addr):It :=
 ⟨fun i H=>∃ xs ys x y,o7 H a xs∧o8 H b ys∧xs[i]? = some x∧ys[i]? = some y,
  fun i H x H'=>∃ T u v,H T=none∧x = .ref T∧H'=kB H T (.tup [u,v])∧(∀ xs,o7 H a xs→xs[i]? = some u)∧∀ ys,o8 H b ys→ys[i]? = some v,
  fun i H=>∃ xs ys,o7 H a xs∧o8 H b ys∧(xs.length≤i∨ys.length≤i)⟩
theorem ziQ {P:Program} {w:World} {K:ag} {es:List Expr} {k:Nat} {pos:Pos} (a b:Addr) (n:Nat) (ha:a < n) (hb:b < n):Turn P w K (.Tuple es k pos) (ziP (ky K) (ky K) a b) [n+4,n+2,n+3,n,n+1] (n+4)
  (fun i h=>IsZip h (n+4) (n+2) (n+3) .none∧IsPair h (n+2) (.ref n) (.ref (n+1))∧(∃ u v,IsPair h (n+3) u v)∧h.IsListIter n a i∧h.IsListIter (n+1) b i) where
 mem:=by simp
 obj:=fun i h st c hc=>by
  obtain⟨h1,h2,⟨u,v,h3⟩,⟨o4,e4,_,d4⟩,⟨o5,e5,_,d5⟩⟩:=st;simp only [aC,aX,or_false] at hc;rcases hc with z | z | z | z | z <;> subst z
  ·exact⟨_,h1,fun v z=>by cases z⟩
  ·exact⟨_,h2,fun v z=>by cases z⟩
  ·exact⟨_,h3,fun v z=>by cases z⟩
  ·exact⟨_,e4,fun v z=>by rw [d4] at z; cases z⟩
  ·exact⟨_,e5,fun v z=>by rw [d5] at z; cases z⟩
 keep:=fun i h h' st kk=>by
  obtain⟨h1,h2,⟨u,v,h3⟩,h4,h5⟩:=st;exact⟨kk _ #[M] _ h1,kk _ #[M] _ h2,⟨u,v,kk _ #[M] _ h3⟩,h4.at fun o eo=>kk _ #[M] o eo,h5.at fun o eo=>kk _ #[M] o eo⟩
 item:=by
  intro X hP hw hK hc i ku s σ H E I hf st hg;subst hP hw hK;obtain⟨xs,ys,x,y,oS,nh,hx,hy⟩:=hg;obtain⟨h1,h2,⟨u0,v0,h3⟩,h4,h5⟩:=st;obtain⟨lQ,qT,p1,oT⟩:=I.list oS;obtain⟨lO,rB,p2,sU⟩:=I.list nh;obtain⟨u,hu,ru⟩:=qT.get hx;obtain⟨v,hv,rv⟩:=rB.get hy;have hzs:n+4 < s.heap.objs.size:=aI h1;refine wpAny_pyNext_zip_item (cX ha hb) h1 h2 h3 h4 h5 p1.isList p2.isList (x:=u) (y:=v) (by simpa using hu) (by simpa using hv) fun h' a1 a2 a3 a4 a5 a6 kk=>?_
  have k1:∀ c o,c∉[n+4,n+3,n,n+1]→s.heap.get? c=some o→h'.get? c=some o:=fun c o kI eo =>
   kk c o (fun z=>kI (by simp [z])) (fun z=>kI (by simp [z])) (fun z=>kI (by simp [z])) (fun z=>kI (by simp [z])) eo
  have sub:∀ c∈[n+4,n+3,n,n+1],c∈[n+4,n+2,n+3,n,n+1]:=fun c kI=>by
   simp only [aC,aX,or_false] at kI ⊢;rcases kI with z | z | z | z <;> subst z <;> simp
  have vS:∀ c∈[n+4,n+3,n,n+1],∃ o,h'.get? c=some o:=fun c kI=>by
   simp only [aC,aX,or_false] at kI;rcases kI with z | z | z | z <;> subst z
   ·exact⟨_,a1⟩
   ·exact⟨_,a2⟩
   ·obtain⟨o,e,_⟩:=a3; exact⟨o,e⟩
   ·obtain⟨o,e,_⟩:=a4; exact⟨o,e⟩
  have I1:Inv X ku σ (kB H s.heap.objs.size (.tup [x,y])) { s with heap:=h' } :=
   I.turnedNew (t':=s.toks) k1 (fun c kI=>hf c (sub c kI)) vS (af _) ⟨zbm,_,.cons ru (.cons rv .nil),zbz a5⟩
  refine⟨_,rfl,wpAny_letOwnedTupleGo_zip a1 fun uj sV mP=>?_⟩;have fr:∀ c∈[n+4,n+2,n+3,n,n+1],kB H s.heap.objs.size (.tup [x,y]) c=none:=fun c kI=>by
   have kU:c < s.heap.objs.size:=by
    simp only [aC,aX,or_false] at kI;rcases kI with z | z | z | z | z <;> subst z <;> lia
   rw [zr (bp kU)];exact (hf c kI).1
  have I2:Inv X ku σ (kB H s.heap.objs.size (.tup [x,y])) { s with heap:=uj } :=
   Inv.turnedL (s:={ s with heap:=h' }) (ch:=[n+4]) (t':=s.toks) I1 (fun c o kI eo=>mP.extBut c o (by simpa using kI) eo) (fun c kI=>by
    have z:c=n+4:=by simpa using kI
    subst z;exact⟨fr _ #[M],(hf _ #[M]).2⟩) (fun c kI=>by
    have z:c=n+4:=by simpa using kI
    subst z;exact⟨_,sV⟩)
  refine⟨.ref s.heap.objs.size,_,I2,rfl,⟨_,x,y,I.fresh,rfl,rfl,fun zs hz=>by rw [I.list_inj hz oS]; exact hx,fun zs hz=>by rw [I.list_inj hz nh]; exact hy⟩,
   ⟨sV,mP.extBut _ _ (cX ha hb).TIz (kk _ _ (cX ha hb).TIz (cX ha hb).TITO (cX ha hb).TIi1 (cX ha hb).TIi2 h2),⟨_,_,mP.extBut _ _ (cX ha hb).TOz a2⟩,a3.extBut mP.extBut (cX ha hb).i1z,a4.extBut mP.extBut (cX ha hb).i2z⟩,fr⟩
 done:=by
  intro X hP hw hK hc i ku s σ H E I hf st hg;subst hP hw hK;obtain⟨xs,ys,oS,nh,hx⟩:=hg;obtain⟨h1,h2,⟨u0,v0,h3⟩,h4,h5⟩:=st;obtain⟨lQ,qT,p1,oT⟩:=I.list oS;obtain⟨lO,rB,p2,sU⟩:=I.list nh;have sW:=qT.length;have rk:=rB.length;refine wpAny_pyNext_zip_end (I.ok.hd hc) (cX ha hb) h1 h2 h3 h4 h5 p1.isList p2.isList ?_ fun h' kk=>⟨rfl,?_⟩
  ·rcases hx with z | z
   ·exact .inl (by simp; lia)
   ·exact .inr (by simp; lia)
  ·have hth:∀ c∈[n+4,n+3,n,n+1],c∈[n+4,n+2,n+3,n,n+1]:=fun c kI=>by
    simp only [aC,aX,or_false] at kI ⊢;rcases kI with z | z | z | z <;> subst z <;> simp
   refine I.step (g':=s.gens) (d':=s.drawn) (t':=s.toks) (ch:=[n+4,n+3,n,n+1]) (fun c kI=>?_) (fun c o _ _ lR e _=>kk c o (fun z=>lR (by simp [z])) (fun z=>lR (by simp [z])) (fun z=>lR (by simp [z])) (fun z=>lR (by simp [z])) e)
    (fun c o _ _ lR e _=>⟨o.slots,kk c o (fun z=>lR (by simp [z])) (fun z=>lR (by simp [z])) (fun z=>lR (by simp [z])) (fun z=>lR (by simp [z])) e⟩) (fun _ _ _ _ n=>n)
    (fun c o lR e=>⟨o,kk c o (fun z=>lR (by simp [z])) (fun z=>lR (by simp [z])) (fun z=>lR (by simp [z])) (fun z=>lR (by simp [z])) e⟩) (fun _ _ e=>e) (fun _ _ _ e=>e) (fun c ps e=>⟨#[],by rw [e]; simp⟩) (fun m hm=>?_) (fun c u e=>?_) I.bare
   ·obtain⟨_,a1,_,a3,a4,a5⟩:=hf c (hth c kI);exact⟨a3,a1,a4,a5⟩
   ·obtain⟨o,uw,ep,ho,r⟩:=hm;have ne:∀ c∈[n+4,n+2,n+3,n,n+1],X.env.locals≠c:=fun c kI=>dz (hf c kI).2.1
    exact⟨o,uw,ep,kk _ o (ne _ #[M]) (ne _ #[M]) (ne _ #[M]) (ne _ #[M]) ho,r⟩
   ·have qL:∀ d u',H d=some u'→∀ c∈[n+4,n+2,n+3,n,n+1],d≠c:=fun d u' e' c kI z=>by rw [z,(hf c kI).1] at e'; cases e'
    refine (I.hok c u e).stay (fun d v' hd q=>kk d v' ?_ ?_ ?_ ?_ q) (fun _ q=>q) fun _ _ q=>q
    all_goals
     rcases hd with z | z
     ·rw [z]; exact qL c u e _ #[M]
     ·exact qL d _ z _ #[M]
 self:=fun _ _ _ _ _ st h=>fq st.1 h
def iZp (o7 o8:Hp→Addr→List V→Prop) (ta:TA):TI:=fun σ H R=>ta σ H fun vs H1=>∃ a b xs ys,vs = [.ref a,.ref b]∧o7 H1 a xs∧o8 H1 b ys∧R (ziP o7 o8 a b) H1
theorem zfr {X:Cx} {es:List Expr} {k:Nat} {om p pos:Pos} {a b:Expr} {ta:TA} (hg:Gl X "zip") (hm:X.mg "zip" = none) (ha:PA X [a,b] ta) (hs:starEach [a,b] X.env = [(false,eval a X.env),(false,eval b X.env)]:=by rfl) (nc:starEach [b] X.env = [(false,eval b X.env)]:=by rfl) :
  PI X (.Tuple es k om) (.Call (.Name "zip" p) [a,b] [] pos) (iZp (ky X.K) (ky X.K) ta):=by
 intro ku s σ H R I h;refine Call_ (zbL I hg hm boot_zip (bC (thn (ha pos ku s σ H _ I h) fun us s1 ⟨vs,H1,I1,r1,q1⟩=>?_) (by rw [hs,nc]) (by rw [nc]; rfl)));obtain⟨l1,l2,xs,ys,e,oS,nh,q⟩:=q1;subst e;cases r1 with
 | cons r rr =>
  cases rr with
  | cons r' rr =>
   cases rr;cases r;cases r';obtain⟨lQ,qT,ve,oT⟩:=I1.list oS;obtain⟨lO,rB,vT,sU⟩:=I1.list nh;have pq:l1 < s1.heap.objs.size:=by obtain⟨_,_,e,_⟩:=ve; exact aI e
   have pv:l2 < s1.heap.objs.size:=by obtain⟨_,_,e,_⟩:=vT; exact aI e
   refine call_zip_2 ve.isList vT.isList fun h' b1 b2 b3 b4 b5 b6 kk=>?_
   have I2:Inv X ku σ H1 { s1 with heap:=h' }:=I1.kept (t':=s1.toks) kk;refine fq b1 ?_;refine⟨_,_,_,ziP (ky X.K) (ky X.K) l1 l2,H1,rfl,I2,ziQ l1 l2 s1.heap.objs.size pq pv,⟨b1,b2,⟨_,_,b3⟩,b4,b5⟩,fun c hc=>?_,q⟩;have hle:s1.heap.objs.size≤c:=by
    simp only [aC,aX,or_false] at hc;rcases hc with z | z | z | z | z <;> subst z <;> lia
   exact I1.fpOk hle (I1.hok.fresh hle)
def zf7 (Sq:Hp→Addr→List V→Prop) (a:Addr) (n:Nat):It :=
 ⟨fun i H=>i < n∧∃ xs,Sq H a xs∧xs.length=n,fun i H x H'=>H'=H∧∀ xs,Sq H a xs→xs[n - 1 - i]? = some x,fun i H=>n≤i⟩
theorem ziR {P:Program} {w:World} {K:ag} {tg:Expr} (a it:Addr) (n:Nat):Turn P w K tg (zf7 (ky K) a n) [it] it (fun i h=>i≤n∧h.IsRevIter it a ((n:Int) - 1 - (i:Int))) where
 mem:=by simp
 obj:=fun i h st b hb=>by
  have z:b=it:=by simpa using hb
  subst z;obtain⟨_,o,e,c,d⟩:=st;exact⟨o,e,fun v z=>by rw [d] at z; cases z⟩
 keep:=fun i h h' st k=>⟨st.1,st.2.at fun o e=>k it #[M] o e⟩
 item:=by
  intro X hP hw hK hc i ku s σ H E I hf st hg;subst hP hw hK;obtain⟨oI,xs,hq,hl⟩:=hg;obtain⟨kz,rv,p,hz⟩:=I.list hq;have kG:=rv.length;obtain⟨x,hx⟩:∃ x,xs[n - 1 - i]? = some x:=⟨xs[n - 1 - i]'#[O],#[M]⟩;obtain⟨u,hu,ru⟩:=rv.get hx;obtain⟨f0,f1,f2,f3,f4,f5⟩:=hf it #[M];have e:(n:Int) - 1 - (i:Int)=((n - 1 - i:Nat):Int):=by lia
  have hit:=st.2;rw [e] at hit;refine wpAny_pyNext_rev_item hit p.isList (x:=u) (by simpa using hu) fun h' kC sb=>?_
  have I1:Inv X ku σ H { s with heap:=h' }:=I.turned (t':=s.toks) (fun b o hb e=>(sb.2 b hb).trans e) f0 f1 f3 f4 f5;have e2:((n - 1 - i:Nat):Int) - 1=(n:Int) - 1 - ((i+1:Nat):Int):=by lia
  rw [e2] at kC;obtain⟨o,eo,c,d⟩:=id kC;exact⟨u,rfl,zfY (s:={ s with heap:=h' }) eo c d #[D] ⟨x,H,I1,ru,⟨rfl,fun ys hy=>by rw [I.list_inj hy hq]; exact hx⟩,⟨oI,kC⟩,fun b hb=>(hf b hb).1⟩⟩
 done:=by
  intro X hP hw hK hc i ku s σ H E I hf st hg;subst hP hw hK;obtain⟨f0,f1,f2,f3,f4,f5⟩:=hf it #[M];have oI:n≤i:=hg;have e:(n:Int) - 1 - (i:Int) = -1:=by have:=st.1; lia
  have hit:=st.2;rw [e] at hit;exact wpAny_pyNext_rev_end (I.ok.hd hc) hit fun h' eb=>⟨rfl,I.turned (t':=s.toks) (fun b o hb e=>eb b o hb e) f0 f1 f3 f4 f5⟩
 self:=fun _ _ _ _ _ st h=>iR st.2 h
end L2
end
section
namespace PySem
namespace F
theorem ze3:Manifest.owners.lookup (String.ofList ['d','e','s','r','e','v','e','r'].reverse)=some Manifest.sig_reversed:=by kernel_rfl
theorem slot_rvd_next:Slot "reversed" "__next__" "reversed.__next__" :=
 .of (owner:="reversed") (n:="__next__") (by rw [fE,d9]; kernel_rfl) #[N] #[N] #[N] (by first | exact .inl #[N] | exact .inr #[N]) (by rw [fT]; kernel_rfl)
theorem entry_rvd_next:entryFor table "reversed.__next__" = some Builtin.«reversed.__next__»:=entryFor_of_tree (by kernel_rfl)
theorem args_rvd_next_1 (a:Value):argsOk "reversed.__next__" ⟨[a],[]⟩:=by
 unfold argsOk; rw [signature?_of (id:="reversed.__next__") (n:=['_','_','t','x','e','n','_','_']) (o:=['d','e','s','r','e','v','e','r']) (by kernel_rfl) ze3]; kernel_rfl
theorem slot_rvd_iter:Slot "reversed" "__iter__" "reversed.__iter__" :=
 .of (owner:="reversed") (n:="__iter__") (by rw [fE,d9]; kernel_rfl) #[N] #[N] #[N] (by first | exact .inl #[N] | exact .inr #[N]) (by rw [fT]; kernel_rfl)
theorem args_rvd_iter_1 (a:Value):argsOk "reversed.__iter__" ⟨[a],[]⟩:=by
 unfold argsOk; rw [signature?_of (id:="reversed.__iter__") (n:=['_','_','r','e','t','i','_','_']) (o:=['d','e','s','r','e','v','e','r']) (by kernel_rfl) ze3]; kernel_rfl
theorem entry_rvd_iter:entryFor table "reversed.__iter__" = some Builtin.«dict_keyiterator.__iter__»:=entryFor_alias (id':="dict_keyiterator.__iter__") (by kernel_rfl) (by first | rfl | decide +kernel | (unfold String.splitOn; simp +decide [String.splitOnAux])) #[N] (by kernel_rfl)
theorem zeI:Slot "reversed" "__init__" "object.__init__":=.of (owner:="object") (n:="__init__") (by rw [fE,d9]; kernel_rfl) #[N] #[N] #[N] (by first | exact .inl #[N] | exact .inr #[N]) (by rw [fT]; kernel_rfl)
theorem called_rvd:TypeCalled "reversed" "reversed.__new__" "object.__init__" :=
 ⟨#[N],#[N],⟨_,_,mro_reversed⟩,made_reversed,#[N],by rw [fT]; kernel_rfl,zeI⟩
theorem noRev_tuple:typeLookup (.type "tuple") "__reversed__" = pure none:=by rw [fE,d9]; kernel_rfl
end F
def zfs (l:Addr) (i:Int):Obj:={ cls:=.type "reversed",data:=.fields #[.ref l,rawInt i] }
def Heap.IsRvd (h:Heap) (a l:Addr) (i:Int):Prop:=∃ o,h.get? a=some o∧o.cls = .type "reversed"∧o.data = .fields #[.ref l,rawInt i]
theorem Heap.IsRvd.typeIs {s:Shared} {a l:Addr} {i:Int} (x:s.heap.IsRvd a l i):s.TypeIs (.ref a) "reversed":=let ⟨o,ho,hc,_⟩:=x; ⟨o,ho,hc⟩
theorem Heap.IsRvd.at {h h':Heap} {a l:Addr} {i:Int} (x:h.IsRvd a l i) (e:∀ o,h.get? a=some o→h'.get? a=some o):h'.IsRvd a l i:=let ⟨o,ho,r⟩:=x; ⟨o,e _ ho,r⟩
open PyProof.Rows in
theorem zeJ (l:Addr) (items:Array Value) :
  Meets (Builtin.«reversed.__new__» ⟨[.type "reversed",.ref l],[]⟩) (fun _ R s=>IsTup s.heap l items∧(items.size:Int) < 2 ^ 63 ∧
   R (.ok (.ret (.ref s.heap.objs.size))) { s with heap:=s.heap.push (zfs l ((items.size:Int) - 1)),toks:=s.toks+1+1 }) :=
 .of_wp fun prog w A R s h=>by
  obtain⟨hl,hsz,h⟩:=h;unfold Builtin.«reversed.__new__»; refine ae (dX (newClass_reversed _) ?_)
  try dsimp only
  iterate 2 refine ae (dX (a:=()) (by first | rfl | kernel_rfl) ?_)
  try dsimp only
  refine ae (ig hl.typeIs F.noRev_tuple ?_)
  try dsimp only
  refine ae (ae (m:=isInstance (.ref l) (.type "dict")) (ek hl.typeIs F.sub_tuple_dict ?_));simp only [bj,if_false]; refine ae (m:=specialOf (.ref l) "__getitem__") (ig hl.typeIs slot_tuple_getitem.lookup ?_);refine ak ?_
  try dsimp only
  try simp only [Bool.not_true,bj,if_false]
  refine ae (len_tuple hl hsz ?_);refine ae (m:=asInt? _) (dX (a:=some (items.size:Int)) rfl ?_)
  try dsimp only
  refine ae (m:=j5 _ _) ?_;show wpAny _ _ (newObj (.type "reversed") (.fields #[.ref l,rawInt ((items.size:Int) - 1)]) none) _ _ _;refine bL ?_;exact ak ⟨_,rfl,h⟩
section
variable {prog:Program} {w:World} {A:Around} {E:Value→Shared→Prop} {s:Shared}
open PyProof.Rows
theorem zee {l:Addr} {items:Array Value} {Q:Value→Shared→Prop} (hl:IsTup s.heap l items) (hsz:(items.size:Int) < 2 ^ 63)
  (h:Q (.ref s.heap.objs.size) { s with heap:=s.heap.push (zfs l ((items.size:Int) - 1)),toks:=s.toks+1+1 }):wpAny (model prog w) A (call (.type "reversed") [.ref l]) Q E s:=by
 refine jo F.called_rvd #[D] (F.typeCall_reversed_1 _) (F.newCall_reversed_1 _) (fun obj=>iS obj _) F.entry_reversed_new (zeJ l items) ⟨hl,hsz,?_⟩; exact⟨⟨_,aH _ rfl,rfl⟩,h⟩
theorem zce {it l:Addr} {i:Nat} {items:Array Value} {x:Value} {Q:Option Value→Shared→Prop} (hit:s.heap.IsRvd it l (i:Int)) (hl:IsTup s.heap l items) (hx:items[i]? = some x) (hi:(i:Int) < 2 ^ 62)
  (hQ:∀ h',h'.IsRvd it l ((i:Int) - 1)→bg it s.heap h'→Q (some x) { s with heap:=h',toks:=s.toks+1 }):wpAny (model prog w) A (pyNext (.ref it)) Q E s:=by
 obtain⟨o,ho,hc,hd⟩:=id hit; unfold pyNext;refine ae (cL (be (name:=bV "__next__") hit.typeIs F.slot_rvd_next
  (bq F.slot_rvd_next hit.typeIs F.entry_rvd_next ?_ (F.args_rvd_next_1 _))))
 unfold Builtin.«reversed.__next__»;refine ae (dX (a:=(bf it,[])) rfl ?_); try dsimp only
 refine ae (bn ho hd (x:=.ref l) rfl ?_); refine ae (bn ho hd (x:=rawInt (i:Int)) rfl ?_);show wpAny _ _ (if (i:Int) < 0 then _ else _) _ _ s; rw [if_neg #[O]];refine ae (ig hl.typeIs slot_tuple_getitem.lookup ?_)
 try simp only [Option.isNone_some,bj,if_false]
 refine ae (wpAny_mkInt ?_); have kU:i < items.size:=by
  obtain⟨h1,_⟩:=cM.mp hx;exact h1
 refine ae (cL (getItem_tuple (j:=i) hl #[O] #[O] (by rw [fh #[O] #[O]]; simp) hx ?_))
 try dsimp only
 refine ae (bn (s:={ s with toks:=s.toks+1 }) ho hd (x:=rawInt (i:Int)) rfl ?_);show wpAny _ _ (setField (.ref it) 1 (rawInt ((i:Int) - 1)) >>= _) _ _ _;refine ae (dA (s:={ s with toks:=s.toks+1 }) ho hd #[M] (ak ⟨x,rfl,ak (hQ _ ?_ (cG ..))⟩));exact⟨_,dm _ ho (ee (cQ hd _)),(gA ..).trans hc,by rw [cQ hd]; simp⟩
theorem zcj {it l:Addr} {Q:Option Value→Shared→Prop} (hh:A.handled=none) (hit:s.heap.IsRvd it l (-1)) (hQ:∀ h',jE it s.heap h'→Q none { s with heap:=h' }):wpAny (model prog w) A (pyNext (.ref it)) Q E s:=by
 obtain⟨o,ho,hc,hd⟩:=id hit; unfold pyNext;refine ae (cL (be (name:=bV "__next__") hit.typeIs F.slot_rvd_next
  (bq F.slot_rvd_next hit.typeIs F.entry_rvd_next ?_ (F.args_rvd_next_1 _))))
 unfold Builtin.«reversed.__next__»;refine ae (dX (a:=(bf it,[])) rfl ?_); try dsimp only
 refine ae (bn ho hd (x:=.ref l) rfl ?_); refine ae (bn ho hd (x:=rawInt (-1)) rfl ?_);show wpAny _ _ (if (-1:Int) < 0 then _ else _) _ _ s; rw [if_pos #[D]];refine ae (cg ?_);refine ae (ae (m:=setField (.ref it) 1 (rawInt (-1))) (dA ho hd #[M] ?_));have hd2:=cQ hd (·.setIfInBounds 1 (rawInt (-1)));have qO:=dm (gn (·.setIfInBounds 1 (rawInt (-1)))) ho (ee hd2);refine dA qO hd2 #[M] ?_
 try dsimp only
 refine ae ?_; show wpAny _ _ (newExc (.type "StopIteration") [] >>= _) _ _ _;refine ae ?_;simp only [newExc,newTuple];refine ae (bL ?_ (by size_fits)); refine ae (m:=firstArgMember _ _) (dX (a:=di) (by first | rfl | (simp only [firstArgMember]; rfl)) ?_);refine bL ?_ (by size_fits); simp only [raiseNew];refine ae (iX ?_); first | rw [show A.in1.handled=none from hh] | rw [hh]
 refine ae (ak (jF ?_)); refine ae (ek (T:="StopIteration") (b:=true) ⟨_,aH _ rfl,rfl⟩ fU ?_);exact ak (hQ _ ((((cG ..).extBut.trans (cG ..).extBut).push _).push _))
theorem zbS {it l:Addr} {i:Int} {Q:Value→Shared→Prop} (hit:s.heap.IsRvd it l i) (h:Q (.ref it) s):wpAny (model prog w) A (pyIter (.ref it)) Q E s:=by
 refine gB hit.typeIs F.slot_rvd_iter (bq F.slot_rvd_iter hit.typeIs F.entry_rvd_iter ?_ (F.args_rvd_iter_1 _));show wpAny _ _ (ret (.ref it)) _ _ s; exact ak ⟨_,rfl,"reversed",_,hit.typeIs,F.slot_rvd_next.lookup,h⟩
end
section
variable {prog:Program} {w:World} {A:Around} {E:Value→Shared→Prop} {s:Shared}
theorem zf8 {it t:Addr} {i:Nat} {items:Array Value} {x:Value} {Q:Value→Shared→Prop} (hit:s.heap.IsTupleIter it t i) (ht:s.heap.IsTuple t items) (hx:items[i]? = some x)
  (hQ:∀ h',h'.IsTupleIter it t (i+1)→bg it s.heap h'→Q x { s with heap:=h' }):wpAny (model prog w) A (aY (.ref it)) Q E s:=by
 obtain⟨o,ho,hc,hd⟩:=id hit; obtain⟨ot,Cp,_,nt,Cq⟩:=ht;unfold aY; refine ae (be (name:=bV "__next__") hit.typeIs dn (bq dn hit.typeIs gb ?_ (fV _)));show wpAny _ _ (field (.ref it) 0 >>= _) _ _ s; refine ae (bn ho hd (x:=.ref t) rfl ?_); show wpAny _ _ (if (bf t == di)=true then _ else _) _ _ _; rw [if_neg (by exact aO)];refine ae (bn ho hd (x:=.int _ 0) rfl ?_); refine ae (m:=seqItems? _) (de Cp Cq ?_); simp only [bw,hx];have hn:=dm (gn (·.setIfInBounds 1 (rawInt ((i+1:Nat):Int)))) ho (ee (cQ hd _));refine ae (dA ho hd #[M] (ak ⟨x,rfl,ak (hQ _ ⟨_,hn,(gA ..).trans hc,?_⟩ (cG ..))⟩)); rw [cQ hd]; simp [rawInt]
theorem zf9 {it t:Addr} {i:Nat} {items:Array Value} {Q:Value→Shared→Prop} (hh:A.handled=none) (hit:s.heap.IsTupleIter it t i) (ht:s.heap.IsTuple t items) (hx:items[i]? = none)
  (hE:∀ h' e,jE it s.heap h'→(∃ o,h'.get? e=some o∧o.cls = .type "StopIteration")→E (.ref e) { s with heap:=h' }):wpAny (model prog w) A (aY (.ref it)) Q E s:=by
 obtain⟨o,ho,hc,hd⟩:=id hit; obtain⟨ot,Cp,_,nt,Cq⟩:=ht;unfold aY; refine ae (be (name:=bV "__next__") hit.typeIs dn (bq dn hit.typeIs gb ?_ (fV _)));show wpAny _ _ (field (.ref it) 0 >>= _) _ _ s; refine ae (bn ho hd (x:=.ref t) rfl ?_); show wpAny _ _ (if (bf t == di)=true then _ else _) _ _ _; rw [if_neg (by exact aO)];refine ae (bn ho hd (x:=.int _ 0) rfl ?_); refine ae (m:=seqItems? _) (de Cp Cq ?_); simp only [bw,hx];refine ae (cg (ae (dA ho hd #[M] ?_))); show wpAny _ _ (newExc (.type "StopIteration") [] >>= _) _ _ _; refine ae ?_;simp only [newExc,newTuple]; refine ae (bL ?_ (by size_fits)); refine ae (m:=firstArgMember _ _) (dX (a:=di) (by first | rfl | (simp only [firstArgMember]; rfl)) ?_);refine bL ?_ (by size_fits); simp only [raiseNew]; refine ae (iX ?_); first | rw [show A.in1.handled=none from hh] | rw [hh]
 refine ae (ak (jF ?_)); exact hE _ _ (((cG ..).extBut.push _).push _) ⟨_,aH _ rfl,rfl⟩
end
theorem Draws.tuple {prog:Program} {w:World} {A:Around} (hh:A.handled=none) (it t:Addr) (lA:t≠it) (items:Array Value):Draws prog w A it [it,t] items.size (fun i v=>items[i]? = some v) (fun i h=>h.IsTupleIter it t i∧h.IsTuple t items) where
 live:=fun i h st=>st.1.imp fun o r=>r.1
 frame:=fun i h h' st kk=>⟨st.1.at fun o=>kk it #[M] o,st.2.at fun o=>kk t #[M] o⟩
 item:=fun i s Q E hi st hQ=>zf8 st.1 st.2 (x:=items[i]) (by simp [hi]) fun h' a b=>hQ _ h' s.toks (by simp [hi]) ⟨a,st.2.extBut b.extBut lA⟩ b
 done:=fun s Q E st hE=>zf9 hh st.1 st.2 #[M] hE
def zcd (t:Addr):Obj:={ cls:=.type "tuple_iterator",data:=.fields #[.ref t,.int 0 0] }
def zjV (it:Addr):Obj:={ cls:=.type "enumerate",data:=.fields #[.none,.bool false,.ref it,rawInt 0,.none,.none] }
end PySem
namespace L2
open PySem PySem.Spec PyProof.Rows
theorem ziS {P:Program} {w:World} {K:ag} {tg:Expr} (a it:Addr) (n:Nat):Turn P w K tg (zf7 (kF K) a n) [it] it (fun i h=>i≤n∧h.IsRvd it a ((n:Int) - 1 - (i:Int))) where
 mem:=by simp
 obj:=fun i h st b hb=>by
  have z:b=it:=by simpa using hb
  subst z;obtain⟨_,o,e,c,d⟩:=st;exact⟨o,e,fun v z=>by rw [d] at z; cases z⟩
 keep:=fun i h h' st k=>⟨st.1,st.2.at fun o e=>k it #[M] o e⟩
 item:=by
  intro X hP hw hK hc i ku s σ H E I hf st hg;subst hP hw hK;obtain⟨oI,xs,hq,hl⟩:=hg;obtain⟨kz,rv,p,hz⟩:=I.tuple hq;have kG:=rv.length;have nZ:=ba;obtain⟨x,hx⟩:∃ x,xs[n - 1 - i]? = some x:=⟨xs[n - 1 - i]'#[O],#[M]⟩;obtain⟨u,hu,ru⟩:=rv.get hx;obtain⟨f0,f1,f2,f3,f4,f5⟩:=hf it #[M];have e:(n:Int) - 1 - (i:Int)=((n - 1 - i:Nat):Int):=by lia
  have hit:=st.2;rw [e] at hit;refine zce hit p (x:=u) (by simpa using hu) #[O] fun h' kC sb=>?_
  have I1:Inv X ku σ H { s with heap:=h',toks:=s.toks+1 }:=I.turned (t':=s.toks+1) (fun b o hb e=>(sb.2 b hb).trans e) f0 f1 f3 f4 f5;have e2:((n - 1 - i:Nat):Int) - 1=(n:Int) - 1 - ((i+1:Nat):Int):=by lia
  rw [e2] at kC;obtain⟨o,eo,c,d⟩:=id kC;exact⟨u,rfl,zfY (s:={ s with heap:=h',toks:=s.toks+1 }) eo c d #[D] ⟨x,H,I1,ru,⟨rfl,fun ys hy=>by rw [I.tuple_inj hy hq]; exact hx⟩,⟨oI,kC⟩,fun b hb=>(hf b hb).1⟩⟩
 done:=by
  intro X hP hw hK hc i ku s σ H E I hf st hg;subst hP hw hK;obtain⟨f0,f1,f2,f3,f4,f5⟩:=hf it #[M];have oI:n≤i:=hg;have e:(n:Int) - 1 - (i:Int) = -1:=by have:=st.1; lia
  have hit:=st.2;rw [e] at hit;exact zcj (I.ok.hd hc) hit fun h' eb=>⟨rfl,I.turned (t':=s.toks) (fun b o hb e=>eb b o hb e) f0 f1 f3 f4 f5⟩
 self:=fun _ _ _ _ _ st h=>zbS st.2 h
theorem zft {X:Cx} {tg:Expr} {ku:List (Addr×Obj)} {σ:St} {H1:Hp} {s1:Shared} {R:It→Hp→Prop} {l:Addr} {xs:List V} (I1:Inv X ku σ H1 s1) (hq:kF X.K H1 l xs) (q:R (zf7 (kF X.K) l xs.length) H1) :
  wpAny (model X.prog X.w) X.A (call (.type "reversed") [.ref l]) (fun v s2=>wpAny (model X.prog X.w) X.A (pyIter v) (PIE X ku σ tg R) X.xe s2) X.xe s1:=by
 obtain⟨kz,rv,pl,hz⟩:=I1.tuple hq;have kG:=rv.length;have nZ:=ba;refine zee pl (by rw [au]; lia) ?_;have I2:Inv X ku σ H1 { s1 with heap:=s1.heap.push (zfs l ((kz.toArray.size:Int) - 1)),toks:=s1.toks+1+1 }:=I1.kept fun b o e=>ai _ e
 have hr:(s1.heap.push (zfs l ((kz.toArray.size:Int) - 1))).IsRvd s1.heap.objs.size l ((xs.length:Int) - 1 - ((0:Nat):Int)):=by
  refine⟨_,aH _ rfl,rfl,?_⟩;have e1:(kz.toArray.size:Int) - 1=(xs.length:Int) - 1 - ((0:Nat):Int):=by rw [au,kG]; lia
  show jC #[.ref l,rawInt ((kz.toArray.size:Int) - 1)]=_;rw [e1]
 refine zbS hr ?_;refine⟨_,[s1.heap.objs.size],_,zf7 (kF X.K) l xs.length,H1,rfl,I2,ziS l s1.heap.objs.size xs.length,⟨bu _,hr⟩,fun b hb=>?_,q⟩;have z:b=s1.heap.objs.size:=by simpa using hb
 subst z;exact I1.fpOk (af _) (I1.hok.fresh (af _))
theorem zga {X:Cx} {tg:Expr} {ku:List (Addr×Obj)} {σ:St} {H1:Hp} {s1:Shared} {R:It→Hp→Prop} {l:Addr} {xs:List V} (I1:Inv X ku σ H1 s1) (hq:ky X.K H1 l xs) (q:R (zf7 (ky X.K) l xs.length) H1) :
  wpAny (model X.prog X.w) X.A (call (.type "reversed") [.ref l]) (fun v s2=>wpAny (model X.prog X.w) X.A (pyIter v) (PIE X ku σ tg R) X.xe s2) X.xe s1:=by
 obtain⟨kz,rv,pl,hz⟩:=I1.list hq;have kG:=rv.length;refine call_reversed_list pl.isList ?_;have I2:Inv X ku σ H1 { s1 with heap:=s1.heap.push (revObj l ((kz.toArray.size:Int) - 1)) }:=I1.kept (t':=s1.toks) fun b o e=>ai _ e
 have hr:(s1.heap.push (revObj l ((kz.toArray.size:Int) - 1))).IsRevIter s1.heap.objs.size l ((xs.length:Int) - 1 - ((0:Nat):Int)):=by
  refine⟨_,aH _ rfl,rfl,?_⟩;have e1:(kz.toArray.size:Int) - 1=(xs.length:Int) - 1 - ((0:Nat):Int):=by rw [au,kG]; lia
  show jC #[.ref l,rawInt ((kz.toArray.size:Int) - 1)]=_;rw [e1]
 refine iR hr ?_;refine⟨_,[s1.heap.objs.size],_,zf7 (ky X.K) l xs.length,H1,rfl,I2,ziR l s1.heap.objs.size xs.length,⟨bu _,hr⟩,fun b hb=>?_,q⟩;have z:b=s1.heap.objs.size:=by simpa using hb
 subst z;exact I1.fpOk (af _) (I1.hok.fresh (af _))
def zon (K:ag) (ta:TA):TI:=fun σ H R=>ta σ H fun vs H1=>∃ a xs,vs = [.ref a]∧((ky K H1 a xs∧R (zf7 (ky K) a xs.length) H1)∨(kF K H1 a xs∧R (zf7 (kF K) a xs.length) H1))
theorem zmL {X:Cx} {tg:Expr} {p pos:Pos} {a:Expr} {ta:TA} (hg:Gl X "reversed") (hm:X.mg "reversed" = none) (ha:PA X [a] ta) (hs:starEach [a] X.env = [(false,eval a X.env)]:=by rfl) :
  PI X tg (.Call (.Name "reversed" p) [a] [] pos) (zon X.K ta):=by
 intro ku s σ H R I h;refine Call_ (zbL I hg hm boot_reversed (bC (thn (ha pos ku s σ H _ I h) fun us s1 ⟨vs,H1,I1,r1,q1⟩=>?_) hs rfl));obtain⟨l,xs,e,hq⟩:=q1;subst e;cases r1 with
 | cons r rr =>
  cases rr;cases r;rcases hq with ⟨hq,q⟩ | ⟨hq,q⟩
  ·exact zga I1 hq q
  ·exact zft I1 hq q
inductive EqD (K:ag) (H:Hp):Nat→V→V→Bool→Prop where
 | flat {d:Nat} {x y:V} (hx:zcF x=true) (hy:zcF y=true):EqD K H d x y (eqV x y)
 | same {d:Nat} {a:Addr}:EqD K H d (.ref a) (.ref a) true
 | lists {d:Nat} {a b:Addr} {xs ys:List V} {e:Nat→Bool} (lA:a≠b) (ha:ky K H a xs) (hb:ky K H b ys) (hl:xs.length=ys.length)
   (he:∀ (j:Nat) x y,xs[j]? = some x→ys[j]? = some y→EqD K H d x y (e j)):EqD K H (d+1) (.ref a) (.ref b) ((aJ xs.length).all e)
 | lens {d:Nat} {a b:Addr} {xs ys:List V} (lA:a≠b) (ha:ky K H a xs) (hb:ky K H b ys) (hl:xs.length≠ys.length):EqD K H (d+1) (.ref a) (.ref b) false
 | tups {d:Nat} {a b:Addr} {xs ys:List V} {e:Nat→Bool} (lA:a≠b) (ha:kF K H a xs) (hb:kF K H b ys)
   (he:∀ (j:Nat) x y,xs[j]? = some x→ys[j]? = some y→EqD K H d x y (e j)):EqD K H (d+1) (.ref a) (.ref b) ((aJ (min xs.length ys.length)).all e && xs.length == ys.length)
theorem zM.getE {xs:List V} {us:List Value} (r:zM xs us) {j:Nat} (h:j < us.toArray.size):∃ x,xs[j]? = some x∧RelV x us.toArray[j]:=by
 have hl:=r.length;have hj:j < xs.length:=by rw [hl]; simpa using h
 obtain⟨u,hu,ru⟩:=r.get (i:=j) (x:=xs[j]) #[M];refine⟨xs[j],#[M],?_⟩;have:us.toArray[j]=u:=by
  have h2:j < us.length:=by simpa using h
  rw [aj h2] at hu;simpa using aQ hu
 rw [this];exact ru
theorem EqD.at {X:Cx} {ku:List (Addr×Obj)} {σ:St} {H:Hp} {s:Shared} (I:Inv X ku σ H s) {d:Nat} {x y:V} {b:Bool} (h:EqD X.K H d x y b) :
  ∀ (A:Around) (u v:Value),RelV x u→RelV y v→A.units+d < cLine→jW A s u v b:=by
 induction h with
 | flat hx hy=>exact fun A u v rx ry _=>zjK rx ry hx hy
 | same=>intro A u v rx ry _; cases rx; cases ry; exact jX _
 | lists lA ha hb hl he ih =>
  intro A u v rx ry hu;cases rx; cases ry;obtain⟨vU,r1,p1,_⟩:=I.list ha;obtain⟨vV,r2,p2,_⟩:=I.list hb;have l1:=r1.length;have l2:=r2.length;refine gc lA ?_;have q:=SeqAt.RcAt.lists (A:=A) p1.isList p2.isList (by simp only [au]; lia) #[O] fun j h1 h2=>by
   obtain⟨x,hx,rx⟩:=r1.getE h1;obtain⟨y,hy,ry⟩:=r2.getE h2;exact ih j x y hx hy A.in1 _ _ rx ry (by simp only [cP]; lia)
  rw [au,← l1] at q;exact q
 | lens lA ha hb hl =>
  intro A u v rx ry hu;cases rx; cases ry;obtain⟨vU,r1,p1,_⟩:=I.list ha;obtain⟨vV,r2,p2,_⟩:=I.list hb;have l1:=r1.length;have l2:=r2.length;exact gc lA (SeqAt.RcAt.lists_lengths p1.isList p2.isList (by simp only [au,bne_iff_ne]; lia) #[O])
 | tups lA ha hb he ih =>
  intro A u v rx ry hu;cases rx; cases ry;obtain⟨vU,r1,p1,_⟩:=I.tuple ha;obtain⟨vV,r2,p2,_⟩:=I.tuple hb;have l1:=r1.length;have l2:=r2.length;refine gc lA ?_;have q:=SeqAt.RcAt.tuples (A:=A) (s:=s) p1 p2 #[O] fun j h1 h2=>by
   obtain⟨x,hx,rx⟩:=r1.getE h1;obtain⟨y,hy,ry⟩:=r2.getE h2;exact ih j x y hx hy A.in1 _ _ rx ry (by simp only [cP]; lia)
  rw [au,au,← l1,← l2] at q;exact q
def zmM (K:ag) (neg:Bool):R2:=fun x y H Q=>∃ a b xs ys,x = .ref a∧y = .ref b∧((ky K H a xs∧ky K H b ys)∨(kF K H a xs∧kF K H b ys)) ∧
 ((xs.length≠ys.length∧(∀ (j:Nat) x y,xs[j]? = some x→ys[j]? = some y→∃ c,EqD K H 8 x y c)∧Q (.bl neg) H) ∨
  (xs.length=ys.length∧∃ e:Nat→Bool,(∀ (j:Nat) x y,xs[j]? = some x→ys[j]? = some y→EqD K H 8 x y (e j))∧Q (.bl (if neg then !(aJ xs.length).all e else (aJ xs.length).all e)) H))
theorem zjW {X:Cx} (hu:X.A.units+20 < cLine):OpR X (compareOp .NotEq) (zmM X.K true):=by
 intro ku s σ H x y v u Q I rx ry h;obtain⟨a,b,xs,ys,rfl,rfl,hk,h⟩:=h;cases rx; cases ry;rcases hk with ⟨ha,hb⟩ | ⟨ha,hb⟩
 ·obtain⟨vU,r1,p1,_⟩:=I.list ha;obtain⟨vV,r2,p2,_⟩:=I.list hb;have l1:=r1.length;have l2:=r2.length;rcases h with ⟨hl,_,q⟩ | ⟨hl,e,he,q⟩
  ·exact SeqAt.RcNeAt.lists_lengths p1.isList p2.isList (by simp only [au,bne_iff_ne]; lia) #[O] _ _ _ _ ⟨.bl true,H,I,rfl,q⟩
  ·refine SeqAt.RcNeAt.lists p1.isList p2.isList (e:=e) (by simp only [au]; lia) #[O] (fun j h1 h2=>?_) _ _ _ _ ⟨.bl _,H,I,rfl,?_⟩
   ·obtain⟨x,hx,rx⟩:=r1.getE h1;obtain⟨y,hy,ry⟩:=r2.getE h2;exact (he j x y hx hy).at I _ _ _ rx ry (by simp only [cP]; lia)
   ·rw [au,← l1];exact q
 ·obtain⟨vU,r1,p1,_⟩:=I.tuple ha;obtain⟨vV,r2,p2,_⟩:=I.tuple hb;have l1:=r1.length;have l2:=r2.length;rcases h with ⟨hl,he,q⟩ | ⟨hl,e,he,q⟩
  ·have vf:∀ j:Nat,∃ c:Bool,∀ x y,xs[j]? = some x→ys[j]? = some y→EqD X.K H 8 x y c:=fun j=>by
    cases hx:xs[j]? with
    | none=>exact⟨true,fun x y z=>by cases z⟩
    | some x =>
     cases hy:ys[j]? with
     | none=>exact⟨true,fun x y _ z=>by cases z⟩
     | some y =>
      obtain⟨c,hc⟩:=he j x y hx hy;exact⟨c,fun x' y' z1 z2=>by cases z1; cases z2; exact hc⟩
   obtain⟨e,qk⟩:=Classical.axiomOfChoice vf;refine i6 (s:=s) p1 p2 (e:=e) #[O] (fun j h1 h2=>?_) _ _ _ _ ⟨.bl _,H,I,rfl,?_⟩
   ·obtain⟨x,hx,rx⟩:=r1.getE h1;obtain⟨y,hy,ry⟩:=r2.getE h2;exact (qk j x y hx hy).at I _ _ _ rx ry (by simp only [cP]; lia)
   ·have yc:(vU.toArray.size == vV.toArray.size)=false:=by
     rw [au,au]; exact beq_eq_false_iff_ne.mpr #[O]
    rw [yc,Bool.and_false];exact q
  ·refine i6 (s:=s) p1 p2 (e:=e) #[O] (fun j h1 h2=>?_) _ _ _ _ ⟨.bl _,H,I,rfl,?_⟩
   ·obtain⟨x,hx,rx⟩:=r1.getE h1;obtain⟨y,hy,ry⟩:=r2.getE h2;exact (he j x y hx hy).at I _ _ _ rx ry (by simp only [cP]; lia)
   ·have yc:(vU.toArray.size == vV.toArray.size)=true:=by
     rw [au,au]; exact beq_iff_eq.mpr #[O]
    have vW:min vU.toArray.size vV.toArray.size=xs.length:=by rw [au,au]; lia
    rw [yc,Bool.and_true,vW];exact q
theorem zgb {K:ag} {H:Hp} {ms ns:List Int}:∀ (j:Nat) x y,(ms.map V.int)[j]? = some x→(ns.map V.int)[j]? = some y→EqD K H 8 x y ((fun j=>decide (ms[j]? = ns[j]?)) j):=fun j x y hx hy=>by
 rw [ah] at hx hy;cases h1:ms[j]? with
 | none=>rw [h1] at hx; cases hx
 | some m =>
  cases h2:ns[j]? with
  | none=>rw [h2] at hy; cases hy
  | some n =>
   rw [h1] at hx; rw [h2] at hy;cases hx; cases hy;have e:eqV (.int m) (.int n)=decide (some m=some n):=by
    show (m == n)=_;rw [bN]; simp
   show EqD K H 8 (.int m) (.int n) (decide (ms[j]? = ns[j]?));rw [h1,h2,← e];exact EqD.flat rfl rfl
theorem zck {X:Cx}:zci X (.type "range") (fun xs H Q=>∃ j:Int,xs = [.int j]∧∀ l,H l=none→Q (.ref l) (kB H l (.rng 0 j))):=by
 intro ku s σ H xs us Q I r h;obtain⟨j,rfl,q⟩:=h;obtain⟨u,rfl,t,rfl⟩:=vals1 r;refine call_range_1 ?_;exact⟨.ref s.heap.objs.size,_,I.laid (o:=.rng 0 j) (fun b o e=>ai _ e) (af _) ⟨_,_,_,aH _ rfl⟩,rfl,q _ I.fresh⟩
def zaa (lo:Int) (n:Nat):List Int:=(aJ n).map fun (i:Nat)=>lo+(i:Int)
theorem zcH (lo:Int) (n:Nat):(zaa lo n).length=n:=by simp [zaa]
theorem zeK {acc:Array Value} {lo:Int} {n:Nat} (h:ItemsOf (fun i v=>∃ t,v = .int (lo+(i:Nat)*1) t) acc n):zM ((zaa lo n).map V.int) acc.toList:=by
 obtain⟨hsz,hv⟩:=h;have go:∀ (us:List Value) (k:Nat),(∀ (j:Nat) v,us[j]? = some v→∃ t,v = .int (lo+((k+j:Nat):Int)) t)→zM (((aJ us.length).map fun (i:Nat)=>V.int (lo+((k+i:Nat):Int)))) us:=by
  intro us;induction us with
  | nil=>intro k _; exact .nil
  | cons u us ih =>
   intro k hu;rw [br,iu,bh,bz];refine .cons ?_ ?_
   ·obtain⟨t,e⟩:=hu 0 u rfl;exact⟨t,e⟩
   ·have:=ih (k+1) fun j v e=>by
     obtain⟨t,z⟩:=hu (j+1) v (by simpa using e);exact⟨t,by rw [z]; congr 1; lia⟩
    have e2:(fun (i:Nat)=>V.int (lo+((k+1+i:Nat):Int)))=((fun (i:Nat)=>V.int (lo+((k+i:Nat):Int))) ∘ Nat.succ):=by
     funext i;show V.int _=V.int _;congr 2;show ((k+1+i:Nat):Int)=((k+(i+1):Nat):Int);lia
    rw [← e2];exact this
 have h1:=go acc.toList 0 fun j v e=>by
  obtain⟨t,z⟩:=hv j v (by simpa using e);exact⟨t,by rw [z]; simp⟩
 have e1:acc.toList.length=n:=by simpa using hsz
 rw [e1] at h1;unfold zaa;rw [bz];have e2:(V.int ∘ fun (i:Nat)=>lo+(i:Int))=fun (i:Nat)=>V.int (lo+((0+i:Nat):Int)):=by
  funext i;show V.int (lo+(i:Int))=V.int (lo+((0+i:Nat):Int));rw [cY]
 rw [e2];exact h1
theorem zbO {X:Cx} (hc:X.calm=true):zci X (.type "list") (fun xs H Q=>∃ p hi,xs = [.ref p]∧H p=some (.rng 0 hi)∧0≤hi∧hi≤1000∧∀ l,H l=none→Q (.ref l) (kB H l (.lst ((zaa 0 hi.toNat).map V.int)))):=by
 intro ku s σ H xs us Q I r h;obtain⟨p,hi,rfl,hp,h0,h1,q⟩:=h;obtain⟨u,rfl,rx⟩:=vals1 r;cases rx;obtain⟨t,u',v,e⟩:=(show zaD X.prog X.w H s.heap p (.rng 0 hi) from I.hok p _ hp);have nZ:=ba;refine call_list_range (n:=hi.toNat) (I.ok.hd hc) (show IsRange s.heap p 0 hi 1 t u' v from e) (small_one #[O] #[O] #[O] #[O]) (by rw [rangeSize_one]; split <;> lia) #[O] fun h' tk Cr c' kk ho sX=>?_
 have hv:=zeK (lo:=0) (n:=hi.toNat) sX;refine⟨.ref s.heap.objs.size,_,I.laid kk (af _) ?_,rfl,q _ I.fresh⟩;exact⟨by rw [ab,zcH]; lia,Cr.toList,c',hv,by simpa using ho⟩
def zoo (K:ag) (tl:TE):TI:=fun σ H R=>tl σ H fun x H1=>∃ a,x = .ref a∧(((∃ xs,ky K H1 a xs)∧R (Itl K a) H1)∨((∃ xs,kF K H1 a xs)∧R (Itt K a) H1))
theorem zmN {X:Cx} {tg l:Expr} {tl:TE} (hl:PE X l tl):PI X tg l (zoo X.K tl):=by
 intro ku s σ H R I h;refine thn (hl ku s σ H _ I h) fun v s1 ⟨x,H1,I1,r1,q1⟩=>?_
 obtain⟨a,e,q⟩:=q1;subst e;cases r1;rcases q with ⟨⟨xs,hq⟩,q⟩ | ⟨⟨xs,hq⟩,q⟩
 ·obtain⟨kz,rv,p,hz⟩:=I1.list hq;refine gv p.isList ?_;refine⟨s1.heap.objs.size,[s1.heap.objs.size],_,_,H1,rfl,I1.kept (t':=s1.toks) fun b o e=>ai _ e,zeT a _,⟨_,aH _ rfl,rfl,rfl⟩,fun b hb=>?_,q⟩;have e:b=s1.heap.objs.size:=by simpa using hb
  subst e;exact I1.fpOk (af _) (I1.hok.fresh (af _))
 ·obtain⟨kz,rv,p,hz⟩:=I1.tuple hq;refine f9 (show s1.heap.IsTuple a kz.toArray from p) ?_;refine⟨s1.heap.objs.size,[s1.heap.objs.size],_,_,H1,rfl,I1.kept (t':=s1.toks) fun b o e=>ai _ e,zd5 a _,⟨_,aH _ rfl,rfl,rfl⟩,fun b hb=>?_,q⟩;have e:b=s1.heap.objs.size:=by simpa using hb
  subst e;exact I1.fpOk (af _) (I1.hok.fresh (af _))
theorem zdD {X:Cx} {i:Int} {j:Nat} {p:Pos} {es:List Expr} {t:TA} (hr:PA X es t):PA X (.Constant (.int i) j p :: es) (zl9 (tC (.int i)) t):=za zi hr
section
variable {X:Cx} {K:ag}
theorem zbn (hK:X.K=K):IxR X (znB K):=by subst hK; exact zay
theorem zcY (hK:X.K=K):IxR X (znC K):=by subst hK; exact zbM
theorem zgZ (hK:X.K=K):OpR X (compareOp .In) (rIn K false):=by subst hK; exact ziI
def znG (K:ag):List V→Hp→VK→Prop:=fun xs H Q=>∃ p ys,xs = [.ref p]∧(ky K H p ys∨kF K H p ys)∧Q (.int ys.length) H
theorem zaG (hK:X.K=K):zci X (.builtin "len") (znG K):=by subst hK; exact zt
theorem zaK {es:List Expr} {k:Nat} {t:TGs} {n:Nat} {pos:Pos} (hK:X.K=K) (hc:X.calm=true) (h:PGs X es t)
  (hn:(assignEach es X.env).length=n:=by rfl) (oZ:(assignEach es X.env).findIdx? (·.1)=none:=by rfl):PG X (.Tuple es k pos) (zgP K n t):=by subst hK; exact zaI hc h hn oZ
theorem zjX {o e:Expr} {es:List Expr} {to:TE} {t:TA} {name:Str} {apos nv:Pos} {T id:String} {r:V→List V→Hp→VK→Prop} (hK:X.K=K) (pa:PlainAttrs T) (slot:Slot T name id) (BZ:typeOf (.builtin id)=pure (.type "method_descriptor")) (hm:MtR X id r) (ho:PE X o to) (ha:PA X (e :: es) t)
  (sP:attributeBase o name X.env (eval o X.env)=eval o X.env:=by rfl)
  (vN:((backTo nv (starEach (e :: es) X.env)).all (fun x=>!x.1) && (backToKw nv (keywordEach [] X.env)).all (fun x=>x.1.isSome)
   && decide ((e :: es).length+([]:List Keyword).length+(if ([]:List Keyword).isEmpty then 0 else 1) < 30))=true:=by rfl)
  (sQ:(apos.endLine == nv.line)=true:=by rfl) (hs:starEach (e :: es) X.env=(false,eval e X.env) :: starEach es X.env:=by rfl) (qi:(backTo nv (starEach es X.env)).any (·.1)=false:=by rfl) :
  PE X (.Call (.Attribute o name apos) (e :: es) [] nv) (tBM K T r to t):=by subst hK; exact zf2 pa slot BZ hm ho ha sP vN sQ hs qi
end
end L2
end
section
namespace My
def Cg (p a b:Int):Prop:=∃ k,a=b+p*k
theorem Cg.refl (p a:Int):Cg p a a:=⟨0,by grind⟩
theorem Cg.symm {p a b:Int} (h:Cg p a b):Cg p b a:=by obtain⟨k,e⟩:=h; exact⟨-k,by grind⟩
theorem Cg.trans {p a b c:Int} (h:Cg p a b) (h':Cg p b c):Cg p a c:=by
 obtain⟨k,e⟩:=h; obtain⟨l,e'⟩:=h'; exact⟨k+l,by grind⟩
theorem Cg.add {p a b c d:Int} (h:Cg p a b) (h':Cg p c d):Cg p (a+c) (b+d):=by
 obtain⟨k,e⟩:=h; obtain⟨l,e'⟩:=h'; exact⟨k+l,by grind⟩
theorem Cg.sub {p a b c d:Int} (h:Cg p a b) (h':Cg p c d):Cg p (a - c) (b - d):=by
 obtain⟨k,e⟩:=h; obtain⟨l,e'⟩:=h'; exact⟨k - l,by grind⟩
theorem Cg.mul {p a b c d:Int} (h:Cg p a b) (h':Cg p c d):Cg p (a*c) (b*d):=by
 obtain⟨k,e⟩:=h; obtain⟨l,e'⟩:=h';exact⟨k*d+b*l+p*k*l,by subst e e'; grind⟩
theorem Cg.of_eq {p a b:Int} (h:a=b):Cg p a b:=h ▸ Cg.refl p a
theorem Cg.emod (p a:Int):Cg p (a % p) a:=⟨-(a / p),by have:=Int.emod_add_mul_ediv a p; grind⟩
theorem Cg.mod_eq {p a b:Int} (h:Cg p a b):a % p=b % p:=by
 obtain⟨k,e⟩:=h; rw [e,Int.add_mul_emod_self_left]
theorem Cg.of_mod {p a b:Int} (h:a % p=b % p):Cg p a b:=(Cg.emod p a).symm.trans (h ▸ Cg.emod p b)
theorem Cg.eq {p a b:Int} (h:Cg p a b) (ha:0≤a) (ha':a < p) (hb:0≤b) (yc:b < p):a=b:=by
 have:=h.mod_eq
 rwa [ck ha ha',ck hb yc] at this
def zj (p x:Int):List Int→Int
 | []=>0
 | c :: r=>(c+x*zj p x r) % p
theorem zao {p x:Int} (hp:0 < p):∀ l,0≤zj p x l
 | []=>bP 0
 | _ :: _=>aK _ #[O]
theorem zap {p x:Int} (hp:0 < p):∀ l,zj p x l < p
 | []=>hp
 | _ :: _=>aF _ hp
theorem zO (p x c:Int) (r:List Int):Cg p (zj p x (c :: r)) (c+x*zj p x r):=Cg.emod _ _
theorem zg0 {p x:Int} (m:Nat):zj p x (ar m 0)=0:=by
 induction m with
 | zero=>rfl
 | succ m ih=>rw [cm]; show (0+x*zj p x (ar m 0)) % p=0; rw [ih]; simp
theorem zgc {p x:Int} (m:Nat):∀ l,zj p x (l++ar m 0)=zj p x l
 | []=>zg0 m
 | c :: r=>by show (c+x*zj p x (r++ar m 0)) % p=(c+x*zj p x r) % p; rw [zgc m r]
def lv (p x:Int):Int→Int→List Int→Int
 | kJ,_,[]=>kJ
 | kJ,power,c :: r=>lv p x ((kJ+c*power) % p) (power*x % p) r
theorem zmc {p x:Int}:∀ (l:List Int) (kJ power:Int),Cg p (lv p x kJ power l) (kJ+power*zj p x l)
 | [],kJ,power=>Cg.of_eq (by show kJ=kJ+power*0; grind)
 | c :: r,kJ,power=>by
  have h1:=zmc (p:=p) (x:=x) r ((kJ+c*power) % p) (power*x % p);refine h1.trans ?_;have h2:Cg p ((kJ+c*power) % p+power*x % p*zj p x r) (kJ+c*power+power*x*zj p x r):=(Cg.emod p _).add ((Cg.emod p (power*x)).mul (Cg.refl p _));refine h2.trans ?_;have h3:Cg p (kJ+power*(c+x*zj p x r)) (kJ+power*zj p x (c :: r)):=(Cg.refl p _).add ((Cg.refl p _).mul (zO p x c r).symm);refine (Cg.of_eq ?_).trans h3;grind
theorem zjY {p x:Int} (hp:0 < p):∀ (l:List Int) (kJ power:Int),0≤kJ→kJ < p→0≤lv p x kJ power l∧lv p x kJ power l < p
 | [],kJ,power,h1,h2=>⟨h1,h2⟩
 | c :: r,kJ,power,h1,h2=>zjY hp r _ _ (aK _ #[O]) (aF _ hp)
theorem zhL {p x:Int} (hp:0 < p) (l:List Int):lv p x 0 1 l=zj p x l:=by
 obtain⟨a,b⟩:=zjY (x:=x) hp l 0 1 (bP _) hp;exact ((zmc l 0 1).trans (Cg.of_eq (by grind))).eq a b (zao hp l) (zap hp l)
def zl:List Int:=[5,7,11,13,17,19,23,29,31,37,41,43,47,53,59,61,67,71,73,79,83,89,97]
def zcs (p:Int):Nat→Int→Int→Int→Int
 | 0,prod,_,_=>prod
 | n+1,prod,sq,left=>if 0 < left then zcs p n (if left % 2=1 then prod*sq % p else prod) (sq*sq % p) (left / 2) else prod
def inv (p h:Int):Int:=zcs p 7 1 (h % p) (p - 2)
def zop:Bool:=zl.all fun p=>(aJ p.toNat).all fun h=>h == 0 || (inv p h*h) % p == 1
theorem ziT:zop=true:=by decide +kernel
theorem zm {p:Int} (hp:p∈zl):5≤p∧p≤97:=by
 have:zl.all (fun p=>decide (5≤p∧p≤97))=true:=by decide +kernel
 have:=cN.mp this p hp;simpa using this
theorem zfu {p h:Int} (hp:p∈zl) (h0:0 < h) (h1:h < p):Cg p (inv p h*h) 1:=by
 have e:=cN.mp (cN.mp ziT p hp) h.toNat (bd.mpr #[O]);have hh:((h.toNat:Nat):Int)=h:=by lia
 have:h.toNat≠0:=by lia
 simp only [ij,beq_iff_eq,hh,this,false_or] at e;have hr:=zm hp;exact Cg.of_mod (by rw [e,ck #[O] #[O]])
theorem zdE {p a b:Int} (hp:p∈zl) (h:Cg p (a*b) 0):Cg p a 0∨Cg p b 0:=by
 have hr:=zm hp;by_cases ha:a % p=0
 ·exact .inl (Cg.of_mod (by rw [ha]; simp))
 ·right;have h0:0 < a % p:=by have:=aK a (show p≠0 by lia); lia
  have hi:=zfu hp h0 (aF a #[O]);have h1:Cg p (inv p (a % p)*(a*b)) 0:=((Cg.refl p _).mul h).trans (Cg.of_eq (by grind));have h2:Cg p (inv p (a % p)*(a % p)*b) (1*b):=hi.mul (Cg.refl p b);have h3:Cg p (inv p (a % p)*(a*b)) (inv p (a % p)*(a % p)*b):=by
   have:=((Cg.refl p (inv p (a % p))).mul (Cg.emod p a).symm).mul (Cg.refl p b);exact (Cg.of_eq (by grind)).trans this
  exact ((Cg.of_eq (by grind)).trans (h2.symm.trans (h3.symm.trans h1)))
def trF (p r:Int) (high low:Int):Int:=(high - r*low) % p
def zcl (p r:Int) (v:List Int):List Int:=a8 (trF p r) (0 :: v) (v++[0])
theorem zmd {p r z:Int}:∀ (v:List Int) (h:Int),Cg p (zj p z (a8 (trF p r) (h :: v) (v++[0]))) (h+(z - r)*zj p z v)
 | [],h=>by
  show Cg p ((trF p r h 0+z*0) % p) (h+(z - r)*0);refine (Cg.emod p _).trans ?_;have:Cg p (trF p r h 0) (h - r*0):=Cg.emod p _;exact (this.add (Cg.refl p (z*0))).trans (Cg.of_eq (by grind))
 | c :: w,h=>by
  show Cg p ((trF p r h c+z*zj p z (a8 (trF p r) (c :: w) (w++[0]))) % p) (h+(z - r)*zj p z (c :: w));have ih:=zmd (p:=p) (r:=r) (z:=z) w c;have h1:Cg p (trF p r h c) (h - r*c):=Cg.emod p _;refine (Cg.emod p _).trans ((h1.add ((Cg.refl p z).mul ih)).trans ?_);have h2:Cg p (h+(z - r)*(c+z*zj p z w)) (h+(z - r)*zj p z (c :: w)):=(Cg.refl p h).add ((Cg.refl p _).mul (zO p z c w).symm);exact (Cg.of_eq (by grind)).trans h2
theorem zhM {p r z:Int} (v:List Int):Cg p (zj p z (zcl p r v)) ((z - r)*zj p z v):=(zmd v 0).trans (Cg.of_eq (by grind))
theorem zdo (p r:Int) (v:List Int):(zcl p r v).length=v.length+1:=by simp [zcl]
theorem zef {α β γ:Type} {f:α→β→γ}:∀ {as:List α} {bs:List β} {c:γ},c∈a8 f as bs→∃ a b,c=f a b
 | [],_,c,h=>by simp at h
 | _ :: _,[],c,h=>by simp at h
 | a :: as,b :: bs,c,h=>by
  rcases aC.mp h with e | e
  ·exact⟨a,b,e⟩
  ·exact zef e
theorem zjZ {p r:Int} (hp:0 < p) (v:List Int):∀ c∈zcl p r v,0≤c∧c < p:=by
 intro c hc;obtain⟨a,b,e⟩:=zef hc;rw [e]; exact⟨aK _ #[O],aF _ hp⟩
def ad (p f:Int):List Int→List Int→List Int
 | c :: cs,v :: vs=>(c+f*v) % p :: ad p f cs vs
 | cs,[]=>cs
 | [],_ :: _=>[]
theorem ze4 (p f:Int):∀ (cs vs:List Int),(ad p f cs vs).length=cs.length
 | _ :: cs,_ :: vs=>by show (ad p f cs vs).length+1=_; rw [ze4 p f cs vs]; rfl
 | [],[]=>rfl
 | _ :: _,[]=>rfl
 | [],_ :: _=>rfl
theorem zj0 {p f:Int} (hp:0 < p):∀ (cs vs:List Int),(∀ c∈cs,0≤c∧c < p)→∀ c∈ad p f cs vs,0≤c∧c < p
 | c :: cs,v :: vs,h,d,hd=>by
  rcases aC.mp hd with e | e
  ·rw [e]; exact⟨aK _ #[O],aF _ hp⟩
  ·exact zj0 hp cs vs (fun c hc=>h c (av _ hc)) d e
 | [],[],h,d,hd=>h d hd
 | _ :: _,[],h,d,hd=>h d hd
 | [],_ :: _,h,d,hd=>by cases hd
theorem zhN {p f z:Int}:∀ (cs vs:List Int),vs.length≤cs.length→Cg p (zj p z (ad p f cs vs)) (zj p z cs+f*zj p z vs)
 | c :: cs,v :: vs,h=>by
  have ih:=zhN (p:=p) (f:=f) (z:=z) cs vs (by simpa using h);show Cg p (((c+f*v) % p+z*zj p z (ad p f cs vs)) % p) (zj p z (c :: cs)+f*zj p z (v :: vs));refine (Cg.emod p _).trans (((Cg.emod p (c+f*v)).add ((Cg.refl p z).mul ih)).trans ?_);have h2:Cg p ((c+z*zj p z cs)+f*(v+z*zj p z vs)) (zj p z (c :: cs)+f*zj p z (v :: vs)):=(zO p z c cs).symm.add ((Cg.refl p f).mul (zO p z v vs).symm);exact (Cg.of_eq (by grind)).trans h2
 | [],[],_=>Cg.of_eq (by show (0:Int)=0+f*0; grind)
 | c :: cs,[],_=>Cg.of_eq (by show zj p z (c :: cs)=zj p z (c :: cs)+f*0; grind)
 | [],_ :: _,h=>by simp at h
def zcm (p:Int) (s:List Int×List Int) (q:Int×Int):List Int×List Int :=
 (ad p ((q.2 - zj p q.1 s.1)*inv p (zj p q.1 s.2) % p) s.1 s.2,zcl p q.1 s.2)
def znH (p:Int) (n:Nat) (kx:List (Int×Int)):List Int×List Int:=kx.foldl (zcm p) (ar n 0,[1])
def thr (p:Int) (kx:List (Int×Int)):List Int:=(znH p kx.length kx).1
def zcn (z:Int):List (Int×Int)→Int
 | []=>1
 | q :: r=>(z - q.1)*zcn z r
theorem zeg (z:Int) (q:Int×Int):∀ l,zcn z (l++[q])=zcn z l*(z - q.1)
 | []=>by show (z - q.1)*1=1*(z - q.1); grind
 | a :: l=>by show (z - a.1)*zcn z (l++[q])=(z - a.1)*zcn z l*(z - q.1); rw [zeg z q l]; grind
theorem zeh {z:Int}:∀ {l:List (Int×Int)},(∃ q∈l,q.1=z)→zcn z l=0
 | [],h=>by obtain⟨q,hq,_⟩:=h; cases hq
 | a :: l,h=>by
  show (z - a.1)*zcn z l=0;obtain⟨q,hq,e⟩:=h;rcases aC.mp hq with hq | hq
  ·subst hq; rw [e]; simp
  ·rw [zeh ⟨q,hq,e⟩]; simp
theorem zgd {p z:Int} (hp:p∈zl) (hz:0≤z) (xj:z < p):∀ {l:List (Int×Int)},(∀ q∈l,0≤q.1∧q.1 < p∧q.1≠z)→¬ Cg p (zcn z l) 0
 | [],_,h=>by
  have hr:=zm hp;have:=h.mod_eq;have e1:(zcn z []:Int)=1:=rfl;rw [e1,ck #[O] #[O]] at this;simp at this
 | a :: l,hl,h=>by
  rcases zdE hp (show Cg p ((z - a.1)*zcn z l) 0 from h) with h | h
  ·obtain⟨h1,h2,h3⟩:=hl a aE;have:Cg p z a.1:=by
    have:=h.add (Cg.refl p a.1);exact (Cg.of_eq (by grind)).trans (this.trans (Cg.of_eq (by grind)))
   exact h3 (this.eq hz xj h1 h2).symm
  ·exact zgd hp hz xj (fun q hq=>hl q (av _ hq)) h
structure Nw (p:Int) (n:Nat) (done:List (Int×Int)) (s:List Int×List Int):Prop where
 lc:s.1.length=n
 lv:s.2.length=done.length+1
 rc:∀ c∈s.1,0≤c∧c < p
 rv:∀ c∈s.2,0≤c∧c < p
 van:∀ z,Cg p (zj p z s.2) (zcn z done)
 hit:∀ q∈done,zj p q.1 s.1=q.2
theorem zge {p:Int} (hp:p∈zl) (n:Nat):Nw p n [] (ar n 0,[1]):=by
 have hr:=zm hp;refine⟨#[M],rfl,fun c hc=>?_,fun c hc=>?_,fun z=>?_,fun q hq=>by cases hq⟩
 ·obtain⟨_,e⟩:=List.mem_replicate.mp hc;lia
 ·have:c=1:=by simpa using hc
  lia
 ·show Cg p ((1+z*0) % p) 1;exact (Cg.emod p _).trans (Cg.of_eq (by grind))
theorem zhO {p:Int} {n:Nat} {done:List (Int×Int)} {s:List Int×List Int} (hp:p∈zl) (h:Nw p n done s) {q:Int×Int} (q0:0≤q.1) (q1:q.1 < p) (hd:∀ a∈done,0≤a.1∧a.1 < p∧a.1≠q.1) :
  0 < zj p q.1 s.2∧zj p q.1 s.2 < p:=by
 have hr:=zm hp;refine⟨?_,zap #[O] _⟩;have h0:=zao (x:=q.1) (show 0 < p by lia) s.2;by_cases e:zj p q.1 s.2=0
 ·exact absurd ((h.van q.1).symm.trans (Cg.of_eq e)) (zgd hp q0 q1 hd)
 ·lia
theorem ziU {p:Int} {n:Nat} {done:List (Int×Int)} {s:List Int×List Int} (hp:p∈zl) (h:Nw p n done s) {q:Int×Int} (q0:0≤q.1) (q1:q.1 < p) (hd:∀ a∈done,0≤a.1∧a.1 < p∧a.1≠q.1) :
  Cg p ((q.2 - zj p q.1 s.1)*inv p (zj p q.1 s.2) % p*zj p q.1 s.2) (q.2 - zj p q.1 s.1):=by
 obtain⟨h0,h1⟩:=zhO hp h q0 q1 hd;have hi:=zfu hp h0 h1;refine ((Cg.emod p _).mul (Cg.refl p _)).trans ?_;have:=(Cg.refl p (q.2 - zj p q.1 s.1)).mul hi;exact (Cg.of_eq (by grind)).trans (this.trans (Cg.of_eq (by grind)))
theorem zhP {p:Int} {n:Nat} {done:List (Int×Int)} {s:List Int×List Int} (hp:p∈zl) (h:Nw p n done s) {q:Int×Int} (hn:done.length < n) (q0:0≤q.1) (q1:q.1 < p) (q2:0≤q.2) (q3:q.2 < p)
  (hd:∀ a∈done,0≤a.1∧a.1 < p∧a.1≠q.1∧0≤a.2∧a.2 < p):Nw p n (done++[q]) (zcm p s q):=by
 have hr:=zm hp;have xc:∀ a∈done,0≤a.1∧a.1 < p∧a.1≠q.1:=fun a ha=>⟨(hd a ha).1,(hd a ha).2.1,(hd a ha).2.2.1⟩
 have hlv:=h.lv;have hlc:=h.lc;have hle:s.2.length≤s.1.length:=by lia
 refine⟨by show (ad _ _ _ _).length=n; rw [ze4,h.lc],by show (zcl _ _ _).length=_; rw [zdo,h.lv,ap,d8],zj0 #[O] _ _ h.rc,zjZ #[O] _,fun z=>?_,fun a ha=>?_⟩
 ·rw [zeg];exact (zhM s.2).trans (((Cg.refl p _).mul (h.van z)).trans (Cg.of_eq (by grind)))
 ·have hv:=zhN (p:=p) (f:=(q.2 - zj p q.1 s.1)*inv p (zj p q.1 s.2) % p) (z:=a.1) s.1 s.2 hle; rcases aL.mp ha with ha | ha
  ·obtain⟨b0,b1,b2,b3,b4⟩:=hd a ha;have hz:Cg p (zj p a.1 s.2) 0:=(h.van a.1).trans (Cg.of_eq (zeh ⟨a,ha,rfl⟩));have h2:Cg p (zj p a.1 (ad p ((q.2 - zj p q.1 s.1)*inv p (zj p q.1 s.2) % p) s.1 s.2)) (zj p a.1 s.1):=hv.trans (((Cg.refl p (zj p a.1 s.1)).add ((Cg.refl p _).mul hz)).trans (Cg.of_eq (by rw [cI,Int.add_zero])));rw [h.hit a ha] at h2;exact h2.eq (zao #[O] _) (zap #[O] _) b3 b4
  ·have e:a=q:=by simpa using ha
   subst e;have h2:Cg p (zj p a.1 (ad p ((a.2 - zj p a.1 s.1)*inv p (zj p a.1 s.2) % p) s.1 s.2)) a.2:=hv.trans (((Cg.refl p (zj p a.1 s.1)).add (ziU hp h q0 q1 xc)).trans (Cg.of_eq #[O]));exact h2.eq (zao #[O] _) (zap #[O] _) q2 q3
structure Pts (p:Int) (kx:List (Int×Int)):Prop where
 nd:(kx.map (·.1)).Nodup
 rg:∀ q∈kx,0≤q.1∧q.1 < p∧0≤q.2∧q.2 < p
theorem Pts.apart {p:Int} {done rest:List (Int×Int)} {q:Int×Int} (h:Pts p (done++q :: rest)):∀ a∈done,0≤a.1∧a.1 < p∧a.1≠q.1∧0≤a.2∧a.2 < p:=fun a ha=>by
 obtain⟨r1,r2,r3,r4⟩:=h.rg a (aP _ ha);refine⟨r1,r2,fun e=>?_,r3,r4⟩;have nd:=h.nd;rw [ao,fc] at nd;exact nd.2.2 a.1 (aq.mpr ⟨a,ha,rfl⟩) q.1 #[M] e
theorem zj1 {p:Int} (hp:p∈zl) {n:Nat}:∀ (rest done:List (Int×Int)) (s:List Int×List Int),Pts p (done++rest)→(done++rest).length=n→Nw p n done s→Nw p n (done++rest) (rest.foldl (zcm p) s)
 | [],done,s,_,_,h=>by rw [bE]; exact h
 | q :: rest,done,s,hP,hn,h=>by
  have ux:done.length < n:=by rw [← hn]; simp
  obtain⟨a,b,c,d⟩:=hP.rg q #[M];have hs:=zhP hp h (q:=q) ux a b c d hP.apart;have e:done++q :: rest=(done++[q])++rest:=by simp
  rw [e] at hP hn ⊢;exact zj1 hp rest (done++[q]) _ hP hn hs
theorem zcK {p:Int} (hp:p∈zl) {kx:List (Int×Int)} (hP:Pts p kx):(thr p kx).length=kx.length∧(∀ c∈thr p kx,0≤c∧c < p)∧∀ q∈kx,zj p q.1 (thr p kx)=q.2:=by
 have h:=zj1 hp (n:=kx.length) kx [] _ (by simpa using hP) #[M] (zge hp kx.length);exact⟨h.lc,h.rc,h.hit⟩
end My
end
section
namespace My
open PySem L2 PyProof.Rows
section
variable {K:ag}
theorem zmO {ns:List Int} {k:Int} (h0:0≤k) (h1:k < ns.length):∃ c:Int,ns[k.toNat]? = some c∧atI (ns.map V.int) k=some (.int c):=by
 have kU:k.toNat < ns.length:=by lia
 have e:atI (ns.map V.int) ((k.toNat:Nat):Int)=some (.int ns[k.toNat]):=zaO (by simp [ah,aj kU]);have hk:((k.toNat:Nat):Int)=k:=by lia
 rw [hk] at e;exact⟨ns[k.toNat],#[M],e⟩
theorem zcZ {ns:List Int} {k:Int} (h0:0≤k) (h1:k < ns.length):∃ c:Int,atI (ns.map V.int) k=some (.int c):=let ⟨c,_,e⟩:=zmO h0 h1; ⟨c,e⟩
theorem zc {H:Hp} {a:Addr} {o:HO} (h:H a=none):zu H (kB H a o):=fun b u e=>by rw [zr (zQ e h)]; exact e
theorem zaH {H H':Hp} {a:Addr} {o:HO} (s:zu H H') (h:H a=none):zu H (kB H' a o):=fun b u e=>by rw [zr (zQ e h)]; exact s b u e
theorem zau {n:Nat} (h:n≤10000):n < sizeLine:=by rw [ba]; lia
def ziV (K:ag):Sp:=fun vs H Q _=>∃ (a:Addr) (ns:List Int) (k:Int),vs = [.ref a,.int k]∧ky K H a (ns.map V.int)∧ns.length≤63∧0≤k∧k≤1000∧∀ c:Int,Q (.int c) H
def zhQ (many:Nat) (base:Int) (ds:List Int):Prop:=ds.length=many∧∀ d∈ds,0≤d∧d < base
def zg1 (K:ag):Sp:=fun vs H Q _=>∃ (a:Addr) (ns:List Int) (k many base:Int),vs = [.ref a,.int k,.int many,.int base]∧ky K H a (ns.map V.int)∧ns.length≤63∧0≤k∧k≤1000∧0≤many∧many≤1000∧0 < base∧base < 1073741824 ∧
 ∀ (l:Addr) (ds:List Int) (H':Hp),H l=none→zu H H'→zhQ many.toNat base ds→H' l=some (.lst (ds.map V.int))→Q (.ref l) H'
abbrev zlb:List V:=[.int 2147483647,.int 2147483629,.int 2147483587,.int 2147483579,.int 2147483563,.int 2147483549,.int 2147483543,.int 2147483497]
theorem zlc {m:Int} (h0:0≤m) (h1:m < 8):∃ q:Int,atI zlb m=some (.int q)∧0 < q∧q < 2147483648:=by
 have:m=0∨m=1∨m=2∨m=3∨m=4∨m=5∨m=6∨m=7:=by lia
 rcases this with e | e | e | e | e | e | e | e <;> subst e <;> exact⟨_,rfl,#[D],#[D]⟩
theorem zei (j:Int):∃ q:Int,atI zlb (j % 8)=some (.int q)∧0 < q∧q < 2147483648:=zlc (aK _ #[D]) (aF _ #[D])
theorem gY {i:Nat} {x:V} {σ:L2.St} {H:Hp} {A B:L2.St→Hp→Prop} (h:A (σ.set i (some x)) H):zbc i x σ H (fun σ2 H2=>zmG σ2 H2 fun b H3=>if b=true then A σ2 H3 else B σ2 H3):=by
 show (if true=true then A (σ.set i (some x)) H else B (σ.set i (some x)) H);rw [if_pos rfl];exact h
theorem zdp {α β:Type} (f:α→β):∀ (l:List α) (k:Nat),(l.map f).eraseIdx k=(l.eraseIdx k).map f
 | [],_=>rfl
 | _ :: _,0=>rfl
 | a :: l,k+1=>by show f a :: (l.map f).eraseIdx k=f a :: (l.eraseIdx k).map f; rw [zdp f l k]
theorem zej {α:Type}:∀ {l:List α} {k:Nat} {x:α},l[k]? = some x→(x :: l.eraseIdx k).Perm l
 | [],_,_,h=>by simp at h
 | a :: l,0,x,h=>by
  have e:a=x:=by simpa using h
  subst e;exact List.Perm.refl _
 | a :: l,k+1,x,h=>by
  have ih:=zej (l:=l) (k:=k) (x:=x) (by simpa using h);exact (List.Perm.swap a x _).trans (ih.cons a)
theorem zhR {p:Int} {xs ls:List Int} {k:Nat} {x:Int} (h:ls[k]? = some x) (nd:(xs++ls).Nodup) (rg:∀ y∈xs++ls,0≤y∧y < p):((xs++[x])++ls.eraseIdx k).Nodup∧∀ y∈(xs++[x])++ls.eraseIdx k,0≤y∧y < p:=by
 have hp:((xs++[x])++ls.eraseIdx k).Perm (xs++ls):=by
  rw [bi];exact (zej h).append_left xs
 exact⟨hp.nodup_iff.mpr nd,fun y hy=>rg y (hp.mem_iff.mp hy)⟩
theorem ze5 (p:Int):(zaa 0 p.toNat).Nodup∧∀ y∈zaa 0 p.toNat,0≤y∧y < p:=by
 unfold zaa;constructor
 ·rw [gp,bM];exact (gp.mp (df (n:=p.toNat))).imp fun {a b} mJ=>by lia
 ·intro y hy;obtain⟨i,hi,e⟩:=aq.mp hy;have:=bd.mp hi;lia
def zdF (K:ag):Sp:=fun vs H Q _=>∃ (p x:Int) (a:Addr) (cs:List Int),vs = [.int p,.ref a,.int x]∧(ky K H a (cs.map V.int)∨kF K H a (cs.map V.int))∧0 < p∧p≤97∧0≤x∧x < p∧Q (.int (zj p x cs)) H
def zg2 (K:ag):Sp:=zdF K
theorem ze6 {cs:List Int} {i:Nat} {c:Int} (hi:i < cs.length) (h:cs[cs.length - 1 - i]? = some c):cs.drop (cs.length - (i+1))=c :: cs.drop (cs.length - i):=by
 have e:cs.length - (i+1)=cs.length - 1 - i:=by lia
 have kU:cs.length - 1 - i < cs.length:=by lia
 rw [e,cq kU];have:cs[cs.length - 1 - i]=c:=by
  rw [aj kU] at h;exact aQ h
 rw [this];congr 2;lia
theorem zaj {cs:List Int} {j:Nat} {x:V} (h:(cs.map V.int)[j]? = some x):∃ c,x = .int c∧cs[j]? = some c:=by
 rw [ah] at h;cases e:cs[j]? with
 | none=>rw [e] at h; cases h
 | some c=>rw [e] at h; exact⟨c,(aQ h).symm,rfl⟩
theorem zhS {p x kJ power c:Int} {cs:List Int} {i:Nat} (h:cs[i]? = some c):lv p x kJ power (cs.drop i)=lv p x ((kJ+c*power) % p) (power*x % p) (cs.drop (i+1)):=by
 obtain⟨kU,e⟩:=az.mp h;rw [cq kU,e];rfl
def zg3 (K:ag):Sp:=fun vs H Q _=>∃ (p h:Int),vs = [.int p,.int h]∧p∈zl∧0≤h∧h < p∧Q (.int (inv p h)) H
def zmP (σ:L2.St):Nat:=match (σ[4]?:Option (Option V)) with
 | some (some (V.int l))=>l.toNat
 | _=>0
theorem zfv {p prod sq left:Int} {n:Nat} (h0:0 < left) (h1:left < 2 ^ (n+1)):zcs p (n+1) prod sq left=zcs p n (if left % 2=1 then prod*sq % p else prod) (sq*sq % p) (left / 2):=by
 show (if 0 < left then _ else _)=_;rw [if_pos h0]
theorem zgf {p prod sq:Int}:∀ n,zcs p n prod sq 0=prod
 | 0=>rfl
 | n+1=>by show (if (0:Int) < 0 then _ else prod)=prod; rw [if_neg #[D]]
theorem gY2 {K:ag} {i j:Nat} {T:Addr} {x y:V} {σ:L2.St} {H:Hp} {A B:L2.St→Hp→Prop} (hT:kF K H T [x,y]) (h:A ((σ.set i (some x)).set j (some y)) H) :
  zgP K 2 (zcE (zbc i) (zcE (zbc j) ziC)) (.ref T) σ H (fun σ2 H2=>zmG σ2 H2 fun b H3=>if b=true then A σ2 H3 else B σ2 H3):=by
 refine⟨T,_,rfl,hT,rfl,x,_,rfl,y,_,rfl,rfl,?_⟩;show (if true=true then A ((σ.set i (some x)).set j (some y)) H else B ((σ.set i (some x)).set j (some y)) H);rw [if_pos rfl];exact h
theorem zgg {f:Int→Int→Int} {as bs:List Int} {i:Nat} {x y:Int} (hx:as[i]? = some x) (hy:bs[i]? = some y):(a8 f as bs).take (i+1)=(a8 f as bs).take i++[f x y]:=by
 have e:(a8 f as bs)[i]? = some (f x y):=by rw [iE,hx,hy]
 rw [jx,e,kh]
def zj2 (K:ag) (H:Hp) (a:Addr) (kx:List (Int×Int)):Prop:=∃ bs:List Addr,ky K H a (bs.map V.ref)∧bs.length=kx.length∧∀ (i:Nat) (b:Addr) (q:Int×Int),bs[i]? = some b→kx[i]? = some q→H b=some (.tup [.int q.1,.int q.2])
theorem zc0 (n:Nat):(ar n [V.int 0]).flatten=(ar n (0:Int)).map V.int:=by
 induction n with
 | zero=>rfl
 | succ n ih=>rw [cm,dZ,ih,cm]; rfl
theorem zhT {n j:Nat} (h:j < n):ixN n (j:Int)=some j:=by
 unfold ixN;rw [if_pos #[O],if_pos #[O]];rfl
theorem zK {bs:List Addr} {i:Nat} {x:V} (h:(bs.map V.ref)[i]? = some x):∃ b,x = .ref b∧bs[i]? = some b:=by
 rw [ah] at h;cases e:bs[i]? with
 | none=>rw [e] at h; cases h
 | some b=>rw [e] at h; exact⟨b,(aQ h).symm,rfl⟩
theorem take_snoc {α:Type} {l:List α} {i:Nat} {x:α} (h:l[i]? = some x):l.take (i+1)=l.take i++[x]:=by
 rw [jx,h,kh]
theorem zek {α:Type} {l:List α} {i:Nat} {x:α} (h:l[i]? = some x):l=l.take i++x :: l.drop (i+1):=by
 obtain⟨hi,e⟩:=az.mp h; have:=b9 i l;rw [cq hi,e] at this;exact this.symm
theorem zj3 {f:Int→Int→Int} {as bs:List Int} {n:Nat} (h1:n≤as.length) (h2:n≤bs.length) (h3:as.length≤n∨bs.length≤n):(a8 f as bs).length=n:=by
 rw [dJ];lia
theorem ze7 {a b:Addr} {as bs:List Int} {n:Nat} {f:Int→Int→Int} {g:TG} {ts:TT} {te:TE} {σ0:L2.St} {Q:VK} {H:Hp} (ha:H a=some (.lst (as.map V.int))) (hb:H b=some (.lst (bs.map V.int))) (h1:n≤as.length) (h2:n≤bs.length) (h3:as.length≤n∨bs.length≤n) (hn:n≤10000)
  (hs:∀ (i:Nat) (x y:Int) (H1:Hp) (T:Addr) (R:VK) (B:L2.St→Hp→Prop),as[i]? = some x→bs[i]? = some y→zu H H1→H1 T=none→R (.int (f x y)) (kB H1 T (.tup [.int x,.int y]))→g (.ref T) σ0 (kB H1 T (.tup [.int x,.int y])) fun σ2 H2=>ts σ2 H2 fun b H3=>if b=true then te σ2 H3 R else B σ2 H3)
  (hd:∀ D H1,zu H H1→H1 D=none→Q (.ref D) (kB H1 D (.lst ((a8 f as bs).map V.int)))):cGo g ts te σ0 (ziP (ky K) (ky K) a b) Q H:=by
 have hl:=zj3 (f:=f) h1 h2 h3;refine zdN (n:=n) (fun i ys H'=>ys=((a8 f as bs).take i).map V.int∧zu H H') ⟨#[M],fun _ _ e=>e⟩ ?_ ?_ ?_ ?_
 ·rintro i ys H3 hi ⟨_,s3⟩;obtain⟨x,hx⟩:∃ x,as[i]? = some x:=⟨as[i]'#[O],#[M]⟩;obtain⟨y,hy⟩:∃ y,bs[i]? = some y:=⟨bs[i]'#[O],#[M]⟩;exact⟨_,_,.int x,.int y,ky.of (s3 _ _ ha),ky.of (s3 _ _ hb),by rw [ah,hx]; rfl,by rw [ah,hy]; rfl⟩
 ·rintro ys H3 ⟨_,s3⟩;exact⟨_,_,ky.of (s3 _ _ ha),ky.of (s3 _ _ hb),by rw [ab,ab]; exact h3⟩
 ·rintro i x ys H3 H4 hi ⟨rfl,s3⟩ ⟨T,u,v,hT,rfl,rfl,hu,hv⟩;obtain⟨x,rfl,hx⟩:=zaj (hu _ (ky.of (s3 _ _ ha)));obtain⟨y,rfl,hy⟩:=zaj (hv _ (ky.of (s3 _ _ hb)));refine hs i x y H3 T _ _ hx hy s3 hT ⟨zau ?_,?_,s3.trans (zc hT)⟩
  ·rw [ab];exact aN (eE _ _) #[O]
  ·rw [zgg hx hy,ao];rfl
 ·rintro ys H3 D ⟨rfl,s3⟩ hD;rw [aT #[O]];exact hd D H3 s3 hD
theorem ze8 {a:Addr} {xs fs:List V} {g:TG} {ts:TT} {te:TE} {σ0:L2.St} {Q:VK} {H:Hp} (ha:ky K H a xs) (hl:fs.length=xs.length) (hn:xs.length≤10000)
  (hs:∀ (i:Nat) (x y:V) (R:VK) (B:L2.St→Hp→Prop),xs[i]? = some x→fs[i]? = some y→R y H→g x σ0 H fun σ2 H2=>ts σ2 H2 fun b H3=>if b=true then te σ2 H3 R else B σ2 H3)
  (hd:∀ D,H D=none→Q (.ref D) (kB H D (.lst fs))):cGo g ts te σ0 (Itl K a) Q H:=by
 refine zdN (n:=xs.length) (fun i ys H'=>ys=fs.take i∧H'=H) ⟨#[M],rfl⟩ ?_ ?_ ?_ ?_
 ·rintro i ys H3 hi ⟨_,rfl⟩;exact⟨_,xs[i],ha,#[M]⟩
 ·rintro ys H3 ⟨_,rfl⟩;exact⟨_,ha,af _⟩
 ·rintro i x ys H3 H4 hi ⟨rfl,rfl⟩ ⟨rfl,hx⟩;have hy:fs[i]? = some fs[i]:=by simp
  refine hs i x fs[i] _ _ (hx _ ha) hy ⟨zau (aN (eE _ _) #[O]),?_,rfl⟩;rw [take_snoc hy]
 ·rintro ys H3 D ⟨rfl,rfl⟩ hD;rw [aT #[O]];exact hd D hD
theorem zgh {ms:List Int} {f:Int→V} {i:Nat} {x y:V} (hx:(ms.map V.int)[i]? = some x) (hy:(ms.map f)[i]? = some y):∃ c,ms[i]? = some c∧x = .int c∧y=f c:=by
 obtain⟨c,rfl,hc⟩:=zaj hx;rw [ah,hc] at hy;exact⟨c,hc,rfl,(aQ hy).symm⟩
def zfw (K:ag):Sp:=fun vs H Q _=>∃ (a:Addr) (ns:List Int),vs = [.ref a]∧ky K H a (ns.map V.int)∧ns.length≤63∧∀ H',Q (.bl true) H'
end
end My
end
section
namespace PySem
abbrev IsZ (h:Heap) (z TI TO:Addr) (f0 f1:Value):Prop:=h.get? z=some { cls:=.type "zip",dict:=none,data:=.fields #[f0,f1,.bool false,.ref TI,.ref TO],slots:=#[] }
def ZF (f0 f1:Value):Prop:=(f0 = .none∨∃ a t,f0 = .int a t)∧∃ b,f1 = .bool b
structure Zap (z TI TO i1 i2:Addr) (oJ oK:List Addr):Prop where
 zTI:TI≠z
 zTO:TO≠z
 z1:i1≠z
 z2:i2≠z
 TT:TI≠TO
 T1:TI≠i1
 T2:TI≠i2
 O1:TO≠i1
 O2:TO≠i2
 ii:i1≠i2
 a1:z∉oJ
 a2:TO∉oJ
 a3:i2∉oJ
 b1:z∉oK
 b2:TO∉oK
 b3:i1∉oK
section
variable {prog:Program} {w:World} {A:Around} {E:Value→Shared→Prop} {s:Shared}
theorem ziW {a:Addr} {Q:Option Obj→Shared→Prop} (h:Q (s.heap.get? a) s):wpAny (model prog w) A (loadIfAlive a) Q E s:=fun _ _ _=>h
theorem zj4 {z TI TO:Addr} {f0 f1:Value} {Q:Bool→Shared→Prop} (hz:IsZ s.heap z TI TO f0 f1) (hf:ZF f0 f1) (h1:Q true s)
  (h2:∀ h',IsZ h' z TI TO f0 (.bool true)→bg z s.heap h'→Q false { s with heap:=h' }):wpAny (model prog w) A (bO (.ref z)) Q E s:=by
 obtain⟨hf,b,rfl⟩:=hf;unfold bO; rcases hf with rfl | ⟨a,t,rfl⟩
 ·exact ae (bn hz rfl (x:=.none) rfl (ak h1))
 ·refine ae (bn hz rfl (x:=.int a t) rfl ?_);refine ae (ziW ?_);cases s.heap.get? a.toNat with
  | none=>exact ak h1
  | some o =>
   refine ae (bn hz rfl (x:=.bool b) rfl ?_);cases b with
   | true=>exact ak (h2 s.heap hz ⟨rfl,fun _ _=>rfl⟩)
   | false=>exact ae (bG hz #[M] fun h' a' b'=>ak (h2 h' a' b'))
theorem zhU {z TI TO i1 i2:Addr} {oJ oK:List Addr} {n1 n2 k1 k2:Nat} {P1 P2:Nat→Value→Prop} {S1 S2:Nat→Heap→Prop} {f0 f1 a b:Value} {Q:Value→Shared→Prop} (D1:Draws prog w A i1 oJ n1 P1 S1) (D2:Draws prog w A i2 oK n2 P2 S2) (Z:Zap z TI TO i1 i2 oJ oK)
  (hz:IsZ s.heap z TI TO f0 f1) (hf:ZF f0 f1) (rC:IsPair s.heap TI (.ref i1) (.ref i2)) (sG:IsPair s.heap TO a b) (mR:S1 k1 s.heap) (lH:S2 k2 s.heap) (l1:k1 < n1) (l2:k2 < n2)
  (hQ:∀ x y h' tk g0 g1 a' b',P1 k1 x→P2 k2 y→IsZ h' z TI TO g0 g1→ZF g0 g1→IsPair h' TI (.ref i1) (.ref i2)→IsPair h' TO a' b'→S1 (k1+1) h'→S2 (k2+1) h'→IsPair h' s.heap.objs.size x y→h'.objs.size=s.heap.objs.size+1 →
   (∀ c o,c≠z→c≠TO→c≠i1→c≠i2→s.heap.get? c=some o→h'.get? c=some o)→Q (.ref s.heap.objs.size) { s with heap:=h',toks:=tk }):wpAny (model prog w) A (Builtin.«zip.__next__» ⟨[.ref z],[]⟩) (fun fin s'=>∃ v,fin = .done (.ret v)∧Q v s') E s:=by
 obtain⟨hp,g,d,A9,os⟩:=s;show wpAny _ _ (field (.ref z) 2 >>= _) _ _ _; refine ae (bn hz rfl (x:=.bool false) rfl ?_); show wpAny _ _ (field (.ref z) 3 >>= _) _ _ _;refine ae (bn hz rfl (x:=.ref TI) rfl ?_); refine ae (de rC rfl ?_);show wpAny _ _ (bO (.ref z) >>= _) _ _ _; refine ae (zj4 hz hf ?_ fun h0 hz0 qU=>?_)
 ·simp only [if_true];refine ae (cg (ae (bn hz rfl (x:=.ref TO) rfl ?_)));refine ae (bG hz #[M] fun ha vg oM=>?_);replace vg:IsZ ha z TI TO .ellipsis f1:=vg;replace oM:bg z hp ha:=oM;refine ae ?_;simp only [jN,jZ,dR,fW]; refine ae (ae (gq ?_)); show wpAny _ _ (aY (.ref i1) >>= _) _ _ _;refine ae (D1.item k1 _ _ _ l1 (D1.frame _ _ _ mR fun c hc o e=>oM.extBut c o (fun q=>Z.a1 (q ▸ hc)) e) fun x hb yd px ye mj=>ak ?_);replace mj:bg i1 ha hb:=mj;have sY:IsPair hb TO a b:=mj.extBut _ _ Z.O1 (oM.extBut _ _ Z.zTO sG);refine ae (de sY rfl (ae (fF sY fun hc uB rD=>?_)));replace uB:IsPair hc TO x b:=uB;replace rD:bg TO hb hc:=rD;refine ae (iw (ak (ae (ae (gq ?_))))); show wpAny _ _ (aY (.ref i2) >>= _) _ _ _;refine ae (D2.item k2 _ _ _ l2 (D2.frame _ _ _ lH fun c n4 o e=>rD.extBut c o (fun q=>Z.b2 (q ▸ n4)) (mj.extBut c o (fun q=>Z.b3 (q ▸ n4)) (oM.extBut c o (fun q=>Z.b1 (q ▸ n4)) e))) fun y hd Cs py Ct o9=>ak ?_);replace o9:bg i2 hc hd:=o9;have uC:IsPair hd TO x b:=o9.extBut _ _ Z.O2 uB;refine ae (de uC rfl (ae (fF uC fun he uD vX=>?_)));replace uD:IsPair he TO x y:=uD;replace vX:bg TO hd he:=vX;refine ae (iw (ak (ak ?_))); refine ae (de uD rfl (ae (fX ?_)));have hsz:he.objs.size=hp.objs.size:=by rw [vX.1,o9.1,rD.1,mj.1,oM.1]
  have hze:IsZ he z TI TO .ellipsis f1:=vX.extBut _ _ Z.zTO.symm (o9.extBut _ _ Z.z2.symm (rD.extBut _ _ Z.zTO.symm (mj.extBut _ _ Z.z1.symm vg)));have kk:∀ c o,c≠z→c≠TO→c≠i1→c≠i2→hp.get? c=some o→he.get? c=some o:=fun c o c1 c2 c3 c4 e=>vX.extBut _ _ c2 (o9.extBut _ _ c4 (rD.extBut _ _ c2 (mj.extBut _ _ c3 (oM.extBut _ _ c1 e))))
  have Cu:S1 (k1+1) he:=D1.frame _ _ _ ye fun c n4 o e=>vX.extBut c o (fun q=>Z.a2 (q ▸ n4)) (o9.extBut c o (fun q=>Z.a3 (q ▸ n4)) (rD.extBut c o (fun q=>Z.a2 (q ▸ n4)) e))
  have Cv:S2 (k2+1) he:=D2.frame _ _ _ Ct fun c n4 o e=>vX.extBut c o (fun q=>Z.b2 (q ▸ n4)) e
  have zlt:z < he.objs.size:=aI hze;show wpAny _ _ (cB (.ref z) (.ref he.objs.size) >>= _) _ _ _;refine ae ?_;unfold cB; have uE:IsZ (he.push { cls:=.type "tuple",data:=.seq #[x,y] }) z TI TO .ellipsis f1:=ai _ hze;refine ae (bG uE #[M] fun h7 Cw vh=>?_);replace Cw:IsZ h7 z TI TO (rawInt he.objs.size) f1:=Cw;refine bG Cw #[M] fun h8 xk Cy=>ak ⟨_,rfl,?_⟩
  replace xk:IsZ h8 z TI TO (rawInt he.objs.size) (.bool false):=xk;have up:∀ c o,c≠z→he.get? c=some o→h8.get? c=some o:=fun c o c1 e=>Cy.extBut _ _ c1 (vh.extBut _ _ c1 (ai _ e))
  have yf:IsPair h8 he.objs.size x y:=Cy.extBut _ _ (eK zlt) (vh.extBut _ _ (eK zlt) (aH _ rfl));have sZ:h8.objs.size=he.objs.size+1:=by rw [Cy.1,vh.1,bK]
  show Q (.ref he.objs.size) _;rw [hsz] at xk yf sZ ⊢;exact hQ x y h8 Cs _ _ _ _ px py xk ⟨.inr ⟨_,_,rfl⟩,_,rfl⟩ (up _ _ Z.zTI (kk _ _ Z.zTI Z.TT Z.T1 Z.T2 rC)) (up _ _ Z.zTO uD) (D1.frame _ _ _ Cu fun c n4 o e=>up c o (fun q=>Z.a1 (q ▸ n4)) e) (D2.frame _ _ _ Cv fun c n4 o e=>up c o (fun q=>Z.b1 (q ▸ n4)) e) yf sZ fun c o c1 c2 c3 c4 e=>up c o c1 (kk c o c1 c2 c3 c4 e)
 ·simp only [bj,if_false]; replace qU:bg z hp h0:=qU;rw [show (#[bf i1,bf i2]:Array Value) = [bf i1,bf i2].toArray from rfl];simp only [jp,dR,fW];refine ae (ae (ae (b8 ?_))); show wpAny _ _ (aY (.ref i1) >>= _) _ _ _;refine ae (D1.item k1 _ _ _ l1 (D1.frame _ _ _ mR fun c hc o e=>qU.extBut c o (fun q=>Z.a1 (q ▸ hc)) e) fun x hb yd px ye mj=>ak (ak ?_));replace mj:bg i1 h0 hb:=mj;refine ae (ae (b8 ?_)); show wpAny _ _ (aY (.ref i2) >>= _) _ _ _;refine ae (D2.item k2 _ _ _ l2 (D2.frame _ _ _ lH fun c n4 o e=>mj.extBut c o (fun q=>Z.b3 (q ▸ n4)) (qU.extBut c o (fun q=>Z.b1 (q ▸ n4)) e)) fun y hd Cs py Ct o9=>ak (ak (ak ?_)));replace o9:bg i2 hb hd:=o9;show wpAny _ _ (newTuple [x,y] >>= _) _ _ _;refine ae (fX (ak ⟨_,rfl,?_⟩));have hsz:hd.objs.size=hp.objs.size:=by rw [o9.1,mj.1,qU.1]
  have kk:∀ c o,c≠z→c≠TO→c≠i1→c≠i2→hp.get? c=some o→hd.get? c=some o:=fun c o c1 c2 c3 c4 e=>o9.extBut _ _ c4 (mj.extBut _ _ c3 (qU.extBut _ _ c1 e))
  have Ba:IsZ hd z TI TO f0 (.bool true):=o9.extBut _ _ Z.z2.symm (mj.extBut _ _ Z.z1.symm hz0);have uC:IsPair hd TO a b:=o9.extBut _ _ Z.O2 (mj.extBut _ _ Z.O1 (qU.extBut _ _ Z.zTO sG));have Cz:S1 (k1+1) hd:=D1.frame _ _ _ ye fun c n4 o e=>o9.extBut c o (fun q=>Z.a3 (q ▸ n4)) e
  have up:∀ c o,hd.get? c=some o→(hd.push { cls:=.type "tuple",data:=.seq #[x,y] }).get? c=some o:=fun c o e=>ai _ e
  have yf:IsPair (hd.push { cls:=.type "tuple",data:=.seq #[x,y] }) hd.objs.size x y:=aH _ rfl;have sZ:(hd.push { cls:=.type "tuple",data:=.seq #[x,y] }).objs.size=hd.objs.size+1:=bK ..;show Q (.ref hd.objs.size) _;rw [hsz] at yf sZ ⊢;exact hQ x y _ Cs _ _ _ _ px py (up _ _ Ba) ⟨hf.1,_,rfl⟩ (up _ _ (kk _ _ Z.zTI Z.TT Z.T1 Z.T2 rC)) (up _ _ uC) (D1.frame _ _ _ Cz fun c _ o e=>up c o e) (D2.frame _ _ _ Ct fun c _ o e=>up c o e) yf sZ fun c o c1 c2 c3 c4 e=>up c o (kk c o c1 c2 c3 c4 e)
theorem zj5 {z TI TO i1 i2:Addr} {oJ oK:List Addr} {n1 n2 k1 k2:Nat} {P1 P2:Nat→Value→Prop} {S1 S2:Nat→Heap→Prop} {f0 f1 a b:Value} {Q:Fin→Shared→Prop} (D1:Draws prog w A i1 oJ n1 P1 S1) (D2:Draws prog w A i2 oK n2 P2 S2) (Z:Zap z TI TO i1 i2 oJ oK)
  (hz:IsZ s.heap z TI TO f0 f1) (hf:ZF f0 f1) (rC:IsPair s.heap TI (.ref i1) (.ref i2)) (sG:IsPair s.heap TO a b) (mR:S1 k1 s.heap) (lH:S2 k2 s.heap) (l1:k1=n1∨(k1 < n1∧k2=n2))
  (hE:∀ h' tk e,(∀ c o,c≠z→c≠TO→c≠i1→c≠i2→s.heap.get? c=some o→h'.get? c=some o)→(∃ o,h'.get? e=some o∧o.cls = .type "StopIteration")→E (.ref e) { s with heap:=h',toks:=tk }):wpAny (model prog w) A (Builtin.«zip.__next__» ⟨[.ref z],[]⟩) Q E s:=by
 obtain⟨hp,g,d,A9,os⟩:=s;have nz:∀ {h:Heap} {e:Addr} {o:Obj} {x y:Value},IsZ h z TI TO x y→h.get? e=some o→o.cls = .type "StopIteration"→e≠z:=fun h1 h2 h3 q=>by subst q; rw [h1] at h2; cases h2; simp at h3
 show wpAny _ _ (field (.ref z) 2 >>= _) _ _ _; refine ae (bn hz rfl (x:=.bool false) rfl ?_); show wpAny _ _ (field (.ref z) 3 >>= _) _ _ _;refine ae (bn hz rfl (x:=.ref TI) rfl ?_); refine ae (de rC rfl ?_);show wpAny _ _ (bO (.ref z) >>= _) _ _ _; refine ae (zj4 hz hf ?_ fun h0 hz0 qU=>?_)
 ·simp only [if_true];refine ae (cg (ae (bn hz rfl (x:=.ref TO) rfl ?_)));refine ae (bG hz #[M] fun ha vg oM=>?_);replace vg:IsZ ha z TI TO .ellipsis f1:=vg;replace oM:bg z hp ha:=oM;refine ae ?_;simp only [jN,jZ,dR,fW]; refine ae (ae (gq ?_)); show wpAny _ _ (aY (.ref i1) >>= _) _ _ _;have tf:S1 k1 ha:=D1.frame _ _ _ mR fun c hc o e=>oM.extBut c o (fun q=>Z.a1 (q ▸ hc)) e
  rcases l1 with rfl | ⟨l1,rfl⟩
  ·refine ae (D1.done _ _ _ tf fun hb e mj ⟨oe,yg,yh⟩=>?_);have hzb:IsZ hb z TI TO .ellipsis f1:=mj _ _ Z.z1.symm vg;exact bG hzb #[M] fun h3 _ rE=>hE h3 A9 e (fun c o c1 _ c3 _ x=>rE.extBut _ _ c1 (mj _ _ c3 (oM.extBut _ _ c1 x))) ⟨oe,rE.extBut _ _ (nz hzb yg yh) yg,yh⟩
  ·refine ae (D1.item k1 _ _ _ l1 tf fun x hb yd px ye mj=>ak ?_);replace mj:bg i1 ha hb:=mj;have sY:IsPair hb TO a b:=mj.extBut _ _ Z.O1 (oM.extBut _ _ Z.zTO sG);refine ae (de sY rfl (ae (fF sY fun hc uB rD=>?_)));replace rD:bg TO hb hc:=rD;refine ae (iw (ak (ae (ae (gq ?_))))); show wpAny _ _ (aY (.ref i2) >>= _) _ _ _;refine ae (D2.done _ _ _ (D2.frame _ _ _ lH fun c n4 o e=>rD.extBut c o (fun q=>Z.b2 (q ▸ n4)) (mj.extBut c o (fun q=>Z.b3 (q ▸ n4)) (oM.extBut c o (fun q=>Z.b1 (q ▸ n4)) e))) fun hd e o9 ⟨oe,yg,yh⟩=>?_);have Ba:IsZ hd z TI TO .ellipsis f1:=o9 _ _ Z.z2.symm (rD.extBut _ _ Z.zTO.symm (mj.extBut _ _ Z.z1.symm vg));exact bG Ba #[M] fun h3 _ rE=>hE h3 yd e (fun c o c1 c2 c3 c4 x=>rE.extBut _ _ c1 (o9 _ _ c4 (rD.extBut _ _ c2 (mj.extBut _ _ c3 (oM.extBut _ _ c1 x))))) ⟨oe,rE.extBut _ _ (nz Ba yg yh) yg,yh⟩
 ·simp only [bj,if_false]; replace qU:bg z hp h0:=qU;rw [show (#[bf i1,bf i2]:Array Value) = [bf i1,bf i2].toArray from rfl];simp only [jp,dR,fW];refine ae (ae (ae (b8 ?_))); show wpAny _ _ (aY (.ref i1) >>= _) _ _ _;have tf:S1 k1 h0:=D1.frame _ _ _ mR fun c hc o e=>qU.extBut c o (fun q=>Z.a1 (q ▸ hc)) e
  rcases l1 with rfl | ⟨l1,rfl⟩
  ·exact ae (D1.done _ _ _ tf fun hb e mj he=>hE hb A9 e (fun c o c1 _ c3 _ x=>mj _ _ c3 (qU.extBut _ _ c1 x)) he)
  ·refine ae (D1.item k1 _ _ _ l1 tf fun x hb yd px ye mj=>ak (ak ?_));replace mj:bg i1 h0 hb:=mj;refine ae (ae (b8 ?_)); show wpAny _ _ (aY (.ref i2) >>= _) _ _ _;exact ae (D2.done _ _ _ (D2.frame _ _ _ lH fun c n4 o e=>mj.extBut c o (fun q=>Z.b3 (q ▸ n4)) (qU.extBut c o (fun q=>Z.b1 (q ▸ n4)) e)) fun hd e o9 he=>hE hd yd e (fun c o c1 _ c3 c4 x=>o9 _ _ c4 (mj.extBut _ _ c3 (qU.extBut _ _ c1 x))) he)
theorem zld {e z TI TO i1 i2:Addr} {oJ oK:List Addr} {n1 n2 i:Nat} {P1 P2:Nat→Value→Prop} {S1 S2:Nat→Heap→Prop} {f0 f1 a b old:Value} {Q:Option Value→Shared→Prop} (D1:Draws prog w A.in1.in1 i1 oJ n1 P1 S1) (D2:Draws prog w A.in1.in1 i2 oK n2 P2 S2) (Z:Zap z TI TO i1 i2 oJ oK)
  (he:IsEnum s.heap e z i old) (ez:e≠z) (eT:e≠TI) (eO:e≠TO) (e1:e≠i1) (e2:e≠i2) (ef1:e∉oJ) (ef2:e∉oK)
  (hz:IsZ s.heap z TI TO f0 f1) (hf:ZF f0 f1) (rC:IsPair s.heap TI (.ref i1) (.ref i2)) (sG:IsPair s.heap TO a b) (mR:S1 i s.heap) (lH:S2 i s.heap) (l1:i < n1) (l2:i < n2)
  (hQ:∀ x y h' tk g0 g1 a' b',P1 i x→P2 i y→IsEnumOut h' e z ((i:Int)+1) (.ref s.heap.objs.size) (s.heap.objs.size+1)→IsZ h' z TI TO g0 g1→ZF g0 g1→IsPair h' TI (.ref i1) (.ref i2)→IsPair h' TO a' b'→S1 (i+1) h'→S2 (i+1) h'→IsPair h' s.heap.objs.size x y →
   IsPair h' (s.heap.objs.size+1) (.int i tk) (.ref s.heap.objs.size)→h'.objs.size=s.heap.objs.size+2 →
   (∀ c o,c≠e→c≠z→c≠TO→c≠i1→c≠i2→s.heap.get? c=some o→h'.get? c=some o)→Q (some (.ref (s.heap.objs.size+1))) { s with heap:=h',toks:=tk+1 }):wpAny (model prog w) A (pyNext (.ref e)) Q E s:=by
 have hT:s.TypeIs (.ref e) "enumerate":=⟨_,he,rfl⟩; have tj:s.TypeIs (.ref z) "zip":=⟨_,hz,rfl⟩;unfold pyNext;refine ae (cL (be (name:=bV "__next__") hT eg (bq eg hT iz ?_ (g6 _))));obtain⟨hp,g,d,A9,os⟩:=s;show wpAny _ _ (field (.ref e) 2 >>= _) _ _ _; refine ae (bn he rfl (x:=.ref z) rfl (ae ?_));unfold aY; refine ae (be (name:=bV "__next__") tj cZ (bq cZ tj fu ?_ (fe _)));refine zhU D1 D2 Z hz hf rC sG mR lH l1 l2 fun x y h1 tk g0 g1 a' b' px py oT CA vY vZ v3 wc ql wd kk=>ak ?_
 have CB:IsEnum h1 e z i old:=kk _ _ ez eO e1 e2 he;have elt:e < hp.objs.size:=aI he;show wpAny _ _ (field (.ref e) 3 >>= _) _ _ ⟨h1,g,d,tk,os⟩; refine ae (bn CB rfl (x:=rawInt i) rfl ?_);show wpAny _ _ (field (.ref e) 4 >>= _) _ _ ⟨h1,g,d,tk,os⟩; refine ae (bn CB rfl (x:=.none) rfl ?_);show wpAny _ _ (mkInt i >>= _) _ _ ⟨h1,g,d,tk,os⟩; refine ae (wpAny_mkInt ?_);show wpAny _ _ (setField (.ref e) 3 (rawInt ((i:Int)+1)) >>= _) _ _ ⟨h1,g,d,tk+1,os⟩; refine ae (bG CB #[M] fun h2 CC nc=>?_);replace nc:bg e h1 h2:=nc;replace CC:IsEnum h2 e z ((i:Int)+1) old:=CC;show wpAny _ _ (setField (.ref e) 4 .none >>= _) _ _ ⟨h2,g,d,tk+1,os⟩; refine ae (bG CC #[M] fun h3 CD rE=>?_);replace rE:bg e h2 h3:=rE;replace CD:IsEnum h3 e z ((i:Int)+1) old:=CD;show wpAny _ _ (newTuple [.int i tk,.ref hp.objs.size] >>= _) _ _ ⟨h3,g,d,tk+1,os⟩; refine ae (fX ?_);have z3:h3.objs.size=hp.objs.size+1:=by rw [rE.1,nc.1]; exact wd
 rw [z3];have Bb:IsEnum (h3.push { cls:=.type "tuple",data:=.seq #[.int i tk,.ref hp.objs.size] }) e z ((i:Int)+1) old:=ai _ CD;have CF:=aH h3 (o:={ cls:=.type "tuple",data:=.seq #[.int i tk,.ref hp.objs.size] }) rfl;rw [z3] at CF;have k4:∀ c o,c≠e→h1.get? c=some o→(h3.push { cls:=.type "tuple",data:=.seq #[.int i tk,.ref hp.objs.size] }).get? c=some o:=fun c o ce x=>ai _ (rE.extBut c o ce (nc.extBut c o ce x))
 have z4:(h3.push { cls:=.type "tuple",data:=.seq #[.int i tk,.ref hp.objs.size] }).objs.size=hp.objs.size+2:=by rw [bK,z3]
 generalize h3.push { cls:=.type "tuple",data:=.seq #[.int i tk,.ref hp.objs.size] }=h4 at Bb CF k4 z4 ⊢;show wpAny _ _ (bO (.ref e) >>= _) _ _ ⟨h4,g,d,tk+1,os⟩;refine ae ?_;unfold bO; refine ae (bn Bb rfl (x:=.none) rfl (ak ?_));simp only [if_true]; refine ae (cg (ae (bn Bb rfl (x:=old) rfl ?_)));refine ae (bG Bb #[M] fun h5 CG Bc=>?_);replace Bc:bg e h4 h5:=Bc;replace CG:IsEnum h5 e z ((i:Int)+1) (.ref hp.objs.size):=CG;show wpAny _ _ (cB (.ref e) (.ref (hp.objs.size+1)) >>= _) _ _ ⟨h5,g,d,tk+1,os⟩;refine ae ?_;unfold cB; refine ae (bG CG #[M] fun h6 CH Bd=>?_);replace Bd:bg e h5 h6:=Bd;replace CH:IsEnumOut h6 e z ((i:Int)+1) (.ref hp.objs.size) (hp.objs.size+1):=CH;refine bG CH #[M] fun h7 CI vh=>?_
 replace vh:bg e h6 h7:=vh;replace CI:IsEnumOut h7 e z ((i:Int)+1) (.ref hp.objs.size) (hp.objs.size+1):=CI;have up:∀ c o,c≠e→h4.get? c=some o→h7.get? c=some o:=fun c o ce x=>vh.extBut c o ce (Bd.extBut c o ce (Bc.extBut c o ce x))
 have z7:h7.objs.size=hp.objs.size+2:=by rw [vh.1,Bd.1,Bc.1,z4]
 refine ae (iw (ak ⟨_,rfl,ak ?_⟩));exact hQ x y h7 tk g0 g1 a' b' px py CI (up _ _ ez.symm (k4 _ _ ez.symm oT)) CA (up _ _ eT.symm (k4 _ _ eT.symm vY)) (up _ _ eO.symm (k4 _ _ eO.symm vZ))
  (D1.frame _ _ _ v3 fun c hc o x=>up c o (fun q=>ef1 (q ▸ hc)) (k4 c o (fun q=>ef1 (q ▸ hc)) x)) (D2.frame _ _ _ wc fun c hc o x=>up c o (fun q=>ef2 (q ▸ hc)) (k4 c o (fun q=>ef2 (q ▸ hc)) x))
  (up _ _ (eK elt) (k4 _ _ (eK elt) ql)) (up _ _ (eK (d6 elt)) CF) z7 fun c o ce cz cO c1 c2 x=>up c o ce (k4 c o ce (kk c o cz cO c1 c2 x))
theorem zmQ {e z TI TO i1 i2:Addr} {oJ oK:List Addr} {n1 n2 k:Nat} {i:Int} {P1 P2:Nat→Value→Prop} {S1 S2:Nat→Heap→Prop} {f0 f1 a b old:Value} {Q:Option Value→Shared→Prop} (D1:Draws prog w A.in1.in1 i1 oJ n1 P1 S1) (D2:Draws prog w A.in1.in1 i2 oK n2 P2 S2) (Z:Zap z TI TO i1 i2 oJ oK)
  (he:IsEnum s.heap e z i old) (hz:IsZ s.heap z TI TO f0 f1) (hf:ZF f0 f1) (rC:IsPair s.heap TI (.ref i1) (.ref i2)) (sG:IsPair s.heap TO a b) (mR:S1 k s.heap) (lH:S2 k s.heap) (l1:k=n1∨(k < n1∧k=n2))
  (hQ:∀ h' tk,(∀ c o,c≠z→c≠TO→c≠i1→c≠i2→s.heap.get? c=some o→h'.get? c=some o)→Q none { s with heap:=h',toks:=tk }):wpAny (model prog w) A (pyNext (.ref e)) Q E s:=by
 have hT:s.TypeIs (.ref e) "enumerate":=⟨_,he,rfl⟩; have tj:s.TypeIs (.ref z) "zip":=⟨_,hz,rfl⟩;unfold pyNext;refine ae (cL (be (name:=bV "__next__") hT eg (bq eg hT iz ?_ (g6 _))));show wpAny _ _ (field (.ref e) 2 >>= _) _ _ _; refine ae (bn he rfl (x:=.ref z) rfl (ae ?_));unfold aY; refine ae (be (name:=bV "__next__") tj cZ (bq cZ tj fu ?_ (fe _)));refine zj5 D1 D2 Z hz hf rC sG mR lH l1 fun h' tk x kk ⟨o,ho,hc⟩=>?_
 exact ae (ek (T:="StopIteration") (b:=true) ⟨o,ho,hc⟩ fU (ak (hQ h' tk kk)))
end
def zfx (x y:Value):Obj:={ cls:=.type "tuple",data:=.seq #[x,y] }
def znI (a b:Addr):Obj:={ cls:=.type "zip",data:=.fields #[.none,.bool false,.bool false,.ref a,.ref b] }
def itO (C:String) (l:Addr):Obj:={ cls:=.type C,data:=.fields #[.ref l,.int 0 0] }
abbrev zt2 (C:String) (h:Heap) (l1 l2:Addr):Heap:=(h.push (zcd l1)).push (itO C l2)
abbrev zt4 (C:String) (h:Heap) (l1 l2:Addr):Heap:=((zt2 C h l1 l2).push (zfx (.ref h.objs.size) (.ref (h.push (zcd l1)).objs.size))).push (zfx .none .none)
abbrev zt5 (C:String) (h:Heap) (l1 l2:Addr):Heap:=(zt4 C h l1 l2).push (znI (zt2 C h l1 l2).objs.size ((zt2 C h l1 l2).push (zfx (.ref h.objs.size) (.ref (h.push (zcd l1)).objs.size))).objs.size)
def ItC (C:String) (h:Heap) (a l:Addr) (i:Nat):Prop:=∃ o,h.get? a=some o∧o.cls = .type C∧o.data = .fields #[.ref l,.int i 0]
structure SkH (C:String) (Is:Heap→Addr→Array Value→Prop):Prop where
 it:∀ {prog:Program} {w:World} {A:Around} {E:Value→Shared→Prop} {s:Shared} {l:Addr} {items:Array Value} {Q:Value→Shared→Prop},Is s.heap l items→Q (.ref s.heap.objs.size) { s with heap:=s.heap.push (itO C l) }→wpAny (model prog w) A (pyIter (.ref l)) Q E s
 pu:∀ {h:Heap} {l:Addr} {items:Array Value} (o:Obj),Is h l items→Is (h.push o) l items
 dr:∀ {prog:Program} {w:World} {A:Around},A.handled=none→∀ (it l:Addr),l≠it→∀ (items:Array Value),Draws prog w A it [it,l] items.size (fun i v=>items[i]? = some v) fun i h=>ItC C h it l i∧Is h l items
theorem skL:SkH "list_iterator" Heap.IsList:=⟨fun h q=>gv h q,fun o h=>Heap.IsList.push h o,fun hh it l ne items=>j0 hh it l ne items⟩
theorem zgi {C:String} {Is:Heap→Addr→Array Value→Prop} (S:SkH C Is) (l1 l2:Addr) (xs ys:Array Value):Meets (Builtin.«zip.__new__» ⟨[.type "zip",.ref l1,.ref l2],[]⟩) (fun _ R s=>s.heap.IsTuple l1 xs∧Is s.heap l2 ys∧R (.ok (.ret (.ref (zt4 C s.heap l1 l2).objs.size))) { s with heap:=zt5 C s.heap l1 l2 }) :=
 .of_wp fun prog w A R s h=>by
  obtain⟨hp,g,d,tk,os⟩:=s; obtain⟨sW,rk,h⟩:=h; have uF:=sub_zip;have xl:Heap.IsTuple (jG ⟨hp,g,d,tk,os⟩) l1 xs:=sW;have xm:Is (jG ⟨hp.push { cls:=.type "tuple_iterator",data:=.fields #[.ref l1,.int 0 0] },g,d,tk,os⟩) l2 ys:=S.pu _ rk
  wp_walk using f9 xl,S.it xm
  exact⟨_,rfl,h⟩
section
variable {prog:Program} {w:World} {A:Around} {E:Value→Shared→Prop} {s:Shared}
theorem zel {C:String} {Is:Heap→Addr→Array Value→Prop} (S:SkH C Is) {l1 l2:Addr} {xs ys:Array Value} {Q:Value→Shared→Prop} (sW:s.heap.IsTuple l1 xs) (rk:Is s.heap l2 ys)
  (h:∀ h' n,n=s.heap.objs.size→IsZ h' (n+4) (n+2) (n+3) .none (.bool false)→IsPair h' (n+2) (.ref n) (.ref (n+1))→IsPair h' (n+3) .none .none→h'.IsTupleIter n l1 0→ItC C h' (n+1) l2 0→h'.objs.size=n+5 →
   (∀ c o,s.heap.get? c=some o→h'.get? c=some o)→Q (.ref (n+4)) { s with heap:=h' }):wpAny (model prog w) A (call (.type "zip") [.ref l1,.ref l2]) Q E s:=by
 refine jo F.called_zip #[D] (F.typeCall_zip_2 _ _) (F.newCall_zip_2 _ _) (fun obj=>F.args_object_init_3 obj _ _) F.entry_zip_new (zgi S l1 l2 xs ys) ⟨sW,rk,?_⟩;have z1:(s.heap.push (zcd l1)).objs.size=s.heap.objs.size+1:=bK ..;have z2:(zt2 C s.heap l1 l2).objs.size=s.heap.objs.size+2:=by rw [bK,z1]
 have z3:((zt2 C s.heap l1 l2).push (zfx (.ref s.heap.objs.size) (.ref (s.heap.push (zcd l1)).objs.size))).objs.size=s.heap.objs.size+3:=by rw [bK,z2]
 have z4:(zt4 C s.heap l1 l2).objs.size=s.heap.objs.size+4:=by rw [bK,z3]
 have g5:=aH (zt4 C s.heap l1 l2) (o:=znI (zt2 C s.heap l1 l2).objs.size ((zt2 C s.heap l1 l2).push (zfx (.ref s.heap.objs.size) (.ref (s.heap.push (zcd l1)).objs.size))).objs.size) rfl;have g4:(zt5 C s.heap l1 l2).get? _=some _:=ai _ (aH ((zt2 C s.heap l1 l2).push (zfx (.ref s.heap.objs.size) (.ref (s.heap.push (zcd l1)).objs.size))) (o:=zfx .none .none) rfl);have g3:(zt5 C s.heap l1 l2).get? _=some _:=ai _ (ai _ (aH (zt2 C s.heap l1 l2) (o:=zfx (.ref s.heap.objs.size) (.ref (s.heap.push (zcd l1)).objs.size)) rfl));have g2:(zt5 C s.heap l1 l2).get? _=some _:=ai _ (ai _ (ai _ (aH (s.heap.push (zcd l1)) (o:=itO C l2) rfl)));have g1:(zt5 C s.heap l1 l2).get? s.heap.objs.size=some (zcd l1):=ai _ (ai _ (ai _ (ai _ (aH _ rfl))));have z5:(zt5 C s.heap l1 l2).objs.size=s.heap.objs.size+5:=by rw [bK,z4]
 have k5:∀ c o,s.heap.get? c=some o→(zt5 C s.heap l1 l2).get? c=some o:=fun c o x=>ai _ (ai _ (ai _ (ai _ (ai _ x))))
 show _∧_;rw [z4] at g5 ⊢;rw [z3] at g4;rw [z2] at g3;rw [z1] at g2;refine⟨⟨_,g5,rfl⟩,h _ _ rfl ?_ ?_ g4 ⟨_,g1,rfl,rfl⟩ ⟨_,g2,rfl,rfl⟩ z5 k5⟩
 ·have:IsZ (zt5 C s.heap l1 l2) (s.heap.objs.size+4) (zt2 C s.heap l1 l2).objs.size ((zt2 C s.heap l1 l2).push (zfx (.ref s.heap.objs.size) (.ref (s.heap.push (zcd l1)).objs.size))).objs.size .none (.bool false):=g5;rw [z2,z3] at this;exact this
 ·have:IsPair (zt5 C s.heap l1 l2) (s.heap.objs.size+2) (.ref s.heap.objs.size) (.ref (s.heap.push (zcd l1)).objs.size):=g3;rw [z1] at this;exact this
theorem zg4 {l1 l2:Addr} {xs ys:Array Value} {Q:Value→Shared→Prop} (sW:s.heap.IsTuple l1 xs) (rk:s.heap.IsList l2 ys)
  (h:∀ h' n,n=s.heap.objs.size→IsZ h' (n+4) (n+2) (n+3) .none (.bool false)→IsPair h' (n+2) (.ref n) (.ref (n+1))→IsPair h' (n+3) .none .none→h'.IsTupleIter n l1 0→h'.IsListIter (n+1) l2 0→h'.objs.size=n+5 →
   (∀ c o,s.heap.get? c=some o→h'.get? c=some o)→Q (.ref (n+4)) { s with heap:=h' }):wpAny (model prog w) A (call (.type "zip") [.ref l1,.ref l2]) Q E s:=zel skL sW rk h
end
open AutoSeq1 (wpAny_loadPart') in
theorem zgj (z TI TO:Addr) (f0:Value):Meets (Builtin.«enumerate.__new__» ⟨[.type "enumerate",.ref z],[]⟩) (fun _ R s=>IsZip s.heap z TI TO f0∧R (.ok (.ret (.ref s.heap.objs.size))) { s with heap:=s.heap.push (zjV z) }) :=
 .of_wp fun prog w A R s h=>by
  obtain⟨hp,g,d,tk,os⟩:=s; obtain⟨hz,h⟩:=h;have hZ:IsZip (jG ⟨hp,g,d,tk,os⟩) z TI TO f0:=hz;have uF:=sub_enumerate; wp_walk using cr hz;refine wpAny_stack_any fun st=>ak ?_; split
  ·rename_i c _ _ _ _ _; cases (c == iO "enumerate") <;> (wp_walk using cr hz,fq hZ; exact⟨_,rfl,h⟩)
  ·wp_walk using cr hz,fq hZ; exact⟨_,rfl,h⟩
theorem zg5 {prog:Program} {w:World} {A:Around} {E:Value→Shared→Prop} {s:Shared} {z TI TO:Addr} {f0:Value} {Q:Value→Shared→Prop} (hz:IsZip s.heap z TI TO f0)
  (h:∀ h',IsEnum h' s.heap.objs.size z 0 .none→h'.objs.size=s.heap.objs.size+1→(∀ b o,s.heap.get? b=some o→h'.get? b=some o)→Q (.ref s.heap.objs.size) { s with heap:=h' }):wpAny (model prog w) A (call (.type "enumerate") [.ref z]) Q E s:=by
 refine jo F.called_enumerate #[D] (F.typeCall_enumerate_1 _) (F.newCall_enumerate_1 _) (fun obj=>iS obj _) F.entry_enumerate_new (zgj z TI TO f0) ⟨hz,?_⟩;have he:=aH s.heap (o:=zjV z) rfl;exact⟨⟨_,he,rfl⟩,h _ he (bK ..) fun b o x=>ai _ x⟩
end PySem
end
section
namespace L2
open PySem PySem.Spec PyProof.Rows
def zle (o7 o8:Hp→Addr→List V→Prop) (a b:Addr):It :=
 ⟨fun i H=>∃ xs ys x y,o7 H a xs∧o8 H b ys∧xs[i]? = some x∧ys[i]? = some y,
  fun i H x H'=>∃ T1 T2 u v,H T1=none∧H T2=none∧T1≠T2∧x = .ref T2∧H'=kB (kB H T1 (.tup [u,v])) T2 (.tup [.int i,.ref T1])∧(∀ xs,o7 H a xs→xs[i]? = some u)∧∀ ys,o8 H b ys→ys[i]? = some v,
  fun i H=>∃ xs ys,o7 H a xs∧o8 H b ys∧xs.length=i⟩
abbrev zem (n:Nat):List Addr:=[n+5,n+4,n+2,n+3,n,n+1]
abbrev zmR (n a b:Nat) (i:Nat) (h:Heap):Prop:=(∃ old,IsEnum h (n+5) (n+4) i old)∧(∃ f0 f1,IsZ h (n+4) (n+2) (n+3) f0 f1∧ZF f0 f1)∧IsPair h (n+2) (.ref n) (.ref (n+1))∧(∃ u v,IsPair h (n+3) u v)∧h.IsTupleIter n a i∧h.IsListIter (n+1) b i
theorem nq {x y:Nat} (h:x≠y):@Ne Addr x y:=h
theorem nl {x y:Nat} (h:x < y):@LT.lt Nat _ x y:=h
theorem nm2 {c x y:Nat} (h1:c≠x) (h2:c≠y):¬ @Membership.mem Addr (List Addr) _ [x,y] c:=fun h=>by
 rcases aC.mp h with e | e
 ·exact h1 e
 ·exact h2 (aR.mp e)
theorem zdP {n a b:Nat} (ha:a < n) (hb:b < n):Zap (n+4) (n+2) (n+3) n (n+1) [n,a] [n+1,b] :=
 ⟨nq #[O],nq #[O],nq #[O],nq #[O],nq #[O],nq #[O],nq #[O],nq #[O],nq #[O],nq #[O],nm2 #[O] #[O],nm2 #[O] #[O],nm2 #[O] #[O],nm2 #[O] #[O],nm2 #[O] #[O],nm2 #[O] #[O]⟩
theorem zlf {P:Program} {w:World} {K:ag} {es:List Expr} {k:Nat} {pos:Pos} (a b n:Nat) (ha:a < n) (hb:b < n):Turn P w K (.Tuple es k pos) (zle (kF K) (ky K) a b) (zem n) (n+5) (zmR n a b) where
 mem:=by simp
 obj:=fun i h st c hc=>by
  obtain⟨⟨old,h0⟩,⟨f0,f1,h1,_⟩,h2,⟨u,v,h3⟩,⟨o4,e4,_,d4⟩,⟨o5,e5,_,d5⟩⟩:=st;simp only [zem,aC,aX,or_false] at hc;rcases hc with z | z | z | z | z | z <;> subst z
  ·exact⟨_,h0,fun v z=>by cases z⟩
  ·exact⟨_,h1,fun v z=>by cases z⟩
  ·exact⟨_,h2,fun v z=>by cases z⟩
  ·exact⟨_,h3,fun v z=>by cases z⟩
  ·exact⟨_,e4,fun v z=>by rw [d4] at z; cases z⟩
  ·exact⟨_,e5,fun v z=>by rw [d5] at z; cases z⟩
 keep:=fun i h h' st kk=>by
  obtain⟨⟨old,h0⟩,⟨f0,f1,h1,hf⟩,h2,⟨u,v,h3⟩,h4,h5⟩:=st;exact⟨⟨old,kk _ #[M] _ h0⟩,⟨f0,f1,kk _ #[M] _ h1,hf⟩,kk _ #[M] _ h2,⟨u,v,kk _ #[M] _ h3⟩,h4.at fun o eo=>kk _ #[M] o eo,h5.at fun o eo=>kk _ #[M] o eo⟩
 item:=by
  intro X hP hw hK hc i ku s σ H E I hf st hg;subst hP hw hK;obtain⟨xs,ys,x,y,oS,nh,hx,hy⟩:=hg;obtain⟨⟨old,h0⟩,⟨f0,f1,h1,uE⟩,h2,⟨u0,v0,h3⟩,h4,h5⟩:=st;obtain⟨lQ,qT,p1,oT⟩:=I.tuple oS;obtain⟨lO,rB,p2,sU⟩:=I.list nh;obtain⟨u,hu,ru⟩:=qT.get hx;obtain⟨v,hv,rv⟩:=rB.get hy;have sT:n+5 < s.heap.objs.size:=aI h0;have hh:X.A.in1.in1.handled=none:=by simp [I.ok.hd hc]
  have pq:i < lQ.toArray.size:=by have:=(az.mp hu).1; simpa using this
  have pv:i < lO.toArray.size:=by have:=(az.mp hv).1; simpa using this
  refine zld (Draws.tuple hh n a (nq #[O]) lQ.toArray) (j0 hh (n+1) b (nq #[O]) lO.toArray) (zdP ha hb) h0 (nq #[O]) (nq #[O]) (nq #[O]) (nq #[O]) (nq #[O]) (nm2 #[O] #[O]) (nm2 #[O] #[O]) h1 uE h2 h3 ⟨h4,(show s.heap.IsTuple a lQ.toArray from p1)⟩ ⟨h5,p2.isList⟩ pq pv
   fun x' y' h' tk g0 g1 a' b' px py eo ez CJ e2 e3 t4 t5 pp pe hsz kk=>?_
  have eu:x'=u:=by
   have e1:lQ[i]? = some x':=by simpa using px
   rw [hu] at e1; exact (aQ e1).symm
  have ev:y'=v:=by
   have e1:lO[i]? = some y':=by simpa using py
   rw [hv] at e1; exact (aQ e1).symm
  subst eu ev;have ch:∀ c∈[n+5,n+4,n+3,n,n+1],c∈zem n:=fun c kI=>by
   simp only [zem,aC,aX,or_false] at kI ⊢;rcases kI with z | z | z | z | z <;> subst z <;> simp
  have k1:∀ c o,c∉[n+5,n+4,n+3,n,n+1]→s.heap.get? c=some o→h'.get? c=some o:=fun c o kI eo=>by
   simp only [aC,aX,or_false,not_or] at kI;exact kk c o kI.1 kI.2.1 kI.2.2.1 kI.2.2.2.1 kI.2.2.2.2 eo
  have vS:∀ c∈[n+5,n+4,n+3,n,n+1],∃ o,h'.get? c=some o:=fun c kI=>by
   simp only [aC,aX,or_false] at kI;rcases kI with z | z | z | z | z <;> subst z
   ·exact⟨_,eo⟩
   ·exact⟨_,ez⟩
   ·exact⟨_,e3⟩
   ·obtain⟨o,e,_⟩:=t4.1; exact⟨o,e⟩
   ·obtain⟨o,e,_⟩:=t5.1; exact⟨o,e⟩
  have I1:Inv X ku σ (kB H s.heap.objs.size (.tup [x,y])) { s with heap:=h',toks:=tk+1 } :=
   I.turnedNew k1 (fun c kI=>hf c (ch c kI)) vS (af _) ⟨zbm,_,.cons ru (.cons rv .nil),zbz pp⟩
  have qS:H (s.heap.objs.size+1)=none:=I.hok.fresh (f7 _);have CK:kB H s.heap.objs.size (.tup [x,y]) (s.heap.objs.size+1)=none:=by rw [zr (gQ _)]; exact qS
  obtain⟨_,a1,a2,a3,a4,a5⟩:=I.fpOk (H':=H) (f7 s.heap.objs.size) qS;have I1':Inv X ku σ (kB (kB H s.heap.objs.size (.tup [x,y])) (s.heap.objs.size+1) (.tup [.int i,.ref s.heap.objs.size])) { s with heap:=h',toks:=tk+1 } :=
   I1.track CK (aN I.sz (f7 _)) (dz a1) a4 a5 ⟨zbm,_,.cons ⟨tk,rfl⟩ (.cons rfl .nil),zbz pe⟩
  refine⟨_,rfl,gm eo fun uj qk mP=>?_⟩;have fr:∀ c∈zem n,kB (kB H s.heap.objs.size (.tup [x,y])) (s.heap.objs.size+1) (.tup [.int i,.ref s.heap.objs.size]) c=none:=fun c kI=>by
   have kU:c < s.heap.objs.size:=by
    simp only [zem,aC,aX,or_false] at kI;rcases kI with z | z | z | z | z | z <;> subst z <;> exact nl #[O]
   rw [zr (bp (d6 kU)),zr (bp kU)];exact (hf c kI).1
  have I2:Inv X ku σ (kB (kB H s.heap.objs.size (.tup [x,y])) (s.heap.objs.size+1) (.tup [.int i,.ref s.heap.objs.size])) { s with heap:=uj,toks:=tk+1 } :=
   Inv.turnedL (s:={ s with heap:=h',toks:=tk+1 }) (ch:=[n+5]) (t':=tk+1) I1' (fun c o kI eo=>mP.extBut c o (by simpa using kI) eo) (fun c kI=>by
    have z:c=n+5:=by simpa using kI
    subst z;exact⟨fr _ #[M],(hf _ #[M]).2⟩) (fun c kI=>by
    have z:c=n+5:=by simpa using kI
    subst z;exact⟨_,qk⟩)
  have up:∀ c o,c≠n+5→h'.get? c=some o→uj.get? c=some o:=fun c o kI e=>mP.extBut c o kI e
  exact⟨.ref (s.heap.objs.size+1),_,I2,rfl,⟨_,_,x,y,I.fresh,qS,bp (jM _),rfl,rfl,fun zs hz=>by rw [I.tuple_inj hz oS]; exact hx,fun zs hz=>by rw [I.list_inj hz nh]; exact hy⟩,
   ⟨⟨_,by simpa using qk⟩,⟨g0,g1,up _ _ (nq #[O]) ez,CJ⟩,up _ _ (nq #[O]) e2,⟨_,_,up _ _ (nq #[O]) e3⟩,t4.1.at fun o e=>up _ o (nq #[O]) e,t5.1.at fun o e=>up _ o (nq #[O]) e⟩,fr⟩
 done:=by
  intro X hP hw hK hc i ku s σ H E I hf st hg;subst hP hw hK;obtain⟨xs,ys,oS,nh,hx⟩:=hg;obtain⟨⟨old,h0⟩,⟨f0,f1,h1,uE⟩,h2,⟨u0,v0,h3⟩,h4,h5⟩:=st;obtain⟨lQ,qT,p1,oT⟩:=I.tuple oS;obtain⟨lO,rB,p2,sU⟩:=I.list nh;have hh:X.A.in1.in1.handled=none:=by simp [I.ok.hd hc]
  have sW:=qT.length;refine zmQ (Draws.tuple hh n a (nq #[O]) lQ.toArray) (j0 hh (n+1) b (nq #[O]) lO.toArray) (zdP ha hb) h0 h1 uE h2 h3 ⟨h4,(show s.heap.IsTuple a lQ.toArray from p1)⟩ ⟨h5,p2.isList⟩ (.inl (by rw [au]; lia)) fun h' tk kk=>⟨rfl,?_⟩
  have sub:∀ c∈[n+4,n+3,n,n+1],c∈zem n:=fun c kI=>by
   simp only [zem,aC,aX,or_false] at kI ⊢;rcases kI with z | z | z | z <;> subst z <;> simp
  have k1:∀ c o,c∉[n+4,n+3,n,n+1]→s.heap.get? c=some o→h'.get? c=some o:=fun c o kI e=>by
   simp only [aC,aX,or_false,not_or] at kI;exact kk c o kI.1 kI.2.1 kI.2.2.1 kI.2.2.2 e
  have qL:∀ d u',H d=some u'→d∉[n+4,n+3,n,n+1]:=fun d u' e' hd=>by rw [(hf d (sub d hd)).1] at e'; cases e'
  refine I.step (g':=s.gens) (d':=s.drawn) (t':=tk) (ch:=[n+4,n+3,n,n+1]) (fun c kI=>?_) (fun c o _ _ lR e _=>k1 c o lR e) (fun c o _ _ lR e _=>⟨o.slots,k1 c o lR e⟩) (fun _ _ _ _ n=>n)
   (fun c o lR e=>⟨o,k1 c o lR e⟩) (fun _ _ e=>e) (fun _ _ _ e=>e) (fun c ps e=>⟨#[],by rw [e]; simp⟩) (fun m hm=>?_) (fun c u e=>?_) I.bare
  ·obtain⟨_,a1,_,a3,a4,a5⟩:=hf c (sub c kI);exact⟨a3,a1,a4,a5⟩
  ·obtain⟨o,uw,ep,ho,r⟩:=hm;exact⟨o,uw,ep,k1 _ o (fun z=>(hf _ (sub _ z)).2.1 rfl) ho,r⟩
  ·refine (I.hok c u e).stay (fun d v' hd q=>k1 d v' ?_ q) (fun _ q=>q) fun _ _ q=>q
   rcases hd with z | z
   ·rw [z]; exact qL c u e
   ·exact qL d _ z
 self:=fun _ _ _ _ _ st h=>by
  obtain⟨⟨old,he⟩,_⟩:=st;exact fb he h
def iEZ (o7 o8:Hp→Addr→List V→Prop) (ta:TA):TI:=fun σ H R=>ta σ H fun vs H1=>∃ a b xs ys,vs = [.ref a,.ref b]∧o7 H1 a xs∧o8 H1 b ys∧R (zle o7 o8 a b) H1
theorem zg6 {X:Cx} {es:List Expr} {k:Nat} {om p p2 pos tq:Pos} {a b:Expr} {ta:TA} (hg:Gl X "enumerate") (hm:X.mg "enumerate" = none) (we:Gl X "zip") (qV:X.mg "zip" = none) (ha:PA X [a,b] ta) (hs:starEach [a,b] X.env = [(false,eval a X.env),(false,eval b X.env)]:=by rfl) (nc:starEach [b] X.env = [(false,eval b X.env)]:=by rfl)
  (rE:starEach [.Call (.Name "zip" p2) [a,b] [] tq] X.env = [(false,eval (.Call (.Name "zip" p2) [a,b] [] tq) X.env)]:=by rfl) :
  PI X (.Tuple es k om) (.Call (.Name "enumerate" p) [.Call (.Name "zip" p2) [a,b] [] tq] [] pos) (iEZ (kF X.K) (ky X.K) ta):=by
 intro ku s σ H R I h;refine Call_ (zbL I hg hm boot_enumerate (bC ?_ rE rfl));rw [rE];show wpAny _ _ (spliced ((false,eval (.Call (.Name "zip" p2) [a,b] [] tq) X.env) :: [])) _ _ s;refine jd ?_;refine Call_ (zbL I we qV boot_zip (bC (thn (ha tq ku s σ H _ I h) fun us s1 ⟨vs,H1,I1,r1,q1⟩=>?_) (by rw [hs,nc]) (by rw [nc]; rfl)));obtain⟨l1,l2,xs,ys,e,oS,nh,q⟩:=q1;subst e;cases r1 with
 | cons r rr =>
  cases rr with
  | cons r' rr =>
   cases rr;cases r;cases r';obtain⟨lQ,qT,ve,oT⟩:=I1.tuple oS;obtain⟨lO,rB,vT,sU⟩:=I1.list nh;have pq:l1 < s1.heap.objs.size:=by obtain⟨_,e,_⟩:=ve; exact aI e
   have pv:l2 < s1.heap.objs.size:=by obtain⟨_,_,e,_⟩:=vT; exact aI e
   refine zg4 (show s1.heap.IsTuple l1 lQ.toArray from ve) vT.isList fun h' n hn b1 b2 b3 b4 b5 b6 kk=>?_
   refine ju ?_;refine zg5 b1 fun h2 he hsz xn=>?_
   have I2:Inv X ku σ H1 { s1 with heap:=h2 }:=I1.kept (t':=s1.toks) fun c o e=>xn c o (kk c o e)
   refine fb he ?_; have e5:h'.objs.size=n+5:=b6;have vf:IsEnum h2 (n+5) (n+4) 0 .none:=by rw [← e5]; exact he
   refine⟨_,zem n,zmR n l1 l2,zle (kF X.K) (ky X.K) l1 l2,H1,rfl,I2,?_,⟨⟨_,vf⟩,⟨_,_,xn _ _ b1,.inl rfl,_,rfl⟩,xn _ _ b2,⟨_,_,xn _ _ b3⟩,b4.at fun o e=>xn _ o e,b5.at fun o e=>xn _ o e⟩,fun c hc=>?_,q⟩
   ·show Turn X.prog X.w X.K (.Tuple es k om) (zle (kF X.K) (ky X.K) l1 l2) (zem n) h'.objs.size (zmR n l1 l2);rw [e5];exact zlf l1 l2 n (by rw [hn]; exact pq) (by rw [hn]; exact pv)
   ·have hle:s1.heap.objs.size≤c:=by
     simp only [zem,aC,aX,or_false] at hc;rw [← hn];rcases hc with z | z | z | z | z | z <;> subst z
     all_goals first | exact jO _ _ | exact af _
    exact I1.fpOk hle (I1.hok.fresh hle)
theorem zg7 {K:ag} {i j:Nat}:∀ (x:V) (σ:St) (H:Hp) (Q Q':St→Hp→Prop),(∀ σ' H',Q σ' H'→Q' σ' H')→zgP K 2 (zcE (zbc i) (zcE (zbc j) ziC)) x σ H Q→zgP K 2 (zcE (zbc i) (zcE (zbc j) ziC)) x σ H Q':=fun x σ H Q Q' hq ⟨a,xs,e1,h1,h2,v,r,e3,v2,r2,e4,e5,h⟩=>⟨a,xs,e1,h1,h2,v,r,e3,v2,r2,e4,e5,hq _ _ h⟩
end L2
end
section
namespace My
open PySem L2 PyProof.Rows
section
variable {K:ag}
def zos (H:Hp):V→Option (List V)
 | .ref a=>match H a with
  | some (.lst xs)=>some xs
  | _=>none
 | _=>none
def za6 (H:Hp) (c tt:Addr) (p k:Int) (pl:List Int):Prop:=H c=some (.tup [.int p,.int k,.ref tt])∧H tt=some (.tup (pl.map V.int))
theorem za6.same {H H':Hp} {c tt:Addr} {p k:Int} {pl:List Int} (s:zu H H') (h:za6 H c tt p k pl):za6 H' c tt p k pl:=⟨s _ _ h.1,s _ _ h.2⟩
theorem ziX {a:Addr} {xs:List V} {kp:V→Bool} {f:V→V} {g:TG} {ts:TT} {te:TE} {σ0:L2.St} {Q:VK} {H:Hp} (ha:ky K H a xs) (hn:xs.length≤10000)
  (hs:∀ (i:Nat) (x:V) (R:VK) (B:Hp→Prop),xs[i]? = some x→(if kp x=true then R (f x) H else B H)→g x σ0 H fun σ2 H2=>ts σ2 H2 fun b H3=>if b=true then te σ2 H3 R else B H3)
  (hd:∀ D,H D=none→Q (.ref D) (kB H D (.lst ((xs.filter kp).map f)))):cGo g ts te σ0 (Itl K a) Q H:=by
 refine zdN (n:=xs.length) (fun i ys H'=>ys=((xs.take i).filter kp).map f∧H'=H) ⟨#[M],rfl⟩ ?_ ?_ ?_ ?_
 ·rintro i ys H3 hi ⟨_,rfl⟩;exact⟨_,xs[i],ha,#[M]⟩
 ·rintro ys H3 ⟨_,rfl⟩;exact⟨_,ha,af _⟩
 ·rintro i x ys H3 H4 hi ⟨rfl,rfl⟩ ⟨rfl,hx⟩;refine hs i x _ _ (hx _ ha) ?_;rw [take_snoc (hx _ ha),cf,ao];by_cases h:kp x=true
  ·rw [if_pos h];refine⟨zau ?_,?_,rfl⟩
   ·rw [ab];exact aN (cb _ _) (aN (eE _ _) #[O])
   ·congr 1;simp [h]
  ·rw [if_neg h];refine⟨?_,rfl⟩;simp [h]
 ·rintro ys H3 D ⟨rfl,rfl⟩ hD;rw [aM];exact hd D hD
def mS:Option Int→V
 | none=>.non
 | some i=>.int i
def zaS (p:Int) (pl:List Int) (rw:List (Option Int)) (kR:List Int) (j:Nat):Bool:=match pl[j]?,rw[j]? with
 | some x,some (some i)=>decide (i=zj p x kR)
 | _,_=>false
def zaV (p:Int) (pl:List Int) (rw:List (Option Int)) (kR:List Int) (n:Nat):List Int:=((aJ n).filter (zaS p pl rw kR)).map fun (j:Nat)=>(j:Int)
theorem ze9 {p:Int} {pl:List Int} {rw:List (Option Int)} {kR:List Int} {n:Nat}:zaV p pl rw kR (n+1)=zaV p pl rw kR n++if zaS p pl rw kR n then [(n:Int)] else []:=by
 unfold zaV;rw [fG,cf,ao];congr 1;by_cases h:zaS p pl rw kR n=true
 ·rw [if_pos h]; simp [h]
 ·rw [if_neg h]; simp [h]
theorem zgk (p:Int) (pl:List Int) (rw:List (Option Int)) (kR:List Int) (n:Nat):(zaV p pl rw kR n).length≤n:=by
 unfold zaV;rw [ab];exact aN (cb _ _) (by rw [bm]; exact af _)
theorem zfy {rw:List (Option Int)} {j:Nat} {x:V} (h:(rw.map mS)[j]? = some x):∃ o,x=mS o∧rw[j]? = some o:=by
 rw [ah] at h;cases e:rw[j]? with
 | none=>rw [e] at h; cases h
 | some c=>rw [e] at h; exact⟨c,(aQ h).symm,rfl⟩
def hide (H:Hp) (a:Addr):Hp:=fun b=>if b=a then none else H b
theorem zgl (H:Hp) (a:Addr):zu (hide H a) H:=fun b o e=>by
 unfold hide at e;split at e
 ·cases e
 ·exact e
theorem zaL {H:Hp} {a b:Addr} {o:HO} (h:H b=some o) (lA:b≠a):hide H a b=some o:=by unfold hide; rw [if_neg lA]; exact h
end
section
variable {K:ag}
def zhV (K:ag):Sp:=fun vs H Q _=>∃ (c tt ra po:Addr) (p k:Int) (pl kR:List Int) (rw:List (Option Int)),vs = [.ref c,.ref ra,.ref po]∧za6 H c tt p k pl∧H ra=some (.lst (rw.map mS))∧rw.length=pl.length∧H po=some (.tup (kR.map V.int))∧0 < p∧p≤97∧(∀ x∈pl,0≤x∧x < p)∧pl.length≤100 ∧
 ∀ (l:Addr) (H':Hp),H l=none→zu H H'→H' l=some (.lst ((zaV p pl rw kR pl.length).map V.int))→Q (.ref l) H'
def ziY (K:ag):Sp:=zhV K
theorem zj6 (o:Option Int) (z:Int):zk5 (mS o) (.int z)=true:=by cases o <;> rfl
theorem ziZ (o:Option Int) (z:Int):zk5 (.int z) (mS o)=true:=by cases o <;> rfl
theorem zen {p:Int} {pl:List Int} {rw:List (Option Int)} {kR:List Int} {j:Nat} {x:Int} {o:Option Int} (hx:pl[j]? = some x) (ho:rw[j]? = some o):zaS p pl rw kR j=decide (mS o = .int (zj p x kR)):=by
 unfold zaS;rw [hx,ho];cases o with
 | none=>rfl
 | some i=>simp [mS]
def zbA (rw:List (Option Int)) (n:Nat):List Int:=((aJ n).filter fun j=>(rw[j]?.getD none).isSome).map fun (j:Nat)=>(j:Int)
theorem zg8 {rw:List (Option Int)} {n:Nat}:zbA rw (n+1)=zbA rw n++if (rw[n]?.getD none).isSome=true then [(n:Int)] else []:=by
 unfold zbA;rw [fG,cf,ao];congr 1;by_cases h:(rw[n]?.getD none).isSome=true
 ·rw [if_pos h]; simp [h]
 ·rw [if_neg h]; simp [h]
theorem zc1 (rw:List (Option Int)) (n:Nat):(zbA rw n).length≤n:=by
 unfold zbA;rw [ab];exact aN (cb _ _) (by rw [bm]; exact af _)
def zmS (p:Int) (pl:List Int) (rw:List (Option Int)) (kR:List Int):V→Bool
 | .int z=>zaS p pl rw kR z.toNat
 | _=>false
theorem zi0 {p:Int} {pl:List Int} {rw:List (Option Int)} {kR:List Int} (n:Nat):(((zbA rw n).map V.int).filter (zmS p pl rw kR)).map id=(zaV p pl rw kR n).map V.int:=by
 rw [iA];unfold zbA zaV;rw [j1,j1,jq];congr 2;refine gC fun j _=>?_
 show (zaS p pl rw kR ((j:Int)).toNat && (rw[j]?.getD none).isSome)=zaS p pl rw kR j;rw [bw];by_cases h:zaS p pl rw kR j=true
 ·rw [h,Bool.true_and];unfold zaS at h;split at h
  ·rename_i _ _ e; rw [e]; rfl
  ·cases h
 ·rw [Bool.eq_false_iff.mpr h,j4]
theorem zi1 {rw:List (Option Int)} {n:Nat} {z:Int} (h:z∈zbA rw n):∃ j:Nat,z=j∧j < n:=by
 unfold zbA at h;obtain⟨j,hj,e⟩:=aq.mp h;exact⟨j,e.symm,bd.mp (aU.mp hj).1⟩
end
end My
end
section
namespace PySem
section
variable {prog:Program} {w:World} {A:Around} {E:Value→Shared→Prop} {s:Shared}
theorem zlg {z TI TO i1 i2:Addr} {oJ oK:List Addr} {n1 n2 k1 k2:Nat} {P1 P2:Nat→Value→Prop} {S1 S2:Nat→Heap→Prop} {f0 f1 a b:Value} {Q:Option Value→Shared→Prop} (D1:Draws prog w A.in1 i1 oJ n1 P1 S1) (D2:Draws prog w A.in1 i2 oK n2 P2 S2) (Z:Zap z TI TO i1 i2 oJ oK)
  (hz:IsZ s.heap z TI TO f0 f1) (hf:ZF f0 f1) (rC:IsPair s.heap TI (.ref i1) (.ref i2)) (sG:IsPair s.heap TO a b) (mR:S1 k1 s.heap) (lH:S2 k2 s.heap) (l1:k1 < n1) (l2:k2 < n2)
  (hQ:∀ x y h' tk g0 g1 a' b',P1 k1 x→P2 k2 y→IsZ h' z TI TO g0 g1→ZF g0 g1→IsPair h' TI (.ref i1) (.ref i2)→IsPair h' TO a' b'→S1 (k1+1) h'→S2 (k2+1) h'→IsPair h' s.heap.objs.size x y→h'.objs.size=s.heap.objs.size+1 →
   (∀ c o,c≠z→c≠TO→c≠i1→c≠i2→s.heap.get? c=some o→h'.get? c=some o)→Q (some (.ref s.heap.objs.size)) { s with heap:=h',toks:=tk }):wpAny (model prog w) A (pyNext (.ref z)) Q E s:=by
 have tj:s.TypeIs (.ref z) "zip":=⟨_,hz,rfl⟩;unfold pyNext;refine ae (cL (be (name:=bV "__next__") tj cZ (bq cZ tj fu ?_ (fe _))));exact zhU D1 D2 Z hz hf rC sG mR lH l1 l2 fun x y h1 tk g0 g1 a' b' px py oT CA vY vZ v3 wc ql wd kk=>ak (hQ x y h1 tk g0 g1 a' b' px py oT CA vY vZ v3 wc ql wd kk)
theorem zmT {z TI TO i1 i2:Addr} {oJ oK:List Addr} {n1 n2 k1 k2:Nat} {P1 P2:Nat→Value→Prop} {S1 S2:Nat→Heap→Prop} {f0 f1 a b:Value} {Q:Option Value→Shared→Prop} (D1:Draws prog w A.in1 i1 oJ n1 P1 S1) (D2:Draws prog w A.in1 i2 oK n2 P2 S2) (Z:Zap z TI TO i1 i2 oJ oK)
  (hz:IsZ s.heap z TI TO f0 f1) (hf:ZF f0 f1) (rC:IsPair s.heap TI (.ref i1) (.ref i2)) (sG:IsPair s.heap TO a b) (mR:S1 k1 s.heap) (lH:S2 k2 s.heap) (l1:k1=n1∨(k1 < n1∧k2=n2))
  (hQ:∀ h' tk,(∀ c o,c≠z→c≠TO→c≠i1→c≠i2→s.heap.get? c=some o→h'.get? c=some o)→Q none { s with heap:=h',toks:=tk }):wpAny (model prog w) A (pyNext (.ref z)) Q E s:=by
 have tj:s.TypeIs (.ref z) "zip":=⟨_,hz,rfl⟩;unfold pyNext;refine ae (cL (be (name:=bV "__next__") tj cZ (bq cZ tj fu ?_ (fe _))));refine zj5 D1 D2 Z hz hf rC sG mR lH l1 fun h' tk x kk ⟨o,ho,hc⟩=>?_
 exact ae (ek (T:="StopIteration") (b:=true) ⟨o,ho,hc⟩ fU (ak (hQ h' tk kk)))
theorem zhW {z TI TO:Addr} {f0 f1:Value} {Q:Value→Shared→Prop} (hz:IsZ s.heap z TI TO f0 f1) (h:Q (.ref z) s):wpAny (model prog w) A (pyIter (.ref z)) Q E s:=by
 have hT:s.TypeIs (.ref z) "zip":=⟨_,hz,rfl⟩; refine gB hT F.slot_zip_iter (bq F.slot_zip_iter hT F.entry_zip_iter ?_ (F.args_zip_iter_1 _));show wpAny _ _ (ret (.ref z)) _ _ s; exact ak ⟨_,rfl,"zip",_,hT,F.slot_zip_next.lookup,h⟩
theorem znJ {elts:List Expr} {x1} {pos:Pos} {z TI TO T:Addr} {f0 f1:Value} {Q:Unit→Shared→Prop} (hz:IsZ s.heap z TI TO f0 f1) (hf:ZF f0 f1)
  (hQ:∀ h' g0,IsZ h' z TI TO g0 f1→ZF g0 f1→bg z s.heap h'→Q () { s with heap:=h' }):wpAny (model prog w) A (letOwnedTupleGo (.Tuple elts x1 pos) (.ref z) (.ref T)) Q E s:=by
 unfold letOwnedTupleGo; refine ae (wpAny_load hz ?_);show wpAny _ _ (if _ then _ else _) Q E s;split
 ·refine ae (cg ?_); show wpAny _ _ (setField (.ref z) 0 .none) Q E s;exact bG hz #[M] fun h' xj mT=>hQ h' .none xj ⟨.inl rfl,hf.2⟩ mT
 ·exact ak (hQ s.heap f0 hz hf ⟨rfl,fun _ _=>rfl⟩)
end
end PySem
namespace L2
open PySem PySem.Spec PyProof.Rows
def zmU (o7 o8:Hp→Addr→List V→Prop) (a b:Addr):It :=
 ⟨(ziP o7 o8 a b).go,(ziP o7 o8 a b).yld,fun i H=>∃ xs ys,o7 H a xs∧o8 H b ys∧(xs.length=i∨(i < xs.length∧ys.length=i))⟩
abbrev zeL (n:Nat):List Addr:=[n+4,n+2,n+3,n,n+1]
abbrev znK (C:String) (n a b:Nat) (i:Nat) (h:Heap):Prop:=(∃ f0 f1,IsZ h (n+4) (n+2) (n+3) f0 f1∧ZF f0 f1)∧IsPair h (n+2) (.ref n) (.ref (n+1))∧(∃ u v,IsPair h (n+3) u v)∧h.IsTupleIter n a i∧ItC C h (n+1) b i
structure Sk (C:String) (Is:Heap→Addr→Array Value→Prop) (Sq:ag→Hp→Addr→List V→Prop):Prop where
 h:SkH C Is
 inv:∀ {X:Cx} {ku:List (Addr×Obj)} {σ:St} {H:Hp} {s:Shared} {a:Addr} {xs:List V},Inv X ku σ H s→Sq X.K H a xs→∃ kz:List Value,zM xs kz∧Is s.heap a kz.toArray∧a < s.heap.objs.size
 inj:∀ {X:Cx} {ku:List (Addr×Obj)} {σ:St} {H:Hp} {s:Shared} {a:Addr} {xs ys:List V},Inv X ku σ H s→Sq X.K H a xs→Sq X.K H a ys→xs=ys
theorem sqL:Sk "list_iterator" Heap.IsList ky:=⟨skL,fun I h=>let ⟨kz,r,p,_⟩:=I.list h; ⟨kz,r,p.isList,by obtain⟨_,_,e,_⟩:=p; exact aI e⟩,fun I h h'=>I.list_inj h h'⟩
theorem zj7 {C:String} {Is:Heap→Addr→Array Value→Prop} {Sq:ag→Hp→Addr→List V→Prop} (S:Sk C Is Sq) {P:Program} {w:World} {K:ag} {es:List Expr} {k:Nat} {pos:Pos} (a b n:Nat) (ha:a < n) (hb:b < n):Turn P w K (.Tuple es k pos) (zmU (kF K) (Sq K) a b) (zeL n) (n+4) (znK C n a b) where
 mem:=by simp
 obj:=fun i h st c hc=>by
  obtain⟨⟨f0,f1,h1,_⟩,h2,⟨u,v,h3⟩,⟨o4,e4,_,d4⟩,⟨o5,e5,_,d5⟩⟩:=st;simp only [zeL,aC,aX,or_false] at hc;rcases hc with z | z | z | z | z <;> subst z
  ·exact⟨_,h1,fun v z=>by cases z⟩
  ·exact⟨_,h2,fun v z=>by cases z⟩
  ·exact⟨_,h3,fun v z=>by cases z⟩
  ·exact⟨_,e4,fun v z=>by rw [d4] at z; cases z⟩
  ·exact⟨_,e5,fun v z=>by rw [d5] at z; cases z⟩
 keep:=fun i h h' st kk=>by
  obtain⟨⟨f0,f1,h1,hf⟩,h2,⟨u,v,h3⟩,h4,h5⟩:=st;obtain⟨o5,e5,r5⟩:=h5;exact⟨⟨f0,f1,kk _ #[M] _ h1,hf⟩,kk _ #[M] _ h2,⟨u,v,kk _ #[M] _ h3⟩,h4.at fun o eo=>kk _ #[M] o eo,o5,kk _ #[M] _ e5,r5⟩
 item:=by
  intro X hP hw hK hc i ku s σ H E I hf st hg;subst hP hw hK;obtain⟨xs,ys,x,y,oS,nh,hx,hy⟩:=hg;obtain⟨⟨f0,f1,h1,uE⟩,h2,⟨u0,v0,h3⟩,h4,h5⟩:=st;obtain⟨lQ,qT,p1,oT⟩:=I.tuple oS;obtain⟨lO,rB,p2,_⟩:=S.inv I nh;obtain⟨u,hu,ru⟩:=qT.get hx;obtain⟨v,hv,rv⟩:=rB.get hy;have sT:n+4 < s.heap.objs.size:=aI h1;have hh:X.A.in1.handled=none:=by simp [I.ok.hd hc]
  have pq:i < lQ.toArray.size:=by have:=(az.mp hu).1; simpa using this
  have pv:i < lO.toArray.size:=by have:=(az.mp hv).1; simpa using this
  refine zlg (Draws.tuple hh n a (nq #[O]) lQ.toArray) (S.h.dr hh (n+1) b (nq #[O]) lO.toArray) (zdP ha hb) h1 uE h2 h3 ⟨h4,(show s.heap.IsTuple a lQ.toArray from p1)⟩ ⟨h5,p2⟩ pq pv
   fun x' y' h' tk g0 g1 a' b' px py ez CJ e2 e3 t4 t5 pp hsz kk=>?_
  have eu:x'=u:=by
   have e1:lQ[i]? = some x':=by simpa using px
   rw [hu] at e1; exact (aQ e1).symm
  have ev:y'=v:=by
   have e1:lO[i]? = some y':=by simpa using py
   rw [hv] at e1; exact (aQ e1).symm
  subst eu ev;have ch:∀ c∈[n+4,n+3,n,n+1],c∈zeL n:=fun c kI=>by
   simp only [zeL,aC,aX,or_false] at kI ⊢;rcases kI with z | z | z | z <;> subst z <;> simp
  have k1:∀ c o,c∉[n+4,n+3,n,n+1]→s.heap.get? c=some o→h'.get? c=some o:=fun c o kI eo=>by
   simp only [aC,aX,or_false,not_or] at kI;exact kk c o kI.1 kI.2.1 kI.2.2.1 kI.2.2.2 eo
  have vS:∀ c∈[n+4,n+3,n,n+1],∃ o,h'.get? c=some o:=fun c kI=>by
   simp only [aC,aX,or_false] at kI;rcases kI with z | z | z | z <;> subst z
   ·exact⟨_,ez⟩
   ·exact⟨_,e3⟩
   ·obtain⟨o,e,_⟩:=t4.1; exact⟨o,e⟩
   ·obtain⟨o,e,_⟩:=t5.1; exact⟨o,e⟩
  have I1:Inv X ku σ (kB H s.heap.objs.size (.tup [x,y])) { s with heap:=h',toks:=tk } :=
   I.turnedNew k1 (fun c kI=>hf c (ch c kI)) vS (af _) ⟨zbm,_,.cons ru (.cons rv .nil),zbz pp⟩
  refine⟨_,rfl,znJ (s:={ s with heap:=h',toks:=tk }) ez CJ fun uj g2 sV yi mP=>?_⟩;have fr:∀ c∈zeL n,kB H s.heap.objs.size (.tup [x,y]) c=none:=fun c kI=>by
   have kU:c < s.heap.objs.size:=by
    simp only [zeL,aC,aX,or_false] at kI;rcases kI with z | z | z | z | z <;> subst z <;> exact nl #[O]
   rw [zr (bp kU)];exact (hf c kI).1
  have I2:Inv X ku σ (kB H s.heap.objs.size (.tup [x,y])) { s with heap:=uj,toks:=tk } :=
   Inv.turnedL (s:={ s with heap:=h',toks:=tk }) (ch:=[n+4]) (t':=tk) I1 (fun c o kI eo=>mP.extBut c o (by simpa using kI) eo) (fun c kI=>by
    have z:c=n+4:=by simpa using kI
    subst z;exact⟨fr _ #[M],(hf _ #[M]).2⟩) (fun c kI=>by
    have z:c=n+4:=by simpa using kI
    subst z;exact⟨_,sV⟩)
  have up:∀ c o,c≠n+4→h'.get? c=some o→uj.get? c=some o:=fun c o kI e=>mP.extBut c o kI e
  exact⟨.ref s.heap.objs.size,_,I2,rfl,⟨_,x,y,I.fresh,rfl,rfl,fun zs hz=>by rw [I.tuple_inj hz oS]; exact hx,fun zs hz=>by rw [S.inj I hz nh]; exact hy⟩,
   ⟨⟨g2,g1,sV,yi⟩,up _ _ (nq #[O]) e2,⟨_,_,up _ _ (nq #[O]) e3⟩,t4.1.at fun o e=>up _ o (nq #[O]) e,⟨t5.1.choose,up _ _ (nq #[O]) t5.1.choose_spec.1,t5.1.choose_spec.2⟩⟩,fr⟩
 done:=by
  intro X hP hw hK hc i ku s σ H E I hf st hg;subst hP hw hK;obtain⟨xs,ys,oS,nh,hx⟩:=hg;obtain⟨⟨f0,f1,h1,uE⟩,h2,⟨u0,v0,h3⟩,h4,h5⟩:=st;obtain⟨lQ,qT,p1,oT⟩:=I.tuple oS;obtain⟨lO,rB,p2,_⟩:=S.inv I nh;have hh:X.A.in1.handled=none:=by simp [I.ok.hd hc]
  have sW:=qT.length;have rk:=rB.length;refine zmT (Draws.tuple hh n a (nq #[O]) lQ.toArray) (S.h.dr hh (n+1) b (nq #[O]) lO.toArray) (zdP ha hb) h1 uE h2 h3 ⟨h4,(show s.heap.IsTuple a lQ.toArray from p1)⟩ ⟨h5,p2⟩ (by rw [au,au]; lia) fun h' tk kk=>⟨rfl,?_⟩
  have sub:∀ c∈[n+4,n+3,n,n+1],c∈zeL n:=fun c kI=>by
   simp only [zeL,aC,aX,or_false] at kI ⊢;rcases kI with z | z | z | z <;> subst z <;> simp
  have k1:∀ c o,c∉[n+4,n+3,n,n+1]→s.heap.get? c=some o→h'.get? c=some o:=fun c o kI e=>by
   simp only [aC,aX,or_false,not_or] at kI;exact kk c o kI.1 kI.2.1 kI.2.2.1 kI.2.2.2 e
  have qL:∀ d u',H d=some u'→d∉[n+4,n+3,n,n+1]:=fun d u' e' hd=>by rw [(hf d (sub d hd)).1] at e'; cases e'
  refine I.step (g':=s.gens) (d':=s.drawn) (t':=tk) (ch:=[n+4,n+3,n,n+1]) (fun c kI=>?_) (fun c o _ _ lR e _=>k1 c o lR e) (fun c o _ _ lR e _=>⟨o.slots,k1 c o lR e⟩) (fun _ _ _ _ n=>n)
   (fun c o lR e=>⟨o,k1 c o lR e⟩) (fun _ _ e=>e) (fun _ _ _ e=>e) (fun c ps e=>⟨#[],by rw [e]; simp⟩) (fun m hm=>?_) (fun c u e=>?_) I.bare
  ·obtain⟨_,a1,_,a3,a4,a5⟩:=hf c (sub c kI);exact⟨a3,a1,a4,a5⟩
  ·obtain⟨o,uw,ep,ho,r⟩:=hm;exact⟨o,uw,ep,k1 _ o (fun z=>(hf _ (sub _ z)).2.1 rfl) ho,r⟩
  ·refine (I.hok c u e).stay (fun d v' hd q=>k1 d v' ?_ q) (fun _ q=>q) fun _ _ q=>q
   rcases hd with z | z
   ·rw [z]; exact qL c u e
   ·exact qL d _ z
 self:=fun _ _ _ _ _ st h=>by
  obtain⟨⟨f0,f1,hz,_⟩,_⟩:=st;exact zhW hz h
def iZq (o7 o8:Hp→Addr→List V→Prop) (ta:TA):TI:=fun σ H R=>ta σ H fun vs H1=>∃ a b xs ys,vs = [.ref a,.ref b]∧o7 H1 a xs∧o8 H1 b ys∧R (zmU o7 o8 a b) H1
theorem zj8 {C:String} {Is:Heap→Addr→Array Value→Prop} {Sq:ag→Hp→Addr→List V→Prop} (S:Sk C Is Sq) {X:Cx} {es:List Expr} {k:Nat} {om p pos:Pos} {a b:Expr} {ta:TA} (hg:Gl X "zip") (hm:X.mg "zip" = none) (ha:PA X [a,b] ta) (hs:starEach [a,b] X.env = [(false,eval a X.env),(false,eval b X.env)]:=by rfl) (nc:starEach [b] X.env = [(false,eval b X.env)]:=by rfl) :
  PI X (.Tuple es k om) (.Call (.Name "zip" p) [a,b] [] pos) (iZq (kF X.K) (Sq X.K) ta):=by
 intro ku s σ H R I h;refine Call_ (zbL I hg hm boot_zip (bC (thn (ha pos ku s σ H _ I h) fun us s1 ⟨vs,H1,I1,r1,q1⟩=>?_) (by rw [hs,nc]) (by rw [nc]; rfl)));obtain⟨l1,l2,xs,ys,e,oS,nh,q⟩:=q1;subst e;cases r1 with
 | cons r rr =>
  cases rr with
  | cons r' rr =>
   cases rr;cases r;cases r';obtain⟨lQ,qT,ve,oT⟩:=I1.tuple oS;obtain⟨lO,rB,vT,pv⟩:=S.inv I1 nh;have pq:l1 < s1.heap.objs.size:=by obtain⟨_,e,_⟩:=ve; exact aI e
   refine zel S.h (show s1.heap.IsTuple l1 lQ.toArray from ve) vT fun h' n hn b1 b2 b3 b4 b5 b6 kk=>?_
   have I2:Inv X ku σ H1 { s1 with heap:=h' }:=I1.kept (t':=s1.toks) kk;refine zhW b1 ?_;refine⟨_,zeL n,znK C n l1 l2,zmU (kF X.K) (Sq X.K) l1 l2,H1,rfl,I2,zj7 S l1 l2 n (by rw [hn]; exact pq) (by rw [hn]; exact pv),⟨⟨_,_,b1,.inl rfl,_,rfl⟩,b2,⟨_,_,b3⟩,b4,b5⟩,fun c hc=>?_,q⟩;have hle:s1.heap.objs.size≤c:=by
    simp only [zeL,aC,aX,or_false] at hc;rw [← hn];rcases hc with z | z | z | z | z <;> subst z
    all_goals first | exact jO _ _ | exact af _
   exact I1.fpOk hle (I1.hok.fresh hle)
theorem zj9 {X:Cx} {es:List Expr} {k:Nat} {om p pos:Pos} {a b:Expr} {ta:TA} (hg:Gl X "zip") (hm:X.mg "zip" = none) (ha:PA X [a,b] ta) (hs:starEach [a,b] X.env = [(false,eval a X.env),(false,eval b X.env)]:=by rfl) (nc:starEach [b] X.env = [(false,eval b X.env)]:=by rfl) :
  PI X (.Tuple es k om) (.Call (.Name "zip" p) [a,b] [] pos) (iZq (kF X.K) (ky X.K) ta):=zj8 sqL hg hm ha hs nc
section
variable {P:Program} {w:World} {outer:List Env} {H H':Hp} {h h' B:Heap} {e C:Addr}
theorem zmV {o:HO} {a:Addr} (x:zaD P w H h a o):∃ ob,h.get? a=some ob:=by
 cases o with
 | lst xs=>obtain⟨_,_,_,_,e⟩:=x; exact⟨_,e⟩
 | tup xs=>obtain⟨_,_,_,o,e,_⟩:=x; exact⟨_,e⟩
 | dK kE=>obtain⟨_,_,_,_,o,_,_,e,_⟩:=x; exact⟨_,e⟩
 | dT kE=>obtain⟨_,_,_,_,o,_,_,e,_⟩:=x; exact⟨_,e⟩
 | set S n=>obtain⟨o,_,_,_,e,_⟩:=x; exact⟨_,e⟩
 | ins C dx fs=>obtain⟨_,_,_,e,_⟩:=x; exact⟨_,e⟩
 | own y=>obtain⟨_,e⟩:=x; exact⟨_,e⟩
 | xd fs=>obtain⟨_,⟨_,_,_,e,_⟩,_⟩:=x; exact⟨_,e⟩
 | rng lo hi=>obtain⟨_,_,_,e⟩:=x; exact⟨_,e⟩
 | frz ob u=>obtain⟨e,_⟩:=x; exact⟨_,e⟩
 | tbl ps=>exact⟨_,(show h.get? a=some _ from x)⟩
 | met f y=>exact⟨_,(show h.get? a=some _ from x)⟩
 | ext φ=>obtain⟨_,⟨_,e⟩,_⟩:=x; exact⟨_,e⟩
end
section
variable {κ:Type} [DecidableEq κ]
def zg9 (kE:List (κ×V)) (k:κ):Option V:=(kE.find? fun kv=>decide (kv.1=k)).map (·.2)
def putK (kE:List (κ×V)) (k:κ) (v:V):List (κ×V) :=
 if (kE.any fun kv=>decide (kv.1=k))=true then kE.map (fun kv=>if kv.1=k then (kv.1,v) else kv) else kE++[(k,v)]
theorem zgm {p:κ×V} {r:List (κ×V)} {k:κ} (e:p.1=k):zg9 (p :: r) k=some p.2:=by simp [zg9,fH,e]
theorem zgn {p:κ×V} {r:List (κ×V)} {k:κ} (e:¬ p.1=k):zg9 (p :: r) k=zg9 r k:=by simp [zg9,fH,e]
theorem zgo (k:κ):∀ kE:List (κ×V),(kE.any fun kv=>decide (kv.1=k))=(zg9 kE k).isSome
 | []=>rfl
 | p :: r=>by
  rw [dP];by_cases e:p.1=k
  ·simp only [zgm e,decide_eq_true e,Bool.true_or,jn]
  ·rw [zgn e,decide_eq_false e,Bool.false_or]; exact zgo k r
theorem zdG (kE:List (κ×V)) (k:κ) (v:V):(putK kE k v).length≤kE.length+1:=by
 unfold putK;split
 ·rw [ab]; lia
 ·rw [ap,br,ik]; lia
theorem zju.isSome_eq {o:Option V} {u:Option Value} (r:zju o u):o.isSome=u.isSome:=by
 cases o with
 | none=>cases u with
  | none=>rfl
  | some _=>exact (show False from r).elim
 | some _=>cases u with
  | none=>exact (show False from r).elim
  | some _=>rfl
theorem KV.any {kE:List (κ×V)} {vs:List (κ×Value)} (r:KV kE vs) (k:κ):(kE.any fun kv=>decide (kv.1=k))=vs.any fun kv=>decide (kv.1=k):=by
 unfold KV at r;induction r with
 | nil=>rfl
 | cons h t ih=>rw [dP,dP,ih,h.1]
theorem KV.repl {kE:List (κ×V)} {vs:List (κ×Value)} (r:KV kE vs) (k:κ) {y:V} {u:Value} (ry:RelV y u) :
  KV (kE.map fun kv=>if kv.1=k then (kv.1,y) else kv) (vs.map fun kv=>if kv.1=k then (kv.1,u) else kv):=by
 unfold KV at r ⊢;induction r with
 | nil=>exact .nil
 | @cons p q ps qs h t ih =>
  rw [bh,bh];refine .cons ?_ ih;obtain⟨h1,h2⟩:=h;by_cases e:p.1=k
  ·rw [if_pos e,if_pos (h1.symm.trans e)]; exact⟨h1,ry⟩
  ·rw [if_neg e,if_neg (fun z=>e (h1.trans z))]; exact⟨h1,h2⟩
theorem KV.put {kE:List (κ×V)} {vs:List (κ×Value)} (r:KV kE vs) (k:κ) {y:V} {u:Value} (ry:RelV y u):KV (putK kE k y) (stored vs k u):=by
 unfold putK stored;rw [r.any k];by_cases e:(vs.any fun kv=>decide (kv.1=k))=true
 ·rw [if_pos e,if_pos e]; exact r.repl k ry
 ·rw [if_neg e,if_neg e]; exact bD r ⟨rfl,ry⟩
theorem KV.length {kE:List (κ×V)} {vs:List (κ×Value)} (r:KV kE vs):kE.length=vs.length:=gg r
end
theorem zme {P:Program} {w:World} {k:Key} {u:Value} (r:RelV (kV k) u):(zaJ P w).is k u=true:=by
 cases k with
 | inl i=>obtain⟨t,e⟩:=(show ∃ t,u=i9 i t from r); subst e; exact zfU P w i t
 | inr x=>obtain⟨t,e⟩:=(show ∃ t,u=kc x t from r); subst e; exact zfV P w x t
theorem zfa {P:Program} {w:World}:∀ {ks:List Key} {us:List Value},zM (ks.map kV) us→ItemsAre (zaJ P w) ks us
 | [],_,r=>by rw [eN] at r; cases r; exact .nil
 | k :: ks,_,r=>by
  rw [bh] at r;cases r with
  | cons h t=>exact .cons (zme h) (zfa t)
abbrev KT (H:Hp):List (List Key×V)→List (List Key×Addr×Value)→Prop:=Paired fun p q=>p.1=q.1∧H q.2.1=some (.tup (p.1.map kV))∧RelV p.2 q.2.2
theorem KT.val {H:Hp} {kE:List (List Key×V)} {xs:List (List Key×Addr×Value)} (r:KT H kE xs) (k:List Key):zju (zg9 kE k) ((atKey xs k).map (·.2)):=by
 induction r with
 | nil=>exact j2
 | @cons p q ps qs h t ih =>
  obtain⟨h1,_,h2⟩:=h;by_cases e:p.1=k
  ·have e':q.1=k:=h1.symm.trans e;have b:atKey (q :: qs) k=some q.2:=by simp [atKey,fH,e']
   rw [zgm e,b]; exact h2
  ·have e':¬ q.1=k:=fun z=>e (h1.trans z)
   have b:atKey (q :: qs) k=atKey qs k:=by simp [atKey,fH,e']
   rw [zgn e,b]; exact ih
theorem KT.repl {H:Hp} {kE:List (List Key×V)} {xs:List (List Key×Addr×Value)} (r:KT H kE xs) (k:List Key) {y:V} {u:Value} (ry:RelV y u) :
  KT H (kE.map fun kv=>if kv.1=k then (kv.1,y) else kv) (xs.map (putAt k u)):=by
 induction r with
 | nil=>exact .nil
 | @cons p q ps qs h t ih =>
  rw [bh,bh];refine .cons ?_ ih;obtain⟨h1,h2,h3⟩:=h;unfold putAt;by_cases e:p.1=k
  ·rw [if_pos e,if_pos (h1.symm.trans e)]; exact⟨h1,h2,ry⟩
  ·rw [if_neg e,if_neg (fun z=>e (h1.trans z))]; exact⟨h1,h2,h3⟩
theorem KT.put {H:Hp} {kE:List (List Key×V)} {xs:List (List Key×Addr×Value)} (r:KT H kE xs) (k:List Key) {b:Addr} {y:V} {u:Value} (hb:H b=some (.tup (k.map kV))) (ry:RelV y u) :
  KT H (putK kE k y) (storedH xs k b u):=by
 have e:(kE.any fun kv=>decide (kv.1=k))=(atKey xs k).isSome:=by
  rw [zgo,(r.val k).isSome_eq,Option.isSome_map]
 unfold putK storedH;rw [e];by_cases q:(atKey xs k).isSome=true
 ·rw [if_pos q,if_pos q]; exact r.repl k ry
 ·rw [if_neg q,if_neg q]; exact bD r ⟨rfl,hb,ry⟩
theorem KT.keeps {H H':Hp} {kE:List (List Key×V)} {xs:List (List Key×Addr×Value)} (r:KT H kE xs) (ht:∀ b ys,H b=some (.tup ys)→H' b=some (.tup ys)):KT H' kE xs :=
 Paired.mapP r fun _ _ z=>⟨z.1,ht _ _ z.2.1,z.2.2⟩
section
variable {P:Program} {w:World} {H:Hp} {h:Heap} {a:Addr}
theorem zmf {u:HO} (ok:HOk P w H h) (e:Rd H a u):zaD P w H h a u:=e.ok ok
theorem znL {kE:List (Key×V)} (ok:HOk P w H h) (e:Rd H a (.dK kE)):kE.length≤sizeLine∧(a == sysModules)=false∧∃ vs,KV kE vs∧h.DictOf (zaJ P w) a vs :=
 show zaD P w H h a (.dK kE) from zmf ok e
theorem znM {kE:List (Key×V)} (ok:HOk P w H h) (e:H a=some (.dK kE)):kE.length≤sizeLine∧(a == sysModules)=false∧∃ vs,KV kE vs∧h.DictOf (zaJ P w) a vs:=znL ok (.inl e)
theorem zka {ks:List Key} (ok:HOk P w H h) (e:H a=some (.tup (ks.map kV))):(tupleKind (zaJ P w)).is h ks a:=by
 obtain⟨_,kz,r,o,h1,h2,n,h3⟩:=(show zaD P w H h a (.tup (ks.map kV)) from ok a _ e);exact⟨o,kz.toArray,n,h1,h2,h3,by simpa using zfa r⟩
theorem znN {kE:List (List Key×V)} (ok:HOk P w H h) (e:Rd H a (.dT kE)):kE.length≤sizeLine∧(a == sysModules)=false ∧
  ∃ xs,KT H kE xs∧h.DictOfH (tupleKind (zaJ P w)) a xs:=by
 obtain⟨z,y,xs,r,o,es,ep,h1,h2,h3,h4,h5⟩:=(show zaD P w H h a (.dT kE) from zmf ok e);refine⟨z,y,xs,r,o,es,ep,h1,h2,h3,h4,fun x hx=>?_,h5⟩;have all:∀ {l:List (List Key×V)} {m:List (List Key×Addr×Value)},KT H l m→∀ x∈m,(tupleKind (zaJ P w)).is h x.1 x.2.1:=by
  intro l m q;induction q with
  | nil=>intro x hx; exact nomatch hx
  | @cons p q ps qs hq t ih =>
   intro x hx;rcases aC.mp hx with e | hx
   ·subst e;exact zka ok (by rw [← hq.1]; exact hq.2.1)
   ·exact ih x hx
 exact all r x hx
theorem znO {kE:List (List Key×V)} (ok:HOk P w H h) (e:H a=some (.dT kE)):kE.length≤sizeLine∧(a == sysModules)=false ∧
  ∃ xs,KT H kE xs∧h.DictOfH (tupleKind (zaJ P w)) a xs:=znN ok (.inl e)
end
def zkb (H:Hp) (a:Addr) (y v:V) (H':Hp):Prop :=
 (∃ kE k,H a=some (.dK kE)∧y=kV k∧kE.length < sizeLine∧H'=kB H a (.dK (putK kE k v))) ∨
 ∃ kE k b,H a=some (.dT kE)∧y = .ref b∧H b=some (.tup (k.map kV))∧kE.length < sizeLine∧H'=kB H a (.dT (putK kE k v))
theorem zkb.t {H:Hp} {a b:Addr} {kE:List (List Key×V)} {k:List Key} {v:V} (e:H a=some (.dT kE)) (eb:H b=some (.tup (k.map kV))) (hl:kE.length < sizeLine) :
  zkb H a (.ref b) v (kB H a (.dT (putK kE k v))):=.inr ⟨kE,k,b,e,rfl,eb,hl,rfl⟩
section
variable {X:Cx} {ku:List (Addr×Obj)} {σ:St} {H:Hp} {s:Shared} {a:Addr} {y v:V} {u r:Value} {o:Option V} {A:Around} {E:Value→Shared→Prop}
theorem Inv.big (I:Inv X ku σ H s):sysModules < s.heap.objs.size:=by
 have h:mainGlobals < s.heap.objs.size:=(I.mod.glob.keeps I.bk).lt;exact Nat.lt_trans #[D] h
theorem zhX {h':Heap} {t':Nat} {ob:HO} (I:Inv X ku σ H s) (mu:Mut (H a)) (hs:bg a s.heap h') (he:∃ q,h'.get? a=some q) (new:zaD X.prog X.w (kB H a ob) h' a ob) :
  Inv X ku σ (kB H a ob) { s with heap:=h',toks:=t' } :=
 I.write (x:=a) (e:=a) mu (.inl rfl) (fun b q hb z=>(hs.2 b hb).trans z) he new
theorem zmW {P:Program} {w:World} {H':Hp} {h':Heap} {kE:List (Key×V)} {vs:List (Key×Value)} (z:kE.length≤sizeLine) (hd:(a == sysModules)=false) (rel:KV kE vs) (dd:h'.DictOf (zaJ P w) a vs) :
  zaD P w H' h' a (.dK kE):=⟨z,hd,vs,rel,dd⟩
theorem zi2 {H':Hp} {Q:Unit→Shared→Prop} (hu:A.units+1 < cLine) (I:Inv X ku σ H s) (g:zkb H a y v H') (ry:RelV y u) (rv:RelV v r) (h:∀ s',Inv X ku σ H' s'→Q () s') :
  wpAny (model X.prog X.w) A (setItem (.ref a) u r) Q E s:=by
 rcases g with ⟨kE,k,e,ey,l,eH⟩ | ⟨kE,k,b,e,ey,eb,l,eH⟩
 ·subst ey eH;obtain⟨z,hd,vs,rel,dd⟩:=znM I.hok e;have hz:vs.length≤sizeLine:=by rw [← rel.length]; exact z
  have hl:(putK kE k v).length≤sizeLine:=by have:=zdG kE k v; lia
  refine wpAny_setItem_pairs (hsz:=hz) (zme ry) dd fun h' Be hs=>h _ ?_
  have he:∃ q,h'.get? a=some q:=let ⟨q,_,_,hq,_⟩:=Be; ⟨q,hq⟩
  exact zhX I (by rw [e]; exact j2) hs he (zmW hl hd (rel.put k rv) Be)
 ·subst ey eH;cases (show u=bf b from ry);obtain⟨z,hd,xs,rel,dd⟩:=znO I.hok e;have hz:xs.length≤sizeLine:=by rw [← gg rel]; exact z
  have hl:(putK kE k v).length≤sizeLine:=by have:=zdG kE k v; lia
  refine wpAny_setItem_heap (hsz:=hz) (tupleKind_room_in1 hu) (zka I.hok eb) dd fun h' Be hs=>h _ ?_
  obtain⟨q,es,ep,hq,h2,h3,h4,_,h5⟩:=Be;refine zhX I (by rw [e]; exact j2) hs ⟨q,hq⟩ ⟨hl,hd,_,(rel.put k eb rv).keeps fun c ys ec=>?_,q,es,ep,hq,h2,h3,h4,h5⟩;rw [zr (zni ec e (fun z=>nomatch z))];exact ec
end
def znP (td ty tv:TE):TS:=fun D σ H=>tv σ H fun v H1=>td σ H1 fun x H2=>ty σ H2 fun y H3=>∃ a H4,x = .ref a∧zkb H3 a y v H4∧D.nx σ H4
section
variable {X:Cx} {o i e value:Expr} {pos pos' om:Pos} {td ty tv:TE}
theorem zlh (hu:X.A.units+1 < cLine) (ho:PE X o td) (hi:PE X i ty) (hv:PE X value tv) (hs:swapsWith value (some (.Subscript o i pos')) pos.line X.env=pure false) :
  PS X (.Assign [.Subscript o i pos'] value pos) (znP td ty tv):=by
 intro ku s σ H D I h;refine wpAny_Assign_Subscript (thn (hv ku s σ H _ I h) fun r s1 ⟨v,H1,I1,rv,q1⟩=>thn (ho ku s1 σ H1 _ I1 q1) fun u s2 ⟨x,H2,I2,rx,q2⟩=>thn (hi ku s2 σ H2 _ I2 q2) fun iv s3 ⟨y,H3,I3,ry,a,H4,ex,g,q3⟩=>?_) hs;subst ex;obtain rfl:u=bf a:=rx;exact zi2 hu I3 g ry rv fun s4 I4=>⟨σ,H4,I4,q3⟩
end
theorem zkc {P:Program} {w:World} {H:Hp} (h:Heap) (hb:sysModules < h.objs.size):zaD P w H (h.push { cls:=.type "dict",data:=.dict #[] }) h.objs.size (.dT []) :=
 ⟨bu _,beq_eq_false_iff_ne.mpr (dz (bp hb)),[],.nil,_,#[],0,aH _ rfl,⟨rfl,rfl,rfl⟩,rfl,rfl,j6⟩
def zmX:TE:=fun _ H Q=>∀ p,H p=none→Q (.ref p) (kB H p (.dT []))
section
variable {X:Cx} {pos:Pos}
theorem zkd:PE X (.Dict [] [] pos) zmX:=fun ku s σ H Q I h =>
 wpAny_Dict_empty ⟨.ref s.heap.objs.size,_,I.laid (a:=s.heap.objs.size) (o:=.dT []) (t':=s.toks) (fun _ _ q=>ai _ q) (af _) (zkc s.heap I.big),rfl,h _ (I.hok.fresh (af _))⟩
end
end L2
namespace PySem
open PyProof.Rows
end PySem
namespace L2
open PySem PySem.Spec PyProof.Rows
end L2
namespace My
open PySem L2 PyProof.Rows
section
variable {K:ag}
structure RowAt (K:ag) (H:Hp) (r:Addr) (n:Nat) (rw:List (Option Int)):Prop where
 at':ky K H r (rw.map mS)
 len:rw.length=n
end
end My
end
section
namespace Srt
open PySem PyProof.Rows
def Vk (val:Keyed→Int) (xs:Array Keyed) (i:Nat):Int:=match xs[i]? with
 | some p=>val p
 | none=>0
theorem zaf {val:Keyed→Int} {xs ys:Array Keyed} {i j:Nat} (h:xs[i]? = ys[j]?):Vk val xs i=Vk val ys j:=by unfold Vk; rw [h]
theorem zV {val:Keyed→Int} {xs:Array Keyed} {i:Nat} {p:Keyed} (h:xs[i]? = some p):Vk val xs i=val p:=by unfold Vk; rw [h]
def SIn (val:Keyed→Int) (xs:Array Keyed) (lo hi:Nat):Prop:=∀ i j,lo≤i→i≤j→j < hi→Vk val xs i≤Vk val xs j
def DIn (val:Keyed→Int) (xs:Array Keyed) (lo hi:Nat):Prop:=∀ i j,lo≤i→i≤j→j < hi→Vk val xs j≤Vk val xs i
structure SB (κ:SortKind) (a₀:Array Keyed) (st:SortSt):Prop where
 perm:(arrOf st).Perm a₀
 kind:kindOf st=κ
 failed:failedOf st=none
theorem SB.size {κ:SortKind} {a₀:Array Keyed} {st:SortSt} (h:SB κ a₀ st):(arrOf st).size=a₀.size:=h.perm.size_eq
theorem SB.mem {κ:SortKind} {a₀:Array Keyed} {st:SortSt} (h:SB κ a₀ st) {i:Nat} (hi:i < a₀.size):∃ p,(arrOf st)[i]? = some p∧p∈a₀.toList:=by
 (have nB:i < (arrOf st).size:=by rw [h.size]; exact hi)
 exact⟨(arrOf st)[i],getElem?_pos _ i nB,(eB.mp h.perm).mem_iff.mp #[M]⟩
structure SF (κ:SortKind) (a₀:Array Keyed) (lo:Nat) (st₀ st:SortSt):Prop where
 b:SB κ a₀ st
 low:∀ k,k < lo→(arrOf st)[k]? = (arrOf st₀)[k]?
 pend:pendingOf st=pendingOf st₀
theorem SF.refl {κ:SortKind} {a₀:Array Keyed} {lo:Nat} {st:SortSt} (h:SB κ a₀ st):SF κ a₀ lo st st:=⟨h,fun _ _=>rfl,rfl⟩
theorem SF.setArr {κ:SortKind} {a₀:Array Keyed} {lo:Nat} {st₀ st:SortSt} (h:SF κ a₀ lo st₀ st) {xs:Array Keyed} (hp:xs.Perm (arrOf st)) (hl:∀ k,k < lo→xs[k]? = (arrOf st)[k]?):SF κ a₀ lo st₀ (setArr st xs) :=
 ⟨⟨hp.trans h.b.perm,h.b.kind,h.b.failed⟩,fun k hk=>(hl k hk).trans (h.low k hk),h.pend⟩
section
variable {prog:Program} {w:World} {A:Around} {E:Value→Shared→Prop} {s:Shared} {a₀:Array Keyed} {κ:SortKind} {val:Keyed→Int}
def Cmp (prog:Program) (w:World) (A:Around) (s:Shared) (κ:SortKind) (val:Keyed→Int) (a₀:Array Keyed):Prop :=
 ∀ x y,x∈a₀.toList→y∈a₀.toList→∀ (Q:Bool→Shared→Prop) (E:Value→Shared→Prop),Q (decide (val x < val y)) s→wpAny (model prog w) A (keyLt' κ x.1 y.1) Q E s
theorem zke {st:SortSt} {x y:Keyed} {Q:Option Bool→SortSt→Prop} (hC:Cmp prog w A s κ val a₀) (hk:kindOf st=κ) (hx:x∈a₀.toList) (hy:y∈a₀.toList) (h:Q (some (decide (val x < val y))) st) :
  wpS (model prog w) A E s (lt' x y) Q st:=by
 rw [lt'_eq];refine aw (eX ?_);rw [hk];refine aw (fY (cL (hC x y hx hy _ _ ⟨rfl,?_⟩)));exact aA h
theorem zR {st:SortSt} {arr:Array Keyed} {i:Nat} {p:Keyed} {Q:Keyed→SortSt→Prop} (hi:arr[i]? = some p) (h:Q p st):wpS (model prog w) A E s (elem' arr i) Q st:=by
 rw [elem'_eq,hi];exact aA h
theorem zeo {st:SortSt} {i j:Nat} {Q:Option Bool→SortSt→Prop} (hC:Cmp prog w A s κ val a₀) (hB:SB κ a₀ st) (hi:i < a₀.size) (hj:j < a₀.size) (h:Q (some (decide (Vk val (arrOf st) i < Vk val (arrOf st) j))) st) :
  (wpS (model prog w) A E s (ltAt' i j) Q st):=by
 obtain⟨x,ex,mx⟩:=hB.mem hi;obtain⟨y,ey,my⟩:=hB.mem hj;rw [ltAt'_eq];refine aw (eX ?_)
 (show wpS _ _ _ _ (do let x ← elem' (arrOf st) i; let y ← elem' (arrOf st) j; lt' x y) Q st)
 refine aw (zR ex (aw (zR ey (zke hC hB.kind mx my ?_))));rw [zV ex,zV ey] at h;exact h
theorem zhY {st:SortSt} {i j:Nat} {Q:Unit→SortSt→Prop} (h:Q () (setArr st (mirror (arrOf st) i j ((j - i) / 2)))) :
  (wpS (model prog w) A E s (reverseSlice' i j) Q st):=by
 ((rw [reverseSlice'_eq]; exact er h))
theorem zep {xs:Array Keyed} {i j:Nat} (hj:j≤xs.size) (k:Nat):Vk val (mirror xs i j ((j - i) / 2)) k=if i≤k∧k < j then Vk val xs (i+j - 1 - k) else Vk val xs k:=by
 (have e:=i7 (i:=i) hj k)
 by_cases h1:i≤k∧k < j
 ·rw [if_pos h1] at e ⊢; exact zaf e
 ·rw [if_neg h1] at e ⊢; exact zaf e
theorem zbo {xs:Array Keyed} {i j:Nat} (hj:j≤xs.size) (heq:∀ k,i≤k→k < j→Vk val xs k=Vk val xs (j - 1)) (k:Nat):Vk val (mirror xs i j ((j - i) / 2)) k=Vk val xs k:=by
 rw [zep hj];split
 ·(rw [heq _ #[O] #[O],heq k #[O] #[O]])
 ·rfl
theorem zb6 {xs:Array Keyed} {lo i j:Nat} (hj:j≤xs.size) (hi:lo≤i):∀ k,k < lo→(mirror xs i j ((j - i) / 2))[k]? = xs[k]?:=fun k hk=>by
 rw [i7 hj,if_neg #[O]]
theorem zha {xs:Array Keyed} {lo src d:Nat} (hs:src < xs.size) (hd:d≤src) (hl:lo≤src - d):∀ k,k < lo→(bubble xs src d)[k]? = xs[k]?:=fun k hk=>by
 rw [getElem?_bubble hs d hd,if_neg #[O],if_neg #[O]]
def zkf (lo a kL:Nat):StateT SortSt Sem AscSt :=
 forIn [a:kL] ((none,a):AscSt) fun _ st=>do
  let x ← ltAt' (lo+st.snd) (lo+st.snd - 1)
  match x with
  | some pA=>if pA=true then pure (eY (none,st.snd)) else pure (cp (none,st.snd+1))
  | _=>pure (eY (some none,st.snd))
def zgp (lo n kL:Nat):StateT SortSt Sem (Option Nat):=do
 reverseSlice' lo (lo+n)
 let st ← zkf lo n kL
 match st.fst with
 | some r=>pure r
 | none=>pure (some st.snd)
def zhZ (lo n kL:Nat):StateT SortSt Sem DescSt :=
 forIn [n:kL] ((none,n,0):DescSt) fun _ st=>do
  let x ← ltAt' (lo+st.snd.fst) (lo+st.snd.fst - 1)
  match x with
  | some pA =>
   if pA=true then
    if st.snd.snd > 0 then do
     reverseSlice' (lo+st.snd.fst - (st.snd.snd+1)) (lo+st.snd.fst)
     pure (cp (none,st.snd.fst+1,0))
    else pure (cp (none,st.snd.fst+1,0))
   else do
    let x ← ltAt' (lo+st.snd.fst - 1) (lo+st.snd.fst)
    match x with
    | some wg =>
     if wg=true then pure (eY (none,st.snd.fst,st.snd.snd))
     else pure (cp (none,st.snd.fst+1,st.snd.snd+1))
    | _=>pure (eY (some none,st.snd.fst,st.snd.snd))
  | _=>pure (eY (some none,st.snd.fst,st.snd.snd))
def zgq (lo n kL:Nat):StateT SortSt Sem (Option Nat):=do
 liftM (rule "list.sort.descending-run"); let st ← zhZ lo (n+1) kL
 match st.fst with
 | some r=>pure r
 | none =>
  if st.snd.snd > 0 then do
   reverseSlice' (lo+st.snd.fst - (st.snd.snd+1)) (lo+st.snd.fst)
   zgp lo st.snd.fst kL
  else zgp lo st.snd.fst kL
theorem zfz (lo kL:Nat):countRun' lo kL=(do
  let st ← zkf lo 1 kL
  match st.fst with
  | some r=>pure r
  | none =>
   if (st.snd == kL)=true then pure (some st.snd)
   else if st.snd > 1 then do
    let x ← ltAt' lo (lo+st.snd - 1)
    match x with
    | some yj=>if yj=true then pure (some st.snd) else do
      reverseSlice' lo (lo+st.snd)
      zgq lo st.snd kL
    | _=>pure none
   else zgq lo st.snd kL):=by
 rw [countRun'_eq];unfold zgq zgp zhZ zkf;dsimp only;refine congrArg (bind _) ?_;funext c;obtain⟨r,n⟩:=c;cases r with
 | some r=>rfl
 | none =>
  dsimp only;split
  ·rfl
  ·split
   ·congr 1;funext x;cases x with
    | none=>rfl
    | some yj =>
     dsimp only;split
     ·rfl
     ·congr 1;funext _r;congr 1; funext _u; congr 1; congr 1; funext s2; obtain⟨r2,n2,q2⟩:=s2;cases r2 with
      | some r2=>rfl
      | none =>
       dsimp only;split
       ·congr 1; funext _v; congr 1; funext _w; congr 1; funext s3; obtain⟨r3,n3⟩:=s3; cases r3 <;> rfl
       ·congr 1; funext _w; congr 1; funext s3; obtain⟨r3,n3⟩:=s3; cases r3 <;> rfl
   ·congr 1; funext _u; congr 1; congr 1; funext s2; obtain⟨r2,n2,q2⟩:=s2;cases r2 with
    | some r2=>rfl
    | none =>
     dsimp only;split
     ·congr 1; funext _v; congr 1; funext _w; congr 1; funext s3; obtain⟨r3,n3⟩:=s3; cases r3 <;> rfl
     ·congr 1; funext _w; congr 1; funext s3; obtain⟨r3,n3⟩:=s3; cases r3 <;> rfl
theorem zmg {st₀ st:SortSt} {lo a kL:Nat} {Q:AscSt→SortSt→Prop} (hC:Cmp prog w A s κ val a₀) (hn:lo+kL≤a₀.size) (ha:1≤a) (han:a≤kL) (hB:SF κ a₀ lo st₀ st)
  (hs:SIn val (arrOf st) lo (lo+a))
  (h:∀ n,a≤n→n≤kL→SIn val (arrOf st) lo (lo+n)→(n=kL∨Vk val (arrOf st) (lo+n) < Vk val (arrOf st) (lo+n - 1))→Q (none,n) st) :
  wpS (model prog w) A E s (zkf lo a kL) Q st:=by
 unfold zkf;refine cC (I:=fun x c kC=>kC=st∧c=(none,x)∧SIn val (arrOf st) lo (lo+x)) ?step ?fin ⟨rfl,rfl,hs⟩
 case fin =>
  rintro c kC ⟨rfl,rfl,mT⟩
  (rw [show max a kL=kL by lia] at mT ⊢)
  (exact h kL han (af _) mT (.inl rfl))
 case step =>
  (rintro x c kC CL Bf ⟨rfl,rfl,mT⟩)
  dsimp only;refine aw (zeo hC hB.b #[O] #[O] ?_);by_cases lY:Vk val (arrOf kC) (lo+x) < Vk val (arrOf kC) (lo+x - 1)
  ·(simp only [lY,decide_true,if_true])
   (exact aA (h x CL #[O] mT (.inr lY)))
  ·(simp only [lY,decide_false,bj,if_false])
   refine aA ⟨rfl,rfl,fun i j pW oO hj=>?_⟩;by_cases yk:j < lo+x
   ·exact mT i j pW oO yk
   ·have oj:j=lo+x:=by lia
    subst oj;by_cases nB:i=lo+x
    ·(subst nB; exact bP _)
    ·exact bY (mT i (lo+x - 1) pW #[O] #[O]) (Int.not_lt.mp lY)
theorem zkg {st₀ st:SortSt} {lo n kL:Nat} {Q:Option Nat→SortSt→Prop} (hC:Cmp prog w A s κ val a₀) (hn:lo+kL≤a₀.size) (h1:1≤n) (uG:n≤kL) (hB:SF κ a₀ lo st₀ st)
  (hs:DIn val (arrOf st) lo (lo+n)) (h:∀ m kC,SF κ a₀ lo st₀ kC→1≤m→m≤kL→SIn val (arrOf kC) lo (lo+m)→Q (some m) kC) :
  wpS (model prog w) A E s (zgp lo n kL) Q st:=by
 unfold zgp;have hsz:lo+n≤(arrOf st).size:=by rw [hB.b.size]; lia
 refine aw (zhY ?_);have mW:=hB.setArr (iB (arrOf st) lo (lo+n) ((lo+n - lo) / 2)) (zb6 hsz (af _));refine aw (zmg hC hn h1 uG mW ?_ fun m uk qV nu _=>aA (h m _ mW #[O] qV nu));intro i j pW oO hj;show Vk val (mirror (arrOf st) lo (lo+n) ((lo+n - lo) / 2)) i≤Vk val (mirror (arrOf st) lo (lo+n) ((lo+n - lo) / 2)) j;rw [zep hsz,zep hsz,if_pos #[O],if_pos #[O]];exact hs _ _ #[O] #[O] #[O]
theorem zmY {st₀ st:SortSt} {lo n kL:Nat} {Q:DescSt→SortSt→Prop} (hC:Cmp prog w A s κ val a₀) (hn:lo+kL≤a₀.size) (h1:1≤n) (uG:n≤kL) (hB:SF κ a₀ lo st₀ st)
  (hs:DIn val (arrOf st) lo (lo+n))
  (h:∀ m qm kC,SF κ a₀ lo st₀ kC→n≤m→m≤kL→DIn val (arrOf kC) lo (lo+m)→qm+1≤m→(∀ i,lo+m - (qm+1)≤i→i < lo+m→Vk val (arrOf kC) i=Vk val (arrOf kC) (lo+m - 1))→Q (none,m,qm) kC) :
  wpS (model prog w) A E s (zhZ lo n kL) Q st:=by
 unfold zhZ;refine cC (I:=fun x c kC=>∃ qm,c=(none,x,qm)∧SF κ a₀ lo st₀ kC∧DIn val (arrOf kC) lo (lo+x)∧qm+1≤x ∧
   (∀ i,lo+x - (qm+1)≤i→i < lo+x→Vk val (arrOf kC) i=Vk val (arrOf kC) (lo+x - 1))) ?step ?fin ⟨0,rfl,hB,hs,#[O],fun i h1 h2=>by congr 1; lia⟩
 case fin =>
  (rintro c kC ⟨qm,rfl,mW,mT,hq,he⟩)
  (rw [show max n kL=kL by lia] at mT hq he ⊢)
  (exact h kL qm kC mW uG (af _) mT hq he)
 case step =>
  (rintro x c kC CL Bf ⟨qm,rfl,mW,mT,hq,he⟩)
  dsimp only;have hsz:lo+x≤(arrOf kC).size:=by rw [mW.b.size]; lia
  refine aw (zeo hC mW.b #[O] #[O] ?_);by_cases lY:Vk val (arrOf kC) (lo+x) < Vk val (arrOf kC) (lo+x - 1)
  ·(simp only [lY,decide_true,if_true])
   have step1:∀ xs:Array Keyed,(∀ k,Vk val xs k=Vk val (arrOf kC) k)→DIn val xs lo (lo+(x+1)):=by
    intro xs hk i j pW oO hj;rw [hk,hk];by_cases yk:j < lo+x
    ·exact mT i j pW oO yk
    ·have oj:j=lo+x:=by lia
     subst oj;by_cases nB:i=lo+x
     ·(subst nB; exact bP _)
     ·exact bY (eh lY) (mT i (lo+x - 1) pW #[O] #[O])
   by_cases tw:qm > 0
   ·rw [if_pos tw];refine aw (zhY (aA ⟨0,rfl,mW.setArr (iB _ _ _ _) (zb6 hsz #[O]),step1 _ (zbo hsz he),#[O],fun i h1 h2=>by congr 1; lia⟩))
   ·rw [if_neg tw]
    (exact aA ⟨0,rfl,mW,step1 _ (fun _=>rfl),#[O],fun i h1 h2=>by congr 1; lia⟩)
  ·(simp only [lY,decide_false,bj,if_false])
   refine aw (zeo hC mW.b #[O] #[O] ?_);by_cases qW:Vk val (arrOf kC) (lo+x - 1) < Vk val (arrOf kC) (lo+x)
   ·(simp only [qW,decide_true,if_true])
    (exact aA (h x qm kC mW CL #[O] mT hq he))
   ·(simp only [qW,decide_false,bj,if_false])
    have yl:Vk val (arrOf kC) (lo+x)=Vk val (arrOf kC) (lo+x - 1):=by lia
    refine aA ⟨qm+1,rfl,mW,fun i j pW oO hj=>?_,#[O],fun i h1 h2=>?_⟩
    ·by_cases yk:j < lo+x
     ·exact mT i j pW oO yk
     ·have oj:j=lo+x:=by lia
      subst oj;by_cases nB:i=lo+x
      ·(subst nB; exact bP _)
      ·rw [yl]; exact mT i (lo+x - 1) pW #[O] #[O]
    ·rw [show lo+(x+1) - 1=lo+x by lia];by_cases hix:i=lo+x
     ·subst hix; rfl
     ·(rw [yl]; exact he i #[O] #[O])
theorem zh0 {st₀ st:SortSt} {lo n kL:Nat} {Q:Option Nat→SortSt→Prop} (hC:Cmp prog w A s κ val a₀) (hn:lo+kL≤a₀.size) (uG:n+1≤kL) (hB:SF κ a₀ lo st₀ st)
  (hs:DIn val (arrOf st) lo (lo+(n+1))) (h:∀ m kC,SF κ a₀ lo st₀ kC→1≤m→m≤kL→SIn val (arrOf kC) lo (lo+m)→Q (some m) kC) :
  wpS (model prog w) A E s (zgq lo n kL) Q st:=by
 unfold zgq
 (refine aw (fY (cg ⟨rfl,?_⟩)))
 refine aw (zmY hC hn #[O] uG hB hs fun m qm kC mW uk qV mT hq he=>?_);dsimp only;have hsz:lo+m≤(arrOf kC).size:=by rw [mW.b.size]; lia
 by_cases tw:qm > 0
 ·rw [if_pos tw];refine aw (zhY (zkg hC hn #[O] qV (mW.setArr (iB _ _ _ _) (zb6 hsz #[O])) ?_ h));intro i j pW oO hj;show Vk val (mirror (arrOf kC) _ _ _) j≤Vk val (mirror (arrOf kC) _ _ _) i;rw [zbo hsz he,zbo hsz he];exact mT i j pW oO hj
 ·rw [if_neg tw];exact zkg hC hn #[O] qV mW mT h
theorem zli {st₀ st:SortSt} {lo kL:Nat} {Q:Option Nat→SortSt→Prop} (hC:Cmp prog w A s κ val a₀) (hn:lo+kL≤a₀.size) (h1:1≤kL) (hB:SF κ a₀ lo st₀ st)
  (h:∀ m kC,SF κ a₀ lo st₀ kC→1≤m→m≤kL→SIn val (arrOf kC) lo (lo+m)→Q (some m) kC) :
  wpS (model prog w) A E s (countRun' lo kL) Q st:=by
 rw [zfz];refine aw (zmg hC hn (af 1) h1 hB (fun i j pW oO hj=>(by
   have e:i=j:=by lia
   rw [e];exact bP _)) fun n vi qS rF hor=>?_)
 dsimp only;by_cases uG:n=kL
 ·(rw [if_pos (by simpa using uG)])
  (exact aA (h n st hB vi qS rF))
 ·(rw [if_neg (by simpa using uG)])
  have kU:Vk val (arrOf st) (lo+n) < Vk val (arrOf st) (lo+n - 1):=hor.resolve_left uG;by_cases hgt:n > 1
  ·rw [if_pos hgt];refine aw (zeo hC hB.b #[O] #[O] ?_);by_cases vj:Vk val (arrOf st) lo < Vk val (arrOf st) (lo+n - 1)
   ·(simp only [vj,decide_true,if_true])
    (exact aA (h n st hB vi qS rF))
   ·(simp only [vj,decide_false,bj,if_false])
    have hsz:lo+n≤(arrOf st).size:=by rw [hB.b.size]; lia
    have lP:∀ k,lo≤k→k < lo+n→Vk val (arrOf st) k=Vk val (arrOf st) (lo+n - 1):=by
     intro k tx hk;have a1:=rF lo k (af _) tx hk;have a2:=rF k (lo+n - 1) tx #[O] #[O];lia
    refine aw (zhY (zh0 hC hn #[O] (hB.setArr (iB _ _ _ _) (zb6 hsz (af _))) ?_ h));intro i j pW oO hj;show Vk val (mirror (arrOf st) _ _ _) j≤Vk val (mirror (arrOf st) _ _ _) i;rw [zbo hsz lP,zbo hsz lP];by_cases Bg:j < lo+n
    ·(rw [lP i #[O] #[O],lP j #[O] Bg]; exact bP _)
    ·have oj:j=lo+n:=by lia
     subst oj;by_cases nB:i=lo+n
     ·(subst nB; exact bP _)
     ·(rw [lP i #[O] #[O]]; exact eh kU)
  ·rw [if_neg hgt];have CM:n=1:=by lia
   subst CM;refine zh0 hC hn #[O] hB ?_ h;intro i j pW oO hj;by_cases nB:i=j
   ·(subst nB; exact bP _)
   ·have hi0:i=lo:=by lia
    have tz:j=lo+1:=by lia
    subst hi0; subst tz;exact eh kU
theorem zgr {xs:Array Keyed} {src d:Nat} (hs:src < xs.size) (hd:d≤src) (k:Nat) :
  Vk val (bubble xs src d) k=if k=src - d then Vk val xs src else if src - d < k∧k≤src then Vk val xs (k - 1) else Vk val xs k:=by
 (have e:=getElem?_bubble hs d hd k)
 by_cases h1:k=src - d
 ·rw [if_pos h1] at e ⊢; exact zaf e
 ·rw [if_neg h1] at e ⊢
  (by_cases h2:src - d < k∧k≤src)
  ·rw [if_pos h2] at e ⊢; exact zaf e
  ·rw [if_neg h2] at e ⊢; exact zaf e
theorem znQ {st₀ st:SortSt} {lo n ok:Nat} {Q:Bool→SortSt→Prop} (hC:Cmp prog w A s κ val a₀) (hn:lo+n≤a₀.size) (hok:ok≤n) (hB:SF κ a₀ lo st₀ st) (hs:SIn val (arrOf st) lo (lo+ok))
  (h:∀ kC,SF κ a₀ lo st₀ kC→SIn val (arrOf kC) lo (lo+n)→Q true kC):wpS (model prog w) A E s (binarySort' lo n ok) Q st:=by
 rw [binarySort'_eq];refine aw (dg (cC (I:=fun k c kC=>c=(none,())∧SF κ a₀ lo st₀ kC∧SIn val (arrOf kC) lo (lo+min k n))
  (Q:=fun c kC=>c=(none,())∧SF κ a₀ lo st₀ kC∧SIn val (arrOf kC) lo (lo+n)) ?step ?fin ?init) ?post)
 case post =>
  rintro c kC ⟨rfl,mW,mT⟩
  (exact aA (h kC mW mT))
 case init =>
  refine⟨rfl,hB,fun i j pW oO hj=>?_⟩;by_cases h1:ok=0
  ·have e:i=j:=by lia
   rw [e]; exact bP _
  ·exact hs i j pW oO #[O]
 case fin =>
  rintro c kC ⟨hc,mW,mT⟩;refine⟨hc,mW,?_⟩
  (rwa [show min (max (max ok 1) n) n=n by lia] at mT)
 case step =>
  (rintro k c kC hak hkn ⟨rfl,mW,mT⟩)
  (rw [show min k n=k by lia] at mT)
  have hk:lo+k < a₀.size:=#[O]; refine aw (dg (cC (I:=fun x c mK=>mK=kC∧∃ l r,c=(none,l,r)∧l≤r∧r≤k∧r - l≤k - x ∧
    (∀ i,i < l→Vk val (arrOf kC) (lo+i)≤Vk val (arrOf kC) (lo+k))∧(∀ i,r≤i→i < k→Vk val (arrOf kC) (lo+k) < Vk val (arrOf kC) (lo+i)))
   (Q:=fun c mK=>mK=kC∧∃ l r,c=(none,l,r)∧l≤k∧(∀ i,i < l→Vk val (arrOf kC) (lo+i)≤Vk val (arrOf kC) (lo+k))∧(∀ i,l≤i→i < k→Vk val (arrOf kC) (lo+k) < Vk val (arrOf kC) (lo+i))) ?istep ?ifin ?iinit) ?ipost)
  case iinit=>(exact⟨rfl,0,k,rfl,#[O],#[O],#[O],fun i hi=>by lia,fun i h1 h2=>by lia⟩)
  case ifin =>
   (rintro c mK ⟨rfl,l,r,rfl,CN,CP,hm,oR,uH⟩)
   have:l=r:=by lia
   subst this
   (exact⟨rfl,l,l,rfl,CP,oR,uH⟩)
  case istep =>
   (rintro x c mK _ hxk ⟨rfl,l,r,rfl,CN,CP,hm,oR,uH⟩)
   dsimp only;by_cases mQ:l≥r
   ·rw [if_pos mQ];have:l=r:=by lia
    subst this
    (exact aA ⟨rfl,l,l,rfl,CP,oR,uH⟩)
   ·rw [if_neg mQ];refine aw (zeo hC mW.b hk #[O] ?_);by_cases lY:Vk val (arrOf mK) (lo+k) < Vk val (arrOf mK) (lo+(l+r) / 2)
    ·(simp only [lY,decide_true,if_true])
     (refine aA ⟨rfl,l,(l+r) / 2,rfl,#[O],#[O],#[O],oR,fun i h1 h2=>?_⟩)
     exact Int.lt_of_lt_of_le lY (mT _ _ #[O] #[O] #[O])
    ·(simp only [lY,decide_false,bj,if_false])
     (refine aA ⟨rfl,(l+r) / 2+1,r,rfl,#[O],#[O],#[O],fun i h1=>?_,uH⟩)
     exact bY (mT (lo+i) (lo+(l+r) / 2) #[O] #[O] #[O]) (Int.not_lt.mp lY)
  case ipost =>
   (rintro c mK ⟨rfl,l,r,rfl,hlk,oR,uH⟩)
   show wpS _ _ _ _ (do moveDown' (lo+k) (lo+l); pure (cp (none,()))) _ _;rw [moveDown'_eq];have CQ:lo+k < (arrOf mK).size:=by rw [mW.b.size]; exact hk
   refine aw (er (aA ⟨rfl,mW.setArr (bubble_perm _ _ _) (zha CQ #[O] #[O]),?_⟩))
   (rw [show min (k+1) n=k+1 by lia])
   intro i j pW oO hj;show Vk val (bubble (arrOf mK) (lo+k) (lo+k - (lo+l))) i≤Vk val (bubble (arrOf mK) (lo+k) (lo+k - (lo+l))) j;rw [zgr CQ #[O],zgr CQ #[O],show lo+k - (lo+k - (lo+l))=lo+l by lia];have CS:∀ i,lo≤i→i < lo+l→Vk val (arrOf mK) i≤Vk val (arrOf mK) (lo+k):=fun i h1 h2=>by
    have:=oR (i - lo) #[O]
    rwa [show lo+(i - lo)=i by lia] at this
   have CT:∀ i,lo+l≤i→i < lo+k→Vk val (arrOf mK) (lo+k) < Vk val (arrOf mK) i:=fun i h1 h2=>by
    have:=uH (i - lo) #[O] #[O]
    rwa [show lo+(i - lo)=i by lia] at this
   repeat' split
   all_goals first
    | (exfalso; lia)
    | exact bP _
    | exact CS _ #[O] #[O]
    | exact eh (CT _ #[O] #[O])
    | exact mT _ _ #[O] #[O] #[O]
end
end Srt
end
section
namespace Srt
open PySem PyProof.Rows
def zlj:Bool→Keyed→Array Keyed→Nat→Nat→Nat→StateT SortSt Sem (Option Nat):=sortPriv% PySem.Builtin.gallop
def zkh:Array Keyed→Array Keyed→StateT SortSt Sem (Array Keyed):=sortPriv% PySem.Builtin.mergeLo
def zki:Array Keyed→Array Keyed→StateT SortSt Sem (Array Keyed):=sortPriv% PySem.Builtin.mergeHi
def zcI:Nat→StateT SortSt Sem Unit:=sortPriv% PySem.Builtin.setMinGallop
theorem zfA {M:Model} {A:Around} {E:Value→Shared→Prop} {s:Shared} {α:Type} {m:StateT SortSt Sem α} {Q:α→SortSt→Prop} {st:SortSt} (h:wpAny M A (m st) (fun r s'=>s'=s∧Q r.1 r.2) E s):wpS M A E s m Q st:=h
theorem zfB {M:Model} {A:Around} {E:Value→Shared→Prop} {s:Shared} {α:Type} {m:StateT SortSt Sem α} {Q:α→SortSt→Prop} {st:SortSt} (h:wpS M A E s m Q st):wpAny M A (m st) (fun r s'=>s'=s∧Q r.1 r.2) E s:=h
section
variable {prog:Program} {w:World} {A:Around} {E:Value→Shared→Prop} {s:Shared} {a₀:Array Keyed} {κ:SortKind} {val:Keyed→Int}
def bB (val:Keyed→Int) (left:Bool) (key:Keyed) (arr:Array Keyed) (base i:Nat):Bool:=if left then decide (Vk val arr (base+i) < val key) else !decide (val key < Vk val arr (base+i))
theorem zc2 {left:Bool} {key:Keyed} {arr:Array Keyed} {base n i j:Nat} (hs:SIn val arr base (base+n)) (oO:i≤j) (hj:j < n) (h:bB val left key arr base j=true):bB val left key arr base i=true:=by
 have:=hs (base+i) (base+j) #[O] #[O] #[O];unfold bB at h ⊢;cases left <;> simp at h ⊢ <;> lia
theorem s_beyond {st:SortSt} {left:Bool} {key:Keyed} {arr:Array Keyed} {base i:Nat} {Q:Option Bool→SortSt→Prop} {p:Keyed} (hC:Cmp prog w A s κ val a₀) (hk:kindOf st=κ) (pX:key∈a₀.toList) (he:arr[base+i]? = some p) (hp:p∈a₀.toList)
  (h:Q (some (bB val left key arr base i)) st):wpS (model prog w) A E s (do
   let x ← elem' arr (base+i)
   if left then lt' x key else do
    let r ← lt' key x
    return r.map (!·)) Q st:=by
 refine aw (zR he ?_);unfold bB at h;rw [zV he] at h;cases left with
 | true=>exact zke hC hk hp pX h
 | false=>exact aw (zke hC hk pX hp (aA h))
abbrev zlk:=Option (Option Nat)×Nat×Nat
theorem zkj {st:SortSt} {left:Bool} {key:Keyed} {arr:Array Keyed} {base n lo hi:Nat} {f:Nat→zlk→StateT SortSt Sem (ForInStep zlk)} (hs:SIn val arr base (base+n)) (hlh:lo≤hi) (hhn:hi≤n)
  (h1:∀ i,i < lo→bB val left key arr base i=true) (h2:∀ i,hi≤i→i < n→bB val left key arr base i=false)
  (hf:∀ (x l r:Nat) (R:ForInStep zlk→SortSt→Prop),r≤n→(l≥r→R (.done (none,l,r)) st)→(l < r→R (if bB val left key arr base (l+(r - l) / 2)=true then .yield (none,l+(r - l) / 2+1,r) else .yield (none,l,l+(r - l) / 2)) st)→wpS (model prog w) A E s (f x (none,l,r)) R st) :
  wpS (model prog w) A E s (forIn [0:n] ((none,lo,hi):zlk) f) (fun c kC=>kC=st∧∃ l,c=(none,l,l)∧l≤n∧(∀ i,i < l→bB val left key arr base i=true)∧(∀ i,l≤i→i < n→bB val left key arr base i=false)) st:=by
 refine cC (I:=fun x c kC=>kC=st∧∃ l r,c=(none,l,r)∧l≤r∧r≤n∧r - l≤n - x∧(∀ i,i < l→bB val left key arr base i=true)∧(∀ i,r≤i→i < n→bB val left key arr base i=false)) ?step ?fin ⟨rfl,lo,hi,rfl,hlh,hhn,#[O],h1,h2⟩
 case fin =>
  rintro c kC ⟨rfl,l,r,rfl,CN,uI,hm,a1,a2⟩;have:l=r:=by lia
  subst this;exact⟨rfl,l,rfl,uI,a1,a2⟩
 case step =>
  rintro x c kC _ Bf ⟨rfl,l,r,rfl,CN,uI,hm,a1,a2⟩;refine hf x l r _ uI (fun mQ=>?_) (fun kU=>?_)
  ·have:l=r:=by lia
   subst this;exact⟨rfl,l,rfl,uI,a1,a2⟩
  ·cases hb:bB val left key arr base (l+(r - l) / 2) with
   | true =>
    rw [if_pos rfl];exact⟨rfl,l+(r - l) / 2+1,r,rfl,#[O],uI,#[O],fun i hi=>zc2 hs #[O] #[O] hb,a2⟩
   | false =>
    rw [if_neg #[D]];refine⟨rfl,l,l+(r - l) / 2,rfl,#[O],#[O],#[O],a1,fun i hi oI=>?_⟩;cases e:bB val left key arr base i with
    | false=>rfl
    | true=>rw [zc2 hs hi oI e] at hb; cases hb
theorem zbp {st:SortSt} {left:Bool} {key:Keyed} {arr:Array Keyed} {base n hint:Nat} {Q:Option Nat→SortSt→Prop} (hC:Cmp prog w A s κ val a₀) (hk:kindOf st=κ) (pX:key∈a₀.toList)
  (ha:∀ i,i < n→∃ p,arr[base+i]? = some p∧p∈a₀.toList) (hs:SIn val arr base (base+n)) (hh:hint < n)
  (h:∀ k,k≤n→(∀ i,i < k→bB val left key arr base i=true)→(∀ i,k≤i→i < n→bB val left key arr base i=false)→Q (some k) st) :
  wpS (model prog w) A E s (zlj left key arr base n hint) Q st:=by
 refine zfA ?_
 wp_delta
 wp_delta
 refine zfB ?_;dsimp only;obtain⟨p,ep,mp⟩:=ha hint hh;refine aw (s_beyond hC hk pX ep mp ?_);dsimp only;have up:∀ {i j:Nat},i≤j→j < n→bB val left key arr base i=false→bB val left key arr base j=false:=fun {i j} oO hj h=>by
  cases e:bB val left key arr base j with
  | false=>rfl
  | true=>rw [zc2 hs oO hj e] at h; cases h
 cases hr:bB val left key arr base hint with
 | true =>
  simp only [if_true];refine aw (dg (cC (I:=fun x c kC=>kC=st∧∃ l o,c=(none,l,o)∧l < o∧x+1≤o∧hint+l < n∧bB val left key arr base (hint+l)=true)
   (Q:=fun c kC=>kC=st∧∃ l o,c=(none,l,o)∧l < o∧hint+l < n∧bB val left key arr base (hint+l)=true∧(hint+o < n→bB val left key arr base (hint+o)=false)) ?step ?fin ⟨rfl,0,1,rfl,#[O],#[O],hh,hr⟩) ?post)
  case fin =>
   rintro c kC ⟨rfl,l,o,rfl,oR,hx,hl,hb⟩;exact⟨rfl,l,o,rfl,oR,hl,hb,fun z=>by lia⟩
  case step =>
   rintro x c kC _ Bf ⟨rfl,l,o,rfl,oR,hx,hl,hb⟩;dsimp only;by_cases mQ:o≥n - hint
   ·rw [if_pos mQ];exact aA ⟨rfl,l,o,rfl,oR,hl,hb,fun z=>by lia⟩
   ·rw [if_neg mQ];obtain⟨p,ep,mp⟩:=ha (hint+o) #[O];refine aw (s_beyond hC hk pX ep mp ?_);dsimp only;cases tB:bB val left key arr base (hint+o) with
    | true =>
     rw [if_neg #[D]];exact aA ⟨rfl,o,2*o+1,rfl,#[O],#[O],#[O],tB⟩
    | false =>
     rw [if_pos #[D]];exact aA ⟨rfl,l,o,rfl,oR,hl,hb,fun _=>tB⟩
  case post =>
   rintro c kC ⟨rfl,l,o,rfl,oR,hl,hb,tB⟩;dsimp only;refine aw (dg (zkj (val:=val) (left:=left) (key:=key) (arr:=arr) (base:=base) hs #[O] #[O] (fun i hi=>zc2 hs #[O] hl hb) (fun i hi oI=>(by
    by_cases ho:hint+o < n
    ·exact up #[O] oI (tB ho)
    ·lia)) (fun x l' r' R uI k1 k2=>?_)) ?_)
   ·dsimp only;by_cases mQ:l'≥r'
    ·rw [if_pos mQ];exact aA (k1 mQ)
    ·rw [if_neg mQ];obtain⟨p,ep,mp⟩:=ha (l'+(r' - l') / 2) #[O];refine aw (s_beyond hC hk pX ep mp ?_);have k3:=k2 #[O];dsimp only;cases xo:bB val left key arr base (l'+(r' - l') / 2) with
     | true=>rw [xo] at k3; rw [if_pos rfl] at k3 ⊢; exact aA k3
     | false=>rw [xo] at k3; rw [if_neg #[D]] at k3 ⊢; exact aA k3
   ·rintro c mK ⟨rfl,l,rfl,hl,b1,b2⟩;exact aA (h l hl b1 b2)
 | false =>
  (simp only [bj,if_false])
  refine aw (dg (cC (I:=fun x c kC=>kC=st∧∃ l o,c=(none,l,o)∧l < o∧x+1≤o∧l≤hint∧bB val left key arr base (hint - l)=false)
   (Q:=fun c kC=>kC=st∧∃ l o,c=(none,l,o)∧l < o∧l≤hint∧bB val left key arr base (hint - l)=false∧(o≤hint→bB val left key arr base (hint - o)=true)) ?step ?fin ⟨rfl,0,1,rfl,#[O],#[O],#[O],hr⟩) ?post)
  case fin =>
   rintro c kC ⟨rfl,l,o,rfl,oR,hx,hl,hb⟩;exact⟨rfl,l,o,rfl,oR,hl,hb,fun z=>by lia⟩
  case step =>
   rintro x c kC _ Bf ⟨rfl,l,o,rfl,oR,hx,hl,hb⟩;dsimp only;by_cases mQ:o≥hint+1
   ·rw [if_pos mQ];exact aA ⟨rfl,l,o,rfl,oR,hl,hb,fun z=>by lia⟩
   ·rw [if_neg mQ];obtain⟨p,ep,mp⟩:=ha (hint - o) #[O];refine aw (s_beyond hC hk pX ep mp ?_);dsimp only;cases tB:bB val left key arr base (hint - o) with
    | false =>
     rw [if_neg #[D]];exact aA ⟨rfl,o,2*o+1,rfl,#[O],#[O],#[O],tB⟩
    | true =>
     rw [if_pos rfl];exact aA ⟨rfl,l,o,rfl,oR,hl,hb,fun _=>tB⟩
  case post =>
   rintro c kC ⟨rfl,l,o,rfl,oR,hl,hb,tB⟩;dsimp only;refine aw (dg (zkj (val:=val) (left:=left) (key:=key) (arr:=arr) (base:=base) hs #[O] #[O] (fun i hi=>(by
    by_cases ho:o≤hint
    ·exact zc2 hs #[O] #[O] (tB ho)
    ·lia)) (fun i hi oI=>up hi oI hb) (fun x l' r' R uI k1 k2=>?_)) ?_)
   ·dsimp only;by_cases mQ:l'≥r'
    ·rw [if_pos mQ];exact aA (k1 mQ)
    ·rw [if_neg mQ];obtain⟨p,ep,mp⟩:=ha (l'+(r' - l') / 2) #[O];refine aw (s_beyond hC hk pX ep mp ?_);have k3:=k2 #[O];dsimp only;cases xo:bB val left key arr base (l'+(r' - l') / 2) with
     | true=>rw [xo] at k3; rw [if_pos rfl] at k3 ⊢; exact aA k3
     | false=>rw [xo] at k3; rw [if_neg #[D]] at k3 ⊢; exact aA k3
   ·rintro c mK ⟨rfl,l,rfl,hl,b1,b2⟩;exact aA (h l hl b1 b2)
end
end Srt
end
section
namespace Srt
open PySem PyProof.Rows
abbrev zan (st:SortSt) (g:Nat):SortSt:=j3 (kindOf st) (arrOf st) (pendingOf st) g (failedOf st)
theorem zdq (g:Nat):zcI g=modify fun s=>zan s g:=rfl
def Le (val:Keyed→Int) (xs ys:List Keyed):Prop:=∀ x∈xs,∀ y∈ys,val x≤val y
def Ris (val:Keyed→Int) (xs:List Keyed):Prop:=xs.Pairwise fun x y=>val x≤val y
theorem zaz {val:Keyed→Int} {xs ys:List Keyed}:Ris val (xs++ys)↔Ris val xs∧Ris val ys∧Le val xs ys:=iT
structure MI (val:Keyed→Int) (T o l r:List Keyed):Prop where
 perm:(o++l++r).Perm T
 so:Ris val o
 sl:Ris val l
 sr:Ris val r
 ol:Le val o l
 or':Le val o r
def Good (val:Keyed→Int) (T res:List Keyed):Prop:=res.Perm T∧Ris val res
section
variable {val:Keyed→Int} {T o l l1 l2 r r1 r2:List Keyed}
theorem Le.left {xs ys zs:List Keyed} (h:Le val (xs++ys) zs):Le val xs zs:=fun x hx y hy=>h x (aP _ hx) y hy
theorem Le.right {xs ys zs:List Keyed} (h:Le val (xs++ys) zs):Le val ys zs:=fun x hx y hy=>h x (aG _ hx) y hy
theorem Le.app {xs ys zs:List Keyed} (h1:Le val xs zs) (h2:Le val ys zs):Le val (xs++ys) zs:=fun x hx y hy=>by
 rcases aL.mp hx with h | h
 ·exact h1 x h y hy
 ·exact h2 x h y hy
theorem Le.app' {xs ys zs:List Keyed} (h1:Le val xs ys) (h2:Le val xs zs):Le val xs (ys++zs):=fun x hx y hy=>by
 rcases aL.mp hy with h | h
 ·exact h1 x hx y h
 ·exact h2 x hx y h
theorem Le.sub {xs ys zs:List Keyed} (h1:Le val xs (ys++zs)):Le val xs ys∧Le val xs zs:=⟨fun x hx y hy=>h1 x hx y (aP _ hy),fun x hx y hy=>h1 x hx y (aG _ hy)⟩
theorem MI.takeA (h:MI val T o (l1++l2) r) (hle:Le val l1 r):MI val T (o++l1) l2 r:=by
 obtain⟨a1,a2,a3⟩:=zaz.mp h.sl;obtain⟨b1,b2⟩:=h.ol.sub;exact⟨by have:=h.perm; simpa [bi] using this,zaz.mpr ⟨h.so,a1,b1⟩,a2,h.sr,b2.app a3,h.or'.app hle⟩
theorem MI.takeB (h:MI val T o l (r1++r2)) (hle:Le val r1 l):MI val T (o++r1) l r2:=by
 obtain⟨a1,a2,a3⟩:=zaz.mp h.sr;obtain⟨b1,b2⟩:=h.or'.sub;refine⟨?_,zaz.mpr ⟨h.so,a1,b1⟩,h.sl,a2,h.ol.app hle,b2.app a3⟩;refine eI ?_ h.perm;have:(r1++l++r2).Perm (l++r1++r2):=List.perm_append_comm.append_right _;simpa [bi] using this.append_left o
theorem MI.doneA (h:MI val T o l []):Good val T (o++l):=⟨by have:=h.perm; simpa using this,zaz.mpr ⟨h.so,h.sl,h.ol⟩⟩
theorem MI.doneB (h:MI val T o [] r):Good val T (o++r):=⟨by have:=h.perm; simpa using this,zaz.mpr ⟨h.so,h.sr,h.or'⟩⟩
theorem MI.last (h:MI val T o l r) (hle:Le val r l):Good val T (o++r++l):=by
 refine⟨eI ?_ h.perm,?_⟩
 ·rw [bi,bi];exact List.perm_append_comm.append_left o
 ·exact zaz.mpr ⟨zaz.mpr ⟨h.so,h.sr,h.or'⟩,h.sl,h.ol.app hle⟩
end
section
variable {val:Keyed→Int} {T:List Keyed} {a b out:Array Keyed} {ia ib:Nat}
abbrev MA (val:Keyed→Int) (T:List Keyed) (a b out:Array Keyed) (ia ib:Nat):Prop:=MI val T out.toList (a.toList.drop ia) (b.toList.drop ib)
theorem zdQ {xs:Array Keyed} {i:Nat} {p:Keyed} (h:xs[i]? = some p):xs.toList.drop i=p :: xs.toList.drop (i+1):=by
 have hi:i < xs.toList.length:=by
  have:=(cM.mp h).1;simpa using this
 rw [cq hi];congr 1;have:=(cM.mp h).2;simpa using this
theorem zc3 {xs:Array Keyed} (h:SIn val xs 0 xs.size):∀ i,Ris val (xs.toList.drop i):=by
 have all:Ris val xs.toList:=by
  unfold Ris
  (rw [dv])
  intro i j hi hj oO
  (have nB:i < xs.size:=by simpa using hi)
  (have oj:j < xs.size:=by simpa using hj)
  have:=h i j (bu _) #[O] oj;rw [zV (getElem?_pos xs i nB),zV (getElem?_pos xs j oj)] at this;simpa using this
 exact fun i=>iF (List.drop_sublist _ _) all
theorem zdR {xs:Array Keyed} {i:Nat} {p q:Keyed} (h:SIn val xs 0 xs.size) (hp:xs[i]? = some p) (hq:q∈xs.toList.drop i):val p≤val q:=by
 have:=zc3 h i;rw [zdQ hp] at this hq;rcases (aC.mp hq) with rfl | hq
 ·exact bP _
 ·exact List.rel_of_pairwise_cons this hq
theorem MA.pushB {y x:Keyed} (h:MA val T a b out ia ib) (sa:SIn val a 0 a.size) (hy:b[ib]? = some y) (hx:a[ia]? = some x) (hle:val y≤val x):MA val T a b (out.push y) ia (ib+1):=by
 unfold MA at h ⊢;rw [zdQ hy] at h;have:=MI.takeB (r1:=[y]) h fun p hp q hq=>by
  rw [aR.mp hp];exact bY hle (zdR sa hx hq)
 simpa using this
theorem MA.pushA {y x:Keyed} (h:MA val T a b out ia ib) (sb:SIn val b 0 b.size) (hy:b[ib]? = some y) (hx:a[ia]? = some x) (hle:val x≤val y):MA val T a b (out.push x) (ia+1) ib:=by
 unfold MA at h ⊢;rw [zdQ hx] at h;have:=MI.takeA (l1:=[x]) h fun p hp q hq=>by
  rw [aR.mp hp];exact bY hle (zdR sb hy hq)
 simpa using this
theorem zkk (xs:Array Keyed) (i k:Nat):xs.toList.drop i=(xs.extract i (i+k)).toList++xs.toList.drop (i+k):=by
 rw [c6];have:(xs.toList.extract i (i+k))=(xs.toList.drop i).take k:=by
  simp [cR] <;> lia
 rw [this,← iG,b9]
theorem zdS {xs:Array Keyed} {i k:Nat} {p:Keyed} (h:p∈(xs.extract i (i+k)).toList):∃ j,j < k∧xs[i+j]? = some p:=by
 have e0:(xs.extract i (i+k)).toList=(xs.toList.drop i).take k:=by
  rw [c6];simp [cR] <;> lia
 rw [e0] at h
 (obtain⟨j,hj,e⟩:=dL h)
 have oq:j < k∧j < (xs.toList.drop i).length:=by
  rw [aD] at hj;lia
 refine⟨j,oq.1,?_⟩;rw [← bo,← dS,aj oq.2,← e,jy]
theorem MA.takeA {y:Keyed} {k:Nat} (h:MA val T a b out ia ib) (sb:SIn val b 0 b.size) (hy:b[ib]? = some y) (hle:∀ i,i < k→Vk val a (ia+i)≤val y):MA val T a b (out++a.extract ia (ia+k)) (ia+k) ib:=by
 unfold MA at h ⊢;rw [zkk a ia k] at h;have:=MI.takeA h fun p hp q hq=>by
  obtain⟨j,hj,e⟩:=zdS hp;have:=hle j hj;rw [zV e] at this;exact bY this (zdR sb hy hq)
 simpa using this
theorem MA.takeB {x:Keyed} {k:Nat} (h:MA val T a b out ia ib) (sa:SIn val a 0 a.size) (hx:a[ia]? = some x) (hle:∀ i,i < k→Vk val b (ib+i)≤val x):MA val T a b (out++b.extract ib (ib+k)) ia (ib+k):=by
 unfold MA at h ⊢;rw [zkk b ib k] at h;have:=MI.takeB h fun p hp q hq=>by
  obtain⟨j,hj,e⟩:=zdS hp;have:=hle j hj;rw [zV e] at this;exact bY this (zdR sa hx hq)
 simpa using this
theorem zct (xs:Array Keyed) (i:Nat):(xs.extract i xs.size).toList=xs.toList.drop i:=by
 rw [c6];simp only [cR]
 (exact aT #[M])
theorem MA.doneB (h:MA val T a b out ia ib) (e:ib=b.size):Good val T (out++a.extract ia a.size++b.extract ib b.size).toList:=by
 unfold MA at h;rw [show b.toList.drop ib = [] from dj (by simp [e])] at h;have:=h.doneA;rw [bH,bH,zct,zct,show b.toList.drop ib = [] from dj (by simp [e]),bE];exact this
theorem MA.doneA (h:MA val T a b out ia ib) (e:ia=a.size):Good val T (out++a.extract ia a.size++b.extract ib b.size).toList:=by
 unfold MA at h;rw [show a.toList.drop ia = [] from dj (by simp [e])] at h;have:=h.doneB;rw [bH,bH,zct,zct,show a.toList.drop ia = [] from dj (by simp [e]),bE];exact this
theorem MA.last (h:MA val T a b out ia ib) (e:ia+1=a.size) (hl:∀ i,i < b.size→Vk val b i≤Vk val a (a.size - 1)):Good val T (out++b.extract ib b.size++a.extract ia a.size).toList:=by
 unfold MA at h;have hx:a[ia]? = some (a[ia]'#[O]):=getElem?_pos a ia #[O];have:=h.last fun p hp q hq=>by
  rw [zdQ hx,show a.toList.drop (ia+1) = [] from dj (by simp [e])] at hq;rw [aR.mp hq];obtain⟨j,hj,ej⟩:=dL (fI hp);have oj:j < b.size:=by simpa using hj
  have:=hl j oj;rw [zV (getElem?_pos b j oj),show a.size - 1=ia by lia,zV hx] at this;rw [← ej];simpa using this
 rw [bH,bH,zct,zct];exact this
end
end Srt
end
section
namespace Srt
open PySem PyProof.Rows
section
variable {prog:Program} {w:World} {A:Around} {E:Value→Shared→Prop} {s:Shared} {a₀:Array Keyed} {κ:SortKind} {val:Keyed→Int}
theorem zc4 {st:SortSt} {g:Nat} {Q:Unit→SortSt→Prop} (h:Q () (zan st g)):wpS (model prog w) A E s (zcI g) Q st:=by
 rw [zdq];exact er h
theorem zaw {g:Prop} {xs:Array Keyed} {i:Nat} (h:i < xs.size) (k:∀ p,xs[i]? = some p→p∈xs.toList→g):g:=k _ (getElem?_pos xs i h) #[M]
theorem zb7 {key:Keyed} {arr:Array Keyed} {base i:Nat} (h:bB val true key arr base i=true):Vk val arr (base+i) < val key:=by
 unfold bB at h;simpa using h
theorem zc5 {key:Keyed} {arr:Array Keyed} {base i:Nat} (h:bB val false key arr base i=true):Vk val arr (base+i)≤val key:=by
 unfold bB at h;simp at h;lia
theorem zcL {key:Keyed} {arr:Array Keyed} {base i:Nat} (h:bB val true key arr base i=false):val key≤Vk val arr (base+i):=by
 unfold bB at h;simp at h;lia
theorem zdT {key:Keyed} {arr:Array Keyed} {base i:Nat} (h:bB val false key arr base i=false):val key < Vk val arr (base+i):=by
 unfold bB at h;simp at h;exact h
theorem SIn.sub {xs:Array Keyed} {lo hi lo' nB:Nat} (h:SIn val xs lo hi) (h1:lo≤lo') (h2:nB≤hi):SIn val xs lo' nB:=fun i j a b c=>h i j #[O] b #[O]
theorem zw {σ α:Type} {M:Model} {c:Prop} {inst:Decidable c} {x y:StateT σ Sem α} {Q:α→σ→Prop} {st:σ} (h:c) (k:wpS M A E s x Q st):wpS M A E s (@ite _ c inst x y) Q st:=by rw [if_pos h]; exact k
theorem zy {σ α:Type} {M:Model} {c:Prop} {inst:Decidable c} {x y:StateT σ Sem α} {Q:α→σ→Prop} {st:σ} (h:¬ c) (k:wpS M A E s y Q st):wpS M A E s (@ite _ c inst x y) Q st:=by rw [if_neg h]; exact k
theorem dup {P X:Prop} (h:P→P→X) (k:P):X:=h k k
theorem zoq {P X:Prop} (h:(Unit→P)→(Unit→P)→X) (k:P):X:=h (fun _=>k) (fun _=>k)
theorem fr5 {σ β A1 A2 A3 A4 A5:Type} {M:Model} {lo hi:Nat} {f:Nat→β→StateT σ Sem (ForInStep β)} {Q:β→σ→Prop} {c:β} {st:σ} (qX:A1→A2→A3→A4→A5→β) (tD:A1→A2→A3→A4→A5→σ) (J:Nat→A1→A2→A3→A4→A5→Prop) (start:∃ a1 a2 a3 a4 a5,st=tD a1 a2 a3 a4 a5∧c=qX a1 a2 a3 a4 a5∧J lo a1 a2 a3 a4 a5) (fin:∀ a1 a2 a3 a4 a5,J (max lo hi) a1 a2 a3 a4 a5→Q (qX a1 a2 a3 a4 a5) (tD a1 a2 a3 a4 a5))
  (step:∀ x a1 a2 a3 a4 a5,lo≤x→x < hi→J x a1 a2 a3 a4 a5→wpS M A E s (f x (qX a1 a2 a3 a4 a5)) (fun r kC=>match r with | .done c'=>Q c' kC | .yield c'=>∃ a1 a2 a3 a4 a5,kC=tD a1 a2 a3 a4 a5∧c'=qX a1 a2 a3 a4 a5∧J (x+1) a1 a2 a3 a4 a5) (tD a1 a2 a3 a4 a5)):wpS M A E s (forIn [lo:hi] c f) Q st:=by
 refine cC (I:=fun x c kC=>∃ a1 a2 a3 a4 a5,kC=tD a1 a2 a3 a4 a5∧c=qX a1 a2 a3 a4 a5∧J x a1 a2 a3 a4 a5) ?_ ?_ start
 ·rintro x c kC h1 h2 ⟨a1,a2,a3,a4,a5,rfl,rfl,j⟩;exact step x _ _ _ _ _ h1 h2 j
 ·rintro c kC ⟨a1,a2,a3,a4,a5,rfl,rfl,j⟩;exact fin _ _ _ _ _ j
theorem fr7 {σ β A1 A2 A3 A4 A5 A6 A7:Type} {M:Model} {lo hi:Nat} {f:Nat→β→StateT σ Sem (ForInStep β)} {Q:β→σ→Prop} {c:β} {st:σ} (qX:A1→A2→A3→A4→A5→A6→A7→β) (tD:A1→A2→A3→A4→A5→A6→A7→σ) (J:Nat→A1→A2→A3→A4→A5→A6→A7→Prop) (start:∃ a1 a2 a3 a4 a5 a6 a7,st=tD a1 a2 a3 a4 a5 a6 a7∧c=qX a1 a2 a3 a4 a5 a6 a7∧J lo a1 a2 a3 a4 a5 a6 a7) (fin:∀ a1 a2 a3 a4 a5 a6 a7,J (max lo hi) a1 a2 a3 a4 a5 a6 a7→Q (qX a1 a2 a3 a4 a5 a6 a7) (tD a1 a2 a3 a4 a5 a6 a7))
  (step:∀ x a1 a2 a3 a4 a5 a6 a7,lo≤x→x < hi→J x a1 a2 a3 a4 a5 a6 a7→wpS M A E s (f x (qX a1 a2 a3 a4 a5 a6 a7)) (fun r kC=>match r with | .done c'=>Q c' kC | .yield c'=>∃ a1 a2 a3 a4 a5 a6 a7,kC=tD a1 a2 a3 a4 a5 a6 a7∧c'=qX a1 a2 a3 a4 a5 a6 a7∧J (x+1) a1 a2 a3 a4 a5 a6 a7) (tD a1 a2 a3 a4 a5 a6 a7)):wpS M A E s (forIn [lo:hi] c f) Q st:=by
 refine cC (I:=fun x c kC=>∃ a1 a2 a3 a4 a5 a6 a7,kC=tD a1 a2 a3 a4 a5 a6 a7∧c=qX a1 a2 a3 a4 a5 a6 a7∧J x a1 a2 a3 a4 a5 a6 a7) ?_ ?_ start
 ·rintro x c kC h1 h2 ⟨a1,a2,a3,a4,a5,a6,a7,rfl,rfl,j⟩;exact step x _ _ _ _ _ _ _ h1 h2 j
 ·rintro c kC ⟨a1,a2,a3,a4,a5,a6,a7,rfl,rfl,j⟩;exact fin _ _ _ _ _ _ _ j
theorem zmh {σ α γ δ A1 A2 A3 A4 A5:Type} {M:Model} {x:StateT σ Sem (Option γ×δ)} {k:Option γ×δ→StateT σ Sem α} {R:α→σ→Prop} {st:σ} (qX:A1→A2→A3→A4→A5→Option γ×δ) (G:γ→Prop) (J:A1→A2→A3→A4→A5→Prop) (CU:σ) (hx:wpS M A E s x (fun c kC=>kC=CU∧((∃ r o,c=(some r,o)∧G r)∨∃ a1 a2 a3 a4 a5,c=qX a1 a2 a3 a4 a5∧J a1 a2 a3 a4 a5)) st) (h1:∀ r o,G r→wpS M A E s (k (some r,o)) R CU) (h:∀ a1 a2 a3 a4 a5,J a1 a2 a3 a4 a5→wpS M A E s (k (qX a1 a2 a3 a4 a5)) R CU):wpS M A E s (x >>= k) R st:=by
 refine aw (dg hx ?_);rintro c kC ⟨rfl,⟨r,o,rfl,g⟩ | ⟨a1,a2,a3,a4,a5,rfl,j⟩⟩
 ·exact h1 _ _ g
 ·exact h _ _ _ _ _ j
theorem zaX {σ α:Type} {M:Model} {c:Prop} {inst:Decidable c} {x y:StateT σ Sem α} {Q:α→σ→Prop} {st:σ} (h:c→wpS M A E s x Q st) (k:¬ c→wpS M A E s y Q st):wpS M A E s (@ite _ c inst x y) Q st:=by
 by_cases hc:c
 ·rw [if_pos hc]; exact h hc
 ·rw [if_neg hc]; exact k hc
theorem zi3 {st:SortSt} {a b:Array Keyed} {Q:Array Keyed→SortSt→Prop} (hC:Cmp prog w A s κ val a₀) (hk:kindOf st=κ) (ma:∀ p∈a.toList,p∈a₀.toList) (mb:∀ p∈b.toList,p∈a₀.toList)
  (sa:SIn val a 0 a.size) (sb:SIn val b 0 b.size) (h1:1≤a.size) (h2:1≤b.size) (hf:Vk val b 0≤Vk val a 0) (hl:∀ i,i < b.size→Vk val b i≤Vk val a (a.size - 1))
  (h:∀ out g,Good val (a.toList++b.toList) out.toList→Q out (zan st g)):wpS (model prog w) A E s (zkh a b) Q st:=by
 refine zfA ?_
 wp_delta
 wp_delta
 refine zfB ?_
 (refine aw (fY (cg ⟨rfl,?_⟩)))
 refine zaw (xs:=b) (i:=0) #[O] fun y0 um CV=>?_
 refine zaw (xs:=a) (i:=0) #[O] fun x0 uo CW=>?_
 refine aw (zR um ?_);have I0:MA val (a.toList++b.toList) a b #[] 0 0:=⟨#[M],gw,zc3 sa 0,zc3 sb 0,fun x hx=>by simp at hx,fun x hx=>by simp at hx⟩;have I1:MA val (a.toList++b.toList) a b #[y0] 0 1:=I0.pushB sa um uo (by rw [zV um,zV uo] at hf; exact hf);dsimp only;by_cases qY:1=b.size
 ·refine zw (by simpa using qY) ?_;exact aA (h _ (gallopOf st) (I1.doneB qY))
 refine zy (by simpa using qY) ?_;by_cases sH:0+1=a.size
 ·refine zw (by simpa using sH) ?_;exact aA (h _ (gallopOf st) (I1.last #[O] hl))
 refine zy (by simpa using sH) ?_;refine aw (eX ?_);refine aw (dg (fr5 (fun g out ia ib mg=>(none,out,ia,ib,mg)) (fun g out ia ib mg=>zan st g) (fun x g out ia ib mg=>MA val (a.toList++b.toList) a b out ia ib∧ia+1 < a.size∧ib < b.size∧x+1≤ia+ib)
  (Q:=fun c kC=>∃ g r o,kC=zan st g∧c=(some r,o)∧Good val (a.toList++b.toList) r.toList) ⟨gallopOf st,#[y0],0,1,gallopOf st,rfl,rfl,I1,#[O],#[O],#[O]⟩ ?fin ?step) ?post)
 case post =>
  rintro c kC ⟨g,r,o,rfl,rfl,hG⟩;exact aA (h _ g hG)
 case fin =>
  rintro g out ia ib mg ⟨hI,b1,b2,b3⟩;lia
 case step =>
  intro x g out ia ib mg hr0 hx J;have hI:=J.1;have b1:=J.2.1;have b2:=J.2.2.1;have b3:=J.2.2.2;dsimp only;refine zmh (fun kN lZ lU ac bc=>(none,kN,lZ,lU,ac,bc)) (fun r=>Good val (a.toList++b.toList) r.toList) (fun kN lZ lU ac bc=>MA val (a.toList++b.toList) a b kN lZ lU∧lZ+1 < a.size∧lU < b.size∧ia+ib+1≤lZ+lU) (zan st g) (fr5 (fun kN lZ lU ac bc=>(none,kN,lZ,lU,ac,bc)) (fun kN lZ lU ac bc=>zan st g) (fun x kN lZ lU ac bc=>MA val (a.toList++b.toList) a b kN lZ lU∧lZ+1 < a.size∧lU < b.size∧ia+ib+x≤lZ+lU) ⟨out,ia,ib,0,0,rfl,rfl,hI,b1,b2,#[O]⟩ ?fin1 ?step1) (fun r o hG=>aA ⟨g,r,_,rfl,rfl,hG⟩) ?post1
  case fin1 =>
   rintro kN lZ lU ac bc ⟨hI,b1,b2,b3⟩;exact⟨rfl,.inr ⟨kN,lZ,lU,ac,bc,rfl,hI,b1,b2,#[O]⟩⟩
  case step1 =>
   intro x1 kN lZ lU ac bc CY xp J;have hI:=J.1;have b1:=J.2.1;have b2:=J.2.2.1;have b3:=J.2.2.2;dsimp only;refine zaw (xs:=b) (i:=lU) #[O] fun y ey my=>?_
   refine zaw (xs:=a) (i:=lZ) #[O] fun z ez mz=>?_
   refine aw (zR ey (aw (zR ez (aw (zke hC hk (mb y my) (ma z mz) ?_)))));dsimp only;by_cases ym:val y < val z
   ·refine zw (by simpa using ym) ?_;refine aw (zR ey ?_);have nW:=hI.pushB sa ey ez #[O];by_cases e1:lU+1=b.size
    ·refine zw (by simpa using e1) ?_;exact aA ⟨rfl,.inl ⟨_,_,rfl,nW.doneB e1⟩⟩
    refine zy (by simpa using e1) ?_;refine zaX (fun _=>?_) (fun _=>?_)
    ·exact aA ⟨rfl,.inr ⟨_,_,_,_,_,rfl,nW,b1,#[O],#[O]⟩⟩
    ·exact aA ⟨_,_,_,_,_,rfl,rfl,nW,b1,#[O],#[O]⟩
   ·refine zy (by simpa using ym) ?_;refine aw (zR ez ?_);have nW:=hI.pushA sb ey ez #[O];by_cases e1:lZ+1+1=a.size
    ·refine zw (by simpa using e1) ?_;exact aA ⟨rfl,.inl ⟨_,_,rfl,nW.last e1 hl⟩⟩
    refine zy (by simpa using e1) ?_;refine zaX (fun _=>?_) (fun _=>?_)
    ·exact aA ⟨rfl,.inr ⟨_,_,_,_,_,rfl,nW,#[O],b2,#[O]⟩⟩
    ·exact aA ⟨_,_,_,_,_,rfl,rfl,nW,#[O],b2,#[O]⟩
  case post1 =>
   intro wj CZ C0 C1 C2 J;have C3:=J.1;have c1:=J.2.1;have c2:=J.2.2.1;have c3:=J.2.2.2;dsimp only
   (refine aw (fY (cg ⟨rfl,?_⟩)))
   refine aw (dg (fr7 (fun g kN lZ lU mg ac bc=>(none,kN,lZ,lU,mg,ac,bc)) (fun g kN lZ lU mg ac bc=>zan st g) (fun x g kN lZ lU mg ac bc=>MA val (a.toList++b.toList) a b kN lZ lU∧lZ+1 < a.size∧lU < b.size∧CZ+C0≤lZ+lU)
    (Q:=fun c kC=>∃ g,kC=zan st g∧((∃ r o,c=(some r,o)∧Good val (a.toList++b.toList) r.toList)∨∃ kN lZ lU mg ac bc,c=(none,kN,lZ,lU,mg,ac,bc)∧MA val (a.toList++b.toList) a b kN lZ lU∧lZ+1 < a.size∧lU < b.size∧CZ+C0≤lZ+lU)) ⟨g,wj,CZ,C0,_,C1,C2,rfl,rfl,C3,c1,c2,af _⟩ ?fin2 ?step2) ?post2)
   case fin2 =>
    rintro g kN lZ lU mg ac bc ⟨hI,b1,b2,b3⟩;exact⟨g,rfl,.inr ⟨kN,lZ,lU,mg,ac,bc,rfl,hI,b1,b2,b3⟩⟩
   case post2 =>
    rintro c kC ⟨g,rfl,hc⟩;rcases hc with ⟨r,o,rfl,hG⟩ | ⟨wm,ia2,ib2,mg2,ac2,bc2,rfl,nW,d1,d2,d3⟩
    ·exact aA ⟨g,r,_,rfl,rfl,hG⟩
    dsimp only;refine aw (zc4 (aA ⟨_,wm,ia2,ib2,_,rfl,rfl,nW,d1,d2,#[O]⟩))
   case step2 =>
    intro x2 g kN lZ lU wo ac bc uJ uq J;have hI:=J.1;have b1:=J.2.1;have b2:=J.2.2.1;have b3:=J.2.2.2;dsimp only;refine zaw (xs:=b) (i:=lU) #[O] fun y ey my=>?_
    apply dup
    ·intro k1 k2;by_cases rm:wo > 1
     ·refine zw rm ?_;clear rm;generalize wo - 1=m0
      revert m0
      exact k1
     ·refine zy rm ?_;clear rm;generalize wo=m0
      revert m0
      exact k2
    intro mg0;refine aw (zc4 (aw (zR ey (aw (zbp hC hk (mb y my) (fun i hi=>(by
     refine zaw (xs:=a) (i:=lZ+i) #[O] fun p ep mp=>?_
     exact⟨p,ep,ma p mp⟩)) (sa.sub #[O] #[O]) #[O] fun k qZ pU vm=>?_)))))
    dsimp only;have nW:=hI.takeA (k:=k) sb ey fun i hi=>zc5 (pU i hi)
    by_cases tx:k > 0
    ·refine zw tx ?_;by_cases e1:lZ+k+1=a.size
     ·refine zw (by simpa using e1) ?_;exact aA ⟨_,rfl,.inl ⟨_,_,rfl,nW.last e1 hl⟩⟩
     refine zy (by simpa using e1) ?_;by_cases e2:lZ+k=a.size
     ·refine zw (by simpa using e2) ?_;exact aA ⟨_,rfl,.inl ⟨_,_,rfl,nW.doneA e2⟩⟩
     refine zy (by simpa using e2) ?_;refine aw (zR ey ?_);refine zaw (xs:=a) (i:=lZ+k) #[O] fun z ez mz=>?_
     have qo:=nW.pushB sa ey ez (by have:=zdT (vm k (af _) #[O]); rw [zV ez] at this; lia);by_cases e3:lU+1=b.size
     ·refine zw (by simpa using e3) ?_;exact aA ⟨_,rfl,.inl ⟨_,_,rfl,qo.doneB e3⟩⟩
     refine zy (by simpa using e3) ?_;refine aw (zR ez (aw (zbp hC hk (ma z mz) (fun i hi=>(by
      refine zaw (xs:=b) (i:=lU+1+i) #[O] fun p ep mp=>?_
      exact⟨p,ep,mb p mp⟩)) (sb.sub #[O] #[O]) #[O] fun j tz oq rG=>?_)))
     dsimp only;have rH:=qo.takeB (k:=j) sa ez fun i hi=>eh (zb7 (oq i hi))
     by_cases qp:j > 0
     ·refine zw qp ?_;by_cases e4:lU+1+j=b.size
      ·refine zw (by simpa using e4) ?_;exact aA ⟨_,rfl,.inl ⟨_,_,rfl,rH.doneB e4⟩⟩
      refine zy (by simpa using e4) ?_;refine zaw (xs:=b) (i:=lU+1+j) #[O] fun y2 ou wq=>?_
      refine aw (zR ez ?_);have mX:=rH.pushA sb ou ez (by have:=zcL (rG j (af _) #[O]); rw [zV ou] at this; exact this);by_cases e9:lZ+k+1+1=a.size
      ·refine zw (by simpa using e9) ?_;exact aA ⟨_,rfl,.inl ⟨_,_,rfl,mX.last e9 hl⟩⟩
      refine zy (by simpa using e9) ?_;refine zaX (fun _=>?_) (fun _=>?_)
      ·exact aA ⟨_,rfl,.inr ⟨_,_,_,_,_,_,rfl,mX,#[O],#[O],#[O]⟩⟩
      ·exact aA ⟨_,_,_,_,_,_,_,rfl,rfl,mX,#[O],#[O],#[O]⟩
     ·refine zy qp ?_;have wt:j=0:=by lia
      subst wt;refine zaw (xs:=b) (i:=lU+1) #[O] fun y2 ou wq=>?_
      refine aw (zR ez ?_);have mX:=qo.pushA sb ou ez (by have:=zcL (rG 0 (af _) #[O]); rw [eQ,zV ou] at this; exact this);by_cases e9:lZ+k+1+1=a.size
      ·refine zw (by simpa using e9) ?_;exact aA ⟨_,rfl,.inl ⟨_,_,rfl,mX.last e9 hl⟩⟩
      refine zy (by simpa using e9) ?_;refine zaX (fun _=>?_) (fun _=>?_)
      ·exact aA ⟨_,rfl,.inr ⟨_,_,_,_,_,_,rfl,mX,#[O],#[O],#[O]⟩⟩
      ·exact aA ⟨_,_,_,_,_,_,_,rfl,rfl,mX,#[O],#[O],#[O]⟩
    ·refine zy tx ?_;have C4:k=0:=by lia
     subst C4;refine aw (zR ey ?_);refine zaw (xs:=a) (i:=lZ) #[O] fun z ez mz=>?_
     have qo:=hI.pushB sa ey ez (by have:=zdT (vm 0 (af _) #[O]); rw [eQ,zV ez] at this; lia);by_cases e3:lU+1=b.size
     ·refine zw (by simpa using e3) ?_;exact aA ⟨_,rfl,.inl ⟨_,_,rfl,qo.doneB e3⟩⟩
     refine zy (by simpa using e3) ?_;refine aw (zR ez (aw (zbp hC hk (ma z mz) (fun i hi=>(by
      refine zaw (xs:=b) (i:=lU+1+i) #[O] fun p ep mp=>?_
      exact⟨p,ep,mb p mp⟩)) (sb.sub #[O] #[O]) #[O] fun j tz oq rG=>?_)))
     dsimp only;have rH:=qo.takeB (k:=j) sa ez fun i hi=>eh (zb7 (oq i hi))
     by_cases qp:j > 0
     ·refine zw qp ?_;by_cases e4:lU+1+j=b.size
      ·refine zw (by simpa using e4) ?_;exact aA ⟨_,rfl,.inl ⟨_,_,rfl,rH.doneB e4⟩⟩
      refine zy (by simpa using e4) ?_;refine zaw (xs:=b) (i:=lU+1+j) #[O] fun y2 ou wq=>?_
      refine aw (zR ez ?_);have mX:=rH.pushA sb ou ez (by have:=zcL (rG j (af _) #[O]); rw [zV ou] at this; exact this);by_cases e9:lZ+1+1=a.size
      ·refine zw (by simpa using e9) ?_;exact aA ⟨_,rfl,.inl ⟨_,_,rfl,mX.last e9 hl⟩⟩
      refine zy (by simpa using e9) ?_;refine zaX (fun _=>?_) (fun _=>?_)
      ·exact aA ⟨_,rfl,.inr ⟨_,_,_,_,_,_,rfl,mX,#[O],#[O],#[O]⟩⟩
      ·exact aA ⟨_,_,_,_,_,_,_,rfl,rfl,mX,#[O],#[O],#[O]⟩
     ·refine zy qp ?_;have wt:j=0:=by lia
      subst wt;refine zaw (xs:=b) (i:=lU+1) #[O] fun y2 ou wq=>?_
      refine aw (zR ez ?_);have mX:=qo.pushA sb ou ez (by have:=zcL (rG 0 (af _) #[O]); rw [eQ,zV ou] at this; exact this);by_cases e9:lZ+1+1=a.size
      ·refine zw (by simpa using e9) ?_;exact aA ⟨_,rfl,.inl ⟨_,_,rfl,mX.last e9 hl⟩⟩
      refine zy (by simpa using e9) ?_;refine zaX (fun _=>?_) (fun _=>?_)
      ·exact aA ⟨_,rfl,.inr ⟨_,_,_,_,_,_,rfl,mX,#[O],#[O],#[O]⟩⟩
      ·exact aA ⟨_,_,_,_,_,_,_,rfl,rfl,mX,#[O],#[O],#[O]⟩
end
end Srt
end
section
namespace Srt
open PySem PyProof.Rows
structure MH (val:Keyed→Int) (T l r o:List Keyed):Prop where
 perm:(l++r++o).Perm T
 so:Ris val o
 sl:Ris val l
 sr:Ris val r
 lo:Le val l o
 ro:Le val r o
section
variable {val:Keyed→Int} {T o l l1 l2 r r1 r2:List Keyed}
theorem MH.takeA (h:MH val T (l1++l2) r o) (hle:Le val r l2):MH val T l1 r (l2++o):=by
 obtain⟨a1,a2,a3⟩:=zaz.mp h.sl;refine⟨?_,zaz.mpr ⟨a2,h.so,h.lo.right⟩,a1,h.sr,a3.app' h.lo.left,hle.app' h.ro⟩;refine eI ?_ h.perm;have:(r++l2).Perm (l2++r):=List.perm_append_comm;have:=(this.append_left l1).append_right o;simpa [bi] using this
theorem MH.takeB (h:MH val T l (r1++r2) o) (hle:Le val l r2):MH val T l r1 (r2++o):=by
 obtain⟨a1,a2,a3⟩:=zaz.mp h.sr;exact⟨by have:=h.perm; simpa [bi] using this,zaz.mpr ⟨a2,h.so,h.ro.right⟩,h.sl,a1,hle.app' h.lo,a3.app' h.ro.left⟩
theorem MH.doneA (h:MH val T [] r o):Good val T (r++o):=⟨by have:=h.perm; simpa using this,zaz.mpr ⟨h.sr,h.so,h.ro⟩⟩
theorem MH.doneB (h:MH val T l [] o):Good val T (l++o):=⟨by have:=h.perm; simpa using this,zaz.mpr ⟨h.sl,h.so,h.lo⟩⟩
theorem MH.first (h:MH val T l r o) (hle:Le val r l):Good val T (r++l++o):=by
 refine⟨eI (List.perm_append_comm.append_right _) h.perm,?_⟩;exact zaz.mpr ⟨zaz.mpr ⟨h.sr,h.sl,hle⟩,h.so,h.ro.app h.lo⟩
end
section
variable {val:Keyed→Int} {T:List Keyed} {a b out:Array Keyed} {na nb:Nat}
abbrev MB (val:Keyed→Int) (T:List Keyed) (a b out:Array Keyed) (na nb:Nat):Prop:=MH val T (a.toList.take na) (b.toList.take nb) out.toList.reverse
theorem zh1 {xs:Array Keyed} {n:Nat} {p:Keyed} (h:xs[n]? = some p):xs.toList.take (n+1)=xs.toList.take n++[p]:=by
 rw [List.take_succ,bo,h];rfl
theorem zgs {xs:Array Keyed} (h:SIn val xs 0 xs.size) (i:Nat):Ris val (xs.toList.take i):=by
 have:=zc3 h 0;rw [dB] at this;exact iF (bT _ _) this
theorem zeq {xs:Array Keyed} {n:Nat} {p:Keyed} (h:p∈xs.toList.take n):∃ j,j < n∧j < xs.size∧xs[j]? = some p:=by
 (obtain⟨j,hj,e⟩:=dL h)
 have oq:j < n∧j < xs.toList.length:=by
  rw [aD] at hj;lia
 refine⟨j,oq.1,by simpa using oq.2,?_⟩;rw [← bo,aj oq.2,← e,jy]
theorem zdU {xs:Array Keyed} {n:Nat} {p q:Keyed} (h:SIn val xs 0 xs.size) (hp:xs[n]? = some p) (hq:q∈xs.toList.take (n+1)):val q≤val p:=by
 obtain⟨j,hj,sR,e⟩:=zeq hq;have hn:=(cM.mp hp).1;have:=h j n (bu _) #[O] hn;rw [zV e,zV hp] at this;exact this
theorem MB.pushA {y x:Keyed} (h:MB val T a b out (na+1) nb) (sb:SIn val b 0 b.size) (hn:1≤nb) (hy:b[nb - 1]? = some y) (hx:a[na]? = some x) (hle:val y≤val x):MB val T a b (out.push x) na nb:=by
 unfold MB at h ⊢;rw [zh1 hx] at h;have:=MH.takeA h fun p hp q hq=>by
  rw [aR.mp hq];exact bY (zdU sb hy (by rw [show nb - 1+1=nb by lia]; exact hp)) hle
 simpa using this
theorem MB.pushB {y x:Keyed} (h:MB val T a b out na (nb+1)) (sa:SIn val a 0 a.size) (hn:1≤na) (hy:b[nb]? = some y) (hx:a[na - 1]? = some x) (hle:val x≤val y):MB val T a b (out.push y) na nb:=by
 unfold MB at h ⊢;rw [zh1 hy] at h;have:=MH.takeB h fun p hp q hq=>by
  rw [aR.mp hq];exact bY (zdU sa hx (by rw [show na - 1+1=na by lia]; exact hp)) hle
 simpa using this
theorem zh2 (xs:Array Keyed) {i n:Nat} (h:i≤n):xs.toList.take n=xs.toList.take i++(xs.extract i n).toList:=by
 rw [c6];simp only [cR];rw [← b9 i (xs.toList.take n),j7,cF h,List.drop_take]
theorem MB.takeA {y:Keyed} {at':Nat} (h:MB val T a b out na nb) (sb:SIn val b 0 b.size) (lK:at'≤na) (hn:1≤nb) (hy:b[nb - 1]? = some y) (hle:∀ i,at'≤i→i < na→val y≤Vk val a i):MB val T a b (out++(a.extract at' na).reverse) at' nb:=by
 unfold MB at h ⊢;rw [zh2 a lK] at h;have:=MH.takeA h fun p hp q hq=>by
  have nh:q∈(a.extract at' (at'+(na - at'))).toList:=by rw [show at'+(na - at')=na by lia]; exact hq
  obtain⟨j,hj,e⟩:=zdS nh;have:=hle (at'+j) #[O] #[O];rw [zV e] at this;exact bY (zdU sb hy (by rw [show nb - 1+1=nb by lia]; exact hp)) this
 simpa using this
theorem MB.takeB {x:Keyed} {at':Nat} (h:MB val T a b out na nb) (sa:SIn val a 0 a.size) (lK:at'≤nb) (hn:1≤na) (hx:a[na - 1]? = some x) (hle:∀ i,at'≤i→i < nb→val x≤Vk val b i):MB val T a b (out++(b.extract at' nb).reverse) na at':=by
 unfold MB at h ⊢;rw [zh2 b lK] at h;have:=MH.takeB h fun p hp q hq=>by
  have nh:q∈(b.extract at' (at'+(nb - at'))).toList:=by rw [show at'+(nb - at')=nb by lia]; exact hq
  obtain⟨j,hj,e⟩:=zdS nh;have:=hle (at'+j) #[O] #[O];rw [zV e] at this;exact bY (zdU sa hx (by rw [show na - 1+1=na by lia]; exact hp)) this
 simpa using this
theorem zbT (xs:Array Keyed) (n:Nat):(xs.extract 0 n).toList=xs.toList.take n:=by
 rw [c6];simp [cR]
theorem MB.doneA (h:MB val T a b out na nb) (e:na=0):Good val T (a.extract 0 na++b.extract 0 nb++out.reverse).toList:=by
 unfold MB at h;subst e;have:=MH.doneA h;rw [bH,bH,zbT,zbT,dC,ic,fJ];exact this
theorem MB.doneB (h:MB val T a b out na nb) (e:nb=0):Good val T (a.extract 0 na++b.extract 0 nb++out.reverse).toList:=by
 unfold MB at h;subst e;have:=MH.doneB h;rw [bH,bH,zbT,zbT,dC,bE,fJ];exact this
theorem MB.first (h:MB val T a b out na nb) (e:nb=1) (sa:SIn val a 0 a.size) (h2:1≤b.size) (hf:Vk val b 0≤Vk val a 0):Good val T (b.extract 0 nb++a.extract 0 na++out.reverse).toList:=by
 unfold MB at h;subst e;have:=MH.first h fun p hp q hq=>by
  obtain⟨j,hj,sR,ej⟩:=zeq hp;have qp:j=0:=by lia
  subst qp;obtain⟨i,hi,yn,ei⟩:=zeq hq;have:=sa 0 i (bu _) (bu _) yn;rw [zV ei] at this;rw [zV ej] at hf;lia
 rw [bH,bH,zbT,zbT,fJ];exact this
end
section
variable {prog:Program} {w:World} {A:Around} {E:Value→Shared→Prop} {s:Shared} {a₀:Array Keyed} {κ:SortKind} {val:Keyed→Int}
theorem zi4 {st:SortSt} {a b:Array Keyed} {Q:Array Keyed→SortSt→Prop} (hC:Cmp prog w A s κ val a₀) (hk:kindOf st=κ) (ma:∀ p∈a.toList,p∈a₀.toList) (mb:∀ p∈b.toList,p∈a₀.toList)
  (sa:SIn val a 0 a.size) (sb:SIn val b 0 b.size) (h1:1≤a.size) (h2:1≤b.size) (hf:Vk val b 0≤Vk val a 0) (hl:∀ i,i < b.size→Vk val b i≤Vk val a (a.size - 1))
  (h:∀ out g,Good val (a.toList++b.toList) out.toList→Q out (zan st g)):wpS (model prog w) A E s (zki a b) Q st:=by
 refine zfA ?_
 wp_delta
 wp_delta
 refine zfB ?_
 (refine aw (fY (cg ⟨rfl,?_⟩)))
 refine zaw (xs:=a) (i:=a.size - 1) #[O] fun x0 uo CW=>?_
 refine zaw (xs:=b) (i:=b.size - 1) #[O] fun y0 um CV=>?_
 refine aw (zR uo ?_);have I0:MB val (a.toList++b.toList) a b #[] (a.size - 1+1) b.size:=by
  refine⟨?_,gw,zgs sa _,zgs sb _,fun x _ y hy=>by simp at hy,fun x _ y hy=>by simp at hy⟩;rw [show a.size - 1+1=a.size by lia,aT #[M],aT #[M]];simp
 have I1:MB val (a.toList++b.toList) a b #[x0] (a.size - 1) b.size:=I0.pushA sb h2 um uo (by have:=hl (b.size - 1) #[O]; rw [zV um,zV uo] at this; exact this);dsimp only;by_cases sH:a.size - 1=0
 ·refine zw (by simpa using sH) ?_;exact aA (h _ (gallopOf st) (I1.doneA sH))
 refine zy (by simpa using sH) ?_;by_cases qY:b.size=1
 ·refine zw (by simpa using qY) ?_;exact aA (h _ (gallopOf st) (I1.first qY sa h2 hf))
 refine zy (by simpa using qY) ?_;refine aw (eX ?_);refine aw (dg (fr5 (fun g out na nb mg=>(none,na,nb,out,mg)) (fun g out na nb mg=>zan st g) (fun x g out na nb mg=>MB val (a.toList++b.toList) a b out na nb∧1≤na∧2≤nb∧na≤a.size∧nb≤b.size∧x+na+nb+1≤a.size+b.size)
  (Q:=fun c kC=>∃ g r o,kC=zan st g∧c=(some r,o)∧Good val (a.toList++b.toList) r.toList) ⟨gallopOf st,#[x0],a.size - 1,b.size,gallopOf st,rfl,rfl,I1,#[O],#[O],#[O],#[O],#[O]⟩ ?fin ?step) ?post)
 case post =>
  rintro c kC ⟨g,r,o,rfl,rfl,hG⟩;exact aA (h _ g hG)
 case fin =>
  rintro g out na nb mg ⟨hI,b1,b2,b3⟩;lia
 case step =>
  intro x g out na nb mg hr0 hx J;have hI:=J.1;have b1:=J.2.1;have b2:=J.2.2.1;have b4:=J.2.2.2.1;have b5:=J.2.2.2.2.1;have b3:=J.2.2.2.2.2;dsimp only;refine zmh (fun kN mG mH ac bc=>(none,mG,mH,kN,ac,bc)) (fun r=>Good val (a.toList++b.toList) r.toList) (fun kN mG mH ac bc=>MB val (a.toList++b.toList) a b kN mG mH∧1≤mG∧2≤mH∧mG≤a.size∧mH≤b.size∧1+mG+mH≤na+nb) (zan st g) (fr5 (fun kN mG mH ac bc=>(none,mG,mH,kN,ac,bc)) (fun kN mG mH ac bc=>zan st g) (fun x kN mG mH ac bc=>MB val (a.toList++b.toList) a b kN mG mH∧1≤mG∧2≤mH∧mG≤a.size∧mH≤b.size∧x+mG+mH≤na+nb) ⟨out,na,nb,0,0,rfl,rfl,hI,b1,b2,b4,b5,#[O]⟩ ?fin1 ?step1) (fun r o hG=>aA ⟨g,r,_,rfl,rfl,hG⟩) ?post1
  case fin1 =>
   rintro kN mG mH ac bc ⟨hI,b1,b2,b4,b5,b3⟩;exact⟨rfl,.inr ⟨kN,mG,mH,ac,bc,rfl,hI,b1,b2,b4,b5,#[O]⟩⟩
  case step1 =>
   intro x1 kN mG mH ac bc CY xp J;have hI:=J.1;have b1:=J.2.1;have b2:=J.2.2.1;have b4:=J.2.2.2.1;have b5:=J.2.2.2.2.1;have b3:=J.2.2.2.2.2;dsimp only;obtain⟨n1,rfl⟩:∃ n1,mG=n1+1:=⟨mG - 1,#[O]⟩;obtain⟨m1,rfl⟩:∃ m1,mH=m1+1:=⟨mH - 1,#[O]⟩;simp only [cD];refine zaw (xs:=b) (i:=m1) #[O] fun y ey my=>?_
   refine zaw (xs:=a) (i:=n1) #[O] fun z ez mz=>?_
   refine aw (zR ey (aw (zR ez (aw (zke hC hk (mb y my) (ma z mz) ?_)))));dsimp only;by_cases ym:val y < val z
   ·refine zw (by simpa using ym) ?_;refine aw (zR ez ?_);have nW:=hI.pushA sb #[O] ey ez #[O];by_cases e1:n1=0
    ·refine zw (by simpa using e1) ?_;exact aA ⟨rfl,.inl ⟨_,_,rfl,nW.doneA e1⟩⟩
    refine zy (by simpa using e1) ?_;refine zaX (fun _=>?_) (fun _=>?_)
    ·exact aA ⟨rfl,.inr ⟨_,_,_,_,_,rfl,nW,#[O],#[O],#[O],#[O],#[O]⟩⟩
    ·exact aA ⟨_,_,_,_,_,rfl,rfl,nW,#[O],#[O],#[O],#[O],#[O]⟩
   ·refine zy (by simpa using ym) ?_;refine aw (zR ey ?_);have nW:=hI.pushB sa #[O] ey ez #[O];by_cases e1:m1=1
    ·refine zw (by simpa using e1) ?_;exact aA ⟨rfl,.inl ⟨_,_,rfl,nW.first e1 sa h2 hf⟩⟩
    refine zy (by simpa using e1) ?_;refine zaX (fun _=>?_) (fun _=>?_)
    ·exact aA ⟨rfl,.inr ⟨_,_,_,_,_,rfl,nW,#[O],#[O],#[O],#[O],#[O]⟩⟩
    ·exact aA ⟨_,_,_,_,_,rfl,rfl,nW,#[O],#[O],#[O],#[O],#[O]⟩
  case post1 =>
   intro wj C5 C6 C1 C2 J;have C3:=J.1;have c1:=J.2.1;have c2:=J.2.2.1;have c4:=J.2.2.2.1;have c5:=J.2.2.2.2.1;have c3:=J.2.2.2.2.2;dsimp only
   (refine aw (fY (cg ⟨rfl,?_⟩)))
   refine aw (dg (fr7 (fun g kN mG mH mg ac bc=>(none,mG,mH,kN,mg,ac,bc)) (fun g kN mG mH mg ac bc=>zan st g) (fun x g kN mG mH mg ac bc=>MB val (a.toList++b.toList) a b kN mG mH∧1≤mG∧2≤mH∧mG≤a.size∧mH≤b.size∧mG+mH≤C5+C6)
    (Q:=fun c kC=>∃ g,kC=zan st g∧((∃ r o,c=(some r,o)∧Good val (a.toList++b.toList) r.toList)∨∃ kN mG mH mg ac bc,c=(none,mG,mH,kN,mg,ac,bc)∧MB val (a.toList++b.toList) a b kN mG mH∧1≤mG∧2≤mH∧mG≤a.size∧mH≤b.size∧mG+mH≤C5+C6)) ⟨g,wj,C5,C6,_,C1,C2,rfl,rfl,C3,c1,c2,c4,c5,af _⟩ ?fin2 ?step2) ?post2)
   case fin2 =>
    rintro g kN mG mH mg ac bc ⟨hI,b1,b2,b4,b5,b3⟩;exact⟨g,rfl,.inr ⟨kN,mG,mH,mg,ac,bc,rfl,hI,b1,b2,b4,b5,b3⟩⟩
   case post2 =>
    rintro c kC ⟨g,rfl,hc⟩;rcases hc with ⟨r,o,rfl,hG⟩ | ⟨wm,na2,nb2,mg2,ac2,bc2,rfl,nW,d1,d2,d4,d5,d3⟩
    ·exact aA ⟨g,r,_,rfl,rfl,hG⟩
    dsimp only;refine aw (zc4 (aA ⟨_,wm,na2,nb2,_,rfl,rfl,nW,d1,d2,d4,d5,#[O]⟩))
   case step2 =>
    intro x2 g kN mG mH wo ac bc uJ uq J;have hI:=J.1;have b1:=J.2.1;have b2:=J.2.2.1;have b4:=J.2.2.2.1;have b5:=J.2.2.2.2.1;have b3:=J.2.2.2.2.2;dsimp only;obtain⟨m1,rfl⟩:∃ m1,mH=m1+1:=⟨mH - 1,#[O]⟩;simp only [cD];refine zaw (xs:=b) (i:=m1) #[O] fun y ey my=>?_
    apply dup
    ·intro k1 k2;by_cases rm:wo > 1
     ·refine zw rm ?_;clear rm;generalize wo - 1=m0
      revert m0
      exact k1
     ·refine zy rm ?_;clear rm;generalize wo=m0
      revert m0
      exact k2
    intro mg0;refine aw (zc4 (aw (zR ey (aw (zbp hC hk (mb y my) (fun i hi=>(by
     refine zaw (xs:=a) (i:=0+i) #[O] fun p ep mp=>?_
     exact⟨p,ep,ma p mp⟩)) (sa.sub #[O] #[O]) #[O] fun k qZ pU vm=>?_)))))
    dsimp only;have nW:=hI.takeA (at':=k) sb qZ #[O] ey fun i h1 h2=>eh (by have:=zdT (vm i h1 h2); rwa [cY] at this)
    by_cases tx:mG - k > 0
    ·refine zw tx ?_;by_cases e1:k=0
     ·refine zw (by simpa using e1) ?_;exact aA ⟨_,rfl,.inl ⟨_,_,rfl,nW.doneA e1⟩⟩
     refine zy (by simpa using e1) ?_;obtain⟨n1,rfl⟩:∃ n1,k=n1+1:=⟨k - 1,#[O]⟩;simp only [cD];refine aw (zR ey ?_);refine zaw (xs:=a) (i:=n1) #[O] fun z ez mz=>?_
     have qo:=nW.pushB sa #[O] ey (show a[n1+1 - 1]? = some z by rw [cD]; exact ez) (by have:=zc5 (pU n1 #[O]); rw [cY,zV ez] at this; exact this);by_cases e3:m1=1
     ·refine zw (by simpa using e3) ?_;exact aA ⟨_,rfl,.inl ⟨_,_,rfl,qo.first e3 sa h2 hf⟩⟩
     refine zy (by simpa using e3) ?_;refine aw (zR ez (aw (zbp hC hk (ma z mz) (fun i hi=>(by
      refine zaw (xs:=b) (i:=0+i) #[O] fun p ep mp=>?_
      exact⟨p,ep,mb p mp⟩)) (sb.sub #[O] #[O]) #[O] fun j tz oq rG=>?_)))
     dsimp only;have rH:=qo.takeB (at':=j) sa tz #[O] (show a[n1+1 - 1]? = some z by rw [cD]; exact ez) fun i h1 h2=>(by have:=zcL (rG i h1 h2); rwa [cY] at this)
     by_cases qp:m1 - j > 0
     ·refine zw qp ?_;by_cases e4:j=1
      ·refine zw (by simpa using e4) ?_;exact aA ⟨_,rfl,.inl ⟨_,_,rfl,rH.first e4 sa h2 hf⟩⟩
      refine zy (by simpa using e4) ?_;by_cases e5:j=0
      ·refine zw (by simpa using e5) ?_;exact aA ⟨_,rfl,.inl ⟨_,_,rfl,rH.doneB e5⟩⟩
      refine zy (by simpa using e5) ?_;refine zaw (xs:=b) (i:=j - 1) #[O] fun y2 ou wq=>?_
      refine aw (zR ez ?_);have mX:=rH.pushA sb #[O] ou ez (by have:=zb7 (oq (j - 1) #[O]); rw [cY,zV ou] at this; lia);by_cases e9:n1=0
      ·refine zw (by simpa using e9) ?_;exact aA ⟨_,rfl,.inl ⟨_,_,rfl,mX.doneA e9⟩⟩
      refine zy (by simpa using e9) ?_;refine zaX (fun _=>?_) (fun _=>?_)
      ·exact aA ⟨_,rfl,.inr ⟨_,_,_,_,_,_,rfl,mX,#[O],#[O],#[O],#[O],#[O]⟩⟩
      ·exact aA ⟨_,_,_,_,_,_,_,rfl,rfl,mX,#[O],#[O],#[O],#[O],#[O]⟩
     ·refine zy qp ?_;have C7:j=m1:=by lia
      subst C7;refine zaw (xs:=b) (i:=j - 1) #[O] fun y2 ou wq=>?_
      refine aw (zR ez ?_);have mX:=qo.pushA sb #[O] ou ez (by have:=zb7 (oq (j - 1) #[O]); rw [cY,zV ou] at this; lia);by_cases e9:n1=0
      ·refine zw (by simpa using e9) ?_;exact aA ⟨_,rfl,.inl ⟨_,_,rfl,mX.doneA e9⟩⟩
      refine zy (by simpa using e9) ?_;refine zaX (fun _=>?_) (fun _=>?_)
      ·exact aA ⟨_,rfl,.inr ⟨_,_,_,_,_,_,rfl,mX,#[O],#[O],#[O],#[O],#[O]⟩⟩
      ·exact aA ⟨_,_,_,_,_,_,_,rfl,rfl,mX,#[O],#[O],#[O],#[O],#[O]⟩
    ·refine zy tx ?_;have hkn:k=mG:=by lia
     subst hkn;obtain⟨n1,rfl⟩:∃ n1,k=n1+1:=⟨k - 1,#[O]⟩;simp only [cD];refine aw (zR ey ?_);refine zaw (xs:=a) (i:=n1) #[O] fun z ez mz=>?_
     have qo:=hI.pushB sa #[O] ey (show a[n1+1 - 1]? = some z by rw [cD]; exact ez) (by have:=zc5 (pU n1 #[O]); rw [cY,zV ez] at this; exact this);by_cases e3:m1=1
     ·refine zw (by simpa using e3) ?_;exact aA ⟨_,rfl,.inl ⟨_,_,rfl,qo.first e3 sa h2 hf⟩⟩
     refine zy (by simpa using e3) ?_;refine aw (zR ez (aw (zbp hC hk (ma z mz) (fun i hi=>(by
      refine zaw (xs:=b) (i:=0+i) #[O] fun p ep mp=>?_
      exact⟨p,ep,mb p mp⟩)) (sb.sub #[O] #[O]) #[O] fun j tz oq rG=>?_)))
     dsimp only;have rH:=qo.takeB (at':=j) sa tz #[O] (show a[n1+1 - 1]? = some z by rw [cD]; exact ez) fun i h1 h2=>(by have:=zcL (rG i h1 h2); rwa [cY] at this)
     by_cases qp:m1 - j > 0
     ·refine zw qp ?_;by_cases e4:j=1
      ·refine zw (by simpa using e4) ?_;exact aA ⟨_,rfl,.inl ⟨_,_,rfl,rH.first e4 sa h2 hf⟩⟩
      refine zy (by simpa using e4) ?_;by_cases e5:j=0
      ·refine zw (by simpa using e5) ?_;exact aA ⟨_,rfl,.inl ⟨_,_,rfl,rH.doneB e5⟩⟩
      refine zy (by simpa using e5) ?_;refine zaw (xs:=b) (i:=j - 1) #[O] fun y2 ou wq=>?_
      refine aw (zR ez ?_);have mX:=rH.pushA sb #[O] ou ez (by have:=zb7 (oq (j - 1) #[O]); rw [cY,zV ou] at this; lia);by_cases e9:n1=0
      ·refine zw (by simpa using e9) ?_;exact aA ⟨_,rfl,.inl ⟨_,_,rfl,mX.doneA e9⟩⟩
      refine zy (by simpa using e9) ?_;refine zaX (fun _=>?_) (fun _=>?_)
      ·exact aA ⟨_,rfl,.inr ⟨_,_,_,_,_,_,rfl,mX,#[O],#[O],#[O],#[O],#[O]⟩⟩
      ·exact aA ⟨_,_,_,_,_,_,_,rfl,rfl,mX,#[O],#[O],#[O],#[O],#[O]⟩
     ·refine zy qp ?_;have C7:j=m1:=by lia
      subst C7;refine zaw (xs:=b) (i:=j - 1) #[O] fun y2 ou wq=>?_
      refine aw (zR ez ?_);have mX:=qo.pushA sb #[O] ou ez (by have:=zb7 (oq (j - 1) #[O]); rw [cY,zV ou] at this; lia);by_cases e9:n1=0
      ·refine zw (by simpa using e9) ?_;exact aA ⟨_,rfl,.inl ⟨_,_,rfl,mX.doneA e9⟩⟩
      refine zy (by simpa using e9) ?_;refine zaX (fun _=>?_) (fun _=>?_)
      ·exact aA ⟨_,rfl,.inr ⟨_,_,_,_,_,_,rfl,mX,#[O],#[O],#[O],#[O],#[O]⟩⟩
      ·exact aA ⟨_,_,_,_,_,_,_,rfl,rfl,mX,#[O],#[O],#[O],#[O],#[O]⟩
end
end Srt
end
section
namespace Srt
open PySem PyProof.Rows
def wb (sa:Nat) (l:List (Keyed×Nat)) (xs:Array Keyed):Array Keyed:=l.foldl (fun a (p,j)=>a.setIfInBounds (sa+j) p) xs
theorem zkl (sa:Nat):∀ (l:List Keyed) (n:Nat) (xs:Array Keyed) (k:Nat),sa+n+l.length≤xs.size→(wb sa (l.zipIdx n) xs)[k]? = if sa+n≤k∧k < sa+n+l.length then l[k - (sa+n)]? else xs[k]?
 | [],n,xs,k,h=>by
  rw [if_neg (by simp only [ik]; lia)];rfl
 | p :: l,n,xs,k,h=>by
  have hl:(p :: l).length=l.length+1:=rfl;rw [hl] at h ⊢;show (wb sa (l.zipIdx (n+1)) (xs.setIfInBounds (sa+n) p))[k]? = _;rw [zkl sa l (n+1) _ k (by rw [Array.size_setIfInBounds]; lia)];by_cases h1:sa+(n+1)≤k∧k < sa+(n+1)+l.length
  ·rw [if_pos h1,if_pos #[O],show k - (sa+n)=k - (sa+(n+1))+1 by lia,dN]
  ·rw [if_neg h1,Array.getElem?_setIfInBounds];by_cases h2:sa+n=k
   ·rw [if_pos h2,if_pos #[O],if_pos #[O],show k - (sa+n)=0 by lia];rfl
   ·rw [if_neg h2,if_neg #[O]]
theorem zll {sa:Nat} {m xs:Array Keyed} (h:sa+m.size≤xs.size):(wb sa m.toList.zipIdx xs).toList=xs.toList.take sa++m.toList++xs.toList.drop (sa+m.size):=by
 have hm:m.toList.length=m.size:=by simp
 have hx:xs.toList.length=xs.size:=by simp
 refine c9 fun k=>?_
 rw [bo,zkl sa m.toList 0 xs k (by rw [hm]; lia),hm,eQ];by_cases h1:k < sa
 ·rw [if_neg #[O],bi,bI (by rw [aD]; lia),cw h1,bo]
 ·by_cases h2:k < sa+m.size
  ·rw [if_pos #[O],bi,bF (by rw [aD]; lia),aD,hx,show min sa xs.size=sa by lia,bI #[O]]
  ·rw [if_neg #[O],bF (by rw [ap,aD]; lia),ap,aD,hx,show min sa xs.size=sa by lia,hm,dS,show sa+m.size+(k - (sa+m.size))=k by lia,bo]
theorem zi5 (xs:List Keyed) {i j k:Nat} (h1:i≤j) (h2:j≤k):xs=xs.take i++((xs.drop i).take (j - i)++(xs.drop j).take (k - j))++xs.drop k:=by
 have e1:xs.drop i=(xs.drop i).take (j - i)++xs.drop j:=by
  have:=(b9 (j - i) (xs.drop i)).symm
  rwa [iG,show i+(j - i)=j by lia] at this
 have e2:xs.drop j=(xs.drop j).take (k - j)++xs.drop k:=by
  have:=(b9 (k - j) (xs.drop j)).symm
  rwa [iG,show j+(k - j)=k by lia] at this
 have e0:=(b9 i xs).symm;rw [e1,e2] at e0;rw [bi,bi];exact e0
theorem zc6 (xs:Array Keyed) (i j:Nat):(xs.extract i j).toList=(xs.toList.drop i).take (j - i):=by
 rw [c6]
theorem zlm {sa sb e:Nat} {m xs:Array Keyed} (h1:sa≤sb) (h2:sb≤e) (h3:e≤xs.size) (hp:m.toList.Perm ((xs.extract sa sb).toList++(xs.extract sb e).toList)):(wb sa m.toList.zipIdx xs).Perm xs:=by
 have hms:m.size=e - sa:=by
  have:=hp.length_eq;rw [ap,zc6,zc6,aD,aD,b7,b7] at this;have hx:xs.toList.length=xs.size:=by simp
  have hm:m.toList.length=m.size:=by simp
  lia
 rw [eB,zll #[O],show sa+m.size=e by lia];refine eI ((hp.append_left _).append_right _) ?_;rw [zc6,zc6,← zi5 xs.toList h1 h2]
section
variable {prog:Program} {w:World} {A:Around} {E:Value→Shared→Prop} {s:Shared} {a₀:Array Keyed} {κ:SortKind} {val:Keyed→Int}
theorem zcM {xs:Array Keyed} {i j k:Nat} (h:k < j - i) (hj:j≤xs.size):(xs.extract i j)[k]? = xs[i+k]?:=by
 rw [← bo,zc6,cw h,dS,bo]
theorem zc7 {xs:Array Keyed} {i j:Nat} (hj:j≤xs.size):(xs.extract i j).size=j - i:=by rw [Array.size_extract,cF hj]
theorem zh3 {xs:Array Keyed} {i j:Nat} (hj:j≤xs.size) (h:SIn val xs i j):SIn val (xs.extract i j) 0 (xs.extract i j).size:=by
 rw [zc7 hj];intro p q _ hpq hq;rw [zaf (zcM #[O] hj),zaf (zcM hq hj)];exact h _ _ #[O] #[O] #[O]
theorem zdV {xs:Array Keyed} {i j:Nat} (hj:j≤xs.size) {p:Keyed} (h:p∈(xs.extract i j).toList):∃ k,i≤k∧k < j∧xs[k]? = some p:=by
 obtain⟨k,hk,e⟩:=dL h;have rn:k < j - i:=by
  rwa [aZ,zc7 hj] at hk
 refine⟨i+k,#[O],#[O],?_⟩;rw [← zcM rn hj,← bo,aj hk,e]
theorem zi6 {st:SortSt} {i sa na pw sb nb pw2:Nat} {Q:Bool→SortSt→Prop} (hC:Cmp prog w A s κ val a₀) (hB:SB κ a₀ st) (e1:(pendingOf st)[i]? = some (sa,na,pw)) (e2:(pendingOf st)[i+1]? = some (sb,nb,pw2))
  (mj:sb=sa+na) (yo:1≤na) (hnb:1≤nb) (hsz:sb+nb≤a₀.size) (sA:SIn val (arrOf st) sa (sa+na)) (sB:SIn val (arrOf st) sb (sb+nb))
  (h:∀ kC,SB κ a₀ kC→pendingOf kC=((pendingOf st).setIfInBounds i (sa,na+nb,pw)).eraseIdxIfInBounds (i+1)→(∀ k,(k < sa∨sb+nb≤k)→(arrOf kC)[k]? = (arrOf st)[k]?)→SIn val (arrOf kC) sa (sb+nb)→Q true kC) :
  wpS (model prog w) A E s (mergeAt' i) Q st:=by
 refine zfA ?_
 wp_delta
 wp_delta
 refine zfB ?_;refine aw (eX ?_);rw [e1,e2];dsimp only;have yp:=hB.size;obtain⟨y0,um,CV⟩:=hB.mem (i:=sb) #[O];generalize wu:(sortPriv% PySem.Builtin.SortState.mk) (kindOf st) (arrOf st) (((pendingOf st).setIfInBounds i (sa,na+nb,pw)).eraseIdxIfInBounds (i+1)) (gallopOf st) (failedOf st)=mR;have tE:SB κ a₀ mR:=by subst wu; exact⟨hB.perm,hB.kind,hB.failed⟩
 have ql:pendingOf mR=((pendingOf st).setIfInBounds i (sa,na+nb,pw)).eraseIdxIfInBounds (i+1):=by subst wu; rfl
 have sH:arrOf mR=arrOf st:=by subst wu; rfl
 have uK:∀ n,n < a₀.size→∃ p,(arrOf st)[n]? = some p∧p∈a₀.toList:=fun n hn=>hB.mem hn
 refine aw (show wpS _ _ _ _ (set mR) _ st from er (f:=fun _=>mR) ?_);refine aw (zR um (aw (zbp (arr:=arrOf st) hC tE.kind CV (fun j hj=>uK (sa+j) #[O]) sA #[O] fun k qZ pU vm=>?_)));dsimp only;have yq:∀ j,sa≤j→j < sa+k→Vk val (arrOf st) j≤Vk val (arrOf st) sb:=fun j h1 h2=>by
  have:=zc5 (pU (j - sa) #[O])
  rwa [show sa+(j - sa)=j by lia,← zV (val:=val) um] at this
 by_cases tx:na - k=0
 ·rw [if_pos (by simpa using tx)];refine aA (h mR tE ql (fun _ _=>by rw [sH]) ?_);rw [sH];intro p q h1 h2 h3;by_cases hq:q < sa+na
  ·exact sA p q h1 h2 hq
  ·by_cases hp:p < sa+na
   ·exact bY (yq p h1 #[O]) (sB sb q #[O] #[O] h3)
   ·exact sB p q #[O] h2 h3
 rw [if_neg (by simpa using tx)];have yr:sa+k+(na - k) - 1=sa+na - 1:=by lia
 rw [yr];obtain⟨x0,uo,CW⟩:=hB.mem (i:=sa+na - 1) #[O];refine aw (zR uo (aw (zbp (arr:=arrOf st) hC tE.kind CW (fun j hj=>uK (sb+j) #[O]) sB #[O] fun m uk qV hm3=>?_)));dsimp only;have vn:∀ j,sb+m≤j→j < sb+nb→Vk val (arrOf st) (sa+na - 1)≤Vk val (arrOf st) j:=fun j h1 h2=>by
  have:=zcL (hm3 (j - sb) #[O] #[O])
  rwa [show sb+(j - sb)=j by lia,← zV (val:=val) uo] at this
 have C8:∀ j,sb≤j→j < sb+m→Vk val (arrOf st) j < Vk val (arrOf st) (sa+na - 1):=fun j h1 h2=>by
  have:=zb7 (qV (j - sb) #[O])
  rwa [show sb+(j - sb)=j by lia,← zV (val:=val) uo] at this
 by_cases hm0:m=0
 ·rw [if_pos (by simpa using hm0)];refine aA (h mR tE ql (fun _ _=>by rw [sH]) ?_);rw [sH];intro p q h1 h2 h3;by_cases hq:q < sa+na
  ·exact sA p q h1 h2 hq
  ·by_cases hp:p < sa+na
   ·exact bY (sA p (sa+na - 1) h1 #[O] #[O]) (vn q #[O] h3)
   ·exact sB p q #[O] h2 h3
 rw [if_neg (by simpa using hm0)];have zx:(arrOf st).size=a₀.size:=yp;have z1:=zc7 (xs:=arrOf st) (i:=sa+k) (j:=sb) #[O];have z2:=zc7 (xs:=arrOf st) (i:=sb) (j:=sb+m) #[O];have hf:Vk val ((arrOf st).extract sb (sb+m)) 0≤Vk val ((arrOf st).extract (sa+k) sb) 0:=by
  rw [zaf (zcM #[O] #[O]),zaf (zcM (xs:=arrOf st) (i:=sa+k) (j:=sb) (k:=0) #[O] #[O])];have:=zdT (vm k (af _) #[O]);rw [← zV (val:=val) um] at this;simp only [eQ] at this ⊢;lia
 have hl:∀ j,j < ((arrOf st).extract sb (sb+m)).size→Vk val ((arrOf st).extract sb (sb+m)) j≤Vk val ((arrOf st).extract (sa+k) sb) (((arrOf st).extract (sa+k) sb).size - 1):=by
  intro j hj;rw [z2] at hj;rw [z1,zaf (zcM #[O] #[O]),zaf (zcM (xs:=arrOf st) (i:=sa+k) (j:=sb) #[O] #[O])];have:=C8 (sb+j) #[O] #[O];rw [show sa+k+(sb - (sa+k) - 1)=sa+na - 1 by lia];lia
 have fin:∀ (out:Array Keyed) (g:Nat),Good val (((arrOf st).extract (sa+k) sb).toList++((arrOf st).extract sb (sb+m)).toList) out.toList →
   wpS (model prog w) A E s (do
    modify fun s=>setArr s (out.toList.zipIdx.foldl (fun a (p,j)=>a.setIfInBounds (sa+k+j) p) (arrOf s))
    let s' ← get
    pure (failedOf s').isNone) Q (zan mR g):=by
  intro out g hG;refine aw (er (aw (eX ?_)));have hms:out.size=sb+m - (sa+k):=by
   have:=hG.1.length_eq;rw [ap] at this;have e1:out.toList.length=out.size:=by simp
   have e2:((arrOf st).extract (sa+k) sb).toList.length=sb - (sa+k):=by rw [aZ,z1]
   have e3:((arrOf st).extract sb (sb+m)).toList.length=sb+m - sb:=by rw [aZ,z2]
   lia
  have pd:=zlm (xs:=arrOf st) (sa:=sa+k) (sb:=sb) (e:=sb+m) #[O] #[O] #[O] hG.1;have lK:∀ n,(wb (sa+k) out.toList.zipIdx (arrOf st))[n]? = if sa+k≤n∧n < sb+m then out[n - (sa+k)]? else (arrOf st)[n]?:=fun n=>by
   have:=zkl (sa+k) out.toList 0 (arrOf st) n (by rw [aZ]; lia);rw [aZ,eQ,hms,show sa+k+(sb+m - (sa+k))=sb+m by lia,bo] at this;exact this
  have xQ:(failedOf (setArr (zan mR g) (wb (sa+k) out.toList.zipIdx (arrOf st)))).isNone=true:=by
   show (failedOf mR).isNone=true;rw [tE.failed];rfl
  have C9:arrOf (zan mR g)=arrOf st:=sH;show wpS _ _ _ _ (pure (failedOf (setArr (zan mR g) (wb (sa+k) out.toList.zipIdx (arrOf (zan mR g))))).isNone) Q (setArr (zan mR g) (wb (sa+k) out.toList.zipIdx (arrOf (zan mR g))));rw [C9,xQ];refine aA (h _ ⟨pd.trans hB.perm,tE.kind,tE.failed⟩ ql (fun n hn=>?_) ?_)
  ·show (wb (sa+k) out.toList.zipIdx (arrOf st))[n]? = _;rw [lK,if_neg #[O]]
  ·show SIn val (wb (sa+k) out.toList.zipIdx (arrOf st)) sa (sb+nb);have oI:∀ n,sa+k≤n→n < sb+m→∃ q,sa+k≤q∧q < sb+m∧Vk val (wb (sa+k) out.toList.zipIdx (arrOf st)) n=Vk val (arrOf st) q:=fun n h1 h2=>by
    have ho:n - (sa+k) < out.size:=by lia
    have qO:out[n - (sa+k)]? = some out[n - (sa+k)]:=getElem?_pos out _ ho;have lV:out[n - (sa+k)]∈((arrOf st).extract (sa+k) sb).toList++((arrOf st).extract sb (sb+m)).toList:=hG.1.mem_iff.mp #[M];have hv:Vk val (wb (sa+k) out.toList.zipIdx (arrOf st)) n=val out[n - (sa+k)]:=zV (by rw [lK,if_pos ⟨h1,h2⟩,qO]);rcases aL.mp lV with lV | lV
    ·obtain⟨q,q1,q2,q3⟩:=zdV #[O] lV;exact⟨q,q1,#[O],by rw [hv,zV q3]⟩
    ·obtain⟨q,q1,q2,q3⟩:=zdV #[O] lV;exact⟨q,#[O],q2,by rw [hv,zV q3]⟩
   have qr:∀ n,¬ (sa+k≤n∧n < sb+m)→Vk val (wb (sa+k) out.toList.zipIdx (arrOf st)) n=Vk val (arrOf st) n:=fun n hn=>zaf (by rw [lK,if_neg hn])
   intro p q h1 h2 h3;by_cases hp:p < sa+k
   ·rw [qr p #[O]];by_cases hq:q < sa+k
    ·rw [qr q #[O]];exact sA p q h1 h2 #[O]
    ·have key:∀ q',sa+k≤q'→q' < sb+nb→Vk val (arrOf st) p≤Vk val (arrOf st) q':=fun q' a1 a2=>by
      by_cases n5:q' < sb
      ·exact sA p q' h1 #[O] #[O]
      ·exact bY (yq p h1 hp) (sB sb q' #[O] #[O] a2)
     by_cases nh:q < sb+m
     ·obtain⟨q',q1,q2,q3⟩:=oI q #[O] nh;rw [q3];exact key q' q1 #[O]
     ·rw [qr q #[O]];exact key q #[O] h3
   ·by_cases qg:p < sb+m
    ·by_cases nh:q < sb+m
     ·have yt:p - (sa+k) < out.size:=by lia
      have qO:q - (sa+k) < out.size:=by lia
      rw [zV (p:=out[p - (sa+k)]) (by rw [lK,if_pos #[O]]; exact getElem?_pos out _ yt),zV (p:=out[q - (sa+k)]) (by rw [lK,if_pos #[O]]; exact getElem?_pos out _ qO)];by_cases hpq:p=q
      ·subst hpq;exact bP _
      ·have:=dv.mp hG.2 (p - (sa+k)) (q - (sa+k)) (by simpa using yt) (by simpa using qO) #[O];simpa using this
     ·obtain⟨p',p1,p2,p3⟩:=oI p #[O] qg;rw [p3,qr q #[O]];by_cases pT:p' < sb
      ·exact bY (sA p' (sa+na - 1) #[O] #[O] #[O]) (vn q #[O] h3)
      ·exact sB p' q #[O] #[O] h3
    ·rw [qr p #[O],qr q #[O]];exact sB p q #[O] h2 h3
 have ma:∀ p∈((arrOf st).extract (sa+k) sb).toList,p∈a₀.toList:=fun p hp=>by
  obtain⟨q,q1,q2,q3⟩:=zdV #[O] hp;obtain⟨p',e,m'⟩:=uK q #[O];rw [q3] at e;cases e;exact m'
 have mb:∀ p∈((arrOf st).extract sb (sb+m)).toList,p∈a₀.toList:=fun p hp=>by
  obtain⟨q,q1,q2,q3⟩:=zdV #[O] hp;obtain⟨p',e,m'⟩:=uK q #[O];rw [q3] at e;cases e;exact m'
 have ss1:=zh3 (val:=val) (xs:=arrOf st) (i:=sa+k) (j:=sb) #[O] (sA.sub #[O] #[O]);have ss2:=zh3 (val:=val) (xs:=arrOf st) (i:=sb) (j:=sb+m) #[O] (sB.sub #[O] #[O]);by_cases hle:na - k≤m
 ·rw [if_pos hle];exact aw (zi3 (a:=(arrOf st).extract (sa+k) sb) (b:=(arrOf st).extract sb (sb+m)) hC tE.kind ma mb ss1 ss2 #[O] #[O] hf hl fin)
 ·rw [if_neg hle];exact aw (zi4 (a:=(arrOf st).extract (sa+k) sb) (b:=(arrOf st).extract sb (sb+m)) hC tE.kind ma mb ss1 ss2 #[O] #[O] hf hl fin)
end
end Srt
end
section
namespace Srt
open PySem PyProof.Rows
def Runs (val:Keyed→Int) (xs:Array Keyed):List (Nat×Nat×Nat)→Nat→Nat→Prop
 | [],lo,hi=>lo=hi
 | (s,n,_) :: r,lo,hi=>s=lo∧1≤n∧SIn val xs lo (lo+n)∧Runs val xs r (lo+n) hi
section
variable {val:Keyed→Int}
theorem Runs.le {xs:Array Keyed}:∀ {p:List (Nat×Nat×Nat)} {lo hi:Nat},Runs val xs p lo hi→lo+p.length≤hi
 | [],lo,hi,h=>by
  have h:lo=hi:=h;simp only [ik];lia
 | (s,n,w) :: r,lo,hi,h=>by
  obtain⟨_,h1,_,h2⟩:=h;have:=h2.le;simp only [br];lia
theorem Runs.append {xs:Array Keyed}:∀ {p q:List (Nat×Nat×Nat)} {lo hi:Nat},Runs val xs (p++q) lo hi↔∃ mid,Runs val xs p lo mid∧Runs val xs q mid hi
 | [],q,lo,hi=>⟨fun h=>⟨lo,rfl,h⟩,fun ⟨mid,h1,h2⟩=>by
   have h1:lo=mid:=h1;subst h1;exact h2⟩
 | (s,n,w) :: p,q,lo,hi=>by
  constructor
  ·rintro⟨h1,h2,h3,h4⟩;obtain⟨mid,h5,h6⟩:=Runs.append.mp h4;exact⟨mid,⟨h1,h2,h3,h5⟩,h6⟩
  ·rintro⟨mid,⟨h1,h2,h3,h5⟩,h6⟩;exact⟨h1,h2,h3,Runs.append.mpr ⟨mid,h5,h6⟩⟩
theorem Runs.keep {xs ys:Array Keyed}:∀ {p:List (Nat×Nat×Nat)} {lo hi:Nat},Runs val xs p lo hi→(∀ k,lo≤k→k < hi→ys[k]? = xs[k]?)→Runs val ys p lo hi
 | [],lo,hi,h,_=>h
 | (s,n,w) :: p,lo,hi,h,e=>by
  obtain⟨h1,h2,h3,h4⟩:=h;have:=h4.le;refine⟨h1,h2,fun i j a b c=>?_,h4.keep fun k a b=>e k #[O] b⟩;rw [zaf (e i #[O] #[O]),zaf (e j #[O] #[O])];exact h3 i j a b c
theorem zkm {α:Type} (p q:List α) (x y v:α):((p++x :: y :: q).toArray.setIfInBounds p.length v).eraseIdxIfInBounds (p.length+1)=(p++v :: q).toArray:=by
 simp [Array.eraseIdxIfInBounds];rw [List.eraseIdx_append_of_length_le #[O],show p.length+1 - p.length=1 by lia];rfl
theorem zkn {α:Type} (q:List α) (z:α) (f:α→α):(q++[z]).toArray.modify ((q++[z]).toArray.size - 1) f=(q++[f z]).toArray:=by
 apply Array.ext';simp;induction q with
 | nil=>rfl
 | cons a q ih =>
  show (a :: (q++[z])).modify (q.length+1) f=a :: (q++[f z]);rw [List.modify_succ_cons,ih]
theorem zh4 {xs:Array Keyed} {p:List (Nat×Nat×Nat)} {n:Nat} (hl:p.length≤1) (hn:1≤n) (h:Runs val xs p 0 n):SIn val xs 0 n:=by
 match p,hl,h with
 | [],_,h =>
  have h:0=n:=h;lia
 | [(a,b,c)],_,h =>
  obtain⟨_,_,h3,h4⟩:=h;have h4:0+b=n:=h4;rw [← h4];exact h3
 | _ :: _ :: _,hl,_=>simp at hl
theorem zi7 {α:Type} {p:List α} {j:Nat} (h:j+2≤p.length):∃ pre x y post,p=pre++x :: y :: post∧pre.length=j:=by
 refine⟨p.take j,p[j],p[j+1],p.drop (j+2),?_,by rw [aD]; lia⟩;have e1:=(b9 j p).symm;rw [cq (show j < p.length by lia),cq (show j+1 < p.length by lia)] at e1;exact e1
end
section
variable {prog:Program} {w:World} {A:Around} {E:Value→Shared→Prop} {s:Shared} {a₀:Array Keyed} {κ:SortKind} {val:Keyed→Int}
theorem zgt {st:SortSt} {pre post:List (Nat×Nat×Nat)} {x y:Nat×Nat×Nat} {hi:Nat} {Q:Bool→SortSt→Prop} (hC:Cmp prog w A s κ val a₀) (hB:SB κ a₀ st) (hp:pendingOf st=(pre++x :: y :: post).toArray) (hR:Runs val (arrOf st) (pre++x :: y :: post) 0 hi) (uH:hi≤a₀.size)
  (h:∀ kC v,SB κ a₀ kC→pendingOf kC=(pre++v :: post).toArray→(∀ k,hi≤k→(arrOf kC)[k]? = (arrOf st)[k]?)→Runs val (arrOf kC) (pre++v :: post) 0 hi→Q true kC) :
  wpS (model prog w) A E s (mergeAt' pre.length) Q st:=by
 obtain⟨sa,na,pw⟩:=x;obtain⟨sb,nb,pw2⟩:=y;obtain⟨mid,r1,r2⟩:=Runs.append.mp hR;obtain⟨rfl,q1,q2,rfl,q4,q5,r3⟩:=r2;have hle:=r3.le;refine zi6 (i:=pre.length) (sa:=sa) (na:=na) (pw:=pw) (sb:=sa+na) (nb:=nb) (pw2:=pw2) hC hB (by rw [hp]; simp) (by rw [hp]; simp) rfl q1 q4 #[O] q2 q5 fun kC mW pT hk hs=>?_
 refine h kC (sa,na+nb,pw) mW (by rw [pT,hp,zkm]) (fun k rn=>hk k #[O]) ?_;refine Runs.append.mpr ⟨sa,r1.keep fun k _ b=>hk k #[O],rfl,#[O],?_,?_⟩
 ·rw [← Nat.add_assoc];exact hs
 ·rw [← Nat.add_assoc];exact r3.keep fun k a b=>hk k #[O]
theorem zln {n:Nat} {c:Prop} [Decidable c] (h:¬ n≤1):(if c then n - 2 - 1 else n - 2)+2≤n:=by
 by_cases hc:c
 ·rw [if_pos hc];lia
 ·rw [if_neg hc];lia
theorem zko {st:SortSt} {p:List (Nat×Nat×Nat)} {j hi:Nat} {Q:Bool→SortSt→Prop} (hj:j+2≤p.length) (hC:Cmp prog w A s κ val a₀) (hB:SB κ a₀ st) (hp:pendingOf st=p.toArray) (hR:Runs val (arrOf st) p 0 hi) (uH:hi≤a₀.size)
  (h:∀ kC p',SB κ a₀ kC→pendingOf kC=p'.toArray→Runs val (arrOf kC) p' 0 hi→p'.length+1=p.length→Q true kC):wpS (model prog w) A E s (mergeAt' j) Q st:=by
 obtain⟨pre,x,y,post,rfl,rfl⟩:=zi7 hj;exact zgt hC hB hp hR uH fun kC v a b _ d=>h kC _ a b d (by simp only [ap,br]; lia)
theorem zmZ {st:SortSt} {Q:Unit→SortSt→Prop} (hC:Cmp prog w A s κ val a₀) (hB:SB κ a₀ st) (hp:pendingOf st = #[]) (h2:1≤a₀.size)
  (h:∀ kC,SB κ a₀ kC→SIn val (arrOf kC) 0 a₀.size→Q () kC):wpS (model prog w) A E s sortRuns' Q st:=by
 rw [sortRuns'_eq];refine aw (eX ?_);dsimp only;rw [hB.size];generalize minRun' a₀.size a₀.size 0=mr;refine aw (dg (cC (I:=fun x c kC=>∃ lo p,c=(none,lo)∧SB κ a₀ kC∧pendingOf kC=p.toArray∧Runs val (arrOf kC) p 0 lo∧lo≤a₀.size∧min x a₀.size≤lo)
  (Q:=fun c kC=>∃ p,c=(none,a₀.size)∧SB κ a₀ kC∧pendingOf kC=p.toArray∧Runs val (arrOf kC) p 0 a₀.size) ?step ?fin ⟨0,[],rfl,hB,hp,rfl,#[O],#[O]⟩) ?post)
 case fin =>
  rintro c kC ⟨lo,p,rfl,mW,pT,hR,oR,hx⟩;have:lo=a₀.size:=by lia
  subst this;exact⟨p,rfl,mW,pT,hR⟩
 case step =>
  rintro x c kC _ hx ⟨lo,p,rfl,mW,pT,hR,oR,tF⟩;dsimp only;by_cases mQ:lo≥a₀.size
  ·rw [if_pos mQ];have:lo=a₀.size:=by lia
   subst this;exact aA ⟨p,rfl,mW,pT,hR⟩
  rw [if_neg mQ];refine aw (zli hC #[O] #[O] (SF.refl mW) fun m mR hF1 uk qV hs1=>?_);dsimp only;apply zoq
  ·intro k1 k2;by_cases C':m < mr
   ·rw [if_pos C']
    (refine aw (fY (cg ⟨rfl,?_⟩)))
    refine aw (znQ hC #[O] #[O] hF1 hs1 fun lH vo nc=>?_);rw [if_neg #[D]];have vi:1≤min (a₀.size - lo) mr:=by lia
    have qS:lo+min (a₀.size - lo) mr≤a₀.size:=by lia
    generalize min (a₀.size - lo) mr=n at nc vi qS ⊢
    revert qS; revert vi; revert nc; revert vo; revert lH; revert n
    exact k1 ()
   ·rw [if_neg C'];have qS:lo+m≤a₀.size:=by lia
    clear qV C'
    revert qS; revert uk; revert hs1; revert hF1; revert mR; revert m
    exact k2 ()
  intro n lH vo nc vi qS;refine aw (eX ?_);have ql:pendingOf lH=p.toArray:=vo.pend.trans pT;have xq:Runs val (arrOf lH) p 0 lo:=hR.keep fun k _ b=>vo.low k b
  rcases iH p with rfl | ⟨q,z,rfl⟩
  ·rw [ql];show wpS _ _ _ _ (do
    modify fun s=>setPending s ((pendingOf s).push (lo,n,0)); pure (cp (none,lo+n))) _ _
   refine aw (er (aA ⟨lo+n,[(lo,n,0)],rfl,⟨vo.b.perm,vo.b.kind,vo.b.failed⟩,?_,?_,#[O],#[O]⟩))
   ·show (pendingOf lH).push _=_;rw [ql];rfl
   ·have h0:0=lo:=xq;subst h0;exact⟨rfl,vi,nc,rfl⟩
  obtain⟨s1,n1,w1⟩:=z;rw [ql,fw,show ((q++[(s1,n1,w1)]).toArray).back? = some (s1,n1,w1) by simp];rw [fw] at ql xq;dsimp only;generalize power' a₀.size (2*s1+n1) (2*s1+n1+n1+n) a₀.size=pw;refine aw (dg (cC (I:=fun _ c kC=>c=(none,())∧∃ q' z,SB κ a₀ kC∧pendingOf kC=(q'++[z]).toArray∧Runs val (arrOf kC) (q'++[z]) 0 lo∧(∀ k,lo≤k→(arrOf kC)[k]? = (arrOf lH)[k]?))
   (Q:=fun c kC=>c=(none,())∧∃ q' z,SB κ a₀ kC∧pendingOf kC=(q'++[z]).toArray∧Runs val (arrOf kC) (q'++[z]) 0 lo∧(∀ k,lo≤k→(arrOf kC)[k]? = (arrOf lH)[k]?)) ?_ (fun _ _ hh=>hh) ⟨rfl,q,(s1,n1,w1),vo.b,ql,xq,fun _ _=>rfl⟩) ?_)
  ·rintro x2 c lH _ uq ⟨rfl,q',z,pB,qg,tG,pU⟩;refine aw (eX ?_);rcases iH q' with rfl | ⟨q2,y,rfl⟩
   ·rw [qg,if_neg #[M]];exact aA ⟨rfl,[],z,pB,qg,tG,pU⟩
   rw [fw,bi] at qg tG;have esz:(pendingOf lH).size - 2=q2.length:=by rw [qg]; simp
   have eel:(if (pendingOf lH).size > 1 then (pendingOf lH)[(pendingOf lH).size - 2]? else none)=some y:=by
    rw [if_pos (by rw [qg]; simp),esz,qg];simp
   rw [eel];obtain⟨y1,y2,y3⟩:=y;dsimp only;by_cases ho:y3≤pw
   ·rw [if_pos ho];exact aA ⟨rfl,q2++[(y1,y2,y3)],z,pB,by rw [qg,bi],by rw [bi]; exact tG,pU⟩
   ·rw [if_neg ho,esz];refine aw (zgt hC pB qg tG #[O] fun AV v Dc Dd vm De=>?_);rw [if_neg #[D]];exact aA ⟨rfl,q2,v,Dc,Dd,De,fun k hk=>(vm k hk).trans (pU k hk)⟩
  ·rintro c lH ⟨rfl,q',z,pB,qg,tG,pU⟩;obtain⟨z1,z2,z3⟩:=z;dsimp only;refine aw (er (aw (er (aA ⟨lo+n,q'++[(z1,z2,pw),(lo,n,0)],rfl,⟨pB.perm,pB.kind,pB.failed⟩,?_,?_,#[O],#[O]⟩))))
   ·show ((pendingOf lH).modify ((pendingOf lH).size - 1) fun x=>(x.fst,x.2.fst,pw)).push (lo,n,0)=_;rw [qg,zkn];simp
   ·show Runs val (arrOf lH) _ _ _;obtain⟨mid,r1,r2⟩:=Runs.append.mp tG;obtain⟨e1,e2,e3,e4⟩:=r2;have e4:mid+z2=lo:=e4;refine Runs.append.mpr ⟨mid,r1,e1,e2,e3,e4.symm,vi,?_,?_⟩
    ·intro i j a1 a2 a3;rw [zaf (pU i #[O]),zaf (pU j #[O])];exact nc i j #[O] a2 #[O]
    ·show mid+z2+n=lo+n;lia
 case post =>
  rintro c mR ⟨p,rfl,tE,ql,xq⟩;dsimp only;have kW:=xq.le;refine aw (dg (cC (I:=fun x c kC=>c=(none,())∧∃ p,SB κ a₀ kC∧pendingOf kC=p.toArray∧Runs val (arrOf kC) p 0 a₀.size∧p.length≤max 1 (a₀.size - x))
   (Q:=fun c kC=>c=(none,())∧SB κ a₀ kC∧SIn val (arrOf kC) 0 a₀.size) ?_ ?_ ⟨rfl,p,tE,ql,xq,#[O]⟩) ?_)
  ·rintro x c lH _ hx ⟨rfl,p2,pB,qg,tG,rk⟩;refine aw (eX ?_);have hsz:(pendingOf lH).size=p2.length:=by rw [qg]; simp
   rw [hsz];by_cases hle:p2.length≤1
   ·rw [if_pos hle];exact aA ⟨rfl,pB,zh4 hle h2 tG⟩
   rw [if_neg hle];refine aw (zko (p:=p2) (zln hle) hC pB qg tG (af _) fun AV p3 Dc Dd De hl3=>?_);rw [if_neg #[D]];exact aA ⟨rfl,p3,Dc,Dd,De,#[O]⟩
  ·rintro c lH ⟨rfl,p2,pB,qg,tG,rk⟩;exact⟨rfl,pB,zh4 #[O] h2 tG⟩
  ·rintro c lH ⟨rfl,pB,hS⟩;exact aA (h lH pB hS)
end
end Srt
end
section
namespace Srt
open PySem PyProof.Rows
def num (B:Int):List Int→Int
 | []=>0
 | n :: r=>n*B ^ r.length+num B r
theorem num_rng {B:Int} (hB:1≤B):∀ {ns:List Int},(∀ n∈ns,0≤n∧n < B)→0≤num B ns∧num B ns < B ^ ns.length
 | [],_=>by simp [num]
 | n :: r,h=>by
  obtain⟨h1,h2⟩:=num_rng hB (ns:=r) fun m hm=>h m (av _ hm)
  obtain⟨a,b⟩:=h n #[M];have hp:0 < B ^ r.length:=Int.pow_pos #[O];have e:B ^ (n :: r).length=B ^ r.length*B:=by rw [br,fK]
  show 0≤n*B ^ r.length+num B r∧n*B ^ r.length+num B r < _;rw [e];have h3:0≤n*B ^ r.length:=j8 a #[O];have h4:n*B ^ r.length≤(B - 1)*B ^ r.length:=cu #[O] #[O];have h5:(B - 1)*B ^ r.length=B ^ r.length*B - B ^ r.length:=by rw [Int.sub_mul,f8,dE]
  lia
def zgu:List Int→List Int→Bool
 | [],[]=>false
 | [],_ :: _=>true
 | _ :: _,[]=>false
 | x :: xs,y :: ys=>if x=y then zgu xs ys else decide (x < y)
theorem zcu (x y:Int) (xs ys:List Int):zgu (x :: xs) (y :: ys)=if x=y then zgu xs ys else decide (x < y):=rfl
theorem zh5 {B:Int} (hB:1≤B):∀ {ms ns:List Int},ms.length=ns.length→(∀ n∈ms,0≤n∧n < B)→(∀ n∈ns,0≤n∧n < B)→zgu ms ns=decide (num B ms < num B ns)
 | [],[],_,_,_=>by simp [zgu,num]
 | [],_ :: _,h,_,_=>by simp at h
 | _ :: _,[],h,_,_=>by simp at h
 | m :: ms,n :: ns,hl,h1,h2=>by
  have u5:ms.length=ns.length:=by simpa using hl
  have ih:=zh5 hB u5 (fun x hx=>h1 x (av _ hx)) (fun x hx=>h2 x (av _ hx));obtain⟨a1,a2⟩:=num_rng hB fun x hx=>h1 x (av m hx)
  obtain⟨b1,b2⟩:=num_rng hB fun x hx=>h2 x (av n hx)
  rw [zcu];show _=decide (m*B ^ ms.length+num B ms < n*B ^ ns.length+num B ns);rw [u5] at a2 ⊢;have hp:0 < B ^ ns.length:=Int.pow_pos #[O];by_cases e:m=n
  ·rw [if_pos e,ih,e];rw [bN];simp only [decide_eq_true_eq];lia
  ·rw [if_neg e,bN];simp only [decide_eq_true_eq];have key:∀ x y:Int,x < y→x*B ^ ns.length+B ^ ns.length≤y*B ^ ns.length:=fun x y hxy=>by
    have:=cu (show x+1≤y by lia) (show 0≤B ^ ns.length by lia);rw [Int.add_mul,f8] at this;exact this
   constructor
   ·intro h;have:=key m n h;lia
   ·intro h;rcases jz m n with h3 | h3 | h3
    ·exact h3
    ·exact absurd h3 e
    ·have:=key n m h3;lia
section
variable {prog:Program} {w:World} {A:Around} {E:Value→Shared→Prop} {s:Shared}
theorem zh6 {Q:Bool→Shared→Prop} {fin:Bool}:∀ {xs ys:List Value} {ms ns:List Int} (i:Nat),IntsAre xs ms→IntsAre ys ns→ms.length=ns.length→Q (if ms=ns then fin else zgu ms ns) s→PySem.W.KatLex prog w A true fin Q (xs.zip ys) i s
 | [],[],[],[],i,_,_,_,h=>PySem.W.kat_nil (by simpa using h)
 | _ :: _,_,[],_,_,hx,_,_,_=>by cases hx
 | [],_,_ :: _,_,_,hx,_,_,_=>by cases hx
 | _,[],_,_ :: _,_,_,hy,_,_=>by cases hy
 | _,_ :: _,_,[],_,_,hy,_,_=>by cases hy
 | x :: xs,y :: ys,m :: ms,n :: ns,i,hx,hy,hl,h=>by
  cases hx with
  | cons _ t hx =>
   cases hy with
   | cons _ u hy =>
    refine PySem.W.kat_cons (wpAny_eqBool_int ?_);by_cases e:m=n
    ·rw [show (m == n)=true by simpa using e];refine PySem.W.kat_yes (zh6 (i+1) hx hy (by simpa using hl) ?_);subst e;rw [zcu,if_pos rfl] at h;simpa using h
    ·rw [show (m == n)=false by simpa using e];have lA:¬ (m :: ms=n :: ns):=fun z=>e (iY z).1
     rw [if_neg lA,zcu,if_neg e] at h;refine PySem.W.kat_no ?_;by_cases hi:i=0
     ·subst hi;exact oneLt_int h
     ·have hb:(true && i == 0)=false:=by simp [hi]
      rw [hb];exact PySem.W.kat_one _ _ (wpAny_lt_int h)
end
end Srt
end
section
namespace PySem
open PyProof.Rows
def zer (h:Heap) (d:Addr) (es:Array DictEntry) (ep:Nat):Prop:=∃ o,h.get? d=some o∧o.ExactDict∧o.data = .dict es ep
theorem zer.at' {h h':Heap} {d:Addr} {es:Array DictEntry} {ep:Nat} (x:zer h d es ep) (e:∀ o,h.get? d=some o→h'.get? d=some o):zer h' d es ep:=let ⟨o,ho,r⟩:=x; ⟨o,e _ ho,r⟩
theorem zer.typeIs {s:Shared} {d:Addr} {es:Array DictEntry} {ep:Nat} (x:zer s.heap d es ep):s.TypeIs (.ref d) "dict":=let ⟨o,ho,hc,_⟩:=x; ⟨o,ho,hc.1⟩
section
variable {prog:Program} {w:World} {A:Around} {E:Value→Shared→Prop} {s:Shared} {it d:Addr} {i ep:Nat} {es:Array DictEntry}
theorem zkp {Q:Value→Shared→Prop} (hd:(d == sysModules)=false) (hm:zer s.heap d es ep) (hQ:Q (.ref s.heap.objs.size) { s with heap:=s.heap.push { cls:=.type "dict_keyiterator",data:=.fields #[.ref d,.int 0 0,.int es.size 0,.int ep 0] } }):wpAny (model prog w) A (pyIter (.ref d)) Q E s:=by
 have hT:=hm.typeIs;obtain⟨o,ho,hc,yu⟩:=id hm;refine gB hT jP (bq jP hT F.entry_dict_iter ?_ (F.args_dict_iter_1 _)); unfold Builtin.«dict.__iter__» Builtin.Dict.dictSlotNone;refine ae (ae (wpAny_notOrdered_dict hT ?_)); show wpAny _ _ (pure (bf d)) _ _ s;refine ak ?_; show wpAny _ _ (iI d >>= _) _ _ s; unfold iI;rw [if_neg (show ¬ ((d == sysModules)=true) by rw [hd]; decide)];refine ae (ak (ae (gD ho yu (ae (il ho yu (ae (bL (ak ⟨_,rfl,"dict_keyiterator",_,⟨_,aH _ rfl,rfl⟩,F.slot_dict_keyiterator_next.lookup,?_⟩))))))));simpa [rawInt] using hQ
theorem zkq {e:DictEntry} {Q:Option Value→Shared→Prop} (hit:s.heap.IsKeyIter it d i es.size ep) (hm:zer s.heap d es ep) (he:es[i]? = some e)
  (hQ:∀ h',h'.IsKeyIter it d (i+1) es.size ep→bg it s.heap h'→Q (some e.key) { s with heap:=h' }):wpAny (model prog w) A (pyNext (.ref it)) Q E s:=by
 (obtain⟨o,ho,hc,hd⟩:=id hit)
 obtain⟨od,yw,rj,yx⟩:=id hm;have kU:i < es.size:=(cM.mp he).1;have wx:fZ "dict_keyiterator" = false:=by decide +kernel
 unfold pyNext; refine ae (cL (be (name:=bV "__next__") hit.typeIs dh (bq dh hit.typeIs fO ?_ (fL _))));refine ae (ak (ae (ae (ae (da hit.typeIs (ak (ae (wpAny_fieldsOf ho hd ?_))))))));simp only [wx,bj,if_false]; show wpAny _ _ (if (bf d == di)=true then _ else _) _ _ s;rw [if_neg (show ¬ ((bf d == di)=true) from fun z=>aO z)];refine ae (ak (ae (gD yw yx ?_)));rw [if_neg (show ¬ ((((es.size:Nat):Int) != ((es.size:Nat):Int))=true) by simp)];refine ae (ak (ae (il yw yx ?_)));rw [if_neg #[M]]; refine ak ?_;simp only [show ¬ ((i:Int) < 0) by lia,if_false,bw,he];refine ae (ae (da hit.typeIs (ak (ae (iJ hit.typeIs ?_)))));show wpAny _ _ (setField (.ref it) 1 (rawInt ((i:Int)+1)) >>= _) _ _ s; refine ae (dA ho hd #[M] ?_);have qj:(s.heap.update it (gn (·.setIfInBounds 1 (rawInt ((i:Int)+1))))).IsKeyIter it d (i+1) es.size ep:=⟨_,dm _ ho (ee (cQ hd _)),(gA ..).trans hc,by rw [cQ hd]; simp [rawInt]⟩;refine ae (b8 (ae (iJ (s:={ s with heap:=s.heap.update it (gn (·.setIfInBounds 1 (rawInt ((i:Int)+1)))) }) qj.typeIs ?_)));show wpAny _ _ (pure e.key) _ _ _; exact ak (ak ⟨_,rfl,ak (hQ _ qj (cG ..))⟩)
theorem zlo {Q:Option Value→Shared→Prop} (hh:A.handled=none) (hit:s.heap.IsKeyIter it d i es.size ep) (hm:zer s.heap d es ep) (he:es.size≤i) (hQ:∀ h',jE it s.heap h'→Q none { s with heap:=h' }):wpAny (model prog w) A (pyNext (.ref it)) Q E s:=by
 (obtain⟨o,ho,hc,hd⟩:=id hit)
 obtain⟨od,yw,rj,yx⟩:=id hm;have wx:fZ "dict_keyiterator" = false:=by decide +kernel
 unfold pyNext; refine ae (cL (be (name:=bV "__next__") hit.typeIs dh (bq dh hit.typeIs fO ?_ (fL _))));refine ae (ak (ae (ae (ae (da hit.typeIs (ak (ae (wpAny_fieldsOf ho hd ?_))))))));simp only [wx,bj,if_false]; show wpAny _ _ (if (bf d == di)=true then _ else _) _ _ s;rw [if_neg (show ¬ ((bf d == di)=true) from fun z=>aO z)];refine ae (ak (ae (gD yw yx ?_)));rw [if_neg (show ¬ ((((es.size:Nat):Int) != ((es.size:Nat):Int))=true) by simp)];refine ae (ak (ae (il yw yx ?_)));rw [if_neg #[M]]; refine ak ?_;simp only [show ¬ ((i:Int) < 0) by lia,if_false,bw,Array.getElem?_eq_none he];refine ae (ae (da hit.typeIs (ak ?_)));show wpAny _ _ (setField (.ref it) 0 .none >>= _) _ _ s; refine ae (dA ho hd #[M] ?_);show wpAny _ _ (newExc (.type "StopIteration") [] >>= _) _ _ _; simp only [newExc,newTuple];refine ae (ae (bL (ae (m:=firstArgMember _ _) (dX (a:=di) (by first | rfl | (simp only [firstArgMember]; rfl)) (bL ?_ (by size_fits)))) (by size_fits)));simp only [raiseNew]; refine ae (iX ?_); rw [show A.in1.handled=none from hh];refine ae (ak (jF ?_)); refine ae (ek (T:="StopIteration") (b:=true) ⟨_,aH _ rfl,rfl⟩ fU ?_)
 (exact ak (hQ _ (((cG ..).extBut.push _).push _)))
theorem zi8 (hh:A.handled=none) (I d:Addr) (lA:d≠I) (es:Array DictEntry) (ep:Nat) :
  Walks prog w A I [I,d] [I] es.size (fun i v=>∃ e,es[i]? = some e∧v=e.key) (fun i h=>h.IsKeyIter I d i es.size ep∧zer h d es ep) where
 sub:=(fun b hb=>by simp at hb; simp [hb])
 frame:=(fun _ _ _ st hk=>⟨st.1.at fun o e=>hk I #[M] o e,st.2.at' fun o e=>hk d #[M] o e⟩)
 item:=fun i s Q E hi st hQ=>zkq st.1 st.2 (getElem?_pos es i hi) fun h' qj mT=>hQ _ h' s.toks ⟨es[i],getElem?_pos es i hi,rfl⟩ ⟨qj,st.2.at' fun o e=>mT.extBut d o lA e⟩ fun b o hb e=>mT.extBut b o (fun h=>hb (by simp [h])) e
 done:=fun s Q E st hQ=>zlo hh st.1 st.2 (af _) fun h' vf=>hQ h' s.toks fun b o hb e=>vf b o (fun h=>hb (by simp [h])) e
 self:=(fun _ _ _ _ st hQ=>wpAny_pyIter_keyiter st.1 hQ)
theorem zlp (lo:(d == sysModules)=false):PySem.W.KdlSrc prog w "dict" d d es.size (fun i v=>∃ e,es[i]? = some e∧v=e.key) (fun h=>zer h d es ep) where
 type:=fun _ hm=>hm.typeIs
 there:=fun _ hm=>let ⟨_,ho,_⟩:=hm; ⟨aI ho,aI ho⟩
 keep:=(fun _ _ hm hk=>hm.at' fun o e=>hk d (.inl rfl) o e)
 notList:=by decide
 notTuple:=by decide
 hint:=fun _ _ _ _ hm hq=>PySem.W.kdl_hint_dict hm.typeIs hq
 iter:=fun _ _ hh hm=>⟨_,_,(fun _ _ hq=>zkp lo hm hq),zi8 hh _ d (by obtain⟨_,ho,_⟩:=id hm; exact bp (aI ho)) es ep,⟨⟨_,aH _ rfl,rfl,rfl⟩,hm.at' fun o e=>ai _ e⟩⟩
end
end PySem
end
section
namespace Srt
open PySem PyProof.Rows
section
variable {prog:Program} {w:World} {A:Around} {E:Value→Shared→Prop} {s:Shared} {κ:SortKind} {val:Keyed→Int}
theorem zdr {vs:List Value} {p:Keyed} (h:p∈(pairsOf vs).toList):p.1∈vs∧p.2=p.1:=by
 rw [iK] at h;obtain⟨i,hi,e⟩:=dL h;rw [List.getElem_zip] at e;rw [← e];exact⟨gS _,rfl⟩
theorem zm0 {vs:List Value} {xs:Array Keyed} (hp:xs.Perm (pairsOf vs)) (hs:SIn val xs 0 (pairsOf vs).size):(xs.map (·.2)).toList.Perm vs∧(xs.map (·.2)).toList.Pairwise fun x y=>val (x,x)≤val (y,y):=by
 (have hl:xs.toList.Perm (vs.zip vs):=by rw [← iK]; exact eB.mp hp)
 have hm:∀ p∈xs.toList,p=(p.2,p.2):=fun p pT=>by
  have:=zdr (by rw [iK]; exact hl.mem_iff.mp pT);exact km this.2.symm rfl
 constructor
 ·rw [jQ];refine (hl.map (·.2)).trans ?_;rw [show (vs.zip vs).map (·.2)=vs from List.map_snd_zip (af _)]
 ·rw [jQ,bM,dv];intro i j hi hj oO
  (have nB:i < xs.size:=by simpa using hi)
  (have oj:j < xs.size:=by simpa using hj)
  have h1:=hs i j (bu _) #[O] (by rw [← hp.size_eq]; exact oj);rw [zV (getElem?_pos xs i nB),zV (getElem?_pos xs j oj)] at h1;have e1:=hm xs.toList[i] (gS _);have e2:=hm xs.toList[j] (gS _);rw [← e1,← e2];simpa using h1
theorem zi9 {a:Addr} {vs:List Value} {n:Nat} {P:PySem.Fin→Shared→Prop} (ho:s.heap.get? a=some (seqObj "list" vs.toArray n)) (kG:vs.length≤sizeLine)
  (pS:∀ h',(∀ b o,b≠a→s.heap.get? b=some o→h'.get? b=some o)→2≤vs.length→∀ (Q:SortKind→Shared→Prop) (E:Value→Shared→Prop),Q κ { s with heap:=h' }→wpAny (model prog w) A (keyKind' vs.toArray) Q E { s with heap:=h' })
  (wy:∀ h',(∀ b o,b≠a→s.heap.get? b=some o→h'.get? b=some o)→Cmp prog w A { s with heap:=h' } κ val (pairsOf vs))
  (h:∀ out:Array Value,out.toList.Perm vs→(out.toList.Pairwise fun x y=>val (x,x)≤val (y,y))→P (.done (.ret .none)) { s with heap:=sortedHeap s.heap a vs out }):wpAny (model prog w) A (Builtin.«list.sort» ⟨[.ref a],[]⟩) P E s:=by
 rw [list_sort_plain]
 (have ha:a < s.heap.objs.size:=aI ho)
 have hz:vs.toArray.size=vs.length:=au;refine ae (listItems_at ho rfl (ae (iZ ho rfl ?_ (hsz:=by rw [hz]; exact kG))))
 (obtain⟨e1,yt⟩:∃ e1,(s.heap.update a (cW fun _=>#[])).get? a=some (seqObj "list" #[] e1):=⟨_,get?_update_seq ho (fun _=>#[])⟩)
 refine ae (jH yt rfl (ae (fX (ae (wpAny_newList (b8 ?_))) (hsz:=kG))));have Bh:(((s.heap.update a (cW fun _=>#[])).push (seqObj "tuple" vs.toArray 0)).push (seqObj "list" #[] 0)).get? a=some (seqObj "list" #[] e1):=ai _ (ai _ yt);have hk6:∀ b o,b≠a→s.heap.get? b=some o→(((s.heap.update a (cW fun _=>#[])).push (seqObj "tuple" vs.toArray 0)).push (seqObj "list" #[] 0)).get? b=some o:=fun b o hb e=>ai _ (ai _ ((Heap.get?_update_ne _ _ _ _ hb).trans e))
 (show wpAny (model prog w) A _ P E { s with heap:=((s.heap.update a (cW fun _=>#[])).push (seqObj "tuple" vs.toArray 0)).push (seqObj "list" #[] 0) })
 dsimp only;have xr:=wy _ hk6;have fin:∀ kC:SortSt,SB κ (pairsOf vs) kC∨(arrOf kC=pairsOf vs∧failedOf kC=none)→SIn val (arrOf kC) 0 (pairsOf vs).size →
   P (.done (.ret .none)) { s with heap:=sortedHeap s.heap a vs ((arrOf kC).map (·.2)) }:=fun kC hB hs=>by
  have hp:(arrOf kC).Perm (pairsOf vs):=by
   rcases hB with hB | hB
   ·exact hB.perm
   ·rw [hB.1]
  obtain⟨b1,b2⟩:=zm0 hp hs;exact h _ b1 b2
 (by_cases h2:vs.toArray.size < 2)
 ·rw [if_pos h2,if_pos h2];refine ae (ak ?_); rw [StateT.run_pure]; refine ae (ak ?_);dsimp only;refine ae (jH Bh rfl (ae (iZ Bh rfl ?_ (hsz2:=by rw [j9]; show (pairsOf vs).size≤_; rw [gT]; lia))))
  (simp only [bne_self_eq_false,bj,if_false])
  refine ak (fin (j3 general' (vs.toArray.zip vs.toArray) #[] 7 none) (.inr ⟨rfl,rfl⟩) fun i j _ oO hj=>?_);have e:i=j:=by rw [gT] at hj; lia
  rw [e];exact bP _
 ·rw [if_neg h2,if_neg h2];refine ae (pS _ hk6 #[O] _ _ ?_);refine ae (cJ (zmZ (a₀:=pairsOf vs) (κ:=κ) (val:=val) (st:=j3 κ (vs.toArray.zip vs.toArray) #[] 7 none) (Q:=fun _ kC=>SB κ (pairsOf vs) kC∧SIn val (arrOf kC) 0 (pairsOf vs).size)
   xr ⟨Array.Perm.refl _,rfl,rfl⟩ rfl (by rw [gT]; lia) fun kC a1 a2=>⟨a1,a2⟩) ?_ fun _ _ e=>e)
  rintro⟨⟨⟩,kC⟩ s' ⟨rfl,hB,hs⟩;dsimp only;refine ae (jH Bh rfl (ae (iZ Bh rfl ?_ (hsz2:=aN (Nat.le_of_eq ((j9 ..).trans (hB.perm.size_eq.trans (gT _)))) #[O]))));rw [hB.failed]
  (simp only [bne_self_eq_false,bj,if_false])
  exact ak (fin kC (.inl hB) hs)
theorem zja {v:Value} {vs:List Value} {Q:Value→Shared→Prop} (kG:vs.length≤sizeLine)
  (Df:∀ R:List Value→Shared→Prop,(∀ (h':Heap) (tk:Nat),(∀ b o,s.heap.get? b=some o→h'.get? b=some o)→R vs { s with heap:=h',toks:=tk })→wpAny (model prog w) A.in1 (collect v) R E s)
  (pS:∀ s',(∀ b o,s.heap.get? b=some o→s'.heap.get? b=some o)→2≤vs.length→∀ (A':Around) (Q:SortKind→Shared→Prop) (E:Value→Shared→Prop),Q κ s'→wpAny (model prog w) A' (keyKind' vs.toArray) Q E s')
  (wy:∀ s' A',(∀ b o,s.heap.get? b=some o→s'.heap.get? b=some o)→Cmp prog w A' s' κ val (pairsOf vs))
  (h:∀ (h':Heap) (tk:Nat) (out:Array Value) (e:Nat) (D:Addr),(∀ b o,s.heap.get? b=some o→h'.get? b=some o)→(∀ b o,s.heap.get? b=some o→b < D)→h'.get? D=some (seqObj "list" out e)→out.toList.Perm vs→(out.toList.Pairwise fun x y=>val (x,x)≤val (y,y))→Q (.ref D) { s with heap:=h',toks:=tk }) :
  wpAny (model prog w) A (call (.builtin "sorted") [v]) Q E s:=by
 refine Calls.call_function_entry kind_sorted plain_sorted entry_sorted (args_sorted1 _) ?_; unfold Builtin.«sorted»;refine ae (m:=checkCount "sorted" 1 1 _) (ak (ae (cJ (Df (fun us s'=>us=vs∧∃ (h':Heap) (tk:Nat),s' = { s with heap:=h',toks:=tk }∧∀ b o,s.heap.get? b=some o→h'.get? b=some o) fun h' tk k=>⟨rfl,h',tk,rfl,k⟩) ?_ fun _ _ e=>e)));rintro us s' ⟨rfl,h1,tk,rfl,kk⟩;refine ae (wpAny_newList ?_ (hsz:=kG));have xP:(h1.push (seqObj "list" us.toArray 0)).get? h1.objs.size=some (seqObj "list" us.toArray 0):=aH _ rfl;have kn:∀ b o,s.heap.get? b=some o→b≠h1.objs.size:=fun b o e=>bp (aI (kk b o e))
 refine ae (b8 (bq slot_list_sort ⟨_,xP,rfl⟩ entry_list_sort (zi9 (κ:=κ) (val:=val) xP kG (fun h' hk h2 Q E hq=>pS _ (fun b o e=>hk b o (kn b o e) (ai _ (kk b o e))) h2 _ Q E hq) (fun h' hk=>wy _ _ fun b o e=>hk b o (kn b o e) (ai _ (kk b o e))) fun out a1 a2=>⟨_,rfl,?_⟩) (args_list_sort _)));obtain⟨e,he⟩:=sortedHeap_at (out:=out) xP;refine ak ⟨_,rfl,h _ tk out e h1.objs.size (fun b o x=>?_) (fun b o x=>aI (kk _ _ x)) he a1 a2⟩;rw [sortedHeap_old (kn b o x) (by rw [bK]; exact d6 (aI (kk _ _ x)))];exact ai _ (kk _ _ x)
end
end Srt
end
section
namespace L2
open PySem PySem.Spec PyProof.Rows PySem.Builtin.Str
theorem Inv.above {X:Cx} {ku:List (Addr×Obj)} {σ:St} {H:Hp} {s:Shared} {h':Heap} {tk:Nat} {D:Addr} {o:HO} (I:Inv X ku σ H s) (k:∀ b o,s.heap.get? b=some o→h'.get? b=some o) (hD:∀ b o,s.heap.get? b=some o→b < D)
  (new:zaD X.prog X.w (kB H D o) h' D o):H D=none∧Inv X ku σ (kB H D o) { s with heap:=h',toks:=tk }:=by
 have hn:H D=none:=by
  cases e:H D with
  | none=>rfl
  | some u =>
   obtain⟨ob,z⟩:=zmV (I.hok D u e);exact absurd (hD D ob z) (cj _)
 have hL:X.env.locals < D:=by
  obtain⟨m,⟨o,es,ep,ho,_⟩,_⟩:=I.loc;exact hD _ _ ho
 have I1:Inv X ku σ H { s with heap:=h',toks:=tk }:=I.kept k;refine⟨hn,I1.track hn (gO (Nat.lt_of_le_of_lt I.ok.above hL)) (bp hL) (fun x c e z=>?_) (fun p hp z=>?_) new⟩
 ·obtain⟨v,oc,q,_⟩:=I.cell x c e;exact absurd (hD c oc q) (by rw [z]; exact cj _)
 ·exact absurd (hD p.1 _ (I.pin p hp).1) (by rw [z]; exact cj _)
end L2
end
section
namespace L2
open PySem PySem.Spec PyProof.Rows Srt
def zkr (xs:List V):List Int:=xs.filterMap fun x=>match x with
 | .int n=>some n
 | _=>none
theorem zjb (ns:List Int):zkr (ns.map V.int)=ns:=by
 unfold zkr;rw [jg];induction ns with
 | nil=>rfl
 | cons n ns ih =>
  rw [eC];simp only [Function.comp];rw [ih]
def zc8 (H:Hp) (v:Value):List Int:=match v with
 | .ref a=>(match H a with
  | some (.tup xs)=>zkr xs
  | _=>[])
 | _=>[]
theorem zes {H:Hp} {a:Addr} {ns:List Int} (h:H a=some (.tup (ns.map V.int))):zc8 H (.ref a)=ns:=by
 unfold zc8;simp only [h];exact zjb ns
def zlq (H:Hp) (k:Nat) (B:Int) (ps:List (Addr×List Int)):Prop:=∀ q∈ps,H q.1=some (.tup (q.2.map V.int))∧q.2.length=k∧∀ n∈q.2,0≤n∧n < B
theorem zc9:∀ (ps:List (Addr×List Int)),zM (ps.map fun q=>V.ref q.1) (ps.map fun q=>bf q.1)
 | []=>.nil
 | q :: ps=>.cons rfl (zc9 ps)
section
variable {X:Cx} {ku:List (Addr×Obj)} {σ:St} {H:Hp} {s:Shared} {k:Nat} {B:Int} {ps:List (Addr×List Int)}
theorem zfC (I:Inv X ku σ H s) {q:Addr×List Int} (h:H q.1=some (.tup (q.2.map V.int))):∃ o kz n,s.heap.get? q.1=some o∧o.cls = .type "tuple"∧o.data = .seq kz n∧IntsAre kz.toList q.2:=by
 obtain⟨kz,r,⟨o,ho,hc,n,hd⟩,hz⟩:=I.tuple (kF.of h);exact⟨o,kz.toArray,n,ho,hc,hd,by simpa using intsAre_of r⟩
theorem zm1 (I:Inv X ku σ H s) (hT:zlq H k B ps) (hk:1≤k) {s':Shared} (kk:∀ b o,s.heap.get? b=some o→s'.heap.get? b=some o):∃ fs:List Value,PySem.W.KatTups s'.heap (ps.map fun q=>bf q.1) fs∧fs.length=ps.length∧∀ v∈fs,∃ n t,v=i9 n t:=by
 induction ps with
 | nil=>exact⟨[],trivial,rfl,fun v hv=>by cases hv⟩
 | cons q ps ih =>
  obtain⟨fs,h1,h2,h3⟩:=ih fun q' n5=>hT q' (av _ n5)
  obtain⟨hq,hl,_⟩:=hT q #[M];obtain⟨o,kz,n,ho,hc,hd,hi⟩:=zfC I hq;have kG:=hi.length;obtain⟨m,ms,e⟩:∃ m ms,q.2=m :: ms:=by
   cases e:q.2 with
   | nil=>rw [e] at hl; simp at hl; lia
   | cons m ms=>exact⟨m,ms,rfl⟩
  rw [e] at hi;cases e2:kz.toList with
  | nil=>rw [e2] at hi; cases hi
  | cons f fr =>
   rw [e2] at hi;cases hi with
   | cons _ t hi =>
    refine⟨.int m t :: fs,kt (kk _ _ ho) hc hd ?_ h1,by simp [h2],fun v hv=>?_⟩
    ·rw [← bo,e2];rfl
    ·rcases (aC.mp hv) with rfl | hv
     ·exact⟨m,t,rfl⟩
     ·exact h3 v hv
theorem zfb:∀ ms:List Int,zgu ms ms=false
 | []=>rfl
 | m :: ms=>by rw [zcu,if_pos rfl,zfb ms]
theorem zm2 (I:Inv X ku σ H s) (hT:zlq H k B ps) (hB:1≤B) {s':Shared} {A':Around} (kk:∀ b o,s.heap.get? b=some o→s'.heap.get? b=some o) :
  Cmp X.prog X.w A' s' (tuples' true) (fun p=>num B (zc8 H p.1)) (pairsOf (ps.map fun q=>bf q.1)):=by
 intro x y hx hy Q E hQ;obtain⟨qx,mx,ex⟩:=aq.mp (zdr hx).1;obtain⟨qy,my,ey⟩:=aq.mp (zdr hy).1;obtain⟨xp,uq,hx3⟩:=hT qx mx;obtain⟨hy1,hy2,hy3⟩:=hT qy my;obtain⟨ox,ix,nx,gx,cx,dx,ax⟩:=zfC I xp;obtain⟨oy,iy,ny,gy,cy,dy,ay⟩:=zfC I hy1;have ev:decide ((fun p:Keyed=>num B (zc8 H p.1)) x < (fun p:Keyed=>num B (zc8 H p.1)) y)=zgu qx.2 qy.2:=by
  rw [zh5 hB (uq.trans hy2.symm) hx3 hy3,← zes xp,← zes hy1];simp only [ex,ey]
 rw [ev] at hQ;rw [← ex,← ey];refine PySem.W.kat_lt (kk _ _ gx) dx (kk _ _ gy) dy (zh6 0 ax ay (uq.trans hy2.symm) ?_);have hsz:decide (ix.size < iy.size)=false:=by
  have e1:=ax.length;have e2:=ay.length;rw [aZ] at e1 e2;exact decide_eq_false #[O]
 rw [hsz];by_cases e:qx.2=qy.2
 ·rw [if_pos e];rw [e,zfb] at hQ;exact hQ
 ·rw [if_neg e];exact hQ
theorem zkt (hT:zlq H k B ps) {out:Array Value} (hp:out.toList.Perm (ps.map fun q=>bf q.1)) (hs:out.toList.Pairwise fun x y=>num B (zc8 H x)≤num B (zc8 H y)) :
  ∃ pO:List (Addr×List Int),pO.Perm ps∧(pO.Pairwise fun a b=>num B a.2≤num B b.2)∧out.toList=pO.map fun q=>bf q.1:=by
 let g:Value→Addr×List Int:=fun v=>match v with
  | .ref a=>(a,zc8 H (.ref a))
  | _=>(0,[])
 have hg:∀ q∈ps,g (.ref q.1)=q:=fun q hq=>km rfl (zes (hT q hq).1)
 have hv:∀ v∈out.toList,∃ q∈ps,v = .ref q.1:=fun v hv=>by
  obtain⟨q,hq,e⟩:=aq.mp (hp.mem_iff.mp hv);exact⟨q,hq,e.symm⟩
 refine⟨out.toList.map g,?_,?_,?_⟩
 ·refine (hp.map g).trans ?_;rw [bz];have:ps.map (g ∘ fun q=>bf q.1)=ps:=by
   conv=>rhs; rw [← iA ps]
   exact cn fun q hq=>hg q hq
  rw [this]
 ·rw [bM];refine c7 (fun {x y} hx hy h=>?_) hs;obtain⟨q,hq,rfl⟩:=hv x hx;obtain⟨q',n5,rfl⟩:=hv y hy;exact h
 ·rw [bz]
  conv=>lhs; rw [← iA out.toList]
  refine cn fun v hv'=>?_
  obtain⟨q,hq,rfl⟩:=hv v hv';rfl
end
theorem zjc {M:Model} {h:Heap} {n:Int} {t:Tok}:PySem.W.Looks M h (typeOf (.int n t)) (.type "int"):=PySem.W.Looks.of_pure rfl
theorem zlr {X:Cx} {ku:List (Addr×Obj)} {σ:St} {H:Hp} {s:Shared} {d:Addr} {kE:List (List Key×V)} {ml:List (List Int)} (I:Inv X ku σ H s) (hd:H d=some (.dT kE)) (hk:kE.map (·.1)=ml.map (·.map c8)) :
  (d == sysModules)=false∧kE.length≤sizeLine∧∃ (ps:List (Addr×List Int)) (es:Array DictEntry) (ep:Nat),zer s.heap d es ep∧es.toList.map (·.key)=(ps.map fun q=>bf q.1)∧ps.map (·.2)=ml∧∀ q∈ps,H q.1=some (.tup (q.2.map V.int)):=by
 obtain⟨hz,hs,xs,hp,o,es,ep,ho,hx,he,sT,lN⟩:=I.hok d _ hd;refine⟨hs,hz,?_⟩;have key:∀ {kE:List (List Key×V)} {xs:List (List Key×Addr×Value)} {ml:List (List Int)},Paired (fun (p:List Key×V) (q:List Key×Addr×Value)=>p.1=q.1∧H q.2.1=some (.tup (p.1.map kV))∧RelV p.2 q.2.2) kE xs→kE.map (·.1)=ml.map (·.map c8) →
   ∃ ps:List (Addr×List Int),xs.map (fun x=>bf x.2.1)=(ps.map fun q=>bf q.1)∧ps.map (·.2)=ml∧∀ q∈ps,H q.1=some (.tup (q.2.map V.int)):=by
  intro kE xs ml hp;induction hp generalizing ml with
  | nil =>
   intro e;cases ml with
   | nil=>exact⟨[],rfl,rfl,fun q hq=>by cases hq⟩
   | cons m ml=>simp at e
  | @cons x y l1 l2 h1 h2 ih =>
   intro e;cases ml with
   | nil=>simp at e
   | cons m ml =>
    rw [bh,bh] at e;obtain⟨e1,e2⟩:=iY e;obtain⟨ps,a1,a2,a3⟩:=ih e2;obtain⟨_,h12,_⟩:=h1;refine⟨(y.2.1,m) :: ps,by rw [bh,bh,a1],by rw [bh,a2],fun q hq=>?_⟩;rcases (aC.mp hq) with rfl | hq
    ·rw [h12,e1,bz];rfl
    ·exact a3 q hq
 obtain⟨ps,a1,a2,a3⟩:=key hp hk;refine⟨ps,es,ep,⟨o,ho,hx,he⟩,?_,a2,a3⟩;rw [sT,bz,← a1];rfl
theorem zfD {X:Cx} (hc:X.calm=true):zci X (.builtin "sorted") (fun xs H Q=>∃ (d:Addr) (k:Nat) (B:Int) (kE:List (List Key×V)) (ml:List (List Int)),xs = [.ref d]∧H d=some (.dT kE)∧kE.map (·.1)=ml.map (·.map c8)∧(∀ ms∈ml,ms.length=k∧∀ n∈ms,0≤n∧n < B)∧1≤k∧1≤B ∧
  ∀ (l:Addr) (pO:List (Addr×List Int)),H l=none→(pO.map (·.2)).Perm ml→(pO.Pairwise fun a b=>num B a.2≤num B b.2)→(∀ q∈pO,H q.1=some (.tup (q.2.map V.int)))→Q (.ref l) (kB H l (.lst (pO.map fun q=>V.ref q.1)))):=by
 intro ku s σ H xs us Q I r h;obtain⟨d,k,B,kE,ml,rfl,hd,wz,tH,hk,hB,q⟩:=h;obtain⟨u,rfl,rx⟩:=vals1 r;cases rx;obtain⟨hs,hz,ps,es,ep,Dg,hek,hps,hH⟩:=zlr I hd wz;have hT:zlq H k B ps:=fun q' n5=>⟨hH q' n5,tH q'.2 (by rw [← hps]; exact eF n5)⟩
 have hlp:ps.length=kE.length:=by
  have e1:=congrArg dW hps;have e2:=congrArg dW wz;rw [ab] at e1;rw [ab,ab] at e2;lia
 have sT:es.size=ps.length:=by
  have:=congrArg dW hek;rw [ab,ab,aZ] at this;exact this
 refine zja (vs:=ps.map fun q=>bf q.1) (κ:=tuples' true) (val:=fun p=>num B (zc8 H p.1)) (by rw [ab]; lia) (fun R hR=>?_) (fun s' kk h2 A' Q' E' n5=>?_) (fun s' A' kk=>zm2 I hT hB kk) fun h' tk out e D kk hD Dh hp hs=>?_
 ·refine PySem.W.kdu_collect (zlp (es:=es) (ep:=ep) hs) (by simp [I.ok.hd hc]) Dg #[O] fun h' tk acc kk sX=>?_
  have:acc.toList=ps.map fun q=>bf q.1:=by
   rw [← hek];refine c9 fun j=>?_
   by_cases hj:j < es.size
   ·have hja:j < acc.size:=by rw [sX.1]; exact hj
    obtain⟨e',h1,h2⟩:=sX.2 j acc[j] (getElem?_pos acc j hja);rw [bo,getElem?_pos acc j hja,ah,bo,h1,h2];rfl
   ·rw [bv (by rw [aZ,sX.1]; lia),bv (by rw [ab,aZ]; lia)]
  rw [this];exact hR h' tk kk
 ·obtain⟨fs,k1,k2,k3⟩:=zm1 I hT hk kk;exact PySem.W.kat_kind (T:=.type "int") k1 (by rw [ab] at h2; lia) (fun v hv=>by obtain⟨n,t,rfl⟩:=k3 v hv; exact zjc) rfl n5
 ·obtain⟨pO,p1,p2,p3⟩:=zkt hT hp hs;have hl:=p1.length_eq;obtain⟨hn,I2⟩:=I.above (tk:=tk) (D:=D) (o:=.lst (pO.map fun q=>V.ref q.1)) kk hD ⟨by rw [ab]; lia,pO.map fun q=>bf q.1,e,zc9 pO,by rw [← p3]; exact Dh⟩;exact⟨.ref D,_,I2,rfl,q D pO hn (by rw [← hps]; exact p1.map _) p2 fun q' n5=>(hT q' (p1.mem_iff.mp n5)).1⟩
end L2
end
section
namespace L2
open PySem PySem.Spec PyProof.Rows
section
variable {X:Cx} {elt t1 i1 t2 i2:Expr} {f1 f2:List Expr} {scope:Scope} {pos:Pos} {N':List Str} {ix:List (Option Nat)} {xt uL:List Nat} {g1 g2:TG} {Bi xu:TT} {te:TE} {Bj xv:TI}
theorem zku (hc:X.calm=true) (yy:GS uL g2) (wA:∀ s₃ H₃ ex ku,PI (zF X N' scope s₃ H₃ ex ku) t2 i2 xv)
  (we:∀ s₃ H₃ ex ku,PG (zF X N' scope s₃ H₃ ex ku) t2 g2) (uM:∀ s₃ H₃ ex ku,zcW (zF X N' scope s₃ H₃ ex ku) f2 xu) (he:∀ s₃ H₃ ex ku,PE (zF X N' scope s₃ H₃ ex ku) elt te)
  (nc:∀ s₃ H₃ ex ku x,foldedSetIterable i2 (zF X N' scope s₃ H₃ ex ku).env x=pure x) :
  ∀ s₃ H₃ ex ku D,PM (zF X N' scope s₃ H₃ ex ku) D uL ((fun D env=>zhH (.ListComp elt [⟨t1,i1,f1,0⟩,⟨t2,i2,f2,0⟩] scope pos) i2 1 (.ref D) env) D (zF X N' scope s₃ H₃ ex ku).env) (zhJ xv g2 xu (zhI te)):=by
 intro s₃ H₃ ex ku D;have h:=zmI (Y:=zF X N' scope s₃ H₃ ex ku) (D:=D) (js:=uL) (js':=[]) (elt:=elt) (gens:=[⟨t1,i1,f1,0⟩,⟨t2,i2,f2,0⟩]) (scope:=scope) (pos:=pos) (d:=1) (p:=i2.pos) hc rfl yy (fun _ _ z=>by cases z) (wA s₃ H₃ ex ku) (we s₃ H₃ ex ku) (uM s₃ H₃ ex ku) (zgX rfl (he s₃ H₃ ex ku)) rfl (fun it=>zmJ it D _) (nc s₃ H₃ ex ku);rw [bE] at h;exact h
theorem zls (SC:CompSc X N' ix scope) (hc:X.calm=true) (Di:GS xt g1) (yy:GS uL g2) (nA:∀ j∈xt,j∉uL) (sR:∀ j∈xt++uL,ix[j]? = some none) (wB:PI X t1 i1 Bj)
  (xw:∀ s₃ H₃ ex ku,PG (zF X N' scope s₃ H₃ ex ku) t1 g1) (wC:∀ s₃ H₃ ex ku,zcW (zF X N' scope s₃ H₃ ex ku) f1 Bi) (wA:∀ s₃ H₃ ex ku,PI (zF X N' scope s₃ H₃ ex ku) t2 i2 xv)
  (we:∀ s₃ H₃ ex ku,PG (zF X N' scope s₃ H₃ ex ku) t2 g2) (uM:∀ s₃ H₃ ex ku,zcW (zF X N' scope s₃ H₃ ex ku) f2 xu) (he:∀ s₃ H₃ ex ku,PE (zF X N' scope s₃ H₃ ex ku) elt te)
  (hs:∀ x,foldedSetIterable i1 X.env x=pure x:=by intro _; rfl) (nc:∀ s₃ H₃ ex ku x,foldedSetIterable i2 (zF X N' scope s₃ H₃ ex ku).env x=pure x:=by intros; rfl) :
  PE X (.ListComp elt [⟨t1,i1,f1,0⟩,⟨t2,i2,f2,0⟩] scope pos) (zfq ix Bj g1 Bi (zhJ xv g2 xu (zhI te))) :=
 zf5 SC hc Di nA sR wB xw wC (zku hc yy wA we uM he nc) (fun it D env=>zjU it D env) hs
theorem zhb {i:Nat} {x:Str} {pos' pV:Pos} (hN:X.N.Nodup) (x9:X.N[i]? = some x) (hx:Loc X.env.scope x) (SC:CompSc X N' ix scope) (hc:X.calm=true) (Di:GS xt g1) (yy:GS uL g2) (nA:∀ j∈xt,j∉uL) (sR:∀ j∈xt++uL,ix[j]? = some none) (wB:PI X t1 i1 Bj)
  (xw:∀ s₃ H₃ ex ku,PG (zF X N' scope s₃ H₃ ex ku) t1 g1) (wC:∀ s₃ H₃ ex ku,zcW (zF X N' scope s₃ H₃ ex ku) f1 Bi) (wA:∀ s₃ H₃ ex ku,PI (zF X N' scope s₃ H₃ ex ku) t2 i2 xv)
  (we:∀ s₃ H₃ ex ku,PG (zF X N' scope s₃ H₃ ex ku) t2 g2) (uM:∀ s₃ H₃ ex ku,zcW (zF X N' scope s₃ H₃ ex ku) f2 xu) (he:∀ s₃ H₃ ex ku,PE (zF X N' scope s₃ H₃ ex ku) elt te)
  (yb:swapsWith (.ListComp elt [⟨t1,i1,f1,0⟩,⟨t2,i2,f2,0⟩] scope pos) (some (.Name x pos')) pV.line X.env=pure true:=by rfl)
  (hs:∀ x,foldedSetIterable i1 X.env x=pure x:=by intro _; rfl) (nc:∀ s₃ H₃ ex ku x,foldedSetIterable i2 (zF X N' scope s₃ H₃ ex ku).env x=pure x:=by intros; rfl) (hf:X.fn x=true∨X.env.scope.names.lookup x=some .local:=by first | exact .inl rfl | exact .inr rfl | assumption) :
  PS X (.Assign [.Name x pos'] (.ListComp elt [⟨t1,i1,f1,0⟩,⟨t2,i2,f2,0⟩] scope pos) pV) (zjy (zfq ix Bj g1 Bi (zhJ xv g2 xu (zhI te))) (zbc i)) :=
 zdC hN x9 hx SC hc Di nA sR wB xw wC (zku hc yy wA we uM he nc) (fun it D env=>zjU it D env) yb hs hf
end
theorem zh7 {J:It} {n:Nat} {g:TG} {ts:TT} {tm:TM} {σ0:St} {Q:List V→Hp→Prop} {ys:List V} {H:Hp} (Pv:Nat→List V→Hp→Prop) (h0:Pv 0 ys H) (uA:∀ i ys H,i < n→Pv i ys H→J.go i H) (oZ:∀ ys H,Pv n ys H→J.stop n H)
  (hs:∀ i x ys H H',i < n→Pv i ys H→J.yld i H x H'→g x σ0 H' fun σ2 H2=>ts σ2 H2 fun b H3=>if b=true then tm ys σ2 H3 (Pv (i+1)) else Pv (i+1) ys H3)
  (hd:∀ ys H,Pv n ys H→Q ys H):cIn g ts tm σ0 J Q ys H:=by
 refine⟨fun i m ys H=>m=n - i∧i≤n∧Pv i ys H,⟨n,#[M],bu _,h0⟩,?_⟩;rintro i m ys H ⟨rfl,hi,p⟩;by_cases kU:i < n
 ·exact .inr ⟨uA i ys H kU p,Pv (i+1),fun lJ H' p'=>⟨n - (i+1),#[O],rfl,kU,p'⟩,fun x H' y=>hs i x ys H H' kU p y⟩
 ·have e:i=n:=by lia
  subst e;exact .inl ⟨oZ ys H p,hd ys H p⟩
def zm3 (sc:Scope) (x:Str):Bool:=match sc.names.lookup x with
 | some .local=>true
 | some .cell=>true
 | some .free=>true
 | _=>false
theorem zlu {sc:Scope} {x:Str} (h:zm3 sc x=true):Vis sc x:=by
 unfold zm3 at h;unfold Vis;cases e:sc.names.lookup x with
 | none=>rw [e] at h; cases h
 | some k=>cases k <;> simp_all
def pvB (N:List Str) (sc:Scope) (i:Nat) (x:Str):Bool:=decide (N[i]? = some x) && zm3 sc x && !(x == ("__debug__" : Str)) && !(x == ("__classdict__" : Str))
theorem pvx {X:Cx} (i:Nat) {x:Str} {pos:Pos} (h:pvB X.N X.env.scope i x=true):PE X (.Name x pos) (znj i):=by
 unfold pvB at h;simp only [cA,Bool.not_eq_true',decide_eq_true_eq] at h;exact zmp h.1.1.1 (zlu h.1.1.2) h.1.2 h.2
end L2
end
section
namespace My
open PySem L2 PyProof.Rows
def nxt {α:Type} (xs:List α) (c:Nat×List α):List (Nat×List α):=(aJ (xs.length - c.1)).map fun j=>(c.1+j+1,c.2++xs[c.1+j]?.toList)
def chs {α:Type} (xs:List α):Nat→List (Nat×List α)
 | 0=>[(0,[])]
 | m+1=>(chs xs m).flatMap (nxt xs)
theorem zfE {α:Type} (xs:List α) (c:Nat×List α):(nxt xs c).length=xs.length - c.1:=by unfold nxt; rw [ab,bm]
theorem zlv {α:Type} {xs:List α} {c:Nat×List α} {j:Nat} {x:α} (h:xs[c.1+j]? = some x):(nxt xs c)[j]? = some (c.1+j+1,c.2++[x]):=by
 have hj:j < xs.length - c.1:=by
  have:=(az.mp h).1;lia
 unfold nxt;rw [ah,cH hj];simp [h]
theorem zh8:∀ r:Nat,((aJ r).map fun j=>2 ^ (r - j - 1)).sum+1=2 ^ r
 | 0=>rfl
 | r+1=>by
  rw [iu,bh,fk,bz];have e:((aJ r).map ((fun j=>2 ^ (r+1 - j - 1)) ∘ Nat.succ))=(aJ r).map fun j=>2 ^ (r - j - 1):=cn fun j _=>by
   show 2 ^ (r+1 - (j+1) - 1)=2 ^ (r - j - 1);congr 1;lia
  rw [e];have:=zh8 r;rw [Nat.pow_succ];show 2 ^ (r+1 - 0 - 1)+_+1=_;rw [show r+1 - 0 - 1=r from by lia];lia
def pot {α:Type} (n:Nat) (cs:List (Nat×List α)):Nat:=(cs.map fun c=>2 ^ (n - c.1)).sum
theorem zlw {α:Type} (xs:List α) (c:Nat×List α):pot xs.length (nxt xs c)≤2 ^ (xs.length - c.1):=by
 unfold pot nxt;rw [bz];have e:((aJ (xs.length - c.1)).map ((fun c:Nat×List α=>2 ^ (xs.length - c.1)) ∘ fun j=>(c.1+j+1,c.2++xs[c.1+j]?.toList)))=(aJ (xs.length - c.1)).map fun j=>2 ^ (xs.length - c.1 - j - 1):=cn fun j _=>by
  show 2 ^ (xs.length - (c.1+j+1))=_;congr 1;lia
 rw [e];have:=zh8 (xs.length - c.1);lia
theorem zgv {α:Type} (xs:List α):∀ cs:List (Nat×List α),pot xs.length (cs.flatMap (nxt xs))≤pot xs.length cs
 | []=>af _
 | c :: cs=>by
  have h1:=zlw xs c;have h2:=zgv xs cs;rw [gE];unfold pot at h1 h2 ⊢;rw [ao,List.sum_append,bh,fk];lia
theorem zh9 {α:Type} (n:Nat):∀ cs:List (Nat×List α),cs.length≤pot n cs
 | []=>af _
 | c :: cs=>by
  have h:=zh9 n cs;have:0 < 2 ^ (n - c.1):=Nat.pos_of_ne_zero #[M];unfold pot at h ⊢;rw [bh,fk,br];lia
theorem zia {α:Type} (xs:List α):∀ m,pot xs.length (chs xs m)≤2 ^ xs.length
 | 0=>by
  unfold chs pot;simp
 | m+1=>aN (zgv xs (chs xs m)) (zia xs m)
theorem zlx {α:Type} (xs:List α) (m:Nat):(chs xs m).length≤2 ^ xs.length:=aN (zh9 _ _) (zia xs m)
theorem zcv {α:Type} {xs:List α} (m:Nat) (h:xs.length≤16):(chs xs m).length≤65536:=aN (zlx xs m) (aN (iU #[D] h) #[D])
theorem zjd {α β:Type} {f:α→List β} {l:List α} {i j:Nat} {c:α} (hc:l[i]? = some c) (hj:j < (f c).length):((l.take i).flatMap f).length+j < (l.flatMap f).length:=by
 have e:l.flatMap f=(l.take i).flatMap f++(f c++(l.drop (i+1)).flatMap f):=by
  conv=>lhs; rw [zek hc]
  rw [fR,gE]
 rw [e,ap,ap];lia
theorem zje {α β:Type} {f:α→List β} {l:List α} {i:Nat} {c:α} (hc:l[i]? = some c):(l.take (i+1)).flatMap f=(l.take i).flatMap f++f c:=by
 rw [take_snoc hc,fR,gE,List.flatMap_nil,bE]
theorem zm4 {α:Type} {xs:List α}:∀ {m:Nat} {c:Nat×List α},c∈chs xs m→c.1≤xs.length
 | 0,c,h=>by
  unfold chs at h;rw [aR] at h;subst h;exact bu _
 | m+1,c,h=>by
  unfold chs at h;obtain⟨c',_,hc⟩:=et.mp h;unfold nxt at hc;obtain⟨j,hj,rfl⟩:=aq.mp hc;have:=bd.mp hj;show c'.1+j+1≤xs.length;lia
theorem zgw {α:Type} {xs:List α}:∀ {m:Nat} {c:Nat×List α},c∈chs xs m→c.2.length≤m
 | 0,c,h=>by
  unfold chs at h;rw [aR] at h;subst h;exact af _
 | m+1,c,h=>by
  unfold chs at h;obtain⟨c',hm,hc⟩:=et.mp h;have:=zgw hm;unfold nxt at hc;obtain⟨j,hj,rfl⟩:=aq.mp hc;show (c'.2++xs[c'.1+j]?.toList).length≤m+1;rw [ap];have:xs[c'.1+j]?.toList.length≤1:=by cases xs[c'.1+j]? <;> simp
  lia
theorem Paired.get {α β:Type} {F:α→β→Prop}:∀ {l₁:List α} {l₂:List β},Paired F l₁ l₂→∀ {i:Nat} {a:α},l₁[i]? = some a→∃ b,l₂[i]? = some b∧F a b
 | _,_,.nil,i,a,h=>by simp at h
 | _,_,.cons r t,0,a,h=>by
  (simp only [g7,jA] at h)
  subst h;exact⟨_,rfl,r⟩
 | _,_,.cons r t,i+1,a,h=>by
  rw [dN] at h;obtain⟨b,hb,f⟩:=Paired.get t h;exact⟨b,by rw [dN]; exact hb,f⟩
def zly (H:Hp) (t:Addr) (c:Nat×List V):Prop:=∃ L,H t=some (.tup [.int (c.1:Int),.ref L])∧H L=some (.lst c.2)
theorem zly.same {H H':Hp} (s:zu H H') {t:Addr} {c:Nat×List V} (h:zly H t c):zly H' t c:=let ⟨L,h1,h2⟩:=h; ⟨L,s _ _ h1,s _ _ h2⟩
def zet (H:Hp):List Addr→List (Nat×List V)→Prop:=Paired (zly H)
theorem zet.same {H H':Hp} (s:zu H H') {ts:List Addr} {cs:List (Nat×List V)} (h:zet H ts cs):zet H' ts cs:=bA (fun _ _ z=>z.same s) h
def zgx (H:Hp):List Addr→List (List V)→Prop:=Paired fun l pk=>H l=some (.lst pk)
theorem zgx.same {H H':Hp} (s:zu H H') {ts:List Addr} {cs:List (List V)} (h:zgx H ts cs):zgx H' ts cs:=bA (fun _ _ z=>s _ _ z) h
def zhc (K:ag):Sp:=fun vs H Q _=>∃ (a:Addr) (m:Nat) (xs:List V),vs = [.ref a,.int (m:Int)]∧ky K H a xs∧xs.length≤16∧m≤1000 ∧
 ∀ (l:Addr) (ls:List Addr) (H':Hp),H l=none→zu H H'→H' l=some (.lst (ls.map V.ref))→zgx H' ls ((chs xs m).map (·.2))→Q (.ref l) H'
def quo (p r:Int):List Int→List Int
 | []=>[]
 | [_]=>[]
 | _ :: d :: cs=>zj p r (d :: cs) :: quo p r (d :: cs)
theorem zib (p r:Int):∀ (c:Int) (cs:List Int),(quo p r (c :: cs)).length=cs.length
 | _,[]=>rfl
 | _,d :: cs=>by
  show (quo p r (d :: cs)).length+1=cs.length+1;rw [zib p r d cs]
theorem zkv {p r x:Int}:∀ d:List Int,Cg p (zj p x d - zj p r d) ((x - r)*zj p x (quo p r d))
 | []=>Cg.of_eq (by show (0:Int) - 0=(x - r)*0; lia)
 | [c]=>by
  have h1:Cg p (zj p x [c]) (c+x*0):=zO p x c [];have h2:Cg p (zj p r [c]) (c+r*0):=zO p r c [];refine (h1.sub h2).trans (Cg.of_eq ?_);show c+x*0 - (c+r*0)=(x - r)*0;lia
 | c :: d :: cs=>by
  have h1:=zO p x c (d :: cs);have h2:=zO p r c (d :: cs);have ih:=zkv (p:=p) (r:=r) (x:=x) (d :: cs);have h3:Cg p (zj p x (quo p r (c :: d :: cs))) (zj p r (d :: cs)+x*zj p x (quo p r (d :: cs))):=zO p x _ _;have h4:=(Cg.refl p (x - r)).mul h3;have h5:=(Cg.refl p x).mul ih;refine (h1.sub h2).trans (Cg.symm (h4.trans ?_));refine (Cg.of_eq (show _=(x - r)*zj p r (d :: cs)+x*((x - r)*zj p x (quo p r (d :: cs))) by grind)).trans ?_;refine ((Cg.refl p ((x - r)*zj p r (d :: cs))).add h5.symm).trans (Cg.of_eq (by grind))
theorem zgy {p r:Int}:∀ d:List Int,Cg p (zj p r d) 0→(∀ c∈quo p r d,Cg p c 0)→∀ c∈d,Cg p c 0
 | [],_,_,c,hc=>by cases hc
 | [a],h,_,c,hc=>by
  obtain rfl:c=a:=by simpa using hc
  have h1:Cg p (zj p r [c]) (c+r*0):=zO p r c [];exact ((Cg.of_eq #[O]).trans h1.symm).trans h
 | a :: d :: cs,h,hq,c,hc=>by
  have h0:Cg p (zj p r (d :: cs)) 0:=hq _ aE;rcases (aC.mp hc) with rfl | hc
  ·have h1:=zO p r c (d :: cs);have h2:=(Cg.refl p r).mul h0;have h3:=(h1.symm.trans h).sub h2;exact (Cg.of_eq #[O]).trans (h3.trans (Cg.of_eq #[O]))
  ·exact zgy (d :: cs) h0 (fun c hc=>hq c (av _ hc)) c hc
theorem zds {p a y:Int} (hp:p∈zl) (ha0:a % p≠0) (h:Cg p (a*y) 0):Cg p y 0:=by
 have rp:=zm hp;have g0:=aK a (show p≠0 by lia);have g1:=aF a (show 0 < p by lia);have hi:=zfu hp (h:=a % p) #[O] g1;have h1:Cg p (inv p (a % p)*(a % p)*y) (1*y):=hi.mul (Cg.refl p y);have h2:Cg p (inv p (a % p)*(a % p)*y) (inv p (a % p)*(a*y)):=by
  have:=((Cg.refl p (inv p (a % p))).mul (Cg.emod p a)).mul (Cg.refl p y);exact this.trans (Cg.of_eq (by grind))
 have h3:=(Cg.refl p (inv p (a % p))).mul h;exact (Cg.of_eq #[O]).trans (h1.symm.trans (h2.trans (h3.trans (Cg.of_eq #[O]))))
theorem zb8 {p:Int} (hp:p∈zl):∀ (n:Nat) (d xs:List Int),d.length=n→n≤xs.length→xs.Nodup→(∀ x∈xs,0≤x∧x < p)→(∀ x∈xs,Cg p (zj p x d) 0)→∀ c∈d,Cg p c 0
 | 0,d,xs,hd,_,_,_,_,c,hc=>by
  rw [g8] at hd;subst hd;cases hc
 | n+1,d,[],hd,hx,_,_,_,c,hc=>by simp at hx
 | n+1,[],r :: xs,hd,hx,_,_,_,c,hc=>by cases hc
 | n+1,a :: cs,r :: xs,hd,hx,lN,tH,hz,c,hc=>by
  have rp:=zm hp;obtain⟨r0,r1⟩:=tH r aE;have hr:=hz r aE;refine zgy (a :: cs) hr (zb8 hp n (quo p r (a :: cs)) xs (by rw [zib]; simpa using hd) (by simpa using hx) (cU.mp lN).2 (fun x h=>tH x (av _ h)) fun x h=>?_) c hc;obtain⟨x0,x1⟩:=tH x (av _ h);have lA:x≠r:=fun e=>(cU.mp lN).1 (e ▸ h)
  have he:=zkv (p:=p) (r:=r) (x:=x) (a :: cs);have h0:=(hz x (av _ h)).sub hr;refine zds hp (a:=x - r) (fun e=>?_) (he.symm.trans (h0.trans (Cg.of_eq #[O])));have:Cg p x r:=by
   have h1:Cg p (x - r) 0:=Cg.of_mod (by rw [e]; simp);have h2:=h1.add (Cg.refl p r);exact (Cg.of_eq #[O]).trans (h2.trans (Cg.of_eq #[O]))
  exact lA (this.eq x0 x1 r0 r1)
theorem zda {p x:Int}:∀ {a b:List Int},a.length=b.length→Cg p (zj p x (a8 (· - ·) a b)) (zj p x a - zj p x b)
 | [],[],_=>Cg.of_eq rfl
 | c :: a,d :: b,h=>by
  have ih:=zda (p:=p) (x:=x) (a:=a) (b:=b) (by simpa using h);have h1:=zO p x c a;have h2:=zO p x d b;have h3:Cg p (zj p x (a8 (· - ·) (c :: a) (d :: b))) (c - d+x*zj p x (a8 (· - ·) a b)):=zO p x (c - d) _;refine h3.trans (((Cg.refl p (c - d)).add ((Cg.refl p x).mul ih)).trans (Cg.symm ((h1.sub h2).trans (Cg.of_eq (by grind)))))
 | [],_ :: _,h=>by simp at h
 | _ :: _,[],h=>by simp at h
theorem zgz {p:Int}:∀ {a b:List Int},a.length=b.length→(∀ c∈a,0≤c∧c < p)→(∀ c∈b,0≤c∧c < p)→(∀ c∈a8 (· - ·) a b,Cg p c 0)→a=b
 | [],[],_,_,_,_=>rfl
 | c :: a,d :: b,h,ha,hb,hz=>by
  obtain⟨c0,c1⟩:=ha c aE;obtain⟨d0,d1⟩:=hb d aE;have h1:Cg p (c - d) 0:=hz _ aE;have h2:Cg p c d:=(Cg.of_eq #[O]).trans ((h1.add (Cg.refl p d)).trans (Cg.of_eq #[O]));rw [h2.eq c0 c1 d0 d1,zgz (by simpa using h) (fun c hc=>ha c (av _ hc)) (fun c hc=>hb c (av _ hc)) (fun c hc=>hz c (av _ hc))]
 | [],_ :: _,h,_,_,_=>by simp at h
 | _ :: _,[],h,_,_,_=>by simp at h
theorem zdH {p:Int} (hp:p∈zl) {a b xs:List Int} (hl:a.length=b.length) (hx:a.length≤xs.length) (lN:xs.Nodup) (tH:∀ x∈xs,0≤x∧x < p) (ha:∀ c∈a,0≤c∧c < p) (hb:∀ c∈b,0≤c∧c < p)
  (he:∀ x∈xs,zj p x a=zj p x b):a=b:=by
 refine zgz hl ha hb (zb8 hp a.length _ xs (by rw [dJ]; lia) hx lN tH fun x h=>?_);refine (zda hl).trans (Cg.of_eq ?_);rw [he x h];lia
theorem zfF {p:Int} (hp:p∈zl) {pk:List (Int×Int)} (hP:Pts p pk) {q:List Int} (hl:q.length=pk.length) (hq:∀ c∈q,0≤c∧c < p) (hh:∀ a∈pk,zj p a.1 q=a.2):q=thr p pk:=by
 obtain⟨h1,h2,h3⟩:=zcK hp hP;refine zdH hp (xs:=pk.map (·.1)) #[O] (by rw [ab]; lia) hP.nd (fun x hx=>?_) hq h2 fun x hx=>?_
 ·obtain⟨a,ha,rfl⟩:=aq.mp hx;exact⟨(hP.rg a ha).1,(hP.rg a ha).2.1⟩
 ·obtain⟨a,ha,rfl⟩:=aq.mp hx;rw [hh a ha,h3 a ha]
theorem Pts.sub {p:Int} {pk kx:List (Int×Int)} (h:Pts p kx) (hs:pk.Sublist kx):Pts p pk:=⟨(hs.map _).nodup h.nd,fun q hq=>h.rg q (hs.subset hq)⟩
theorem zic {α:Type} {xs:List α}:∀ {m:Nat} {c:Nat×List α},c∈chs xs m→c.2.Sublist (xs.take c.1)∧c.2.length=m∧c.1≤xs.length
 | 0,c,h=>by
  unfold chs at h;rw [aR] at h;subst h;exact⟨gU _,rfl,bu _⟩
 | m+1,c,h=>by
  unfold chs at h;obtain⟨c',hm,hc⟩:=et.mp h;obtain⟨h1,h2,h3⟩:=zic hm;unfold nxt at hc;obtain⟨j,hj,rfl⟩:=aq.mp hc
  (have oj:=bd.mp hj)
  have kU:c'.1+j < xs.length:=by lia
  have e:xs[c'.1+j]? = some xs[c'.1+j]:=aj kU;dsimp only;rw [e];refine⟨?_,by rw [ap,h2]; rfl,#[O]⟩;rw [take_snoc e];refine List.Sublist.append (h1.trans ?_) (List.Sublist.refl _);have:xs.take c'.1=(xs.take (c'.1+j)).take c'.1:=by rw [j7]; congr 1; lia
  rw [this];exact bT _ _
theorem sub_one {α:Type} {l:List α} {x:α} (h:l.Sublist [x]):l = []∨l = [x]:=by
 cases h with
 | cons _ h=>exact .inl (gV.mp h)
 | cons_cons _ h=>exact .inr (by rw [gV.mp h])
theorem zdW {α:Type} {xs:List α}:∀ {m n:Nat} {pk:List α},pk.Sublist (xs.take n)→pk.length=m→∃ s,s≤n∧(s,pk)∈chs xs m
 | 0,n,pk,h,hl=>by
  rw [g8] at hl;subst hl;exact⟨0,bu _,by unfold chs; exact aR.mpr rfl⟩
 | m+1,0,pk,h,hl=>by
  rw [dC] at h;rw [gV.mp h] at hl;simp at hl
 | m+1,n+1,pk,h,hl=>by
  cases e:xs[n]? with
  | none =>
   have:xs.take (n+1)=xs.take n:=by
    have:=gK.mp e;rw [aT #[O],aT this]
   rw [this] at h;obtain⟨s,h1,h2⟩:=zdW (m:=m+1) (n:=n) h hl;exact⟨s,#[O],h2⟩
  | some x =>
   rw [take_snoc e] at h;obtain⟨l1,l2,rfl,h1,h2⟩:=List.sublist_append_iff.mp h;rcases (sub_one h2) with rfl | rfl
   ·rw [bE] at hl ⊢;obtain⟨s,a1,a2⟩:=zdW (m:=m+1) (n:=n) h1 hl;exact⟨s,#[O],a2⟩
   ·obtain⟨s,a1,a2⟩:=zdW (m:=m) (n:=n) h1 (by simpa using hl);refine⟨n+1,af _,?_⟩;unfold chs;refine et.mpr ⟨(s,l1),a2,?_⟩;have kU:=(az.mp e).1;unfold nxt;refine aq.mpr ⟨n - s,bd.mpr (by show n - s < xs.length - s; lia),?_⟩;have es:s+(n - s)=n:=by lia
    dsimp only;rw [es,e];rfl
theorem zdb {α:Type} {xs pk:List α} {m:Nat}:pk∈(chs xs m).map (·.2)↔pk.Sublist xs∧pk.length=m:=by
 constructor
 ·intro h;obtain⟨c,hc,rfl⟩:=aq.mp h;obtain⟨h1,h2,h3⟩:=zic hc;exact⟨h1.trans (bT _ _),h2⟩
 ·rintro⟨h1,h2⟩;obtain⟨s,_,hs⟩:=zdW (xs:=xs) (n:=xs.length) (by rw [aM]; exact h1) h2;exact aq.mpr ⟨_,hs,rfl⟩
def hit (p:Int) (q:List Int) (a:Int×Int):Bool:=decide (zj p a.1 q=a.2)
def hits (p:Int) (q:List Int) (kx:List (Int×Int)):Nat:=(kx.filter (hit p q)).length
def IsP (p:Int) (k:Nat) (q:List Int):Prop:=q.length=k∧∀ c∈q,0≤c∧c < p
theorem zcN {p:Int} (hp:p∈zl) {kx:List (Int×Int)} (hP:Pts p kx) {q:List Int} {k t n:Nat} (hq:IsP p k q) (hk:k≤t) (hn:kx.length≤n+(t - k)) (ht:t≤hits p q kx) :
  ∃ pk,pk∈(chs (kx.take n) k).map (·.2)∧q=thr p pk:=by
 have Dj:hits p q kx=((kx.take n).filter (hit p q)).length+((kx.drop n).filter (hit p q)).length:=by
  unfold hits
  conv=>lhs; rw [← b9 n kx]
  rw [cf,ap]
 have hd:=cb (hit p q) (kx.drop n);rw [b7] at hd;have rn:k≤((kx.take n).filter (hit p q)).length:=by lia
 have hs:(((kx.take n).filter (hit p q)).take k).Sublist (kx.take n):=(bT _ _).trans (dM);have hl:(((kx.take n).filter (hit p q)).take k).length=k:=by rw [aD]; lia
 refine⟨_,zdb.mpr ⟨hs,hl⟩,zfF hp (hP.sub (hs.trans (bT _ _))) (by rw [hl]; exact hq.1) hq.2 fun a ha=>?_⟩;have:=(aU.mp ((bT _ _).subset ha)).2;simpa [hit] using this
theorem zid {p:Int} (hp:p∈zl) {kx pk:List (Int×Int)} (hP:Pts p kx) {k:Nat} (h:pk∈(chs kx k).map (·.2)):IsP p k (thr p pk):=by
 obtain⟨h1,h2⟩:=zdb.mp h;obtain⟨a,b,_⟩:=zcK hp (hP.sub h1);exact⟨a.trans h2,b⟩
def hps:List Int→List (Option Int)→List (Int×Int)
 | x :: pl,some y :: rw=>(x,y) :: hps pl rw
 | _ :: pl,none :: rw=>hps pl rw
 | _,_=>[]
theorem zeu:∀ {pl:List Int} {rw:List (Option Int)} {i:Nat} {x:Int} {o:Option Int},pl[i]? = some x→rw[i]? = some o→hps (pl.take (i+1)) (rw.take (i+1))=hps (pl.take i) (rw.take i)++(match o with | some y=>[(x,y)] | none=>[])
 | [],_,i,x,o,h,_=>by simp at h
 | _ :: _,[],i,x,o,_,h=>by simp at h
 | a :: pl,b :: rw,0,x,o,h1,h2=>by
  simp only [g7,jA] at h1 h2;subst h1 h2;cases b <;> rfl
 | a :: pl,b :: rw,i+1,x,o,h1,h2=>by
  rw [dN] at h1 h2;have ih:=zeu h1 h2;cases b with
  | none=>exact ih
  | some y =>
   show (a,y) :: hps (pl.take (i+1)) (rw.take (i+1))=(a,y) :: hps (pl.take i) (rw.take i)++_;rw [ih];rfl
theorem zbG:∀ (pl:List Int) (rw:List (Option Int)),(hps pl rw).length≤pl.length
 | [],rw=>by unfold hps; simp
 | a :: pl,[]=>by unfold hps; simp
 | a :: pl,none :: rw=>by
  have:=zbG pl rw;show (hps pl rw).length≤pl.length+1;lia
 | a :: pl,some y :: rw=>by
  have:=zbG pl rw;show (hps pl rw).length+1≤pl.length+1;lia
theorem zcw:∀ {pl:List Int} {rw:List (Option Int)} {a:Int×Int},a∈hps pl rw→a.1∈pl∧some a.2∈rw
 | [],_,a,h=>by unfold hps at h; cases h
 | _ :: _,[],a,h=>by unfold hps at h; cases h
 | x :: pl,none :: rw,a,h=>by
  obtain⟨h1,h2⟩:=zcw (pl:=pl) (rw:=rw) h;exact⟨av _ h1,av _ h2⟩
 | x :: pl,some y :: rw,a,h=>by
  rcases (aC.mp h) with rfl | h
  ·exact⟨aE,aE⟩
  ·obtain⟨h1,h2⟩:=zcw (pl:=pl) (rw:=rw) h;exact⟨av _ h1,av _ h2⟩
theorem zfG:∀ (pl:List Int) (rw:List (Option Int)),((hps pl rw).map (·.1)).Sublist pl
 | [],_=>by unfold hps; exact gU _
 | _ :: _,[]=>by unfold hps; exact gU _
 | x :: pl,none :: rw=>(zfG pl rw).cons _
 | x :: pl,some y :: rw=>(zfG pl rw).cons_cons _
theorem zdc {p:Int} {pl:List Int} {rw:List (Option Int)} (h1:pl.Nodup) (h2:∀ x∈pl,0≤x∧x < p) (h3:∀ z,some z∈rw→0≤z∧z < p):Pts p (hps pl rw) :=
 ⟨(zfG pl rw).nodup h1,fun q hq=>⟨(h2 _ (zcw hq).1).1,(h2 _ (zcw hq).1).2,(h3 _ (zcw hq).2).1,(h3 _ (zcw hq).2).2⟩⟩
theorem zgA {p:Int} {pl:List Int} {rw:List (Option Int)} {q:List Int} (hl:rw.length=pl.length):∀ n,n≤pl.length→(zaV p pl rw q n).length=hits p q (hps (pl.take n) (rw.take n))
 | 0,_=>by simp [zaV,hits,hps]
 | n+1,hn=>by
  have ih:=zgA (p:=p) (q:=q) hl n #[O];have e1:pl[n]? = some pl[n]:=aj #[O];have e2:rw[n]? = some rw[n]:=aj #[O];rw [ze9,ap,ih,zeu e1 e2];unfold hits;rw [cf,ap];congr 1;unfold zaS;rw [e1,e2];cases rw[n] with
  | none=>rfl
  | some y =>
   show (if decide (y=zj p pl[n] q)=true then [(n:Int)] else []).length=([(pl[n],y)].filter (hit p q)).length;by_cases e:y=zj p pl[n] q
   ·rw [bR (by simp [hit,e])];simp [e]
   ·rw [bS (by simp [hit]; exact fun z=>e z.symm)];simp [e]
theorem zbH {p:Int} {pl:List Int} {rw:List (Option Int)} {q:List Int} (hl:rw.length=pl.length):(zaV p pl rw q pl.length).length=hits p q (hps pl rw):=by
 have:=zgA (p:=p) (q:=q) hl pl.length (af _);rw [aM,aT #[O]] at this;exact this
def zcO (p:Int) (k:Nat) (qs:List (List Int)):Prop:=(∀ q∈qs,IsP p k q)∧qs.Pairwise fun a b=>Srt.num p a < Srt.num p b
theorem zie {B:Int} (hB:1≤B):∀ {a b:List Int},a.length=b.length→(∀ n∈a,0≤n∧n < B)→(∀ n∈b,0≤n∧n < B)→Srt.num B a=Srt.num B b→a=b
 | [],[],_,_,_,_=>rfl
 | c :: a,d :: b,h,ha,hb,e=>by
  have h':a.length=b.length:=by simpa using h
  have ra:=Srt.num_rng hB (ns:=a) fun n hn=>ha n (av _ hn)
  have rb:=Srt.num_rng hB (ns:=b) fun n hn=>hb n (av _ hn)
  have e':c*B ^ a.length+Srt.num B a=d*B ^ b.length+Srt.num B b:=e;rw [← h'] at e' rb;generalize B ^ a.length=M at e' ra rb;have hM:0 < M:=by lia
  have rj:c=d:=by
   have e2:(c - d)*M=Srt.num B b - Srt.num B a:=by
    rw [Int.sub_mul];lia
   rcases (jz c d) with kU | heq | hgt
   ·have:(c - d)*M≤(-1)*M:=cu #[O] #[O];lia
   ·exact heq
   ·have:1*M≤(c - d)*M:=cu #[O] #[O];lia
  subst rj;rw [zie hB h' (fun n hn=>ha n (av _ hn)) (fun n hn=>hb n (av _ hn)) #[O]]
 | [],_ :: _,h,_,_,_=>by simp at h
 | _ :: _,[],h,_,_,_=>by simp at h
theorem zlz {p:Int} (hp:1≤p) {k:Nat} {qs:List (List Int)} (h1:∀ q∈qs,IsP p k q) (h2:qs.Nodup) (h3:qs.Pairwise fun a b=>Srt.num p a≤Srt.num p b):zcO p k qs:=by
 refine⟨h1,?_⟩;have h4:=h3.and h2;refine c7 (fun {a b} ha hb h=>?_) h4;have lA:Srt.num p a≠Srt.num p b:=fun e=>h.2 (zie hp ((h1 a ha).1.trans (h1 b hb).1.symm) (h1 a ha).2 (h1 b hb).2 e)
 have:=h.1;lia
theorem zcO.tail {p:Int} {k:Nat} {q:List Int} {qs:List (List Int)} (h:zcO p k (q :: qs)):zcO p k qs:=⟨fun x hx=>h.1 x (av _ hx),(gd.mp h.2).2⟩
theorem zif {p:Int} {k:Nat}:∀ {as bs:List (List Int)},zcO p k as→zcO p k bs→(∀ q,q∈as↔q∈bs)→as=bs
 | [],[],_,_,_=>rfl
 | [],b :: bs,_,_,h=>by
  have:=(h b).mpr aE;cases this
 | a :: as,[],_,_,h=>by
  have:=(h a).mp aE;cases this
 | a :: as,b :: bs,ha,hb,h=>by
  have pa:=(gd.mp ha.2).1;have pb:=(gd.mp hb.2).1;have e:a=b:=by
   rcases (aC.mp ((h a).mp aE)) with e | ma
   ·exact e
   ·rcases (aC.mp ((h b).mpr aE)) with e | mb
    ·exact e.symm
    ·have:=pb a ma;have:=pa b mb;lia
  subst e;rw [zif ha.tail hb.tail fun q=>?_];have hq:=h q;rw [aC,aC] at hq;constructor
  ·intro m;rcases (hq.mp (.inr m)) with rfl | z
   ·exact absurd (pa q m) #[O]
   ·exact z
  ·intro m;rcases (hq.mpr (.inr m)) with rfl | z
   ·exact absurd (pb q m) #[O]
   ·exact z
theorem zcO.filter {p:Int} {k:Nat} {qs:List (List Int)} (f:List Int→Bool) (h:zcO p k qs):zcO p k (qs.filter f):=⟨fun q hq=>h.1 q (aU.mp hq).1,h.2.filter f⟩
def sm:Nat→(Nat→Int)→Int
 | 0,_=>0
 | n+1,f=>sm n f+f n
theorem zar {f g:Nat→Int}:∀ {n:Nat},(∀ i,i < n→f i=g i)→sm n f=sm n g
 | 0,_=>rfl
 | n+1,h=>by
  show sm n f+f n=sm n g+g n;rw [zar (n:=n) fun i hi=>h i #[O],h n #[O]]
theorem zfc {p:Int} {f g:Nat→Int}:∀ {n:Nat},(∀ i,i < n→Cg p (f i) (g i))→Cg p (sm n f) (sm n g)
 | 0,_=>Cg.refl _ _
 | n+1,h=>(zfc (n:=n) fun i hi=>h i #[O]).add (h n #[O])
theorem zhd {f g:Nat→Int}:∀ n:Nat,sm n (fun i=>f i+g i)=sm n f+sm n g
 | 0=>rfl
 | n+1=>by
  show sm n (fun i=>f i+g i)+(f n+g n)=sm n f+f n+(sm n g+g n);rw [zhd n];lia
theorem zb9 {c:Int} {f:Nat→Int}:∀ n:Nat,sm n (fun i=>c*f i)=c*sm n f
 | 0=>by show (0:Int)=c*0; lia
 | n+1=>by
  show sm n (fun i=>c*f i)+c*f n=c*(sm n f+f n);rw [zb9 n,Int.mul_add]
theorem zbv {f:Nat→Int}:∀ {n:Nat},(∀ i,i < n→f i=0)→sm n f=0
 | 0,_=>rfl
 | n+1,h=>by
  show sm n f+f n=0;rw [zbv (n:=n) fun i hi=>h i #[O],h n #[O]];rfl
theorem zhe {f:Nat→Int} {j:Nat}:∀ {n:Nat},j < n→(∀ i,i < n→i≠j→f i=0)→sm n f=f j
 | 0,hj,_=>by lia
 | n+1,hj,h=>by
  show sm n f+f n=f j;by_cases e:j=n
  ·subst e;rw [zbv fun i hi=>h i #[O] #[O]];lia
  ·rw [zhe (n:=n) #[O] fun i hi lA=>h i #[O] lA,h n #[O] #[O]];lia
theorem zig {f:Nat→Int}:∀ n:Nat,sm (n+1) f=f 0+sm n (fun i=>f (i+1))
 | 0=>by show (0:Int)+f 0=f 0+0; lia
 | n+1=>by
  show sm (n+1) f+f (n+1)=f 0+(sm n (fun i=>f (i+1))+f (n+1));rw [zig n];lia
theorem zfH {f:Nat→Nat→Int} (m:Nat):∀ n:Nat,sm n (fun i=>sm m (fun j=>f i j))=sm m (fun j=>sm n fun i=>f i j)
 | 0=>(zbv fun _ _=>rfl).symm
 | n+1=>by
  show sm n (fun i=>sm m (fun j=>f i j))+sm m (fun j=>f n j)=sm m (fun j=>sm n (fun i=>f i j)+f n j);rw [zfH m n,← zhd]
theorem zih {f:Nat→Int} {m:Nat}:∀ {n:Nat},m≤n→(∀ i,m≤i→i < n→f i=0)→sm n f=sm m f
 | 0,h,_=>by rw [show m=0 by lia]
 | n+1,h,hz=>by
  by_cases e:m=n+1
  ·rw [e]
  ·show sm n f+f n=_;rw [zih (n:=n) #[O] fun i h1 h2=>hz i h1 #[O],hz n #[O] #[O]];lia
def gl (w:List Int) (y:Nat):Int:=w.getD y 0
theorem zbB {w:List Int} {y:Nat} {c:Int} (h:w[y]? = some c):gl w y=c:=by
 unfold gl;rw [aW,h];rfl
theorem za0 {w:List Int} {y:Nat} (h:w.length≤y):gl w y=0:=by
 unfold gl;rw [aW,bv h];rfl
theorem zaM {w:List Int} {y:Nat} (h:y < w.length):w[y]? = some (gl w y):=by
 rw [aj h,zbB (aj h)]
theorem zew {w:List Int} {p:Int} (hp:0 < p) (h:∀ c∈w,0≤c∧c < p) (y:Nat):0≤gl w y∧gl w y < p:=by
 by_cases hy:y < w.length
 ·exact h _ (aB (zaM hy))
 ·rw [za0 #[O]];lia
theorem zm5 {f:Int→Int} {w:List Int} {y:Nat} (h:y < w.length):gl (w.map f) y=f (gl w y):=zbB (by rw [ah,zaM h]; rfl)
theorem zm6 {f:Int→Int→Int} {v w:List Int} {y:Nat} (h:y < v.length) (h':y < w.length):gl (a8 f v w) y=f (gl v y) (gl w y):=zbB (by rw [iE,zaM h,zaM h'])
theorem zii {p x:Int}:∀ q:List Int,Cg p (zj p x q) (sm q.length fun i=>gl q i*x ^ i)
 | []=>Cg.refl _ _
 | c :: q=>by
  refine (zO p x c q).trans ?_;rw [br,zig];have e:sm q.length (fun i=>gl (c :: q) (i+1)*x ^ (i+1))=x*sm q.length (fun i=>gl q i*x ^ i):=by
   rw [← zb9];refine zar fun i _=>?_
   show gl q i*x ^ (i+1)=_;rw [fK];grind
  rw [e];refine Cg.add (Cg.of_eq ?_) ((Cg.refl p x).mul (zii q));show c=c*x ^ 0;rw [Int.pow_zero,jD]
theorem za7 {p x:Int} {q:List Int} {n:Nat} (h:q.length≤n):Cg p (zj p x q) (sm n fun i=>gl q i*x ^ i):=by
 rw [zih h fun i h1 _=>by rw [za0 h1,dF]];exact zii q
def vx (vs:List (List Int)) (i x:Nat):Int:=gl (vs.getD i []) x
def Rel (p:Int) (L N:Nat) (vs:List (List Int)) (u:Nat→Int):Prop:=∀ x,x < L→Cg p (u x) (sm N fun i=>u (L+i)*vx vs i x)
theorem Rel.sub {p:Int} {L N:Nat} {vs:List (List Int)} {u w r:Nat→Int} (hu:Rel p L N vs u) (hw:Rel p L N vs w) (t:Int) (hr:∀ y,y < L+N→Cg p (r y) (u y - t*w y)):Rel p L N vs r:=fun x hx=>by
 refine (hr x #[O]).trans (((hu x hx).sub ((Cg.refl p t).mul (hw x hx))).trans ?_);have e:sm N (fun i=>u (L+i)*vx vs i x) - t*sm N (fun i=>w (L+i)*vx vs i x)=sm N (fun i=>(u (L+i) - t*w (L+i))*vx vs i x):=by
  rw [show ∀ a b:Int,a - t*b=a+(-t)*b by intros; grind,← zb9,← zhd];exact zar fun i _=>by grind
 rw [e];exact zfc fun i hi=>(hr (L+i) #[O]).symm.mul (Cg.refl _ _)
structure Ech (p:Int) (L N m:Nat) (vs:List (List Int)) (cl:List (Nat×List Int)):Prop where
 ln:cl.length=m
 one:∀ (j:Nat) (a:Nat×List Int),cl[j]? = some a→a.1 < L∧a.2.length=L+N∧(∀ c∈a.2,0≤c∧c < p)∧Rel p L N vs (gl a.2)∧gl a.2 a.1=1∧∀ i,j < i→i < N→gl a.2 (L+i)=0
 up:∀ (j j':Nat) (a a':Nat×List Int),cl[j]? = some a→cl[j']? = some a'→j < j'→gl a'.2 a.1=0
 ii:∀ u:Nat→Int,Rel p L N vs u→(∀ i,m≤i→i < N→Cg p (u (L+i)) 0)→(∀ a∈cl,Cg p (u a.1) 0)→∀ i,i < N→Cg p (u (L+i)) 0
theorem Ech.start (p:Int) (L N:Nat) (vs:List (List Int)):Ech p L N 0 vs [] where
 ln:=rfl
 one:=fun _ _ h=>by simp at h
 up:=fun _ _ _ _ h=>by simp at h
 ii:=fun u _ h _ i hi=>h i (bu _) hi
structure Wh (p:Int) (L N m:Nat) (vs:List (List Int)) (cl:List (Nat×List Int)) (w:List Int):Prop where
 ln:w.length=L+N
 rg:∀ c∈w,0≤c∧c < p
 rel:Rel p L N vs (gl w)
 top:gl w (L+m)=1
 up:∀ j,m < j→j < N→gl w (L+j)=0
 z:∀ a∈cl,gl w a.1=0
theorem zkw {p:Int} (hp:p∈zl) {L N m:Nat} {vs:List (List Int)} {v:List Int} (hm:m < N) (hv:vs[m]? = some v) (hl:v.length=L) (hr:∀ c∈v,0≤c∧c < p):Wh p L N m vs [] ((v++ar N 0).set (L+m) 1):=by
 have rp:=zm hp;have Dk:∀ y,y < L→gl ((v++ar N 0).set (L+m) 1) y=gl v y:=fun y hy=>zbB (by
  rw [cT #[O],bI #[O],zaM #[O]])
 have yz:gl ((v++ar N 0).set (L+m) 1) (L+m)=1:=zbB (by
  rw [ff (by rw [ap,aS]; lia)])
 have hz:∀ j,j < N→j≠m→gl ((v++ar N 0).set (L+m) 1) (L+j)=0:=fun j hj lA=>zbB (by
  rw [cT #[O],bF #[O],db];rw [if_pos #[O]])
 refine⟨by rw [fA,ap,aS,hl],fun c hc=>?_,fun x hx=>?_,yz,fun j h1 h2=>hz j h2 #[O],fun a ha=>by cases ha⟩
 ·rcases gL hc with h | rfl
  ·rcases (aL.mp h) with h | h
   ·exact hr c h
   ·rw [eR h]; lia
  ·lia
 ·rw [Dk x hx,zhe (j:=m) hm fun i hi lA=>by rw [hz i hi lA,dF],yz,f8];unfold vx;rw [aW,hv];exact Cg.refl _ _
theorem zlA {p:Int} (hp:p∈zl) {L N m i:Nat} {vs:List (List Int)} {cl:List (Nat×List Int)} {w:List Int} {a:Nat×List Int} (E:Ech p L N m vs cl) (hm:m < N) (ha:cl[i]? = some a) (W:Wh p L N m vs (cl.take i) w) :
  Wh p L N m vs (cl.take (i+1)) (a8 (fun x y=>(x - gl w a.1*y) % p) w a.2):=by
 have rp:=zm hp;obtain⟨a1,a2,a3,a4,a5,a6⟩:=E.one i a ha;have him:i < m:=by rw [← E.ln]; exact (az.mp ha).1
 have hg:∀ y,y < L+N→gl (a8 (fun x y=>(x - gl w a.1*y) % p) w a.2) y=(gl w y - gl w a.1*gl a.2 y) % p:=fun y hy=>zm6 (by rw [W.ln]; exact hy) #[O]
 refine⟨by rw [dJ,W.ln,a2,Nat.min_self],fun c hc=>?_,W.rel.sub a4 (gl w a.1) fun y hy=>by rw [hg y hy]; exact Cg.emod _ _,?_,fun j h1 h2=>?_,fun b hb=>?_⟩
 ·obtain⟨x,y,rfl⟩:=zef hc;exact⟨aK _ #[O],aF _ #[O]⟩
 ·rw [hg _ #[O],W.top,a6 m him hm,cI,jr];exact ck #[O] #[O]
 ·rw [hg _ #[O],W.up j h1 h2,a6 j #[O] h2,cI];rfl
 ·rw [take_snoc ha] at hb;rcases (aL.mp hb) with hb | hb
  ·obtain⟨j,hj⟩:=bt hb;have hji:j < i:=by
    have:=(az.mp hj).1;rw [aD] at this;lia
   have oj:cl[j]? = some b:=by rw [cw hji] at hj; exact hj
   have qY:=(E.one j b oj).1;rw [hg _ #[O],W.z b hb,E.up j i b a oj ha hji,cI];rfl
  ·obtain rfl:b=a:=by simpa using hb
   rw [hg _ #[O],a5,jD,Int.sub_self];rfl
theorem zkx {p:Int} (hp:p∈zl) {L N m:Nat} {vs:List (List Int)} {cl:List (Nat×List Int)} {w:List Int} {ld:Nat} (E:Ech p L N m vs cl) (hm:m < N) (W:Wh p L N m vs cl w) (Bk:ld < L) (h0:gl w ld≠0) :
  Ech p L N (m+1) vs (cl++[(ld,w.map fun x=>x*inv p (gl w ld) % p)]):=by
 have rp:=zm hp;obtain⟨g0,g1⟩:=zew (show 0 < p by lia) W.rg ld;have hi:=zfu hp (h:=gl w ld) #[O] g1;have hg:∀ y,y < L+N→gl (w.map fun x=>x*inv p (gl w ld) % p) y=gl w y*inv p (gl w ld) % p:=fun y hy=>zm5 (f:=fun x=>x*inv p (gl w ld) % p) (by rw [W.ln]; exact hy)
 have lK:∀ j a,(cl++[(ld,w.map fun x=>x*inv p (gl w ld) % p)])[j]? = some a→(j < m∧cl[j]? = some a)∨(j=m∧a=(ld,w.map fun x=>x*inv p (gl w ld) % p)):=fun j a h=>by
  by_cases hj:j < m
  ·rw [bI (by rw [E.ln]; exact hj)] at h;exact .inl ⟨hj,h⟩
  ·rw [bF (by rw [E.ln]; lia),E.ln] at h;have qp:j - m=0:=by
    have:=(az.mp h).1;simp at this;lia
   rw [qp] at h;exact .inr ⟨#[O],(by simpa using h.symm)⟩
 refine⟨by rw [ap,E.ln]; rfl,fun j a h=>?_,fun j j' a a' h h' kU=>?_,fun u hu hup hz i nB=>?_⟩
 ·rcases lK j a h with ⟨_,h⟩ | ⟨rfl,rfl⟩
  ·exact E.one j a h
  ·refine⟨Bk,by rw [ab,W.ln],fun c hc=>?_,?_,?_,fun i h1 h2=>?_⟩
   ·obtain⟨x,_,rfl⟩:=aq.mp hc;exact⟨aK _ #[O],aF _ #[O]⟩
   ·refine Rel.sub (u:=fun _=>0) (fun x _=>Cg.of_eq (zbv fun i _=>dF _).symm) W.rel (-inv p (gl w ld)) fun y hy=>?_
    rw [hg y hy];exact (Cg.emod _ _).trans (Cg.of_eq (by grind))
   ·rw [hg ld #[O]];have h2:Cg p (gl w ld*inv p (gl w ld)) 1:=(Cg.of_eq (dE _ _)).trans hi;rw [h2.mod_eq];exact ck #[O] #[O]
   ·rw [hg _ #[O],W.up i h1 h2,dF];rfl
 ·rcases lK j' a' h' with ⟨oj,h'⟩ | ⟨rfl,rfl⟩
  ·rcases lK j a h with ⟨_,h⟩ | ⟨rfl,_⟩
   ·exact E.up j j' a a' h h' kU
   ·lia
  ·rcases lK j a h with ⟨_,h⟩ | ⟨rfl,_⟩
   ·have:=(E.one j a h).1;rw [hg _ #[O],W.z a (aB h),dF];rfl
   ·lia
 ·have hru:Rel p L N vs (fun y=>u y - u (L+m)*gl w y):=hu.sub W.rel (u (L+m)) fun y _=>Cg.refl _ _
  have lP:=E.ii (fun y=>u y - u (L+m)*gl w y) hru (fun i h1 h2=>by
   by_cases e:i=m
   ·subst e;show Cg p (u (L+i) - u (L+i)*gl w (L+i)) 0;rw [W.top];exact Cg.of_eq #[O]
   ·show Cg p (u (L+i) - u (L+m)*gl w (L+i)) 0;rw [W.up i #[O] h2,cI,jr];exact hup i #[O] h2) (fun a ha=>by
   show Cg p (u a.1 - u (L+m)*gl w a.1) 0;rw [W.z a ha,cI,jr];exact hz a (aP _ ha))
  have yA:Cg p (u ld - u (L+m)*gl w ld) 0:=(hru ld Bk).trans ((zfc (g:=fun _=>0) fun i hi=>((lP i hi).mul (Cg.refl _ _)).trans (Cg.of_eq (dF _))).trans (Cg.of_eq (zbv fun _ _=>rfl)));have n9:=hz (ld,_) (aG _ (aR.mpr rfl));have hc:Cg p (gl w ld*u (L+m)) 0:=by
   have:=n9.sub yA;exact (Cg.of_eq (by show gl w ld*u (L+m)=u ld - (u ld - u (L+m)*gl w ld); grind)).trans (this.trans (Cg.of_eq #[O]))
  have tI:Cg p (u (L+m)) 0:=zds hp (by rw [ck g0 g1]; exact h0) hc;have:=lP i nB;have h3:=this.add (tI.mul (Cg.refl p (gl w (L+i))));exact (Cg.of_eq (by show u (L+i)=u (L+i) - u (L+m)*gl w (L+i)+u (L+m)*gl w (L+i); lia)).trans (h3.trans (Cg.of_eq #[O]))
def Indep (p:Int) (L:Nat) (vs:List (List Int)):Prop:=∀ u:Nat→Int,(∀ x,x < L→Cg p (sm vs.length fun i=>u i*vx vs i x) 0)→∀ i,i < vs.length→Cg p (u i) 0
def Dep (p:Int) (L:Nat) (vs:List (List Int)) (c:List Int):Prop:=∀ x,x < L→Cg p (sm vs.length fun i=>gl c i*vx vs i x) 0
theorem zky {p:Int} {L:Nat} {vs:List (List Int)} {cl:List (Nat×List Int)} (E:Ech p L vs.length vs.length vs cl):Indep p L vs:=fun u hu i hi=>by
 have h:=E.ii (fun y=>if y < L then sm vs.length (fun i=>u i*vx vs i y) else u (y - L)) (fun x hx=>?_) (fun i h1 h2=>by lia) (fun a ha=>?_) i hi
 ·rw [if_neg #[O],g9] at h;exact h
 ·dsimp only;rw [if_pos hx];refine Cg.of_eq (zar fun i _=>?_);rw [if_neg #[O],g9]
 ·obtain⟨j,hj⟩:=bt ha;have:=(E.one j a hj).1;rw [if_pos this];exact hu _ this
theorem zm7 {p:Int} {L m:Nat} {vs:List (List Int)} {cl:List (Nat×List Int)} {w:List Int} (W:Wh p L vs.length m vs cl w) (hm:m < vs.length) (hz:∀ x,x < L→gl w x=0) :
  IsP p (m+1) ((w.drop L).take (m+1))∧gl ((w.drop L).take (m+1)) m=1∧Dep p L vs ((w.drop L).take (m+1)):=by
 have hg:∀ i,i≤m→gl ((w.drop L).take (m+1)) i=gl w (L+i):=fun i hi=>zbB (by
  rw [cw #[O],dS];exact zaM (by rw [W.ln]; lia))
 have hl:((w.drop L).take (m+1)).length=m+1:=by
  rw [aD,b7,W.ln];lia
 refine⟨⟨hl,fun c hc=>W.rg c (fI (ci hc))⟩,by rw [hg m (af _)]; exact W.top,fun x hx=>?_⟩;have h:=W.rel x hx;rw [hz x hx] at h;refine Cg.trans (Cg.of_eq (zar fun i hi=>?_)) h.symm;by_cases e:i≤m
 ·rw [hg i e]
 ·rw [W.up i #[O] hi,za0 #[O]]
theorem zlB {α β:Type} (f:α→β) (xs:List α) (c:Nat×List α):nxt (xs.map f) (c.1,c.2.map f)=(nxt xs c).map fun d=>(d.1,d.2.map f):=by
 unfold nxt;rw [bz,ab];refine cn fun j _=>?_
 show (c.1+j+1,c.2.map f++(xs.map f)[c.1+j]?.toList)=(c.1+j+1,(c.2++xs[c.1+j]?.toList).map f);rw [ah,ao];cases xs[c.1+j]? <;> rfl
theorem zij {α β:Type} (f:α→β) (xs:List α):∀ m,chs (xs.map f) m=(chs xs m).map fun d=>(d.1,d.2.map f)
 | 0=>rfl
 | m+1=>by
  show (chs (xs.map f) m).flatMap (nxt (xs.map f))=((chs xs m).flatMap (nxt xs)).map _;rw [zij f xs m,List.map_flatMap,List.flatMap_map];congr 1;funext c;exact zlB f xs c
theorem zfd {α β:Type} (f:α→β) (xs:List α) (m:Nat):(chs (xs.map f) m).map (·.2)=((chs xs m).map (·.2)).map (·.map f):=by
 rw [zij,bz,bz];rfl
def PtB (H:Hp):List Addr→List (Int×Int)→Prop:=Paired fun b q=>H b=some (.tup [.int q.1,.int q.2])
theorem PtB.same {H H':Hp} (s:zu H H') {bs:List Addr} {kx:List (Int×Int)} (h:PtB H bs kx):PtB H' bs kx:=bA (fun _ _ z=>s _ _ z) h
theorem PtB.zs {H:Hp}:∀ {bs:List Addr} {kx:List (Int×Int)},PtB H bs kx→∃ zs:List (Addr×Int×Int),bs=zs.map (·.1)∧kx=zs.map (·.2)∧∀ z∈zs,H z.1=some (.tup [.int z.2.1,.int z.2.2])
 | _,_,.nil=>⟨[],rfl,rfl,#[M]⟩
 | _,_,.cons (a:=b) (b:=q) r t=>by
  obtain⟨zs,h1,h2,h3⟩:=PtB.zs t;refine⟨(b,q) :: zs,by rw [h1]; rfl,by rw [h2]; rfl,fun z hz=>?_⟩;rcases (aC.mp hz) with rfl | hz
  ·exact r
  ·exact h3 z hz
theorem PtB.take {H:Hp} {bs:List Addr} {kx:List (Int×Int)} (h:PtB H bs kx) (n:Nat):PtB H (bs.take n) (kx.take n):=by
 induction h generalizing n with
 | nil=>rw [gr,gr]; exact .nil
 | cons r t ih =>
  cases n with
  | zero=>exact .nil
  | succ n=>exact .cons r (ih n)
def zaE (H:Hp):List Addr→List (List Int)→Prop:=Paired fun r q=>H r=some (.tup (q.map V.int))
theorem zaE.same {H H':Hp} (s:zu H H') {rs:List Addr} {qs:List (List Int)} (h:zaE H rs qs):zaE H' rs qs:=bA (fun _ _ z=>s _ _ z) h
theorem zaE.of {H:Hp}:∀ {ps:List (Addr×List Int)},(∀ q∈ps,H q.1=some (.tup (q.2.map V.int)))→zaE H (ps.map (·.1)) (ps.map (·.2))
 | [],_=>.nil
 | a :: ps,h=>.cons (h a aE) (zaE.of fun q hq=>h q (av _ hq))
theorem zkz {κ:Type} [DecidableEq κ] (kE:List (κ×V)) (k:κ) (v:V):(putK kE k v).map (·.1)=if k∈kE.map (·.1) then kE.map (·.1) else kE.map (·.1)++[k]:=by
 unfold putK;by_cases h:(kE.any fun kv=>decide (kv.1=k))=true
 ·rw [if_pos h];obtain⟨kv,h1,h2⟩:=gW.mp h;have h2:kv.1=k:=by simpa using h2
  rw [if_pos (by rw [← h2]; exact eF h1),bz];refine cn fun a _=>?_
  show (if a.1=k then (a.1,v) else a).1=a.1;split <;> rfl
 ·rw [if_neg h];rw [if_neg (fun hm=>h ?_),ao]
  ·rfl
  ·obtain⟨kv,h1,h2⟩:=aq.mp hm;exact gW.mpr ⟨kv,h1,by simpa using h2⟩
theorem zlC {a b:List Int} (h:(a.map c8:List Key)=b.map c8):a=b:=by
 induction a generalizing b with
 | nil=>cases b with
  | nil=>rfl
  | cons _ _=>simp at h
 | cons x a ih=>cases b with
  | nil=>simp at h
  | cons y b =>
   rw [bh,bh] at h;obtain⟨h1,h2⟩:=iY h;rw [kq h1,ih h2]
def KeysAre (kE:List (List Key×V)) (ml:List (List Int)):Prop:=kE.map (·.1)=ml.map (·.map c8)
theorem zkA {kE:List (List Key×V)} {ml:List (List Int)} (h:KeysAre kE ml) (hn:ml.Nodup) (q:List Int) (v:V):∃ rJ,KeysAre (putK kE (q.map c8) v) rJ∧rJ.Nodup∧rJ.length≤ml.length+1∧∀ x,x∈rJ↔x∈ml∨x=q:=by
 unfold KeysAre at h ⊢;rw [zkz,h];have hm:(q.map c8:List Key)∈ml.map (·.map c8)↔q∈ml:=by
  constructor
  ·intro hm;obtain⟨x,hx,e⟩:=aq.mp hm;rw [← zlC e];exact hx
  ·intro hm;exact eF hm
 by_cases hq:q∈ml
 ·refine⟨ml,by rw [if_pos (hm.mpr hq)],hn,#[O],fun x=>⟨.inl,fun z=>z.elim id fun e=>e ▸ hq⟩⟩
 ·refine⟨ml++[q],by rw [if_neg fun z=>hq (hm.mp z),ao]; rfl,?_,by rw [ap]; exact af _,fun x=>by rw [aL,aR]⟩;rw [fc];exact⟨hn,#[M],fun a ha b hb e=>hq (by rw [← aR.mp hb,← e]; exact ha)⟩
def zlD (K:ag):Sp:=fun vs H Q _=>∃ (c tt r:Addr) (p k:Int) (pl:List Int) (rw:List (Option Int)),vs = [.ref c,.ref r]∧za6 H c tt p k pl∧RowAt K H r pl.length rw∧pl.length≤1000 ∧
 ∀ (l:Addr) (bs:List Addr) (H':Hp),H l=none→zu H H'→H' l=some (.lst (bs.map V.ref))→PtB H' bs (hps pl rw)→Q (.ref l) H'
def zex (K:ag):Sp:=fun vs H Q _=>∃ (c tt a:Addr) (p:Int) (k:Nat) (pl:List Int) (bs:List Addr) (kx:List (Int×Int)),vs = [.ref c,.ref a]∧za6 H c tt p k pl∧ky K H a (bs.map V.ref)∧PtB H bs kx∧kx.length≤16∧p∈zl∧Pts p kx∧1≤k∧k≤100 ∧
 ∀ (l:Addr) (rs:List Addr) (qs:List (List Int)) (H':Hp),H l=none→zu H H'→H' l=some (.lst (rs.map V.ref))→zaE H' rs qs→qs.length≤65536→zcO p k qs→(∀ q,q∈qs↔∃ pk∈(chs kx k).map (·.2),q=thr p pk)→Q (.ref l) H'
end My
end
section
namespace L2
open PySem PySem.Spec PyProof.Rows
def zm8 (K:ag):R2:=fun x y H Q=>∃ a b xs ys,x = .ref a∧y = .ref b∧kF K H a xs∧kF K H b ys∧ys≠[]∧xs.length+ys.length≤sizeLine ∧
 (xs = []→Q (.ref b) H)∧(xs≠[]→∀ p,H p=none→Q (.ref p) (kB H p (.tup (xs++ys))))
theorem zfe {X:Cx} {K:ag} (hK:X.K=K):OpR X (binaryOp .Add) (zm8 K):=by
 subst hK;intro ku s σ H x y v u Q I rx ry h;obtain⟨a,b,xs,ys,rfl,rfl,ha,hb,hy,hz,q1,q2⟩:=h;by_cases hx:xs = []
 ·cases rx;cases ry;obtain⟨kz,r1,p1,_⟩:=I.tuple ha;obtain⟨lO,r2,p2,_⟩:=I.tuple hb;obtain⟨⟨cls,dd,data,sl⟩,ho,hc,n,hd⟩:=id p1;obtain⟨⟨BY,AW,data2,AX⟩,qO,sC,n2,hd2⟩:=id p2;simp only at hc hd sC hd2;subst hc hd sC hd2;exact jf ⟨_,ho,rfl⟩ ⟨_,qO,rfl⟩ gP iW fg eZ (eL _ _)
   (tuple_addW0 a b kz.toArray lO.toArray n n2 dd AW sl AX (by simp [r1.nil_iff.mpr hx])) ⟨ho,qO,⟨.ref b,H,I,rfl,q1 hx⟩⟩
 ·exact zk7 ku s σ H _ _ v u Q I rx ry ⟨a,b,xs,ys,rfl,rfl,ha,hb,hx,hz,fun z=>absurd z hy,fun _=>q2 hx⟩
end L2
end
section
namespace My
open PySem L2 PyProof.Rows
theorem zhf {X:Cx} {st:Stmt} {ts:TS} (h:PS X st ts):PS X st (fun D σ H=>∃ Pv:L2.St→Hp→Prop,ts { D with nx:=Pv } σ H∧∀ σ' H',Pv σ' H'→D.nx σ' H'):=by
 intro ku s σ H D I hq;obtain⟨Pv,h1,h2⟩:=hq;refine thn (h ku s σ H _ I h1) fun f s1 q=>?_
 cases f with
 | next =>
  obtain⟨σ',H',I',p⟩:=q;exact⟨σ',H',I',h2 _ _ p⟩
 | ret v=>exact q
 | brk=>exact q
 | cont=>exact q
theorem PtB.pts {K:ag} {H:Hp} {a:Addr} {bs:List Addr} {kx:List (Int×Int)} (ha:H a=some (.lst (bs.map V.ref))) (h:PtB H bs kx):zj2 K H a kx:=by
 refine⟨bs,ky.of ha,h.length,fun i b q h1 h2=>?_⟩;obtain⟨q',h3,h4⟩:=Paired.get h h1;rw [h2] at h3;cases h3;exact h4
end My
end
section
namespace L2
open PySem PySem.Spec PyProof.Rows
theorem zdt:fillsNumberSlot (.type "tuple") "mul" = pure false :=
 PySem.fillsNumberSlot_seq (id:="tuple.__mul__") (r:=some (.builtin "tuple.__rmul__")) PySem.F.slot_tuple_mul.lookup #[N] PySem.F.slot_tuple_rmul.lookup #[N]
theorem zfI:seqRepeat? (.type "tuple")=pure (some (.builtin "tuple.__mul__")):=by
 unfold seqRepeat?;rw [jR (T:="tuple") (name:="__mul__") (id:="tuple.__mul__") PySem.F.slot_tuple_mul.lookup #[N],jR (T:="tuple") (name:="__rmul__") (id:="tuple.__rmul__") PySem.F.slot_tuple_rmul.lookup #[N]];rfl
theorem zey (a:Int) (t:Tok) (l:Addr) (items:Array Value) (n:Nat) (dd:Option Addr) (sl:Array (Option Value)) :
  Meets (Builtin.«int.__rmul__» ⟨[.int a t,.ref l],[]⟩) (fun _ R s=>s.heap.get? l=some { cls:=.type "tuple",dict:=dd,data:=.seq items n,slots:=sl }∧R (.ok (.ret Value.notImplemented)) s) :=
 .of_wp fun prog w A R s h=>by (obtain⟨hp,g,d,tk,os⟩:=s; obtain⟨hl,h⟩:=h; wp_walk using cr hl; exact⟨_,rfl,h⟩)
theorem zkB (l:Addr) (items:Array Value) (n:Nat) (dd:Option Addr) (sl:Array (Option Value)) (u:Tok) :
  Meets (Builtin.«tuple.__mul__» ⟨[.ref l,.int 1 u],[]⟩) (fun _ R s=>s.heap.get? l=some { cls:=.type "tuple",dict:=dd,data:=.seq items n,slots:=sl }∧R (.ok (.ret (.ref l))) s) :=
 .of_wp fun prog w A R s h=>by
  (obtain⟨hp,g,d,tk,os⟩:=s)
  obtain⟨hl,h⟩:=h;have f1:=gX;have f2:=eS
  wp_walk using cr hl; exact⟨_,rfl,h⟩
theorem zkC (l:Addr) (items:Array Value) (n:Nat) (dd:Option Addr) (sl:Array (Option Value)) (k:Int) (u:Tok) (tI:(decide (k < -(2 ^ 63)) || decide (k≥2 ^ 63))=false) (rd:(items.isEmpty || k == 1)=false) (sC:(decide (k≤0) || items.isEmpty)=true) :
  Meets (Builtin.«tuple.__mul__» ⟨[.ref l,.int k u],[]⟩) (fun _ R s=>s.heap.get? l=some { cls:=.type "tuple",dict:=dd,data:=.seq items n,slots:=sl }∧R (.ok (.ret (bf s.heap.objs.size))) { s with heap:=s.heap.push { cls:=iO "tuple",data:=ko #[] },toks:=s.toks }) :=
 .of_wp fun prog w A R s h=>by
  (obtain⟨hp,g,d,tk,os⟩:=s)
  obtain⟨hl,h⟩:=h;have f1:=gX;have f2:=eS
  wp_walk using cr hl; refine im (by rw [tI]; rfl) ?_
  wp_walk using cr hl; exact⟨_,rfl,h⟩
theorem zkD (l:Addr) (items:Array Value) (n:Nat) (dd:Option Addr) (sl:Array (Option Value)) (k:Int) (u:Tok) (tI:(decide (k < -(2 ^ 63)) || decide (k≥2 ^ 63))=false) (rd:(items.isEmpty || k == 1)=false) (sC:(decide (k≤0) || items.isEmpty)=false)
  (hc3:¬(items.size:Int)*k > (2 ^ 63 - 1) / 8) (hc4:gt (items.size*k)=false) (hsz:(fB (fun x1 x2=>x1++x2) #[] (ar k.toNat items)).size≤sizeLine) :
  Meets (Builtin.«tuple.__mul__» ⟨[.ref l,.int k u],[]⟩) (fun _ R s=>s.heap.get? l=some { cls:=.type "tuple",dict:=dd,data:=.seq items n,slots:=sl }∧R (.ok (.ret (bf s.heap.objs.size))) { s with heap:=s.heap.push { cls:=iO "tuple",data:=ko (fB (fun x1 x2=>x1++x2) #[] (ar k.toNat items)) },toks:=s.toks }) :=
 .of_wp fun prog w A R s h=>by
  (obtain⟨hp,g,d,tk,os⟩:=s)
  obtain⟨hl,h⟩:=h;have f1:=gX;have f2:=eS
  wp_walk using cr hl; refine im (by rw [tI]; rfl) ?_
  wp_walk using cr hl; refine im (decide_eq_false hc3) ?_
  wp_walk using cr hl; exact⟨_,rfl,h⟩
def znR (K:ag):R2:=fun x y H Q=>∃ a k xs,x = .ref a∧y = .int k∧kF K H a xs∧xs≠[]∧-(2 ^ 63)≤k∧k < 2 ^ 63∧xs.length*k.toNat≤sizeLine ∧
 (k=1→Q (.ref a) H)∧(k≠1→∀ p,H p=none→Q (.ref p) (kB H p (.tup (ar k.toNat xs).flatten)))
theorem zik {X:Cx}:OpR X (binaryOp .Mult) (znR X.K):=by
 intro ku s σ H x y v u Q I rx ry h;obtain⟨a,k,xs,rfl,rfl,hx,lA,h1,h2,hz,q,q2⟩:=h;cases rx;obtain⟨t,rfl⟩:=ry;obtain⟨kz,r,p1,_⟩:=I.tuple hx;obtain⟨⟨cls,dd,data,sl⟩,ho,hc,n,hd⟩:=id p1;simp only at hc hd;subst hc hd;have hl:xs.length=kz.length:=r.length;have Dl:kz≠[]:=fun e=>lA (r.nil_iff.mp e)
 have he:kz.toArray.isEmpty=false:=by simpa using Dl
 have tI:(decide (k < -(2 ^ 63)) || decide (k≥2 ^ 63))=false:=by
  rw [decide_eq_false #[O],decide_eq_false #[O]]; rfl
 refine gJ (T:="tuple") (U:="int") #[D] ⟨_,ho,rfl⟩ (fun s'=>gI s' k t) zdt F.fills_int_mul fC zfI F.slot_int_index.lookup
  (dQ fC (gI s k t) jK (jw _ _) (zey k t a kz.toArray n dd sl) ⟨ho,rfl,⟨_,ho,rfl⟩,?_⟩)
 by_cases e1:k=1
 ·subst e1;refine dQ gZ ⟨_,ho,rfl⟩ gF (ge _ _) (zkB a kz.toArray n dd sl t) ⟨ho,?_⟩;exact⟨.ref a,H,I,rfl,q rfl⟩
 have rd:(kz.toArray.isEmpty || k == 1)=false:=by rw [he]; simpa using e1
 by_cases e0:k≤0
 ·refine dQ gZ ⟨_,ho,rfl⟩ gF (ge _ _) (zkC a kz.toArray n dd sl k t tI rd (by rw [decide_eq_true e0]; rfl)) ⟨ho,?_⟩;have hf:=I.hok.fresh (af _);have e:(ar k.toNat xs).flatten = []:=by rw [show k.toNat=0 by lia]; rfl
  refine⟨.ref s.heap.objs.size,_,I.laid (t':=s.toks) (o:=.tup []) (fun b ob q=>ai _ q) (af _) ?_,rfl,by rw [← e]; exact q2 e1 _ hf⟩;exact⟨bu _,[],.nil,hV _ _⟩
 ·have hm:(kz.toArray.size:Int)*k=((xs.length*k.toNat:Nat):Int):=by
   rw [au,← hl,Int.natCast_mul,Int.toNat_of_nonneg #[O]]
  have nZ:(sizeLine:Nat)≤16777216:=by decide
  have uy:fB (fun x1 x2=>x1++x2) #[] (ar k.toNat kz.toArray)=(ar k.toNat kz).flatten.toArray:=by
   have:=foldl_rep kz k.toNat [];rw [ic] at this;exact this
  refine dQ gZ ⟨_,ho,rfl⟩ gF (ge _ _) (zkD a kz.toArray n dd sl k t tI rd (by rw [decide_eq_false e0,he]; rfl) (by rw [hm]; lia) (by rw [hm]; unfold gt; exact decide_eq_false #[O]) (by rw [uy,au,len_rep,jl,← hl]; exact hz)) ⟨ho,?_⟩;have hf:=I.hok.fresh (af _);rw [uy];refine⟨.ref s.heap.objs.size,_,I.laid (t':=s.toks) (o:=.tup (ar k.toNat xs).flatten) (fun b ob q=>ai _ q) (af _) ?_,rfl,q2 e1 _ hf⟩;exact⟨by rw [len_rep,jl]; exact hz,_,r.rep k.toNat,hV _ _⟩
def znS (K:ag):R2:=fun x y H Q=>∃ a k xs,x = .ref a∧y = .int k∧kF K H a xs∧xs≠[]∧-(2 ^ 63)≤k∧k < 2 ^ 63∧xs.length*k.toNat≤sizeLine ∧
 ∀ p H',zu H H'→kF K H' p (ar k.toNat xs).flatten→Q (.ref p) H'
theorem zlE {X:Cx}:OpR X (binaryOp .Mult) (znS X.K):=by
 intro ku s σ H x y v u Q I rx ry h;obtain⟨a,k,xs,rfl,rfl,hx,lA,h1,h2,hz,q⟩:=h;exact zik ku s σ H _ _ v u Q I rx ry ⟨a,k,xs,rfl,rfl,hx,lA,h1,h2,hz,fun e=>q a H (fun _ _ e=>e) (by rw [e]; simpa using hx),fun _ p hp=>q p _ (fun b o z=>by rw [zr (fun e=>by rw [e,hp] at z; cases z)]; exact z) (kF.of zb)⟩
theorem zlF {X:Cx} {K:ag} {tg l:Expr} {tl:TE} (hK:X.K=K) (hl:PE X l tl):PI X tg l (zno K tl):=by subst hK; exact zjB hl
end L2
end
section
namespace HT
open PySem PySem.Spec PyProof.Rows
section
variable {prog:Program} {w:World} {A:Around} {E:Value→Shared→Prop} {s:Shared}
theorem getItem_tuple_whole {t sl:Addr} {items:Array Value} {vl vu:Value} {lo hi:Option Int} {Q:Value→Shared→Prop} (ht:IsTup s.heap t items) (hs:s.heap.IsSliceOf sl vl vu .none) (pl:IsPart vl lo) (pu:IsPart vu hi)
  (hw:sIx items.size 0 lo=0∧sIx items.size items.size hi=items.size) (h:Q (.ref t) s):wpAny (model prog w) A (getItem (.ref t) (.ref sl)) Q E s:=by
 obtain⟨os,vL,AY,xT⟩:=id hs;have AZ:s.TypeIs (.ref sl) "slice":=⟨os,vL,AY⟩;unfold getItem
 try with_reducible refine b8 ?_
 first | refine ae (ak ?_) | skip
 refine ae (wpAny_sequenceKey ht.typeIs #[D] ?_);refine ae (be (name:=bV "__getitem__") ht.typeIs cS
  (bq cS ht.typeIs i4 ?_ (jh _ _)))
 show wpAny _ _ (gk (.ref t) >>= _) _ _ s;refine ae (tupleItemsOf_ ht ?_);refine ae (ji AZ ?_);rw [if_pos #[D]];refine ae (zbR hs pl pu ?_);have Dm:(((sIx items.size 0 lo:Nat):Int) == 0 && (1:Int) == 1 && (sIx items.size items.size hi - sIx items.size 0 lo) == items.size)=true:=by
  rw [hw.1,hw.2];simp
 show wpAny _ _ (if (((sIx items.size 0 lo:Nat):Int) == 0 && (1:Int) == 1 && (sIx items.size items.size hi - sIx items.size 0 lo) == items.size)=true then _ else _) _ _ s;rw [if_pos Dm];refine ae (m:=Builtin.Tuple.tupleIsExact _) (ae (ji ht.typeIs (ak ?_)));rw [if_pos #[D]]
 first
  | exact ae (cg (ak ⟨_,rfl,ak h⟩))
  | exact ae (ae (cg (ak ⟨_,rfl,ak h⟩)))
end
end HT
namespace L2
open PySem PySem.Spec PyProof.Rows
def znT (K:ag):V→Option Int→Option Int→Hp→VK→Prop:=fun x lo hi H Q=>∃ a xs,x = .ref a∧kF K H a xs∧∀ p H',zu H H'→kF K H' p (zbk xs lo hi)→Q (.ref p) H'
theorem zlG {X:Cx}:SlR X (znT X.K):=by
 intro ku s σ H x v vl vu lo hi sl Q I rx hs pl pu h;obtain⟨a,xs,rfl,hx,q⟩:=h;by_cases hw:HT.sIx xs.length 0 lo=0∧HT.sIx xs.length xs.length hi=xs.length
 ·have rx':=rx;cases rx;obtain⟨kz,r,ht,hz⟩:=I.tuple hx;have kG:kz.toArray.size=xs.length:=by rw [au]; exact r.length.symm
  refine⟨"tuple",_,PyProof.Rows.slot_tuple_getitem.lookup,ht.typeIs,?_⟩;refine HT.getItem_tuple_whole ht hs pl pu (by rw [kG]; exact hw) ⟨.ref a,H,I,rfl,q a H (fun _ _ e=>e) ?_⟩;have e:zbk xs lo hi=xs:=by
   unfold zbk;rw [hw.1,hw.2,dB,eU,aM]
  rw [e];exact hx
 ·exact zjJ ku s σ H (.ref a) v vl vu lo hi sl Q I rx hs pl pu ⟨a,xs,rfl,hx,hw,fun p hp=>q p _ (fun b o z=>by rw [zr (fun e=>by rw [e,hp] at z; cases z)]; exact z) (kF.of zb)⟩
theorem zkE {X:Cx} {K:ag} (hK:X.K=K):SlR X (znT K):=by subst hK; exact zlG
def zor:V→Option Int→Option Int→Hp→VK→Prop:=fun x lo hi H Q=>∃ a xs,x = .ref a∧H a=some (.tup xs)∧∀ p H',zu H H'→H' p=some (.tup (zbk xs lo hi))→Q (.ref p) H'
theorem zlH {X:Cx}:SlR X zor:=by
 intro ku s σ H x v vl vu lo hi sl Q I rx hs pl pu h;obtain⟨a,xs,rfl,hx,q⟩:=h;have hX:kF X.K H a xs:=kF.of hx;by_cases hw:HT.sIx xs.length 0 lo=0∧HT.sIx xs.length xs.length hi=xs.length
 ·cases rx;obtain⟨kz,r,ht,hz⟩:=I.tuple hX;have kG:kz.toArray.size=xs.length:=by rw [au]; exact r.length.symm
  refine⟨"tuple",_,PyProof.Rows.slot_tuple_getitem.lookup,ht.typeIs,?_⟩;refine HT.getItem_tuple_whole ht hs pl pu (by rw [kG]; exact hw) ⟨.ref a,H,I,rfl,q a H (fun _ _ e=>e) ?_⟩;have e:zbk xs lo hi=xs:=by
   unfold zbk;rw [hw.1,hw.2,dB,eU,aM]
  rw [e];exact hx
 ·exact zjJ ku s σ H (.ref a) v vl vu lo hi sl Q I rx hs pl pu ⟨a,xs,rfl,hX,hw,fun p hp=>q p _ (fun b o z=>by rw [zr (fun e=>by rw [e,hp] at z; cases z)]; exact z) zb⟩
def znU:R2:=fun x y H Q=>∃ a b xs ys,x = .ref a∧y = .ref b∧H a=some (.tup xs)∧H b=some (.tup ys)∧xs.length+ys.length≤sizeLine∧ys≠[]∧∀ p H',zu H H'→H' p=some (.tup (xs++ys))→Q (.ref p) H'
theorem zil {X:Cx}:OpR X (binaryOp .Add) znU:=by
 intro ku s σ H x y v u Q I rx ry h;obtain⟨a,b,xs,ys,rfl,rfl,ha,hb,hz,hy,q⟩:=h;refine zfe rfl ku s σ H _ _ v u Q I rx ry ⟨a,b,xs,ys,rfl,rfl,kF.of ha,kF.of hb,hy,hz,fun e=>?_,fun _ p hp=>q p _ (fun b o z=>by rw [zr (fun e=>by rw [e,hp] at z; cases z)]; exact z) zb⟩;subst e;exact q b H (fun _ _ e=>e) hb
def znV:R2:=fun x y H Q=>∃ a k xs,x = .ref a∧y = .int k∧H a=some (.tup xs)∧xs≠[]∧-(2 ^ 63)≤k∧k < 2 ^ 63∧xs.length*k.toNat≤sizeLine∧∀ p H',zu H H'→H' p=some (.tup (ar k.toNat xs).flatten)→Q (.ref p) H'
theorem zlI {X:Cx}:OpR X (binaryOp .Mult) znV:=by
 intro ku s σ H x y v u Q I rx ry h;obtain⟨a,k,xs,rfl,rfl,hx,lA,h1,h2,hz,q⟩:=h;refine zik ku s σ H _ _ v u Q I rx ry ⟨a,k,xs,rfl,rfl,kF.of hx,lA,h1,h2,hz,fun e=>q a H (fun _ _ e=>e) (by rw [e]; simpa using hx),fun _ p hp=>q p _ (fun b o z=>by rw [zr (fun e=>by rw [e,hp] at z; cases z)]; exact z) zb⟩
end L2
end
section
namespace My
open PySem L2 PyProof.Rows
def md (p:Int) (q:Int×Int):Int×Int:=(q.1,q.2 % p)
theorem zgB (p:Int) (s:List Int×List Int) (q:Int×Int):zcm p s (md p q)=zcm p s q:=by
 unfold zcm md;have:(q.2 % p - zj p q.1 s.1)*inv p (zj p q.1 s.2) % p=(q.2 - zj p q.1 s.1)*inv p (zj p q.1 s.2) % p:=(((Cg.emod p q.2).sub (Cg.refl p _)).mul (Cg.refl p _)).mod_eq;dsimp only;rw [this]
theorem zim (p:Int):∀ (kx:List (Int×Int)) (s:List Int×List Int),(kx.map (md p)).foldl (zcm p) s=kx.foldl (zcm p) s
 | [],s=>rfl
 | q :: kx,s=>by
  rw [bh,hW,hW,zgB,zim p kx]
theorem zm9 (p:Int) (kx:List (Int×Int)):thr p (kx.map (md p))=thr p kx:=by
 unfold thr znH;rw [zim,ab]
def zgC (K:ag):Sp:=fun vs H Q _=>∃ (p:Int) (a:Addr) (kx:List (Int×Int)),vs = [.int p,.ref a]∧zj2 K H a kx∧kx.length≤100∧p∈zl∧Pts p (kx.map (md p))∧(∀ q∈kx,0≤q.2∧q.2 < 10000) ∧
 ∀ (l:Addr) (H':Hp),H l=none→zu H H'→H' l=some (.tup ((thr p (kx.map (md p))).map V.int))→Q (.ref l) H'
def zhg (K:ag):Sp:=fun vs H Q _=>∃ (p tm:Int) (a b:Addr) (as bs:List Int),vs = [.int p,.ref a,.int tm,.ref b]∧H a=some (.lst (as.map V.int))∧H b=some (.lst (bs.map V.int))∧as.length=bs.length∧as.length≤1000∧0 < p∧0≤tm∧tm < 1000 ∧
 ∀ (l:Addr) (H':Hp),H l=none→zu H H'→H' l=some (.lst ((a8 (fun x y=>(x - tm*y) % p) as bs).map V.int))→Q (.ref l) H'
def LsA (H:Hp):List Addr→List (List Int)→Prop:=Paired fun b v=>H b=some (.lst (v.map V.int))
theorem LsA.same {H H':Hp} (s:zu H H') {bs:List Addr} {vv:List (List Int)} (h:LsA H bs vv):LsA H' bs vv:=bA (fun _ _ z=>s _ _ z) h
def ClA (ca:Addr) (H:Hp):List Addr→List (Nat×List Int)→Prop:=Paired fun b a=>∃ wa,H b=some (.tup [.int (a.1:Int),.ref wa])∧H wa=some (.lst (a.2.map V.int))∧wa≠ca
theorem ClA.same {ca:Addr} {H H':Hp} (s:zu H H') {bs:List Addr} {cl:List (Nat×List Int)} (h:ClA ca H bs cl):ClA ca H' bs cl:=bA (fun _ _ ⟨wa,z1,z2,z3⟩=>⟨wa,s _ _ z1,s _ _ z2,z3⟩) h
theorem ClA.put {ca:Addr} {H:Hp} {bs:List Addr} {cl:List (Nat×List Int)} {xs:List V} {o:HO} (h:ClA ca H bs cl) (hf:H ca=some (.lst xs)):ClA ca (kB H ca o) bs cl:=bA (fun b _ ⟨wa,z1,z2,z3⟩=>⟨wa,by
 rw [zr (fun e=>by rw [e,hf] at z1; cases z1)]; exact z1,by rw [zr z3]; exact z2,z3⟩) h
theorem zlJ {xs:List V} {a b:Nat} (h:b≤xs.length):zbk xs (some (a:Int)) (some (b:Int))=(xs.drop a).take (b - a):=by
 unfold zbk;rw [HT.sIx_nat,HT.sIx_nat];by_cases ha:a≤xs.length
 ·rw [cF ha,cF h]
 ·rw [show min a xs.length=xs.length by lia,cF h,dY (af _),dY (show xs.length≤a by lia),gr,gr]
def zdd (K:ag):Sp:=fun vs H Q _=>∃ (p:Int) (a:Addr) (ls:List Addr) (vv:List (List Int)) (L:Nat),vs = [.int p,.ref a]∧H a=some (.lst (ls.map V.ref))∧LsA H ls vv∧vv≠[]∧vv.length≤100∧L≤800∧(∀ v∈vv,v.length=L∧∀ c∈v,0≤c∧c < p)∧p∈zl ∧
 (∀ H',zu H H'→Indep p L vv→Q .non H')∧(∀ (l:Addr) (c:List Int) (m:Nat) (H':Hp),H l=none→zu H H'→H' l=some (.lst (c.map V.int))→IsP p (m+1) c→m < vv.length→gl c m=1→Dep p L vv c→Q (.ref l) H')
theorem zna {K:ag} {H H':Hp} {a:Addr} {xs:List V} (e:zu H H') (h:kF K H a xs):kF K H' a xs:=by
 rcases h with (h | ⟨o,h⟩) | h
 ·exact .inl (.inl (e _ _ h))
 ·exact .inl (.inr ⟨o,e _ _ h⟩)
 ·exact .inr h
def tmP (p:Int) (l:List Int) (kx:List (Int×Int)):List (Int×Int):=kx.map fun a=>(a.1,zj p a.1 l*a.2 % p)
theorem zcx {p:Int} (p0:0 < p) {l:List Int} {kx:List (Int×Int)} (hP:Pts p kx):Pts p (tmP p l kx):=by
 refine⟨?_,fun q hq=>?_⟩
 ·unfold tmP;rw [bz];exact hP.nd
 ·obtain⟨a,ha,rfl⟩:=aq.mp hq;obtain⟨h1,h2,_⟩:=hP.rg a ha;exact⟨h1,h2,aK _ #[O],aF _ p0⟩
theorem zkF (p:Int) (l:List Int) (kx:List (Int×Int)):(kx.map fun a=>(a.1,zj p a.1 l*a.2)).map (md p)=tmP p l kx:=by
 rw [bz];rfl
def zdu (K:ag):Sp:=fun vs H Q _=>∃ (p:Int) (la a:Addr) (l:List Int) (bs:List Addr) (kx:List (Int×Int)),vs = [.int p,.ref la,.ref a]∧kF K H la (l.map V.int)∧ky K H a (bs.map V.ref)∧PtB H bs kx∧kx.length≤100∧p∈zl∧Pts p kx ∧
 ∀ (z:Addr) (H':Hp),H z=none→zu H H'→H' z=some (.tup ((thr p (tmP p l kx)).map V.int))→Q (.ref z) H'
def bey (m:Nat) (rs:List (List Int)):List Int:=rs.flatMap fun r=>r.drop m
theorem zgD (m:Nat) {rs:List (List Int)} {i:Nat} {r:List Int} (h:rs[i]? = some r):bey m (rs.take (i+1))=bey m (rs.take i)++r.drop m:=by
 unfold bey;rw [take_snoc h,fR];simp
def zjf (K:ag):Sp:=fun vs H Q _=>∃ (a:Addr) (m:Nat) (bs:List Addr) (rs:List (List Int)),vs = [.ref a,.int (m:Int)]∧ky K H a (bs.map V.ref)∧zaE H bs rs∧(∀ i,(bey m (rs.take i)).length≤10000) ∧
 ∀ (z:Addr) (H':Hp),H z=none→zu H H'→H' z=some (.lst ((bey m rs).map V.int))→Q (.ref z) H'
def szd (q:List Int) (m:Nat):List Int:=(q++ar m 0).take m
def zkG (K:ag):Sp:=fun vs H Q _=>∃ (a:Addr) (m:Nat) (q:List Int),vs = [.ref a,.int (m:Int)]∧H a=some (.tup (q.map V.int))∧1≤m∧q.length+m≤10000 ∧
 ∀ (z:Addr) (H':Hp),zu H H'→H' z=some (.tup ((szd q m).map V.int))→Q (.ref z) H'
def unit (i:Nat):List Int:=ar i 0++[1]
theorem zin (i j:Nat):gl (unit i) j=if j=i then 1 else 0:=by
 unfold unit;by_cases h:j < i
 ·rw [if_neg #[O]];exact zbB (by rw [bI (by rw [aS]; exact h),db,if_pos h])
 ·by_cases e:j=i
  ·rw [if_pos e];exact zbB (by rw [bF (by rw [aS]; lia),aS,e,fM]; rfl)
  ·rw [if_neg e];exact za0 (by rw [ap,aS]; show i+1≤j; lia)
theorem zjg {p x:Int} (i:Nat):Cg p (zj p x (unit i)) (x ^ i):=by
 refine (za7 (n:=i+1) (by unfold unit; rw [ap,aS]; exact af _)).trans ?_;rw [zhe (j:=i) #[O] fun j _ lA=>by rw [zin,if_neg lA,dF],zin,if_pos rfl,f8];exact Cg.refl _ _
def Tp (p:Int) (kx:List (Int×Int)) (i:Nat):List Int:=thr p (tmP p (unit i) kx)
theorem zcP {p:Int} (hp:p∈zl) {kx:List (Int×Int)} (hP:Pts p kx) (l:List Int):(thr p (tmP p l kx)).length=kx.length:=by
 have rp:=zm hp;rw [(zcK hp (zcx (l:=l) #[O] hP)).1];unfold tmP;rw [ab]
theorem zkH {p:Int} (hp:p∈zl) {kx:List (Int×Int)} (hP:Pts p kx) (l:List Int):∀ c∈thr p (tmP p l kx),0≤c∧c < p:=by
 have rp:=zm hp;exact (zcK hp (zcx (l:=l) #[O] hP)).2.1
theorem zmi {p:Int} (hp:p∈zl) {kx:List (Int×Int)} (hP:Pts p kx) (l:List Int) {a:Int×Int} (ha:a∈kx):zj p a.1 (thr p (tmP p l kx))=zj p a.1 l*a.2 % p:=by
 have rp:=zm hp;exact (zcK hp (zcx (l:=l) #[O] hP)).2.2 _ (aq.mpr ⟨a,ha,rfl⟩)
theorem zio {p:Int} (hp:p∈zl) {kx:List (Int×Int)} (hP:Pts p kx) {l:List Int} {N:Nat} (hl:l.length≤N) (x:Nat):Cg p (gl (thr p (tmP p l kx)) x) (sm N fun i=>gl l i*gl (Tp p kx i) x):=by
 have rp:=zm hp;have p0:0 < p:=by lia
 obtain⟨C,hC⟩:∃ C,C=(aJ kx.length).map fun x=>(sm N fun i=>gl l i*gl (Tp p kx i) x) % p:=⟨_,rfl⟩
 have hCl:C.length=kx.length:=by rw [hC,ab,bm]
 have hCg:∀ x,x < kx.length→gl C x=(sm N fun i=>gl l i*gl (Tp p kx i) x) % p:=fun x hx=>zbB (by rw [hC,ah,cH hx]; rfl)
 have hCr:∀ c∈C,0≤c∧c < p:=fun c hc=>by
  rw [hC] at hc;obtain⟨x,_,rfl⟩:=aq.mp hc;exact⟨aK _ #[O],aF _ p0⟩
 have ur:∀ a∈kx,zj p a.1 C=zj p a.1 l*a.2 % p:=fun a ha=>by
  refine Cg.eq ?_ (zao p0 _) (zap p0 _) (aK _ #[O]) (aF _ p0);refine (za7 (n:=kx.length) #[O]).trans ?_;have h1:Cg p (sm kx.length fun x=>gl C x*a.1 ^ x) (sm kx.length fun x=>sm N fun i=>gl l i*(gl (Tp p kx i) x*a.1 ^ x)):=zfc fun x hx=>by
   rw [hCg x hx];refine ((Cg.emod _ _).mul (Cg.refl p _)).trans (Cg.of_eq ?_);rw [dE,← zb9];exact zar fun i _=>by grind
  refine h1.trans ?_;rw [zfH];have h2:Cg p (sm N fun i=>sm kx.length fun x=>gl l i*(gl (Tp p kx i) x*a.1 ^ x)) (sm N fun i=>a.2*(gl l i*a.1 ^ i)):=zfc fun i _=>by
   rw [zb9];have e1:Cg p (sm kx.length fun x=>gl (Tp p kx i) x*a.1 ^ x) (zj p a.1 (Tp p kx i)):=(za7 (by unfold Tp; rw [zcP hp hP]; exact af _)).symm;have e2:Cg p (zj p a.1 (Tp p kx i)) (a.1 ^ i*a.2):=by
    unfold Tp;rw [zmi hp hP (unit i) ha];exact (Cg.emod _ _).trans ((zjg i).mul (Cg.refl p _))
   exact ((Cg.refl p (gl l i)).mul (e1.trans e2)).trans (Cg.of_eq (by grind))
  refine h2.trans ?_;rw [zb9];refine ((Cg.refl p a.2).mul (za7 hl).symm).trans ((Cg.of_eq (dE _ _)).trans (Cg.emod _ _).symm)
 have Dp:C=thr p (tmP p l kx):=zfF hp (zcx p0 hP) (by unfold tmP; rw [ab]; exact hCl) hCr fun a ha=>by
  obtain⟨b,hb,rfl⟩:=aq.mp ha;exact ur b hb
 rw [← Dp];by_cases hx:x < kx.length
 ·rw [hCg x hx];exact Cg.emod _ _
 ·rw [za0 #[O]];refine Cg.of_eq (zbv fun i _=>?_).symm;rw [za0 (w:=Tp p kx i) (by unfold Tp; rw [zcP hp hP]; lia),cI]
theorem zhh {a b:List Int} (x:Nat):gl (a++b) x=if x < a.length then gl a x else gl b (x - a.length):=by
 unfold gl;rw [aW,aW,aW];by_cases h:x < a.length
 ·rw [if_pos h,bI h]
 ·rw [if_neg h,bF #[O]]
theorem zlK {a:List Int} (m x:Nat):gl (a.drop m) x=gl a (m+x):=by
 unfold gl;rw [aW,aW,dS]
theorem ziq {p:Int} (hp:p∈zl) {c:Nat→Int} {N m:Nat}:∀ {kA:List (List (Int×Int))},(∀ kx∈kA,Pts p kx) →
  ((∀ x,Cg p (sm N fun i=>c i*gl (bey m (kA.map fun kx=>Tp p kx i)) x) 0)↔∀ kx∈kA,∀ y,m≤y→Cg p (sm N fun i=>c i*gl (Tp p kx i) y) 0)
 | [],_=>by
  refine⟨fun _ kx h=>by (cases h),fun _ x=>Cg.of_eq (zbv fun i _=>?_)⟩;show c i*gl [] x=0;rw [za0 (bu _),cI]
 | kx :: kA,hP=>by
  have ih:=ziq hp (c:=c) (N:=N) (m:=m) (kA:=kA) fun q hq=>hP q (av _ hq)
  have hl:∀ i,((Tp p kx i).drop m).length=kx.length - m:=fun i=>by
   rw [b7];unfold Tp;rw [zcP hp (hP kx aE)]
  have hb:∀ i x,gl (bey m ((kx :: kA).map fun kx=>Tp p kx i)) x=if x < kx.length - m then gl (Tp p kx i) (m+x) else gl (bey m (kA.map fun kx=>Tp p kx i)) (x - (kx.length - m)):=fun i x=>by
   have:bey m ((kx :: kA).map fun kx=>Tp p kx i)=(Tp p kx i).drop m++bey m (kA.map fun kx=>Tp p kx i):=rfl;rw [this,zhh,hl,zlK]
  constructor
  ·intro h q hq y hy;rcases (aC.mp hq) with rfl | hq
   ·by_cases tJ:y < q.length
    ·have:=h (y - m);refine Cg.trans (Cg.of_eq (zar fun i _=>?_)) this;rw [hb,if_pos #[O],show m+(y - m)=y by lia]
    ·refine Cg.of_eq (zbv fun i _=>?_);rw [za0 (by unfold Tp; rw [zcP hp (hP q aE)]; lia),cI]
   ·refine ih.mp (fun x=>?_) q hq y hy;have:=h (kx.length - m+x);refine Cg.trans (Cg.of_eq (zar fun i _=>?_)) this;rw [hb,if_neg #[O],show kx.length - m+x - (kx.length - m)=x by lia]
  ·intro h x;by_cases hx:x < kx.length - m
   ·have:=h kx aE (m+x) #[O];refine Cg.trans (Cg.of_eq (zar fun i _=>?_)) this;rw [hb,if_pos hx]
   ·have:=ih.mpr (fun q hq=>h q (av _ hq)) (x - (kx.length - m));refine Cg.trans (Cg.of_eq (zar fun i _=>?_)) this;rw [hb,if_neg hx]
def Good (p:Int) (k e:Nat) (kA:List (List (Int×Int))) (l:List Int):Prop:=∀ kx∈kA,∃ right,IsP p (k+e) right∧∀ a∈kx,zj p a.1 right=zj p a.1 l*a.2 % p
theorem zkI (q:List Int) (m x:Nat):gl (szd q m) x=if x < m then gl q x else 0:=by
 unfold szd;by_cases h:x < m
 ·rw [if_pos h];unfold gl;rw [aW,cw h,← aW];show gl (q++ar m 0) x=_;rw [zhh];split
  ·rfl
  ·show gl (ar m 0) _=q.getD x 0;rw [show q.getD x 0=gl q x from rfl,za0 (w:=q) #[O]];unfold gl;rw [aW,db];split <;> rfl
 ·rw [if_neg h];exact za0 (by rw [aD]; lia)
theorem zir {p:Int} (p0:0 < p) {q:List Int} (hq:∀ c∈q,0≤c∧c < p) (m:Nat):IsP p m (szd q m):=by
 unfold szd;refine⟨by rw [aD,ap,aS]; lia,fun c hc=>?_⟩;rcases aL.mp (ci hc) with h | h
 ·exact hq c h
 ·rw [eR h]; lia
theorem zgE {p:Int} (p0:0 < p) {q:List Int} {m:Nat} (hz:∀ y,m≤y→gl q y=0) (x:Int):zj p x (szd q m)=zj p x q:=by
 refine Cg.eq ?_ (zao p0 _) (zap p0 _) (zao p0 _) (zap p0 _);refine (za7 (n:=q.length+m) (by unfold szd; rw [aD,ap,aS]; lia)).trans (Cg.trans (Cg.of_eq (zar fun i _=>?_)) (za7 (n:=q.length+m) #[O]).symm);rw [zkI];by_cases h:i < m
 ·rw [if_pos h]
 ·rw [if_neg h,hz i #[O]]
theorem zkJ {p:Int} (hp:p∈zl) {k e:Nat} {kx:List (Int×Int)} (hP:Pts p kx) {l:List Int} (hz:∀ y,k+e≤y→gl (thr p (tmP p l kx)) y=0) :
  IsP p (k+e) (szd (thr p (tmP p l kx)) (k+e))∧∀ a∈kx,zj p a.1 (szd (thr p (tmP p l kx)) (k+e))=zj p a.1 l*a.2 % p:=by
 have rp:=zm hp;refine⟨zir #[O] (zkH hp hP l) _,fun a ha=>?_⟩;rw [zgE #[O] hz];exact zmi hp hP l ha
theorem zjh {p:Int} (hp:p∈zl) {k e:Nat} {kx:List (Int×Int)} (hP:Pts p kx) {l right:List Int} (hr:IsP p (k+e) right) (ur:∀ a∈kx,zj p a.1 right=zj p a.1 l*a.2 % p) (y:Nat) (hy:k+e≤y):gl (thr p (tmP p l kx)) y=0:=by
 have rp:=zm hp;by_cases tJ:y < kx.length
 ·have e1:right++ar (kx.length - (k+e)) 0=thr p (tmP p l kx):=zfF hp (zcx #[O] hP) (by unfold tmP; rw [ab,ap,aS,hr.1]; lia) (fun c hc=>by
   rcases aL.mp hc with h | h
   ·exact hr.2 c h
   ·rw [eR h]; lia) fun a ha=>by
    obtain⟨b,hb,rfl⟩:=aq.mp ha;rw [zgc];exact ur b hb
  rw [← e1,zhh,hr.1,if_neg #[O]];unfold gl;rw [aW,db];split <;> rfl
 ·exact za0 (by rw [zcP hp hP]; lia)
def za8 (p:Int) (k e:Nat) (kA:List (List (Int×Int))):List (List Int):=(aJ (e+1)).map fun i=>bey (k+e) (kA.map fun kx=>Tp p kx i)
theorem zlL {p:Int} {k e:Nat} {kA:List (List (Int×Int))} {i:Nat} (hi:i < e+1) (x:Nat):vx (za8 p k e kA) i x=gl (bey (k+e) (kA.map fun kx=>Tp p kx i)) x:=by
 unfold vx za8;rw [aW,ah,cH hi];rfl
theorem zdX {p:Int} (hp:p∈zl) {m i:Nat}:∀ {kA:List (List (Int×Int))},(∀ kx∈kA,Pts p kx)→(bey m (kA.map fun kx=>Tp p kx i)).length=(kA.map fun kx=>kx.length - m).sum
 | [],_=>rfl
 | kx :: kA,hP=>by
  have:bey m ((kx :: kA).map fun kx=>Tp p kx i)=(Tp p kx i).drop m++bey m (kA.map fun kx=>Tp p kx i):=rfl;rw [this,ap,zdX hp fun q hq=>hP q (av _ hq),b7,bh,fk];unfold Tp;rw [zcP hp (hP kx aE)]
def zco (k e:Nat) (kA:List (List (Int×Int))):Nat:=(kA.map fun kx=>kx.length - (k+e)).sum
theorem zlM {p:Int} (hp:p∈zl) {k e:Nat} {kA:List (List (Int×Int))} (hP:∀ kx∈kA,Pts p kx):∀ v∈za8 p k e kA,v.length=zco k e kA∧∀ c∈v,0≤c∧c < p:=fun v hv=>by
 obtain⟨i,_,rfl⟩:=aq.mp hv;refine⟨zdX hp hP,fun c hc=>?_⟩;obtain⟨r,hr,hcr⟩:=et.mp hc;obtain⟨kx,lI,rfl⟩:=aq.mp hr;exact zkH hp (hP kx lI) _ c (fI hcr)
theorem zmj {p:Int} (hp:p∈zl) {k e:Nat} {kA:List (List (Int×Int))} (hP:∀ kx∈kA,Pts p kx) {c:Nat→Int} :
  (∀ x,x < zco k e kA→Cg p (sm (za8 p k e kA).length fun i=>c i*vx (za8 p k e kA) i x) 0)↔∀ kx∈kA,∀ y,k+e≤y→Cg p (sm (e+1) fun i=>c i*gl (Tp p kx i) y) 0:=by
 have hn:(za8 p k e kA).length=e+1:=by unfold za8; rw [ab,bm]
 rw [hn,← ziq hp hP];have hs:∀ x,sm (e+1) (fun i=>c i*vx (za8 p k e kA) i x)=sm (e+1) fun i=>c i*gl (bey (k+e) (kA.map fun kx=>Tp p kx i)) x:=fun x=>zar fun i hi=>by rw [zlL hi]
 constructor
 ·intro h x;by_cases hx:x < zco k e kA
  ·rw [← hs]; exact h x hx
  ·refine Cg.of_eq (zbv fun i _=>?_);rw [za0 (by rw [zdX hp hP]; exact fo hx),cI]
 ·intro h x _;rw [hs];exact h x
theorem zkK {p:Int} (hp:p∈zl) {k e:Nat} {kA:List (List (Int×Int))} (hP:∀ kx∈kA,Pts p kx) (hI:Indep p (zco k e kA) (za8 p k e kA)) {l:List Int} (hl:IsP p (e+1) l) (hg:Good p k e kA l):∀ i,gl l i=0:=by
 have rp:=zm hp;have hn:(za8 p k e kA).length=e+1:=by unfold za8; rw [ab,bm]
 intro i;by_cases hi:i < e+1
 ·have h:=hI (gl l) ((zmj hp hP).mpr fun kx lI y hy=>?_) i #[O]
  ·obtain⟨g0,g1⟩:=zew (show 0 < p by lia) hl.2 i;exact h.eq g0 g1 (bP _) #[O]
  ·obtain⟨right,h1,h2⟩:=hg kx lI;refine (zio hp (hP kx lI) (by rw [hl.1]; exact af _) y).symm.trans (Cg.of_eq ?_);exact zjh hp (hP kx lI) h1 h2 y hy
 ·exact za0 (by rw [hl.1]; lia)
theorem zkL {p:Int} (hp:p∈zl) {k e:Nat} {kA:List (List (Int×Int))} (hP:∀ kx∈kA,Pts p kx) {c:List Int} (hc:c.length≤e+1) (hD:Dep p (zco k e kA) (za8 p k e kA) c):∀ kx∈kA,∀ y,k+e≤y→gl (thr p (tmP p c kx)) y=0:=fun kx lI y hy=>by
 have rp:=zm hp;have h:=(zmj hp hP).mp hD kx lI y hy;obtain⟨g0,g1⟩:=zew (show 0 < p by lia) (zkH hp (hP kx lI) c) y;exact ((zio hp (hP kx lI) hc y).trans h).eq g0 g1 (bP _) #[O]
theorem zkM {p:Int} (hp:p∈zl) {k e n:Nat} {kA:List (List (Int×Int))} (hn:∀ kx∈kA,kx.length≤n) (hI:Indep p (zco k e kA) (za8 p k e kA)):k+e < n:=by
 have rp:=zm hp;refine Nat.lt_of_not_le fun h=>?_
 have h0:zco k e kA=0:=by
  unfold zco;refine List.sum_eq_zero_iff_forall_eq_nat.mpr fun x hx=>?_
  obtain⟨kx,lI,rfl⟩:=aq.mp hx;have:=hn kx lI;lia
 have hl:(za8 p k e kA).length=e+1:=by unfold za8; rw [ab,bm]
 have:=hI (fun _=>1) (fun x hx=>by lia) 0 #[O];have:=this.eq #[O] #[O] (bP _) #[O];lia
structure LocOk (p:Int) (k:Nat) (kA:List (List (Int×Int))) (e:Nat) (left:List Int) (lC:List (List Int)):Prop where
 lf:IsP p (e+1) left
 nz:∃ i,gl left i≠0
 rt:lC=kA.map fun kx=>szd (thr p (tmP p left kx)) (k+e)
 ok:∀ kx∈kA,IsP p (k+e) (szd (thr p (tmP p left kx)) (k+e))∧∀ a∈kx,zj p a.1 (szd (thr p (tmP p left kx)) (k+e))=zj p a.1 left*a.2 % p
 mn:∀ e',e' < e→∀ l,IsP p (e'+1) l→Good p k e' kA l→∀ i,gl l i=0
theorem zlN {p:Int} (p0:0 < p) {c:List Int} {m:Nat} (hc:c.length≤m) (kx:List (Int×Int)):tmP p (szd c m) kx=tmP p c kx:=by
 unfold tmP;refine cn fun a _=>?_
 rw [zgE p0 fun y hy=>za0 #[O]]
theorem znb {p:Int} (hp:p∈zl) {k e:Nat} {kA:List (List (Int×Int))} (hP:∀ kx∈kA,Pts p kx) {c:List Int} {m:Nat} (hc:IsP p (m+1) c) (hm:m < e+1) (h1:gl c m=1) (hD:Dep p (zco k e kA) (za8 p k e kA) c)
  (vW:∀ e',e' < e→Indep p (zco k e' kA) (za8 p k e' kA)):LocOk p k kA e (szd c (e+1)) (kA.map fun kx=>szd (thr p (tmP p (szd c (e+1)) kx)) (k+e)):=by
 have rp:=zm hp;have qf:c.length≤e+1:=by rw [hc.1]; lia
 refine⟨zir #[O] hc.2 _,⟨m,by rw [zkI,if_pos hm,h1]; decide⟩,rfl,fun kx lI=>?_,fun e' vf l hl hg=>zkK hp hP (vW e' vf) hl hg⟩;refine zkJ hp (hP kx lI) fun y hy=>?_
 rw [zlN #[O] qf];exact zkL hp hP qf hD kx lI y hy
theorem zaE.put {H:Hp} {rs:List Addr} {qs:List (List Int)} {f:Addr} {xs:List V} {o:HO} (h:zaE H rs qs) (hf:H f=some (.lst xs)):zaE (kB H f o) rs qs:=bA (fun a q z=>by
 have:a≠f:=fun e=>by rw [e,hf] at z; cases z
 show kB H f o a=_;rw [zr this];exact z) h
def zji (n:Nat) (H:Hp):List Addr→List (List (Option Int))→Prop:=Paired fun b rw=>H b=some (.lst (rw.map mS))∧rw.length=n
theorem zji.same {n:Nat} {H H':Hp} (s:zu H H') {bs:List Addr} {rws:List (List (Option Int))} (h:zji n H bs rws):zji n H' bs rws:=bA (fun _ _ ⟨z,z'⟩=>⟨s _ _ z,z'⟩) h
def zfJ (H:Hp):List Addr→List (List (Int×Int))→Prop:=Paired fun b kx=>∃ bs,H b=some (.lst (bs.map V.ref))∧PtB H bs kx
theorem zfJ.same {H H':Hp} (s:zu H H') {bs:List Addr} {kA:List (List (Int×Int))} (h:zfJ H bs kA):zfJ H' bs kA:=bA (fun _ _ ⟨bs,z,z'⟩=>⟨bs,s _ _ z,z'.same s⟩) h
def NdA (p:Int) (kA:List (List (Int×Int))) (na:Addr) (H:Hp):List Addr→List Nat→Prop:=Paired fun b i=>∃ us,H b=some (.lst (us.map V.ref))∧b≠na∧zaE H us (kA.map fun kx=>Tp p kx i)
theorem NdA.same {p:Int} {kA:List (List (Int×Int))} {na:Addr} {H H':Hp} (s:zu H H') {bs:List Addr} {is:List Nat} (h:NdA p kA na H bs is):NdA p kA na H' bs is:=bA (fun _ _ ⟨us,z,z',z2⟩=>⟨us,s _ _ z,z',z2.same s⟩) h
theorem NdA.put {p:Int} {kA:List (List (Int×Int))} {na:Addr} {H:Hp} {bs:List Addr} {is:List Nat} {xs:List V} {o:HO} (h:NdA p kA na H bs is) (hf:H na=some (.lst xs)):NdA p kA na (kB H na o) bs is:=bA (fun _ _ ⟨us,z,z',z2⟩=>⟨us,by rw [zr z']; exact z,z',z2.put hf⟩) h
theorem zhi {α:Type} {f:α→Nat} {b:Nat}:∀ {l:List α},(∀ x∈l,f x≤b)→(l.map f).sum≤l.length*b
 | [],_=>by simp
 | x :: l,h=>by
  have ih:=zhi (f:=f) (b:=b) (l:=l) fun y hy=>h y (av _ hy)
  have:=h x aE;rw [bh,fk,br,Nat.succ_mul];lia
def zdv (K:ag):Sp:=fun vs H Q _=>∃ (c tt ra:Addr) (p:Int) (k:Nat) (pl:List Int) (rK:List Addr) (rws:List (List (Option Int))),vs = [.ref c,.ref ra]∧za6 H c tt p k pl∧ky K H ra (rK.map V.ref)∧zji pl.length H rK rws∧rws.length≤10∧pl.length≤16∧p∈zl∧pl.Nodup∧(∀ x∈pl,0≤x∧x < p)∧(∀ rw∈rws,∀ z,some z∈rw→0≤z∧z < p)∧1≤k∧k≤100 ∧
 ∀ (z la l3:Addr) (us:List Addr) (e:Nat) (left:List Int) (lC:List (List Int)) (H':Hp),zu H H'→H' z=some (.tup [.int (e:Int),.ref la,.ref l3])→H' la=some (.tup (left.map V.int))→H' l3=some (.lst (us.map V.ref))→zaE H' us lC→e≤16→LocOk p k (rws.map (hps pl)) e left lC→Q (.ref z) H'
def zeM (K:ag):Sp:=fun vs H Q _=>∃ (c tt r:Addr) (p:Int) (k:Nat) (pl:List Int) (rw:List (Option Int)),vs = [.ref c,.ref r]∧za6 H c tt p k pl∧H r=some (.lst (rw.map mS))∧rw.length=pl.length∧pl.length≤16∧p∈zl∧pl.Nodup∧(∀ x∈pl,0≤x∧x < p)∧(∀ z,some z∈rw→0≤z∧z < p)∧1≤k∧k≤100 ∧
 ∀ (z la rb:Addr) (e:Nat) (left right:List Int) (H':Hp),zu H H'→H' z=some (.tup [.int (e:Int),.ref la,.ref rb])→H' la=some (.tup (left.map V.int))→H' rb=some (.tup (right.map V.int))→e≤16→LocOk p k [hps pl rw] e left [right]→Q (.ref z) H'
end My
end
section
namespace L2
open PySem PySem.Spec PyProof.Rows
theorem zjj {X:Cx} (hc:X.calm=true):zci X (.builtin "max") (fun xs H Q=>∃ (p:Addr) (ns:List Int),xs = [.ref p]∧ky X.K H p (ns.map V.int)∧ns≠[]∧∀ M:Int,M∈ns→(∀ a∈ns,a≤M)→Q (.int M) H):=by
 intro ku s σ H xs us Q I r h;obtain⟨p,ns,rfl,hq,hn,q⟩:=h;obtain⟨u,rfl,rx⟩:=vals1 r;cases rx;obtain⟨kz,rv,pl,hz⟩:=I.list hq;have hi:IntsAre kz ns:=by simpa using intsAre_of rv
 (obtain⟨xs,e⟩:=hi.allInts.items)
 have ui:ns=xs.toList.map (·.1):=by rw [← hi.numsOf,← nums_intItems,← e]
 have hsz:0 < xs.size:=by
  have h3:=fS.mpr hn;rw [ui,ab,aZ] at h3;exact h3
 have hl:=pl.isList;rw [e] at hl;refine max_intList (I.ok.hd hc) hl hsz fun v h' tk hv hk=>?_
 (obtain⟨t,rfl⟩:=intItems_at hv)
 (obtain⟨h1,h2⟩:=argBest_gt (numAt xs) (xs.size - 1))
 refine⟨.int _,H,I.kept hk,⟨_,rfl⟩,q _ ?_ fun a ha=>?_⟩
 ·(rw [ui,jS]; exact getD_mem (by rw [ab,aZ]; lia))
 ·rw [ui] at ha
  (obtain⟨j,hj,rfl⟩:=mem_getD ha)
  (rw [ab,aZ] at hj)
  (rw [← jS]; exact h2 j #[O])
end L2
end
section
namespace My
open PySem L2 PyProof.Rows
theorem zhj {S:List Nat}:∀ {l:List Nat},l.Nodup→l.length≤(l.filter fun i=>decide (i∉S)).length+S.length:=by
 induction S with
 | nil =>
  intro l _;rw [i8.mpr #[M]];exact af _
 | cons a S ih =>
  intro l hl;have h1:=ih hl;have h2:l.filter (fun i=>decide (i∉a :: S))=(l.filter fun i=>decide (i∉S)).filter (fun i=>i != a):=by
   rw [jq];refine gC fun i _=>?_
   by_cases e:i=a <;> by_cases e2:i∈S <;> simp [e,e2]
  have h3:=List.Nodup.erase_eq_filter (hl.filter fun i=>decide (i∉S)) a;have h4:(l.filter fun i=>decide (i∉S)).length≤((l.filter fun i=>decide (i∉S)).erase a).length+1:=by
   rw [List.length_erase];split <;> lia
  rw [h2,← h3,br];lia
theorem zez {p z:Int} (f:List Int):∀ i,Cg p (zj p z (ar i 0++f)) (z ^ i*zj p z f)
 | 0=>Cg.of_eq (by rw [Int.pow_zero,f8]; rfl)
 | i+1=>by
  have h:Cg p (zj p z (ar (i+1) 0++f)) (0+z*zj p z (ar i 0++f)):=zO p z 0 _;refine h.trans (((Cg.refl p 0).add ((Cg.refl p z).mul (zez f i))).trans (Cg.of_eq ?_));rw [fK];grind
def zcQ (f left:List Int) (n N:Nat):List Int:=(aJ n).map fun t=>sm N fun i=>gl left i*gl (ar i 0++f) t
theorem zhk {p z:Int} {f left:List Int} {k e:Nat} (hf:f.length≤k) (hl:left.length≤e+1):Cg p (zj p z (zcQ f left (k+e) (e+1))) (zj p z left*zj p z f):=by
 have hC:(zcQ f left (k+e) (e+1)).length=k+e:=by unfold zcQ; rw [ab,bm]
 have hg:∀ t,t < k+e→gl (zcQ f left (k+e) (e+1)) t=sm (e+1) fun i=>gl left i*gl (ar i 0++f) t:=fun t ht=>zbB (by unfold zcQ; rw [ah,cH ht]; rfl)
 refine (za7 (n:=k+e) #[O]).trans ?_;have h1:sm (k+e) (fun t=>gl (zcQ f left (k+e) (e+1)) t*z ^ t)=sm (k+e) fun t=>sm (e+1) fun i=>gl left i*(gl (ar i 0++f) t*z ^ t):=zar fun t ht=>by
  rw [hg t ht,dE,← zb9];exact zar fun i _=>by grind
 rw [h1,zfH];have h2:Cg p (sm (e+1) fun i=>sm (k+e) fun t=>gl left i*(gl (ar i 0++f) t*z ^ t)) (sm (e+1) fun i=>zj p z f*(gl left i*z ^ i)):=zfc fun i hi=>by
  rw [zb9];have e1:Cg p (sm (k+e) fun t=>gl (ar i 0++f) t*z ^ t) (zj p z (ar i 0++f)):=(za7 (by rw [ap,aS]; lia)).symm;exact ((Cg.refl p (gl left i)).mul (e1.trans (zez f i))).trans (Cg.of_eq (by grind))
 refine h2.trans ?_;rw [zb9];exact ((Cg.refl p _).mul (za7 hl).symm).trans (Cg.of_eq (dE _ _))
theorem zdw {p z:Int}:∀ q:List Int,Cg p (zj p z (q.map (· % p))) (zj p z q)
 | []=>Cg.refl _ _
 | c :: q=>(zO p z (c % p) _).trans (((Cg.emod p c).add ((Cg.refl p z).mul (zdw q))).trans (zO p z c q).symm)
theorem zde {p z:Int}:∀ {q:List Int},(∀ c∈q,Cg p c 0)→Cg p (zj p z q) 0
 | [],_=>Cg.refl _ _
 | c :: q,h=>(zO p z c q).trans (((h c aE).add ((Cg.refl p z).mul (zde fun d hd=>h d (av _ hd)))).trans (Cg.of_eq #[O]))
def zgF (z:Int):List Int→Int
 | []=>1
 | x :: xs=>(z - x)*zgF z xs
theorem zcR {z:Int}:∀ {xs:List Int},z∈xs→zgF z xs=0
 | [],h=>by cases h
 | x :: xs,h=>by
  show (z - x)*zgF z xs=0;rcases (aC.mp h) with rfl | h
  ·rw [Int.sub_self,dF]
  ·rw [zcR h,cI]
theorem zeA {p z:Int} (hp:p∈zl) (hz:0≤z∧z < p):∀ {xs:List Int},(∀ x∈xs,0≤x∧x < p∧x≠z)→¬ Cg p (zgF z xs) 0
 | [],_,h=>by
  have rp:=zm hp;have:=Cg.eq (a:=1) (b:=0) h #[O] #[O] #[O] #[O];lia
 | x :: xs,hx,h=>by
  have rp:=zm hp;obtain⟨x0,x1,xz⟩:=hx x aE;rcases zdE hp h with h | h
  ·have h2:Cg p z x:=by
    have:=h.add (Cg.refl p x);exact (Cg.of_eq #[O]).trans (this.trans (Cg.of_eq #[O]))
   exact xz (h2.eq hz.1 hz.2 x0 x1).symm
  ·exact zeA hp hz (fun y hy=>hx y (av _ hy)) h
def zbU (p:Int):List Int→List Int
 | []=>[1]
 | x :: xs=>zcl p x (zbU p xs)
theorem zdf {p z:Int}:∀ xs:List Int,Cg p (zj p z (zbU p xs)) (zgF z xs)
 | []=>by
  have h:Cg p (zj p z [1]) (1+z*0):=zO p z 1 [];exact h.trans (Cg.of_eq (by show 1+z*0=1; lia))
 | x :: xs=>(zhM _).trans ((Cg.refl p _).mul (zdf xs))
theorem zdg {p:Int} (hp:p∈zl):∀ xs:List Int,IsP p (xs.length+1) (zbU p xs)
 | []=>⟨rfl,fun c hc=>by
  have rp:=zm hp;obtain rfl:c=1:=by simpa [zbU] using hc
  lia⟩
 | x :: xs=>by
  have rp:=zm hp;exact⟨by show (zcl p x (zbU p xs)).length=_; rw [zdo,(zdg hp xs).1]; rfl,zjZ #[O] _⟩
end My
end
section
namespace My
open PySem PySem.Spec L2 PyProof.Rows
noncomputable def isAt (H:Hp) (q:List Int) (u:Value):Bool:=@decide (∃ b,u = .ref b∧H b=some (.tup (q.map V.int))) (dO _)
theorem zdh {p q:List Int} (h:some (HO.tup (p.map V.int))=some (HO.tup (q.map V.int))):p=q :=
 (gf fun a b z=>by simpa using z).mp (HO.tup.inj (aQ h))
theorem zis {H:Hp} {q q':List Int} {b:Addr} (h:H b=some (.tup (q'.map V.int))):isAt H q (.ref b)=decide (q'=q):=by
 unfold isAt;rw [bN,@decide_eq_true_iff _ (dO _),decide_eq_true_iff];constructor
 ·rintro⟨b',eb,hb⟩;cases eb;exact zdh (h.symm.trans hb)
 ·rintro rfl;exact⟨b,rfl,h⟩
theorem zdI {H:Hp} {q:List Int}:∀ {rs:List Addr} {qs:List (List Int)} {us:List Value},zaE H rs qs→zM (rs.map V.ref) us→us.any (isAt H q)=decide (q∈qs)
 | _,_,_,.nil,.nil=>by simp
 | r :: rs,q' :: qs,u :: us,.cons h t,.cons ru tu=>by
  have ih:=zdI (q:=q) t tu;cases ru;rw [dP,ih,zis h,bN,ij,decide_eq_true_iff,decide_eq_true_iff,decide_eq_true_iff,aC];exact⟨fun z=>z.imp kb id,fun z=>z.imp kb id⟩
theorem zff {X:Cx} {K:ag} (hK:X.K=K) (hu:X.A.units+20 < cLine):OpR X (compareOp .NotIn) (fun x y H Q=>∃ (a l:Addr) (q:List Int) (rs:List Addr) (qs:List (List Int)),x = .ref a∧y = .ref l∧H a=some (.tup (q.map V.int))∧ky K H l (rs.map V.ref)∧zaE H rs qs∧Q (.bl (!decide (q∈qs))) H):=by
 subst hK;intro ku s σ H x y v u Q I rx ry h;obtain⟨a,l,q,rs,qs,rfl,rfl,ha,hl,hT,hQ⟩:=h;cases rx;cases ry;obtain⟨kz,r,pl,hz⟩:=I.list hl;refine jt (isAt H q) pl.isList (fun w hw=>?_) ⟨.bl _,H,I,rfl,?_⟩
 ·have hw:w∈kz:=by simpa using hw
  obtain⟨j,hj⟩:=iL.mp hw;obtain⟨tz,oq⟩:=az.mp hj;obtain⟨z,oT,rz⟩:=r.getE (j:=j) tz;obtain⟨b,rfl,hb⟩:=zK oT;obtain⟨q',n5,hH⟩:=Paired.get hT hb;have rG:kz.toArray[j]=w:=by simpa using oq
  rw [rG] at rz;cases rz;have hH:H b=some (.tup (q'.map V.int)):=hH;rw [zis hH];by_cases e:b=a
  ·subst e;rw [zdh (hH.symm.trans ha),decide_eq_true rfl];exact (EqD.same (K:=X.K) (H:=H) (d:=8) (a:=b)).at I X.A.in1 (.ref b) (.ref b) rfl rfl (by simp only [cP]; lia)
  ·have e2:=(EqD.tups (d:=8) e (kF.of hH) (kF.of ha) zgb).at I X.A.in1 (.ref b) (.ref a) rfl rfl (by simp only [cP]; lia);have e4:((aJ (min (q'.map V.int).length (q.map V.int).length)).all (fun j=>decide (q'[j]? = q[j]?)) && (q'.map V.int).length == (q.map V.int).length)=decide (q'=q):=by
    rw [ab,ab,bN];simp only [cA,cN,bd,decide_eq_true_eq,beq_iff_eq];constructor
    ·rintro⟨h1,h2⟩;refine c9 fun j=>?_
     by_cases hj:j < q'.length
     ·exact h1 j #[O]
     ·rw [bv #[O],bv #[O]]
    ·rintro rfl;exact⟨fun _ _=>rfl,rfl⟩
   rw [← e4];exact e2
 ·rw [jT,zdI hT r];exact hQ
end My
end
section
namespace L2
open PySem PySem.Spec PyProof.Rows
end L2
end
section
namespace Srt
open PySem PyProof.Rows L2
end Srt
namespace My
open PySem PySem.Spec L2 PyProof.Rows Srt
def nn (p:Int) (k:Nat) (qs:List (List Int)):Int:=num (p ^ k) (qs.map (num p))
theorem zgG (B:Int):∀ (xs:List Int) (x:Int),num B (xs++[x])=num B xs*B+x
 | [],x=>by simp [num]
 | y :: xs,x=>by
  show y*B ^ (xs++[x]).length+num B (xs++[x])=(y*B ^ xs.length+num B xs)*B+x;rw [zgG B xs x,ap,d8,fK];grind
theorem zdY {p:Int} {k:Nat} (qs:List (List Int)) (q:List Int):nn p k (qs++[q])=nn p k qs*p ^ k+num p q:=by
 unfold nn;rw [ao];exact zgG _ _ _
theorem zit {p:Int} (hp:1≤p) {k:Nat} {q:List Int} (h:IsP p k q):0≤num p q∧num p q < p ^ k:=by
 have:=num_rng hp h.2;rw [h.1] at this;exact this
def zhl (H:Hp):List Addr→List (List (List Int))→Prop:=Paired fun a qs=>∃ rs:List Addr,H a=some (.tup (rs.map V.ref))∧zaE H rs qs
theorem zhl.same {H H':Hp} (s:zu H H') {as:List Addr} {pP:List (List (List Int))} (h:zhl H as pP):zhl H' as pP:=bA (fun _ _ ⟨rs,z1,z2⟩=>⟨rs,s _ _ z1,z2.same s⟩) h
end My
end
section
namespace My
open PySem L2 PyProof.Rows
theorem zgH {l:List Nat} {d:Nat} (h:l.Nodup) (hl:∀ x∈l,x < d):l.length≤d:=by
 have h1:=zhj (S:=aJ d) h;rw [iC.mpr (fun x hx=>by have:=hl x hx; simpa using this),bm] at h1;simpa using h1
def zZ (ms:List Int) (rw:List (Option Int)):List (Option Int):=(aJ rw.length).map fun i:Nat=>if (i:Int)∈ms then rw.getD i none else none
theorem zbV (ms:List Int) (rw:List (Option Int)):(zZ ms rw).length=rw.length:=by unfold zZ; rw [ab,bm]
theorem zfK {ms:List Int} {rw:List (Option Int)} {i:Nat} {o:Option Int} (h:rw[i]? = some o):(zZ ms rw)[i]? = some (if (i:Int)∈ms then o else none):=by
 have hi:=(az.mp h).1;unfold zZ;rw [ah,cH hi];show some (if (i:Int)∈ms then rw.getD i none else none)=_;rw [aW,h];rfl
theorem zlO {p:Int} {ms:List Int} {rw:List (Option Int)} (h:∀ z,some z∈rw→0≤z∧z < p):∀ z,some z∈zZ ms rw→0≤z∧z < p:=by
 intro z hz;obtain⟨i,hi⟩:=bt hz;cases ho:rw[i]? with
 | none =>
  have h1:=(az.mp hi).1;rw [zbV] at h1;rw [aj h1] at ho;cases ho
 | some o =>
  rw [zfK ho] at hi;have hi:=aQ hi;by_cases hm:(i:Int)∈ms
  ·rw [if_pos hm] at hi;subst hi;exact h z (aB ho)
  ·rw [if_neg hm] at hi;cases hi
theorem zfg {p:Int} {pl:List Int} {ms:List Int} {rw:List (Option Int)} {q:List Int} (hl:rw.length=pl.length) (i:Nat):zaS p pl (zZ ms rw) q i=true↔(i:Int)∈ms∧zaS p pl rw q i=true:=by
 unfold zaS;cases hp:pl[i]? with
 | none=>simp
 | some x =>
  have hi:=(az.mp hp).1;have ho:rw[i]? = some rw[i]:=aj #[O];rw [zfK ho,ho];by_cases hm:(i:Int)∈ms
  ·rw [if_pos hm];simp [hm]
  ·rw [if_neg hm];simp [hm]
theorem zdi {p:Int} {pl:List Int} {rw:List (Option Int)} {q:List Int} {n:Nat} {z:Int}:z∈zaV p pl rw q n↔∃ j:Nat,z=j∧j < n∧zaS p pl rw q j=true:=by
 unfold zaV;constructor
 ·intro h;obtain⟨j,hj,rfl⟩:=aq.mp h;obtain⟨h1,h2⟩:=aU.mp hj;exact⟨j,rfl,bd.mp h1,h2⟩
 ·rintro⟨j,rfl,h1,h2⟩;exact aq.mpr ⟨j,aU.mpr ⟨bd.mpr h1,h2⟩,rfl⟩
theorem zhm {p:Int} {pl:List Int} {rw:List (Option Int)} {q:List Int} {n:Nat}:(zaV p pl rw q n).Nodup:=by
 unfold zaV;exact jB _ (fun a b mJ e=>mJ #[O]) (df.filter _)
theorem zfL:∀ {pl:List Int} {rw:List (Option Int)} {a:Int×Int},a∈hps pl rw→∃ i:Nat,pl[i]? = some a.1∧rw[i]? = some (some a.2)
 | [],_,a,h=>by simp [hps] at h
 | _ :: _,[],a,h=>by simp [hps] at h
 | x :: pl,none :: rw,a,h=>by
  obtain⟨i,h1,h2⟩:=zfL (pl:=pl) (rw:=rw) (a:=a) (by simpa [hps] using h);exact⟨i+1,h1,h2⟩
 | x :: pl,some y :: rw,a,h=>by
  have h:a=(x,y)∨a∈hps pl rw:=by simpa [hps] using h
  rcases h with rfl | h
  ·exact⟨0,rfl,rfl⟩
  ·obtain⟨i,h1,h2⟩:=zfL h;exact⟨i+1,h1,h2⟩
structure JS (p:Int) (k:Nat) (pl:List Int) (T:Nat) (rows:List (List (Option Int))) (s:List (List Int)×List Int):Prop where
 len:s.1.length=rows.length
 isp:∀ q∈s.1,IsP p k q
 mem:∀ i:Nat,i < pl.length→((i:Int)∈s.2↔∀ (l:Nat) row q,rows[l]? = some row→s.1[l]? = some q→zaS p pl row q i=true)
 rg:∀ z∈s.2,∃ i:Nat,z=i∧i < pl.length
 nd:s.2.Nodup
 many:rows≠[]→T≤s.2.length
variable {p:Int} {k T:Nat} {pl:List Int} {rows:List (List (Option Int))}
theorem zlP:JS p k pl T [] ([],zaa 0 pl.length):=by
 have hm:∀ z,z∈zaa 0 pl.length↔∃ i:Nat,z=i∧i < pl.length:=fun z=>by
  unfold zaa;constructor
  ·intro h
   (obtain⟨i,hi,rfl⟩:=aq.mp h)
   exact⟨i,#[O],bd.mp hi⟩
  ·rintro⟨i,rfl,hi⟩;exact aq.mpr ⟨i,bd.mpr hi,#[O]⟩
 refine⟨rfl,fun q h=>(by cases h),fun i hi=>⟨fun _ l row q h=>(by simp at h),fun _=>(hm _).mpr ⟨i,rfl,hi⟩⟩,fun z hz=>(hm z).mp hz,?_,fun h=>absurd rfl h⟩;unfold zaa;exact jB _ (fun a b mJ e=>mJ #[O]) df
theorem zlQ {qs:List (List Int)} {ms q:List Int} {row:List (Option Int)} (J:JS p k pl T rows (qs,ms)) (hl:row.length=pl.length) (hq:IsP p k q) (ht:T≤hits p q (hps pl (zZ ms row))) :
  JS p k pl T (rows++[row]) (qs++[q],zaV p pl (zZ ms row) q pl.length):=by
 have kG:qs.length=rows.length:=J.len;refine⟨by show (qs++[q]).length=_; rw [ap,ap,kG]; rfl,fun x hx=>?_,fun i hi=>?_,fun z hz=>?_,zhm,fun _=>?_⟩
 ·rcases aL.mp hx with h | h
  ·exact J.isp x h
  ·rw [aR.mp h]; exact hq
 ·have e:(i:Int)∈zaV p pl (zZ ms row) q pl.length↔(i:Int)∈ms∧zaS p pl row q i=true:=by
   rw [zdi,← zfg hl];constructor
   ·rintro⟨j,hj,_,h⟩;have:i=j:=by lia
    subst this;exact h
   ·exact fun h=>⟨i,rfl,hi,h⟩
  show (i:Int)∈zaV p pl (zZ ms row) q pl.length↔_;rw [e,J.mem i hi];constructor
  ·rintro⟨h1,h2⟩ l r x hr hx;rw [List.getElem?_append] at hr hx;rw [kG] at hx;by_cases tK:l < rows.length
   ·rw [if_pos tK] at hr hx;exact h1 l r x hr hx
   ·rw [if_neg tK] at hr hx;cases hd:l - rows.length with
    | zero =>
     rw [hd] at hr hx;cases hr;cases hx;exact h2
    | succ m =>
     rw [hd] at hr;simp at hr
  ·intro h;refine⟨fun l r x hr hx=>h l r x ?_ ?_,h rows.length row q ?_ ?_⟩
   ·rw [bI (az.mp hr).1]; exact hr
   ·rw [bI (az.mp hx).1]; exact hx
   ·rw [bF (af _),fM]; rfl
   ·rw [← kG,bF (af _),fM]; rfl
 ·obtain⟨j,rfl,h,_⟩:=zdi.mp hz;exact⟨j,rfl,h⟩
 ·show T≤(zaV p pl (zZ ms row) q pl.length).length;rw [zbH (by rw [zbV]; exact hl)];exact ht
theorem zhn {s:List (List Int)×List Int} (J:JS p k pl T rows s) {l i:Nat} {row:List (Option Int)} {q:List Int} (hr:rows[l]? = some row) (hq:s.1[l]? = some q) (hi:(i:Int)∈s.2):∃ x y,pl[i]? = some x∧row[i]? = some (some y)∧zj p x q=y:=by
 obtain⟨j,hj,Dq⟩:=J.rg _ hi;have:i=j:=by lia
 subst this;have h:=(J.mem i Dq).mp hi l row q hr hq;unfold zaS at h;split at h
 ·next x y h1 h2=>exact⟨x,y,h1,h2,(of_decide_eq_true h).symm⟩
 ·cases h
theorem znW (lN:pl.Nodup) {s:List (List Int)×List Int} (J:JS p k pl T rows s):(s.2.map fun z=>gl pl z.toNat).Nodup:=by
 have h:∀ a∈s.2,∀ b∈s.2,a≠b→gl pl a.toNat≠gl pl b.toNat:=fun a ha b hb mJ e=>by
  obtain⟨i,rfl,hi⟩:=J.rg a ha;obtain⟨j,rfl,hj⟩:=J.rg b hb;simp only [bw] at e;have h1:=zaM hi;have h2:=zaM hj;rw [e,← h2] at h1;have:=(gG hi lN).mp h1;exact mJ (by rw [this])
 have nd:=J.nd;generalize s.2=l at h nd;induction l with
 | nil=>exact j6
 | cons a l ih =>
  obtain⟨h1,h2⟩:=cU.mp nd;refine cU.mpr ⟨fun hm=>?_,ih (fun x hx y hy=>h x (av _ hx) y (av _ hy)) h2⟩
  (obtain⟨b,hb,e⟩:=aq.mp hm)
  exact h a aE b (av _ hb) (fun z=>h1 (z ▸ hb)) e.symm
theorem znc (hp:p∈zl) (lN:pl.Nodup) (kW:∀ x∈pl,0≤x∧x < p) (hk:k≤T) (lA:rows≠[]) {s s':List (List Int)×List Int} (J:JS p k pl T rows s) (J':JS p k pl T rows s') (h:∀ i:Nat,i < pl.length→((i:Int)∈s.2↔(i:Int)∈s'.2)):s.1=s'.1:=by
 refine c9 fun l=>?_
 cases hr:rows[l]? with
 | none =>
  have hl:=gK.mp hr;rw [bv (by rw [J.len]; exact hl),bv (by rw [J'.len]; exact hl)]
 | some row =>
  have hl:=(az.mp hr).1;have h1:s.1[l]? = some (s.1[l]'(by rw [J.len]; exact hl)):=aj _;have h2:s'.1[l]? = some (s'.1[l]'(by rw [J'.len]; exact hl)):=aj _;rw [h1,h2];congr 1;generalize s.1[l]'(by rw [J.len]; exact hl)=q at h1;generalize s'.1[l]'(by rw [J'.len]; exact hl)=q' at h2;have i1:=J.isp q (aB h1);have i2:=J'.isp q' (aB h2);have hm:=J.many lA;refine zdH hp (xs:=s.2.map fun z=>gl pl z.toNat) (by rw [i1.1,i2.1]) (by rw [i1.1,ab]; lia) (znW lN J) (fun x hx=>?_) i1.2 i2.2 (fun x hx=>?_)
  ·obtain⟨z,hz,rfl⟩:=aq.mp hx;obtain⟨i,rfl,hi⟩:=J.rg z hz;exact kW _ (aB (zaM hi))
  ·obtain⟨z,hz,rfl⟩:=aq.mp hx;obtain⟨i,rfl,hi⟩:=J.rg z hz;obtain⟨x1,y1,a1,a2,a3⟩:=zhn J hr h1 hz;obtain⟨x2,y2,b1,b2,b3⟩:=zhn J' hr h2 ((h i hi).mp hz);rw [a1] at b1;cases b1;rw [a2] at b2;cases b2;show zj p (gl pl i) q=zj p (gl pl i) q';rw [zbB a1,a3,b3]
def cod (ms:List Int):Nat→Nat
 | 0=>0
 | n+1=>cod ms n+if (n:Int)∈ms then 2 ^ n else 0
theorem zfM (ms:List Int):∀ n,cod ms n < 2 ^ n
 | 0=>by show 0 < 2 ^ 0; decide
 | n+1=>by
  have:=zfM ms n;show cod ms n+(if (n:Int)∈ms then 2 ^ n else 0) < 2 ^ (n+1);rw [Nat.pow_succ];split <;> lia
theorem ziu {ms vp:List Int}:∀ n,cod ms n=cod vp n→∀ i,i < n→((i:Int)∈ms↔(i:Int)∈vp)
 | 0,_,i,hi=>by lia
 | n+1,h,i,hi=>by
  have h1:=zfM ms n;have h2:=zfM vp n;have h:cod ms n+(if (n:Int)∈ms then 2 ^ n else 0)=cod vp n+(if (n:Int)∈vp then 2 ^ n else 0):=h;have key:((n:Int)∈ms↔(n:Int)∈vp)∧cod ms n=cod vp n:=by
   by_cases a:(n:Int)∈ms <;> by_cases b:(n:Int)∈vp
   ·rw [if_pos a,if_pos b] at h;exact⟨⟨fun _=>b,fun _=>a⟩,#[O]⟩
   ·rw [if_pos a,if_neg b] at h;lia
   ·rw [if_neg a,if_pos b] at h;lia
   ·rw [if_neg a,if_neg b] at h;exact⟨⟨fun z=>absurd z a,fun z=>absurd z b⟩,#[O]⟩
  by_cases oI:i=n
  ·subst oI;exact key.1
  ·exact ziu n key.2 i #[O]
theorem zgI (hp:p∈zl) (lN:pl.Nodup) (kW:∀ x∈pl,0≤x∧x < p) (hk:k≤T) (lA:rows≠[]) {out:List (List (List Int)×List Int)} (h:∀ s∈out,JS p k pl T rows s) (nd:(out.map (·.1)).Nodup):out.length≤2 ^ pl.length:=by
 have h1:(out.map fun s=>cod s.2 pl.length).Nodup:=by
  refine bM.mpr ?_;refine c7 (fun ha hb mJ e=>?_) (bM.mp nd);exact mJ (znc hp lN kW hk lA (h _ ha) (h _ hb) (ziu _ e))
 have h2:=zgH h1 (d:=2 ^ pl.length) fun x hx=>by
  obtain⟨s,_,rfl⟩:=aq.mp hx;exact zfM _ _
 rwa [ab] at h2
theorem zkN (hp:p∈zl) (lN:pl.Nodup) (kW:∀ x∈pl,0≤x∧x < p) (h1:1≤T) (lA:rows≠[]) {s:List (List Int)×List Int} (J:JS p k pl T rows s) {e:Nat} {left:List Int} {lC:List (List Int)} (L:LocOk p k (rows.map (hps pl)) e left lC):e+s.2.length≤pl.length:=by
 have rp:=zm hp;have hm:=J.many lA;have qr:((aJ pl.length).filter fun i:Nat=>decide (¬ (i:Int)∈s.2)).length+s.2.length≤pl.length:=by
  have hn:(((aJ pl.length).filter fun i:Nat=>decide (¬ (i:Int)∈s.2))++s.2.map Int.toNat).Nodup:=by
   refine fc.mpr ⟨df.filter _,?_,fun a ha b hb e=>?_⟩
   ·refine bM.mpr (c7 (fun ha hb mJ e=>mJ ?_) J.nd);obtain⟨i,rfl,_⟩:=J.rg _ ha;obtain⟨j,rfl,_⟩:=J.rg _ hb;lia
   ·obtain⟨_,h2⟩:=aU.mp ha;obtain⟨z,hz,rfl⟩:=aq.mp hb;obtain⟨i,rfl,_⟩:=J.rg z hz;have h2:=of_decide_eq_true h2;subst e;exact h2 hz
  have:=zgH hn (d:=pl.length) fun x hx=>by
   rcases aL.mp hx with h | h
   ·exact bd.mp (aU.mp h).1
   ·obtain⟨z,hz,rfl⟩:=aq.mp h;obtain⟨i,rfl,hi⟩:=J.rg z hz;exact hi
  rw [ap,ab] at this;exact this
 have tF:(((aJ pl.length).filter fun i:Nat=>decide (¬ (i:Int)∈s.2)).map (gl pl)).length=((aJ pl.length).filter fun i:Nat=>decide (¬ (i:Int)∈s.2)).length:=ab _;have Dr:∀ x,x∈((aJ pl.length).filter fun i:Nat=>decide (¬ (i:Int)∈s.2)).map (gl pl)↔∃ i:Nat,i < pl.length∧¬ (i:Int)∈s.2∧x=gl pl i:=fun x=>by
  constructor
  ·intro h
   (obtain⟨i,hi,rfl⟩:=aq.mp h)
   obtain⟨h1,h2⟩:=aU.mp hi;exact⟨i,bd.mp h1,of_decide_eq_true h2,rfl⟩
  ·rintro⟨i,hi,h2,rfl⟩;exact aq.mpr ⟨i,aU.mpr ⟨bd.mpr hi,decide_eq_true h2⟩,rfl⟩
 generalize ((aJ pl.length).filter fun i:Nat=>decide (¬ (i:Int)∈s.2)).map (gl pl)=xs at tF Dr;refine eJ fun kU=>?_
 have hw:=zdg hp xs;have hz:=L.mn xs.length #[O] (zbU p xs) hw (fun kx lI=>by
  obtain⟨row,rL,rfl⟩:=aq.mp lI;obtain⟨l,hl⟩:=bt rL;have tK:=(az.mp hl).1;have hq:s.1[l]? = some (s.1[l]'(by rw [J.len]; exact tK)):=aj _;generalize s.1[l]'(by rw [J.len]; exact tK)=f at hq;have hf:=J.isp f (aB hq);refine⟨(zcQ f (zbU p xs) (k+xs.length) (xs.length+1)).map (· % p),⟨by rw [ab]; unfold zcQ; rw [ab,bm],fun c hc=>?_⟩,fun a ha=>?_⟩
  ·obtain⟨d,_,rfl⟩:=aq.mp hc;exact⟨aK _ #[O],aF _ #[O]⟩
  ·refine Cg.eq ?_ (zao #[O] _) (zap #[O] _) (aK _ #[O]) (aF _ #[O]);refine (zdw _).trans ((zhk (by rw [hf.1]; exact af _) (by rw [hw.1]; exact af _)).trans (Cg.trans ?_ (Cg.emod _ _).symm));obtain⟨i,wB,wA⟩:=zfL ha;have yB:=(az.mp wB).1;by_cases oI:(i:Int)∈s.2
   ·obtain⟨x,y,a1,a2,a3⟩:=zhn J hl hq oI;rw [wB] at a1;cases a1;rw [wA] at a2;cases a2;rw [a3];exact Cg.refl _ _
   ·have hz:Cg p (zj p a.1 (zbU p xs)) 0:=(zdf _).trans (Cg.of_eq (zcR ((Dr _).mpr ⟨i,yB,oI,(zbB wB).symm⟩)));exact (hz.mul (Cg.refl p _)).trans ((Cg.of_eq #[O]).trans (hz.mul (Cg.refl p a.2)).symm))
 obtain⟨z,hzm⟩:=fP (show 0 < s.2.length by lia);obtain⟨i,rfl,hi⟩:=J.rg z hzm;refine zeA hp (kW _ (aB (zaM hi))) (xs:=xs) (fun x hx=>?_) ((zdf xs).symm.trans (zde fun c hc=>?_))
 ·obtain⟨j,hj,Bg,rfl⟩:=(Dr x).mp hx;obtain⟨y0,y1⟩:=kW _ (aB (zaM hj));refine⟨y0,y1,fun e=>?_⟩;have h1:=zaM hi;have h2:=zaM hj;rw [e,← h1] at h2;have:=(gG hj lN).mp h2;rw [this] at Bg;exact Bg hzm
 ·obtain⟨j,hj⟩:=bt hc;have:=hz j;rw [zbB hj] at this;exact Cg.of_eq this
end My
end
section
namespace My
open PySem L2 PyProof.Rows Srt
section
variable {p:Int} {k T:Nat} {pl:List Int} {rows:List (List (Option Int))}
def cmn (p:Int) (pl:List Int) (rows:List (List (Option Int))) (qs:List (List Int)):List Nat:=(aJ pl.length).filter fun i=>(rows.zip qs).all fun z=>zaS p pl z.1 z.2 i
structure JN (p:Int) (k:Nat) (pl:List Int) (T:Nat) (rows:List (List (Option Int))) (qs:List (List Int)):Prop where
 len:qs.length=rows.length
 isp:∀ q∈qs,IsP p k q
 many:T≤(cmn p pl rows qs).length
theorem zbw {qs:List (List Int)} {i:Nat}:i∈cmn p pl rows qs↔i < pl.length∧∀ z∈rows.zip qs,zaS p pl z.1 z.2 i=true:=by
 unfold cmn;rw [aU,bd,cN]
theorem zfN (qs:List (List Int)):(cmn p pl rows qs).Nodup:=df.filter _
theorem zip_get {α β:Type} {as:List α} {bs:List β} {l:Nat} {a:α} {b:β} (ha:as[l]? = some a) (hb:bs[l]? = some b):(a,b)∈as.zip bs:=by
 refine aB (i:=l) ?_;rw [dw];exact⟨ha,hb⟩
theorem zmk {qs:List (List Int)} {ms:List Int} (J:JS p k pl T rows (qs,ms)) (i:Nat):(i:Int)∈ms↔i∈cmn p pl rows qs:=by
 rw [zbw];constructor
 ·intro h;obtain⟨j,hj,hl⟩:=J.rg _ h;have:i=j:=by lia
  subst this;refine⟨hl,fun z hz=>?_⟩;obtain⟨l,u5⟩:=bt hz;rw [dw] at u5;exact (J.mem i hl).mp h l z.1 z.2 u5.1 u5.2
 ·rintro⟨hl,h⟩;exact (J.mem i hl).mpr fun l row q h1 h2=>h (row,q) (zip_get h1 h2)
theorem znX {qs:List (List Int)} {ms:List Int} (J:JS p k pl T rows (qs,ms)) (lA:rows≠[]):JN p k pl T rows qs:=by
 refine⟨J.len,J.isp,?_⟩;have h1:=J.many lA;have h2:(ms.map Int.toNat).Nodup:=bM.mpr (c7 (fun {a b} ha hb mJ e=>by
  obtain⟨i,rfl,_⟩:=J.rg a ha;obtain⟨j,rfl,_⟩:=J.rg b hb;exact mJ #[O]) J.nd)
 have h3:=bZ h2 (l₂:=cmn p pl rows qs) fun i hi=>by
  obtain⟨z,hz,rfl⟩:=aq.mp hi;obtain⟨j,rfl,_⟩:=J.rg z hz;exact (zmk J j).mp hz
 rw [ab] at h3;exact aN h1 h3
theorem zgJ {rows:List (List (Option Int))} {row:List (Option Int)} {qs:List (List Int)} {q:List Int} (h:qs.length=rows.length):(rows++[row]).zip (qs++[q])=rows.zip qs++[(row,q)]:=by
 rw [List.zip_append h.symm];rfl
theorem zlR {row:List (Option Int)} {qs:List (List Int)} {q:List Int} (h:JN p k pl T (rows++[row]) (qs++[q])):JN p k pl T rows qs:=by
 have hl:qs.length=rows.length:=by simpa using h.len
 refine⟨hl,fun x hx=>h.isp x (aL.mpr (.inl hx)),aN h.many ?_⟩;refine bZ (zfN _) fun i hi=>?_
 rw [zbw] at hi ⊢;refine⟨hi.1,fun z hz=>hi.2 z ?_⟩;rw [zgJ hl];exact aL.mpr (.inl hz)
theorem zlS {row:List (Option Int)} {qs:List (List Int)} {ms q:List Int} (J:JS p k pl T rows (qs,ms)) (hr:row.length=pl.length) (h:JN p k pl T (rows++[row]) (qs++[q])):IsP p k q∧T≤hits p q (hps pl (zZ ms row)):=by
 refine⟨h.isp q #[M],aN h.many ?_⟩;rw [← zbH (by rw [zbV]; exact hr)];have hn:((cmn p pl (rows++[row]) (qs++[q])).map fun i:Nat=>(i:Int)).Nodup:=bM.mpr (d7 (fun {a b} mJ e=>mJ #[O]) (zfN _));have:=bZ hn (l₂:=zaV p pl (zZ ms row) q pl.length) fun z hz=>by
  obtain⟨i,hi,rfl⟩:=aq.mp hz;rw [zbw,zgJ J.len] at hi;refine zdi.mpr ⟨i,rfl,hi.1,(zfg hr i).mpr ⟨(zmk J i).mpr (zbw.mpr ⟨hi.1,fun z hz=>hi.2 z (aL.mpr (.inl hz))⟩),hi.2 (row,q) #[M]⟩⟩
 rwa [ab] at this
theorem zlT (hp:1≤p) {as bs:List (List Int)} {a b:List Int} (ha:IsP p k a) (hb:IsP p k b) (h:nn p k as < nn p k bs):nn p k (as++[a]) < nn p k (bs++[b]):=by
 rw [zdY,zdY];have h1:=zit hp ha;have h2:=zit hp hb;have h3:(nn p k as+1)*p ^ k≤nn p k bs*p ^ k:=cu #[O] #[O];rw [Int.add_mul] at h3;lia
theorem zlU (hp:1≤p) {out:List (List (List Int)×List Int)} {done:List (List (List Int))} {qs:List (List Int)} {L:List (List Int)} (f:List Int→List Int) (nd:(out.map (·.1)).Pairwise fun a b=>nn p k a < nn p k b) (hi:∀ o∈out,∀ q∈o.1,IsP p k q) (hd:∀ o∈out,∃ a x,o.1=a++[x]∧a∈done) (hq:∀ a∈done,nn p k a < nn p k qs) (hL:zcO p k L) :
  ((out++L.map fun q=>(qs++[q],f q)).map (·.1)).Pairwise (fun a b=>nn p k a < nn p k b)∧∀ o∈out++L.map (fun q=>(qs++[q],f q)),∃ a x,o.1=a++[x]∧a∈done++[qs]:=by
 constructor
 ·rw [ao,bz];refine iT.mpr ⟨nd,bM.mpr (d7 (fun {a b} mJ=>?_) hL.2),fun a ha b hb=>?_⟩
  ·show nn p k (qs++[a]) < nn p k (qs++[b]);rw [zdY,zdY];lia
  ·obtain⟨o,ho,rfl⟩:=aq.mp ha;obtain⟨q,n5,rfl⟩:=aq.mp hb;obtain⟨c,x,e,hc⟩:=hd o ho;have hx:=hi o ho x (by rw [e]; simp);show nn p k o.1 < nn p k (qs++[q]);rw [e];exact zlT hp hx (hL.1 q n5) (hq c hc)
 ·intro o ho;rcases aL.mp ho with h | h
  ·obtain⟨a,x,e,ha⟩:=hd o h;exact⟨a,x,e,aL.mpr (.inl ha)⟩
  ·obtain⟨q,_,rfl⟩:=aq.mp h;exact⟨qs,q,rfl,#[M]⟩
theorem zlV {α:Type} {R:α→α→Prop} {l:List α} {i:Nat} {x:α} (h:l.Pairwise R) (hx:l[i]? = some x):∀ a∈l.take i,R a x:=fun a ha=>by
 obtain⟨j,hj⟩:=bt ha;rw [List.getElem?_take] at hj;split at hj
 ·next kU =>
  obtain⟨h1,e1⟩:=az.mp hj;obtain⟨h2,e2⟩:=az.mp hx;rw [← e1,← e2];exact dv.mp h j i h1 h2 kU
 ·cases hj
theorem znd {row:List (Option Int)} {ss out:List (List (List Int)×List Int)} (hr:row.length=pl.length) (hJ:∀ s∈ss,JS p k pl T rows s) (hc:∀ qs,JN p k pl T rows qs→qs∈ss.map (·.1)) (ho:∀ s∈ss,∀ q,IsP p k q→T≤hits p q (hps pl (zZ s.2 row))→s.1++[q]∈out.map (·.1)):∀ qs,JN p k pl T (rows++[row]) qs→qs∈out.map (·.1):=fun qs h=>by
 obtain⟨as,a,rfl⟩:∃ as a,qs=as++[a]:=by
  by_cases hq:qs = []
  ·have:=h.len;rw [hq] at this;simp at this
  ·exact⟨_,_,(List.dropLast_concat_getLast hq).symm⟩
 obtain⟨⟨qs,ms⟩,hs,e⟩:=aq.mp (hc as (zlR h));have e:qs=as:=e;subst e;obtain⟨h1,h2⟩:=zlS (hJ _ hs) hr h;exact ho _ hs a h1 h2
theorem zgK {pP:List (List (List Int))} (h:pP.Pairwise fun a b=>nn p k a < nn p k b):pP.Nodup:=h.imp (fun {a b} mJ e=>by rw [e] at mJ; lia)
theorem zlW {qs:List (List Int)} {l:Nat} {row:List (Option Int)} {q:List Int} (h:JN p k pl T rows qs) (h1:rows[l]? = some row) (h2:qs[l]? = some q) (hr:row.length=pl.length):IsP p k q∧T≤hits p q (hps pl row):=by
 refine⟨h.isp q (aB h2),aN h.many ?_⟩;rw [← zbH hr];have hn:((cmn p pl rows qs).map fun i:Nat=>(i:Int)).Nodup:=bM.mpr (d7 (fun {a b} mJ e=>mJ #[O]) (zfN _));have:=bZ hn (l₂:=zaV p pl row q pl.length) fun z hz=>by
  obtain⟨i,hi,rfl⟩:=aq.mp hz;rw [zbw] at hi;exact zdi.mpr ⟨i,rfl,hi.1,hi.2 (row,q) (zip_get h1 h2)⟩
 rwa [ab] at this
end
end My
end
section
namespace My
open PySem L2 PyProof.Rows
def top (i:Nat):Stmt:=PySem.Challenge.pw_slipcurve_k36_whole_sixteen_places.main.body.getD i (.Pass ⟨0,0,0,0⟩)
abbrev zca:Stmt:=top 1
abbrev zcy:Stmt:=top 2
abbrev za9:Stmt:=top 3
abbrev zeB:Stmt:=top 4
abbrev zcz:Stmt:=top 5
abbrev zaN:Stmt:=top 10
abbrev zeC:Stmt:=top 11
abbrev zby:Stmt:=top 13
abbrev zaW:Stmt:=top 14
abbrev zbC:Stmt:=top 15
abbrev zbf:Stmt:=top 16
abbrev zbW:Stmt:=top 18
abbrev zal:Stmt:=top 19
abbrev zbD:Stmt:=top 21
abbrev zba:Stmt:=top 22
abbrev zaF:Stmt:=top 23
abbrev s_beyond:Stmt:=top 24
abbrev zdZ:Stmt:=top 25
abbrev z0:Stmt:=top 26
abbrev zbx:Stmt:=top 28
abbrev zeD:Stmt:=top 29
abbrev zdj:Stmt:=top 31
abbrev zcA:Stmt:=top 32
abbrev zcB:Stmt:=top 33
abbrev zbX:Stmt:=top 34
abbrev zbY:Stmt:=top 35
abbrev za4:Stmt:=top 36
abbrev zbs:Stmt:=top 37
structure Adr where
 SlipError:Addr
 TooFew:Addr
 value_at:Addr
 inverse:Addr
 times_root:Addr
 bent:Addr
 through:Addr
 heard_points:Addr
 fits:Addr
 choices:Addr
 all_through:Addr
 all_near:Addr
 nearest:Addr
 without:Addr
 first_relation:Addr
 heard_at:Addr
 joint_near:Addr
 times_entries:Addr
 beyond:Addr
 sized:Addr
 joint_locator:Addr
 locator_of:Addr
 half:Addr
 l_cell:Addr
 l_draws:Addr
 l_value:Addr
 l_fits:Addr
 l_great:Addr
 l_slipped:Addr
 law:Addr
structure Txt (K:ag) (mg:Str→Option Value) (t:Adr):Prop where
 len_:mg "len" = none
 range_:mg "range" = none
 list_:mg "list" = none
 tuple_:mg "tuple" = none
 min_:mg "min" = none
 max_:mg "max" = none
 zip_:mg "zip" = none
 enumerate_:mg "enumerate" = none
 reversed_:mg "reversed" = none
 sorted_:mg "sorted" = none
 ValueError_:mg "ValueError" = none
 x_SlipError:mg "SlipError" = some (.ref t.SlipError)
 x_TooFew:mg "TooFew" = some (.ref t.TooFew)
 sb:ki K t.SlipError (.type "BaseException")=some true
 m_value_at:mg "value_at" = some (.ref t.value_at)
 m_inverse:mg "inverse" = some (.ref t.inverse)
 m_times_root:mg "times_root" = some (.ref t.times_root)
 m_bent:mg "bent" = some (.ref t.bent)
 m_through:mg "through" = some (.ref t.through)
 m_heard_points:mg "heard_points" = some (.ref t.heard_points)
 m_fits:mg "fits" = some (.ref t.fits)
 m_choices:mg "choices" = some (.ref t.choices)
 m_all_through:mg "all_through" = some (.ref t.all_through)
 m_all_near:mg "all_near" = some (.ref t.all_near)
 m_nearest:mg "nearest" = some (.ref t.nearest)
 m_without:mg "without" = some (.ref t.without)
 m_first_relation:mg "first_relation" = some (.ref t.first_relation)
 m_heard_at:mg "heard_at" = some (.ref t.heard_at)
 m_joint_near:mg "joint_near" = some (.ref t.joint_near)
 m_times_entries:mg "times_entries" = some (.ref t.times_entries)
 m_beyond:mg "beyond" = some (.ref t.beyond)
 m_sized:mg "sized" = some (.ref t.sized)
 m_joint_locator:mg "joint_locator" = some (.ref t.joint_locator)
 m_locator_of:mg "locator_of" = some (.ref t.locator_of)
 m_half:mg "half" = some (.ref t.half)
 m_l_cell:mg "_law_cell" = some (.ref t.l_cell)
 m_l_draws:mg "_law_draws" = some (.ref t.l_draws)
 m_l_value:mg "_law_value" = some (.ref t.l_value)
 m_l_fits:mg "_law_fits" = some (.ref t.l_fits)
 m_l_great:mg "_law_great" = some (.ref t.l_great)
 m_l_slipped:mg "_law_slipped" = some (.ref t.l_slipped)
 f_value_at:∃ fd,Fun K "value_at" "value_at" zca t.value_at fd∧Binds K fd ["p","polynomial","x"] []
 f_inverse:∃ fd,Fun K "inverse" "inverse" zcy t.inverse fd∧Binds K fd ["p","number"] []
 f_times_root:∃ fd,Fun K "times_root" "times_root" za9 t.times_root fd∧Binds K fd ["p","polynomial","root"] []
 f_bent:∃ fd,Fun K "bent" "bent" zeB t.bent fd∧Binds K fd ["p","polynomial","vanishing","point"] []
 f_through:∃ fd,Fun K "through" "through" zcz t.through fd∧Binds K fd ["p","points"] []
 f_heard_points:∃ fd,Fun K "heard_points" "heard_points" zaN t.heard_points fd∧Binds K fd ["code","row"] []
 f_fits:∃ fd,Fun K "fits" "fits" zeC t.fits fd∧Binds K fd ["code","row","polynomial"] []
 f_choices:∃ fd,Fun K "choices" "choices" zby t.choices fd∧Binds K fd ["things","many"] []
 f_all_through:∃ fd,Fun K "all_through" "all_through" zaW t.all_through fd∧Binds K fd ["code","points"] []
 f_all_near:∃ fd,Fun K "all_near" "all_near" zbC t.all_near fd∧Binds K fd ["code","row","t"] []
 f_nearest:∃ fd,Fun K "nearest" "nearest" zbf t.nearest fd∧Binds K fd ["code","row"] []
 f_without:∃ fd,Fun K "without" "without" zbW t.without fd∧Binds K fd ["p","vector","times","other"] []
 f_first_relation:∃ fd,Fun K "first_relation" "first_relation" zal t.first_relation fd∧Binds K fd ["p","vectors"] []
 f_heard_at:∃ fd,Fun K "heard_at" "heard_at" zbD t.heard_at fd∧Binds K fd ["row","numbers"] []
 f_joint_near:∃ fd,Fun K "joint_near" "joint_near" zba t.joint_near fd∧Binds K fd ["code","rows","t"] []
 f_times_entries:∃ fd,Fun K "times_entries" "times_entries" zaF t.times_entries fd∧Binds K fd ["p","left","points"] []
 f_beyond:∃ fd,Fun K "beyond" "beyond" s_beyond t.beyond fd∧Binds K fd ["rights","many"] []
 f_sized:∃ fd,Fun K "sized" "sized" zdZ t.sized fd∧Binds K fd ["polynomial","many"] []
 f_joint_locator:∃ fd,Fun K "joint_locator" "joint_locator" z0 t.joint_locator fd∧Binds K fd ["code","rows"] []
 f_locator_of:∃ fd,Fun K "locator_of" "locator_of" zbx t.locator_of fd∧Binds K fd ["code","row"] []
 f_half:∃ fd,Fun K "half" "half" zeD t.half fd∧Binds K fd ["code","row"] []
 f_l_cell:∃ fd,Fun K "_law_cell" "_law_cell" zdj t.l_cell fd∧Binds K fd ["script","k"] []
 f_l_draws:∃ fd,Fun K "_law_draws" "_law_draws" zcA t.l_draws fd∧Binds K fd ["script","k","many","base"] []
 f_l_value:∃ fd,Fun K "_law_value" "_law_value" zcB t.l_value fd∧Binds K fd ["p","polynomial","x"] []
 f_l_fits:∃ fd,Fun K "_law_fits" "_law_fits" zbX t.l_fits fd∧Binds K fd ["code","row","polynomial"] []
 f_l_great:∃ fd,Fun K "_law_great" "_law_great" zbY t.l_great fd∧Binds K fd ["script"] []
 f_l_slipped:∃ fd,Fun K "_law_slipped" "_law_slipped" za4 t.l_slipped fd∧Binds K fd ["script","at","code","slips"] []
section
variable {P:Program} {w:World} {K:ag} {mg:Str→Option Value} {base:Heap} {t:Adr}
theorem zjk:FnScope ["script","k"] ["script","k"] (zg zdj):=#[S]
theorem zjl {fd:FuncData} (T:Txt K mg t) (F:Fun K "_law_cell" "_law_cell" zdj t.l_cell fd):FnOk P w K mg base CX0 1 t.l_cell fd ["script","k"] (ziV K):=by
 refine F.ok zjk (fun vs H Q E h=>?_) (fun ly A outer s H vs Q E hr h=>?_)
 ·obtain⟨a,ns,k,rfl,_⟩:=h; rfl
 ·obtain⟨a,ns,k,rfl,hS,kG,k0,k1,q⟩:=h;refine zbb ?_; intro zX;refine⟨_,#[zd,#[zbq,#[zC,#[zd6],#[pvx,1],#[zz,#[zt],T.len_,bQ,#[ya,#[pvx,0]]],(zY _)],#[zo,#[zI,#[zab,#[zay],#[pvx,0],#[pvx,1]]]],#[zax]],#[zd,#[zbq,#[zC,#[zeV],#[zz,#[zt],T.len_,bQ,#[ya,#[pvx,0]]],#[zi],(zY _)],#[zo,#[zI,#[zn,#[z9],#[zn,#[zag],#[zi],#[pvx,1]],#[zi]]]],#[zax]],#[zo,#[zI,#[zn,#[z9],#[zn,#[zW],#[zab,#[zay],#[pvx,0],#[zn,#[zW],#[pvx,1],#[zz,#[zt],T.len_,bQ,#[ya,#[pvx,0]]]]],#[zi]],#[zn,#[zag],#[zi],#[pvx,1]]]]]]],?_⟩;refine ziM ?_; intro pC oP;refine⟨_,rfl,_,rfl,a,_,rfl,.inl hS,_,_,rfl,rfl,_,rfl,?_⟩; rw [ab];refine zaP (fun h=>?_) (fun h=>?_)
  ·have h:k < (ns.length:Int):=by simpa using h
   obtain⟨c,hc⟩:=zcZ k0 h;exact⟨_,rfl,_,rfl,a,_,k,_,rfl,rfl,hS,hc,q c⟩
  ·have h:¬ k < (ns.length:Int):=by simpa using h
   refine⟨_,rfl,a,_,rfl,.inl hS,rfl,_,rfl,?_⟩;rw [ab];refine zaP (fun h2=>?_) (fun h2=>?_)
   ·exact⟨_,rfl,_,_,rfl,rfl,.inl ⟨#[D],#[D]⟩,_,_,rfl,rfl,q _⟩
   ·have h2:¬ V.int (ns.length:Int)=V.int 0:=by simpa using h2
    have uN:0 < (ns.length:Int):=by
     have:(ns.length:Int)≠0:=fun z=>h2 (by rw [z])
     lia
    have m0:=aK k (show (ns.length:Int)≠0 by lia);have m1:=aF k uN;obtain⟨c,hc⟩:=zcZ m0 m1;refine⟨_,rfl,_,rfl,_,rfl,a,_,rfl,.inl hS,_,_,rfl,rfl,by rw [ab]; exact uN,a,_,_,_,rfl,rfl,hS,by rw [ab]; exact hc,_,_,rfl,rfl,(by show (0:Int) < 1000003; decide),?_⟩;exact⟨_,rfl,_,_,rfl,rfl,.inl ⟨#[D],#[D]⟩,_,_,rfl,rfl,q _⟩
theorem zac:FnScope ["script","k","many","base","primes","cell","rest","row","j","mash"] ["script","k","many","base"] (zg zcA):=#[S]
theorem zcS {fd:FuncData} (T:Txt K mg t) (F:Fun K "_law_draws" "_law_draws" zcA t.l_draws fd):FnOk P w K mg base CX0 2 t.l_draws fd ["script","k","many","base"] (zg1 K):=by
 obtain⟨rM,pY,ow⟩:=T.f_l_cell;have tL:=zjl (P:=P) (w:=w) (base:=base) T pY;refine F.ok zac (fun vs H Q E h=>?_) (fun ly A outer s H vs Q E hr h=>?_)
 ·obtain⟨a,ns,k,many,base,rfl,_⟩:=h;rfl
 ·obtain⟨a,ns,k,many,bs,rfl,hS,kG,k0,k1,m0,m1,b0,b1,q⟩:=h;refine zbb ?_; intro zX;refine⟨_,#[zd,#[zp,4,zac.nd,#[A],#[zas,#[zdD,#[zdD,#[zdD,#[zdD,#[zdD,#[za,#[zi],#[za,#[zi],#[ya,#[zi]]]]]]]]]]],#[zd,#[zp,5,zac.nd,#[A],#[zq,tL,(hr.mono #[D]),T.m_l_cell,pY.kp,ow,#[zL],#[za,#[pvx,0],#[ya,#[pvx,1]]]]],#[zd,#[zp,6,zac.nd,#[A],#[zi]],#[zd,#[zbq,#[zC,#[zjG],#[pvx,5],#[zn,(@zmv _),#[zi],#[zi]],(zY _)],#[zo,#[zp,6,zac.nd,#[A],#[pvx,5]]],#[zax]],#[zd,#[zp,7,zac.nd,#[A],#[zaT,#[ze]]],#[zd,#[zbd,bJ,#[za3,T.range_,#[ya,#[pvx,2]]],#[zf,8,zac.nd,#[A]],#[zd,#[zp,9,zac.nd,#[A],#[zn,#[zag],#[zn,#[zW],#[pvx,5],#[zab,#[zbM],#[pvx,4],#[zn,#[zW],#[pvx,8],#[zi]]]],#[zn,#[z9],#[zi],#[zn,#[zag],#[zn,#[zag],#[zi],#[pvx,8]],#[pvx,8]]]]],#[zd,#[zp,9,zac.nd,#[A],#[zn,#[z9],#[zn,#[z9],#[pvx,9],#[zn,#[zag],#[zn,#[zag],#[zi],#[zn,#[z9],#[pvx,8],#[zi]]],#[zn,#[z9],#[pvx,8],#[zi]]]],#[zn,#[zag],#[zi],#[pvx,1]]]],#[zd,#[zp,9,zac.nd,#[A],#[zn,#[zW],#[pvx,9],#[zab,#[zbM],#[pvx,4],#[zn,#[zW],#[zn,#[z9],#[zn,#[zag],#[zi],#[pvx,8]],#[pvx,1]],#[zi]]]]],#[zd,#[zp,9,zac.nd,#[A],#[zn,#[zW],#[zn,#[zag],#[zn,#[zag],#[pvx,9],#[pvx,9]],#[pvx,9]],#[zab,#[zbM],#[pvx,4],#[zn,#[zW],#[zn,#[z9],#[pvx,8],#[zi]],#[zi]]]]],#[zd,#[zbq,#[zC,#[zf0],#[pvx,6],#[zi],(zY _)],#[zo,#[zp,9,zac.nd,#[A],#[pvx,6]]],#[zax]],#[zd,#[zdM,#[zf2,cE,dG,dH,#[zcr],#[pvx,7],#[ya,#[zn,#[zW],#[pvx,9],#[pvx,3]]]]],#[zo,#[zp,6,zac.nd,#[A],#[zn,(@zk3 _),#[pvx,6],#[pvx,3]]]]]]]]]]],#[zo,#[zI,#[pvx,7]]]]]]]]],?_⟩;refine zom ?_; intro Ds xy vq rN pC oP;refine⟨by show 8≤sizeLine; rw [ba]; decide,fun tp ht=>?_⟩;have s1:zu H (kB H tp (.tup zlb)):=zc ht;refine⟨_,rfl,_,rfl,a,ns,k,rfl,s1.seq hS,kG,k0,k1,fun c=>?_⟩;refine⟨_,rfl,_,_,rfl,rfl,⟨#[D],#[D],#[D]⟩,_,_,rfl,rfl,_,rfl,?_⟩;refine zaP (fun _=>⟨_,rfl,?_⟩) (fun _=>?_)
  all_goals
   refine⟨bu _,fun l hl=>?_⟩;have yC:H l=none:=zu.free s1 hl;have vt:tp≠l:=zQ zb hl;refine⟨_,rfl,many,rfl,#[O],#[O],zec (lo:=0) (n:=many.toNat) (fun i σ H'=>∃ (r:Int) (v8 v9:Option V) (ds:List Int),σ = [some (.ref a),some (.int k),some (.int many),some (.int bs),some (.ref tp),some (.int c),some (.int r),some (.ref l),v8,v9]∧zhQ i bs ds∧zu H H'∧H' tp=some (.tup zlb)∧H' l=some (.lst (ds.map V.int)))
    ⟨_,none,none,[],rfl,⟨rfl,#[M]⟩,zaH s1 yC,by rw [zr vt]; exact zb,zb⟩ ?_ ?_⟩
   ·rintro zD zT i σ H2 hi ⟨r,v8,v9,ds,rfl,hd,s2,yD,rL⟩;obtain⟨q1,e1,q1p,q1l⟩:=zei (0+(i:Int));obtain⟨q2,e2,q2p,q2l⟩:=zei (3*(0+(i:Int))+k);obtain⟨q3,e3,q3p,q3l⟩:=zei (0+(i:Int)+5);have c1:=aK c (show q1≠0 by lia);have c2:=aF c q1p;have nB:(i:Int) < 1000:=by lia
    refine⟨_,rfl,_,rfl,_,rfl,_,_,rfl,rfl,(by show (0:Int) < 8; decide),tp,_,_,_,rfl,rfl,kF.of yD,e1,_,_,rfl,rfl,q1p,_,rfl,_,_,rfl,rfl,.inl ⟨#[D],#[D]⟩,_,rfl,_,_,rfl,rfl,.inl ⟨#[O],#[O]⟩,_,_,rfl,rfl,_,_,rfl,rfl,.inl ⟨#[O],#[O]⟩,?_⟩;refine⟨_,rfl,_,rfl,_,_,rfl,rfl,_,_,rfl,rfl,.inl ⟨#[D],#[D]⟩,_,rfl,_,_,rfl,rfl,_,_,rfl,rfl,.inl ⟨#[O],#[O]⟩,_,_,rfl,rfl,_,rfl,_,_,rfl,rfl,.inl ⟨#[D],#[D]⟩,_,_,rfl,rfl,?_⟩;refine⟨_,rfl,_,rfl,_,rfl,_,_,rfl,rfl,.inl ⟨#[D],#[D]⟩,_,rfl,_,_,rfl,rfl,_,_,rfl,rfl,(by show (0:Int) < 8; decide),tp,_,_,_,rfl,rfl,kF.of yD,e2,_,_,rfl,rfl,q2p,?_⟩;generalize c % q1*(48271+2*(0+(i:Int))*(0+(i:Int)))+7919*(0+(i:Int)+1)*(0+(i:Int)+1)+104729*k=ms;have d1:=aK ms (show q2≠0 by lia);have d2:=aF ms q2p;refine⟨_,rfl,_,rfl,_,_,rfl,rfl,.inl ⟨#[O],#[O]⟩,_,rfl,_,_,rfl,rfl,.inr ⟨#[O],#[O]⟩,_,rfl,_,rfl,_,_,rfl,rfl,_,_,rfl,rfl,(by show (0:Int) < 8; decide),tp,_,_,_,rfl,rfl,kF.of yD,e3,_,_,rfl,rfl,q3p,?_⟩;refine⟨_,rfl,_,_,rfl,rfl,_,rfl,?_⟩;have Bl:=hd.1;refine zaP (fun _=>⟨_,rfl,?_⟩) (fun _=>?_)
    all_goals
     refine⟨_,rfl,.inl ⟨rfl,_,ky.of rL⟩,_,rfl,_,rfl,_,_,rfl,rfl,b0,l,_,_,rfl,rfl,rL,zau (by rw [ab]; lia),?_⟩;refine⟨_,rfl,_,rfl,_,_,rfl,rfl,⟨b0,b1⟩,?_⟩;refine⟨_,_,_,ds++[_],rfl,⟨by rw [ap,Bl]; rfl,fun d hm=>?_⟩,zaH s2 yC,by rw [zr vt]; exact yD,by rw [zb,ao]; rfl⟩; rcases aL.mp hm with hm | hm
     ·exact hd.2 d hm
     ·have e:=aR.mp hm;rw [e];exact⟨aK _ #[O],aF _ b0⟩
   ·rintro σ H2 ⟨r,v8,v9,ds,rfl,hd,s2,yD,rL⟩;exact⟨_,rfl,q l ds H2 yC s2 hd rL⟩
theorem zbg:FnScope ["p","polynomial","x","total","power","number"] ["p","polynomial","x"] (zg zcB):=#[S]
theorem zeE {fd:FuncData} (T:Txt K mg t) (F:Fun K "_law_value" "_law_value" zcB t.l_value fd):FnOk P w K mg base CX0 1 t.l_value fd ["p","polynomial","x"] (zg2 K):=by
 refine F.ok zbg (fun vs H Q E h=>?_) (fun ly A outer s H vs Q E hr h=>?_)
 ·obtain⟨p,x,a,cs,rfl,_⟩:=h;rfl
 ·obtain⟨p,x,a,cs,rfl,hS,p0,p1,x0,x1,q⟩:=h;refine zbb ?_; intro zX;refine⟨_,#[zd,#[zp,3,zbg.nd,#[A],#[zi]],#[zd,#[zp,4,zbg.nd,#[A],#[zi]],#[zd,#[zbd,bJ,(@zmN _ _ _ _ #[pvx,1]),#[zf,5,zbg.nd,#[A]],#[zd,#[zp,3,zbg.nd,#[A],#[zn,#[zW],#[zn,#[z9],#[pvx,3],#[zn,#[zag],#[pvx,5],#[pvx,4]]],#[pvx,0]]],#[zo,#[zp,4,zbg.nd,#[A],#[zn,#[zW],#[zn,#[zag],#[pvx,4],#[pvx,2]],#[pvx,0]]]]]],#[zo,#[zI,#[pvx,3]]]]]],?_⟩;refine zjQ ?_; intro rN pC oP;refine⟨_,rfl,a,rfl,?_⟩;rcases hS with hS | hS
  ·refine .inl ⟨⟨_,hS⟩,zaQ (K:=K) (a:=a) (xs:=cs.map V.int) (fun i σ H'=>H'=H∧∃ (kJ power:Int) (nb:Option V),σ = [some (.int p),some (.ref a),some (.int x),some (.int kJ),some (.int power),nb]∧0≤power∧power≤97∧lv p x kJ power (cs.drop i)=lv p x 0 1 cs)
    ⟨rfl,0,1,none,rfl,#[D],#[D],rfl⟩ (fun i σ H' _ ⟨e,_⟩=>by rw [e]; exact hS) ?_ ?_⟩
   ·rintro zD zT i y σ H1 hy ⟨rfl,kJ,power,nb,rfl,w0,w1,hl⟩;obtain⟨c,rfl,hc⟩:=zaj hy;have m0:=aK (power*x) (show p≠0 by lia);have m1:=aF (power*x) p0;refine⟨_,rfl,_,rfl,_,rfl,_,_,rfl,rfl,.inr ⟨#[O],#[O]⟩,_,_,rfl,rfl,_,rfl,_,_,rfl,rfl,p0,?_⟩;refine⟨_,rfl,_,rfl,_,_,rfl,rfl,.inl ⟨#[O],#[O]⟩,_,rfl,_,_,rfl,rfl,p0,?_⟩;exact⟨rfl,_,_,_,rfl,m0,#[O],(zhS hc).symm.trans hl⟩
   ·rintro σ H1 ⟨rfl,kJ,power,nb,rfl,w0,w1,hl⟩;rw [ab,fv] at hl;have hl:kJ=lv p x 0 1 cs:=hl;rw [zhL p0] at hl;rw [← hl] at q;exact⟨_,rfl,q⟩
  ·refine .inr ⟨⟨_,hS⟩,zjS (K:=K) (a:=a) (xs:=cs.map V.int) (fun i σ H'=>H'=H∧∃ (kJ power:Int) (nb:Option V),σ = [some (.int p),some (.ref a),some (.int x),some (.int kJ),some (.int power),nb]∧0≤power∧power≤97∧lv p x kJ power (cs.drop i)=lv p x 0 1 cs)
    ⟨rfl,0,1,none,rfl,#[D],#[D],rfl⟩ (fun i σ H' _ ⟨e,_⟩=>by rw [e]; exact hS) ?_ ?_⟩
   ·rintro zD zT i y σ H1 hy ⟨rfl,kJ,power,nb,rfl,w0,w1,hl⟩;obtain⟨c,rfl,hc⟩:=zaj hy;have m0:=aK (power*x) (show p≠0 by lia);have m1:=aF (power*x) p0;refine⟨_,rfl,_,rfl,_,rfl,_,_,rfl,rfl,.inr ⟨#[O],#[O]⟩,_,_,rfl,rfl,_,rfl,_,_,rfl,rfl,p0,?_⟩;refine⟨_,rfl,_,rfl,_,_,rfl,rfl,.inl ⟨#[O],#[O]⟩,_,rfl,_,_,rfl,rfl,p0,?_⟩;exact⟨rfl,_,_,_,rfl,m0,#[O],(zhS hc).symm.trans hl⟩
   ·rintro σ H1 ⟨rfl,kJ,power,nb,rfl,w0,w1,hl⟩;rw [ab,fv] at hl;have hl:kJ=lv p x 0 1 cs:=hl;rw [zhL p0] at hl;rw [← hl] at q;exact⟨_,rfl,q⟩
theorem zbI:FnScope ["p","polynomial","x","value","number"] ["p","polynomial","x"] (zg zca):=#[S]
theorem zbJ {fd:FuncData} (T:Txt K mg t) (F:Fun K "value_at" "value_at" zca t.value_at fd):FnOk P w K mg base CX0 1 t.value_at fd ["p","polynomial","x"] (zdF K):=by
 refine F.ok zbI (fun vs H Q E h=>?_) (fun ly A outer s H vs Q E hr h=>?_)
 ·obtain⟨p,x,a,cs,rfl,_⟩:=h;rfl
 ·obtain⟨p,x,a,cs,rfl,hS,p0,p1,x0,x1,q⟩:=h;refine zbb ?_; intro zX;refine⟨_,#[zd,#[zp,3,zbI.nd,#[A],#[zi]],#[zd,#[zbd,bJ,(@zmL _ _ _ _ _ _ rfl T.reversed_ #[ya,#[pvx,1]] (by rfl)),#[zf,4,zbI.nd,#[A]],#[zo,#[zp,3,zbI.nd,#[A],#[zn,#[zW],#[zn,#[z9],#[zn,#[zag],#[pvx,3],#[pvx,2]],#[pvx,4]],#[pvx,0]]]]],#[zo,#[zI,#[pvx,3]]]]],?_⟩;refine ziM ?_; intro pC oP;refine⟨_,rfl,a,cs.map V.int,rfl,?_⟩;rcases hS with hS | hS
  ·refine .inl ⟨hS,?_⟩;rw [ab];refine zfo (n:=cs.length) (fun i σ H'=>H'=H∧∃ nb,σ = [some (.int p),some (.ref a),some (.int x),some (.int (zj p x (cs.drop (cs.length - i)))),nb]) ⟨rfl,none,by rw [eU,fv]; rfl⟩
    (fun i σ H' hi ⟨e,_⟩=>⟨hi,cs.map V.int,by rw [e]; exact hS,by rw [ab]⟩) (fun σ H' _=>af _) ?_ ?_
   ·rintro zD zT i y σ H1 H2 hi ⟨rfl,nb,rfl⟩ ⟨rfl,hy⟩;obtain⟨c,rfl,hc⟩:=zaj (hy _ hS);have v0:=zao (x:=x) p0 (cs.drop (cs.length - i));have v1:=zap (x:=x) p0 (cs.drop (cs.length - i));refine⟨_,rfl,_,rfl,_,_,rfl,rfl,.inl ⟨#[O],#[O]⟩,_,rfl,_,_,rfl,rfl,_,rfl,_,_,rfl,rfl,p0,?_⟩;refine⟨rfl,some (.int c),?_⟩;rw [ze6 hi hc];show _ = [some (V.int p),_,_,some (V.int ((c+x*zj p x (cs.drop (cs.length - i))) % p)),_];rw [Int.add_comm c,dE x];rfl
   ·rintro σ H1 ⟨rfl,nb,rfl⟩;rw [fM,dB];exact⟨_,rfl,q⟩
  ·refine .inr ⟨hS,?_⟩;rw [ab];refine zfo (n:=cs.length) (fun i σ H'=>H'=H∧∃ nb,σ = [some (.int p),some (.ref a),some (.int x),some (.int (zj p x (cs.drop (cs.length - i)))),nb]) ⟨rfl,none,by rw [eU,fv]; rfl⟩
    (fun i σ H' hi ⟨e,_⟩=>⟨hi,cs.map V.int,by rw [e]; exact hS,by rw [ab]⟩) (fun σ H' _=>af _) ?_ ?_
   ·rintro zD zT i y σ H1 H2 hi ⟨rfl,nb,rfl⟩ ⟨rfl,hy⟩;obtain⟨c,rfl,hc⟩:=zaj (hy _ hS);have v0:=zao (x:=x) p0 (cs.drop (cs.length - i));have v1:=zap (x:=x) p0 (cs.drop (cs.length - i));refine⟨_,rfl,_,rfl,_,_,rfl,rfl,.inl ⟨#[O],#[O]⟩,_,rfl,_,_,rfl,rfl,_,rfl,_,_,rfl,rfl,p0,?_⟩;refine⟨rfl,some (.int c),?_⟩;rw [ze6 hi hc];show _ = [some (V.int p),_,_,some (V.int ((c+x*zj p x (cs.drop (cs.length - i))) % p)),_];rw [Int.add_comm c,dE x];rfl
   ·rintro σ H1 ⟨rfl,nb,rfl⟩;rw [fM,dB];exact⟨_,rfl,q⟩
theorem za1:FnScope ["p","number","product","square","left"] ["p","number"] (zg zcy):=#[S]
theorem zeF {fd:FuncData} (T:Txt K mg t) (F:Fun K "inverse" "inverse" zcy t.inverse fd):FnOk P w K mg base CX0 1 t.inverse fd ["p","number"] (zg3 K):=by
 refine F.ok za1 (fun vs H Q E h=>?_) (fun ly A outer s H vs Q E hr h=>?_)
 ·obtain⟨p,h,rfl,_⟩:=h;rfl
 ·obtain⟨p,hh,rfl,mp,h0,h1,q⟩:=h;refine zbb ?_; intro zX;refine⟨_,#[zd,#[zp,2,za1.nd,#[A],#[zi]],#[zd,#[zp,3,za1.nd,#[A],#[zn,#[zW],#[pvx,1],#[pvx,0]]],#[zd,#[zp,4,za1.nd,#[A],#[zn,#[zb1],#[pvx,0],#[zi]]],#[zd,#[zfX,bJ,#[zC,#[zf0],#[pvx,4],#[zi],(zY _)],#[zd,#[zbq,#[zC,#[zeV],#[zn,#[zW],#[pvx,4],#[zi]],#[zi],(zY _)],#[zo,#[zp,2,za1.nd,#[A],#[zn,#[zW],#[zn,#[zag],#[pvx,2],#[pvx,3]],#[pvx,0]]]],#[zax]],#[zd,#[zp,3,za1.nd,#[A],#[zn,#[zW],#[zn,#[zag],#[pvx,3],#[pvx,3]],#[pvx,0]]],#[zo,#[zjz,4,za1.nd,#[A],#[zi],zjE]]]]],#[zo,#[zI,#[pvx,2]]]]]]],?_⟩;refine znE ?_; intro vq rN pC oP;have rp:=zm mp;have e0:=aK hh (show p≠0 by lia);have e1:=aF hh (show 0 < p by lia);refine⟨_,rfl,_,rfl,_,_,rfl,rfl,(by show 0 < p; lia),_,rfl,_,_,rfl,rfl,?_⟩;refine zjD (fun σ H'=>H'=H∧∃ (prod sq left:Int) (n:Nat),σ = [some (.int p),some (.int hh),some (.int prod),some (.int sq),some (.int left)]∧0≤prod∧prod < p∧0≤sq∧sq < p∧0≤left∧left < 2 ^ n∧zcs p n prod sq left=inv p hh) (fun σ _=>zmP σ)
   ⟨rfl,1,hh % p,p - 2,7,rfl,#[O],#[O],e0,e1,#[O],#[O],rfl⟩ ?_ ?_
  ·rintro σ H1 ⟨rfl,prod,sq,left,n,rfl,b0,b1,s0,s1,l0,l1,hi⟩;refine⟨_,rfl,_,_,rfl,rfl,_,rfl,?_⟩;refine zaP (fun hl=>?_) (fun hl=>?_)
   ·have hl:0 < left:=by simpa using hl
    obtain⟨m,rfl⟩:∃ m,n=m+1:=by
     cases n with
     | zero=>lia
     | succ m=>exact⟨m,rfl⟩
    rw [zfv hl l1] at hi;have l2:left / 2 < 2 ^ m:=by
     have:(2:Int) ^ (m+1)=2 ^ m*2:=fK ..;lia
    have m0:=aK (prod*sq) (show p≠0 by lia);have m1:=aF (prod*sq) (show 0 < p by lia);have n0:=aK (sq*sq) (show p≠0 by lia);have n1:=aF (sq*sq) (show 0 < p by lia);refine⟨_,rfl,_,_,rfl,rfl,(by show (0:Int) < 2; decide),rfl,_,rfl,?_⟩; refine zaP (fun ho=>?_) (fun ho=>?_)
    ·have ho:left % 2=1:=by simpa using ho
     rw [if_pos ho] at hi;refine⟨_,rfl,_,rfl,_,_,rfl,rfl,.inl ⟨#[O],#[O]⟩,_,rfl,_,_,rfl,rfl,(by show 0 < p; lia),?_⟩;refine⟨_,rfl,_,rfl,_,_,rfl,rfl,.inl ⟨#[O],#[O]⟩,_,rfl,_,_,rfl,rfl,(by show 0 < p; lia),?_⟩;refine⟨_,rfl,_,_,rfl,rfl,⟨#[D],#[D]⟩,⟨rfl,_,_,_,m,rfl,m0,m1,n0,n1,#[O],l2,hi⟩,?_⟩;show (left / 2).toNat < left.toNat;lia
    ·have ho:¬ left % 2=1:=by simpa using ho
     rw [if_neg ho] at hi;refine⟨_,rfl,_,rfl,_,_,rfl,rfl,.inl ⟨#[O],#[O]⟩,_,rfl,_,_,rfl,rfl,(by show 0 < p; lia),?_⟩;refine⟨_,rfl,_,_,rfl,rfl,⟨#[D],#[D]⟩,⟨rfl,_,_,_,m,rfl,b0,b1,n0,n1,#[O],l2,hi⟩,?_⟩;show (left / 2).toNat < left.toNat;lia
   ·have hl:¬ 0 < left:=by simpa using hl
    have el:left=0:=by lia
    subst el;rw [zgf] at hi;rw [← hi] at q;exact⟨_,rfl,q⟩
  ·rintro σ H1 Q1 Q2 hq ⟨v,e,i,j,e1,e2,k,e3,q⟩;exact⟨v,e,i,j,e1,e2,k,e3,hq _ _ q⟩
def zeG (K:ag):Sp:=fun vs H Q _=>∃ (p r:Int) (a:Addr) (cs:List Int),vs = [.int p,.ref a,.int r]∧H a=some (.lst (cs.map V.int))∧cs.length≤1000∧0 < p∧-97≤r∧r≤97 ∧
 ∀ (l:Addr) (H':Hp),H l=none→zu H H'→H' l=some (.lst ((zcl p r cs).map V.int))→Q (.ref l) H'
theorem zbP:FnScope ["p","polynomial","root","raised","kept"] ["p","polynomial","root"] (zg za9):=#[S]
theorem zeN {fd:FuncData} (T:Txt K mg t) (F:Fun K "times_root" "times_root" za9 t.times_root fd):FnOk P w K mg base CX0 1 t.times_root fd ["p","polynomial","root"] (zeG K):=by
 refine F.ok zbP (fun vs H Q E h=>?_) (fun ly A outer s H vs Q E hr h=>?_)
 ·obtain⟨p,r,a,cs,rfl,_⟩:=h;rfl
 ·obtain⟨p,r,a,cs,rfl,ha,kG,p0,r0,r1,q⟩:=h;refine zbb ?_; intro zX;refine⟨_,#[zd,#[zp,3,zbP.nd,#[A],#[zn,#[zeb],#[zaT,#[ya,#[zi]]],#[pvx,1]]],#[zd,#[zp,4,zbP.nd,#[A],#[zn,#[zeb],#[pvx,1],#[zaT,#[ya,#[zi]]]]],#[zo,#[zI,#[zad,(CompSc.of (N':=["high","low","root","p"]) (ix:=[none,none,some 2,some 0]) (zg za9) ["p","polynomial","root","raised","kept"] rfl rfl #[N]),#[zbe,#[zN,#[zN,#[zaR]]]],#[zfr,T.zip_,#[za,#[pvx,3],#[ya,#[pvx,4]]]],(fun _ _ _ _=>#[zaK,(K),2,#[zh,#[zf,0,(show (["high","low","root","p"]:List Str).Nodup from #[N]),#[A]],#[zh,#[zf,1,(show (["high","low","root","p"]:List Str).Nodup from #[N]),#[A]],#[zJ]]]]),(fun _ _ _ _=>#[zG]),(fun _ _ _ _=>#[zn,#[zW],#[zn,#[zb1],#[pvx,0],#[zn,#[zag],#[pvx,2],#[pvx,1]]],#[pvx,3]])]]]]],?_⟩;refine ziM ?_; intro pC oP;have nZ:=ba;refine⟨by show 1≤sizeLine; lia,fun z hz=>⟨_,rfl,z,a,[.int 0],cs.map V.int,rfl,rfl,zb,by rw [zr (zQ ha hz)]; exact ha,by rw [ab]; show 1+cs.length≤sizeLine; lia,fun ra mU=>?_⟩⟩;have s1:zu H (kB (kB H z (.lst [.int 0])) ra (.lst ([.int 0]++cs.map V.int))):=(zc hz).trans (zc mU);refine⟨_,rfl,by show 1≤sizeLine; lia,fun z2 sU=>⟨a,z2,cs.map V.int,[.int 0],rfl,rfl,by rw [zr (zQ (s1 _ _ ha) sU)]; exact s1 _ _ ha,zb,by rw [ab]; show cs.length+1≤sizeLine; lia,fun ke hke=>?_⟩⟩;have s2:=s1.trans ((zc (o:=.lst [.int 0]) sU).trans (zc (o:=.lst (cs.map V.int++[.int 0])) hke));have tM:kB (kB (kB (kB H z (.lst [.int 0])) ra (.lst ([.int 0]++cs.map V.int))) z2 (.lst [.int 0])) ke (.lst (cs.map V.int++[.int 0])) ra=some (.lst ((0 :: cs).map V.int)) :=
   ((zc (o:=.lst [.int 0]) sU).trans (zc (o:=.lst (cs.map V.int++[.int 0])) hke)) _ _ zb
  have tN:kB (kB (kB (kB H z (.lst [.int 0])) ra (.lst ([.int 0]++cs.map V.int))) z2 (.lst [.int 0])) ke (.lst (cs.map V.int++[.int 0])) ke=some (.lst ((cs++[0]).map V.int)):=by rw [zb,ao]; rfl
  generalize kB (kB (kB (kB H z (.lst [.int 0])) ra (.lst ([.int 0]++cs.map V.int))) z2 (.lst [.int 0])) ke (.lst (cs.map V.int++[.int 0]))=H2 at s2 tM tN ⊢;refine⟨_,rfl,_,rfl,ra,ke,_,_,rfl,ky.of tM,ky.of tN,zH (n:=cs.length+1) (fun i ys H'=>ys=((zcl p r cs).take i).map V.int∧zu H2 H') ⟨#[M],fun _ _ e=>e⟩ ?_ ?_ ?_ ?_⟩
  ·rintro i ys H3 hi ⟨_,s3⟩;obtain⟨x,hx⟩:∃ x,(0 :: cs)[i]? = some x:=⟨(0 :: cs)[i]'(by simpa using hi),#[M]⟩;obtain⟨y,hy⟩:∃ y,(cs++[0])[i]? = some y:=⟨(cs++[0])[i]'(by simpa using hi),#[M]⟩;exact⟨_,_,.int x,.int y,ky.of (s3 _ _ tM),ky.of (s3 _ _ tN),by rw [ah,hx]; rfl,by rw [ah,hy]; rfl⟩
  ·rintro ys H3 ⟨_,s3⟩;exact⟨_,_,ky.of (s3 _ _ tM),ky.of (s3 _ _ tN),.inl #[M]⟩
  ·rintro zS zT zE i x ys H3 H4 hi ⟨rfl,s3⟩ ⟨T,u,v,hT,rfl,rfl,hu,hv⟩;obtain⟨x,rfl,hx⟩:=zaj (hu _ (ky.of (s3 _ _ tM)));obtain⟨y,rfl,hy⟩:=zaj (hv _ (ky.of (s3 _ _ tN)));refine gY2 (kF.of zb) ?_;refine⟨_,rfl,_,rfl,_,rfl,_,_,rfl,rfl,.inl ⟨#[O],#[O]⟩,_,_,rfl,rfl,_,rfl,_,_,rfl,rfl,p0,zau ?_,?_,s3.trans (zc hT)⟩
   ·rw [ab];exact aN (eE _ _) #[O]
   ·show _=(List.take (i+1) (a8 (trF p r) (0 :: cs) (cs++[0]))).map V.int;rw [zgg hx hy,ao];rfl
  ·rintro ys H3 D ⟨rfl,s3⟩ hD;refine q D _ ((s2.trans s3).free hD) ((s2.trans s3).trans (zc hD)) ?_;rw [zb,aT (by rw [zdo]; exact af _)]
theorem zkO {p f:Int}:∀ (cs vs:List Int),vs.length≤cs.length→ad p f cs vs=a8 (fun number other=>(number+f*other) % p) cs vs++cs.drop vs.length
 | [],[],_=>rfl
 | _ :: _,[],_=>rfl
 | [],_ :: _,h=>by simp at h
 | c :: cs,v :: vs,h=>by
  show (c+f*v) % p :: ad p f cs vs=(c+f*v) % p :: (a8 _ cs vs++cs.drop vs.length);rw [zkO cs vs (by simpa using h)]
theorem zkP {xs:List V} {k:Nat} (h:k≤xs.length):zbk xs (some (k:Int)) none=xs.drop k:=by
 have e1:HT.sIx xs.length 0 (some (k:Int))=k:=by
  unfold HT.sIx;simp;split <;> lia
 have e2:HT.sIx xs.length xs.length none=xs.length:=rfl;unfold zbk;rw [e1,e2];exact aT (by rw [b7]; exact af _)
def zlX (K:ag):Sp:=fun vs H Q _=>∃ (p x y:Int) (c v b:Addr) (cs ws:List Int),vs = [.int p,.ref c,.ref v,.ref b]∧H c=some (.lst (cs.map V.int))∧H v=some (.lst (ws.map V.int))∧H b=some (.tup [.int x,.int y])∧p∈zl∧0≤x∧x < p∧0≤y∧y < 10000∧0 < zj p x ws∧zj p x ws < p∧ws.length≤cs.length∧cs.length≤1000 ∧
 ∀ (l:Addr) (H':Hp),H l=none→zu H H'→H' l=some (.lst ((ad p ((y - zj p x cs)*inv p (zj p x ws) % p) cs ws).map V.int))→Q (.ref l) H'
theorem zcC:FnScope ["p","polynomial","vanishing","point","x","y","missing","factor","added"] ["p","polynomial","vanishing","point"] (zg zeB):=#[S]
theorem zlY {fd:FuncData} (T:Txt K mg t) (F:Fun K "bent" "bent" zeB t.bent fd):FnOk P w K mg base CX0 2 t.bent fd ["p","polynomial","vanishing","point"] (zlX K):=by
 obtain⟨lS,kK,kO⟩:=T.f_value_at;have kS:=zbJ (P:=P) (w:=w) (base:=base) T kK;obtain⟨oz,l4,l5⟩:=T.f_inverse;have nC:=zeF (P:=P) (w:=w) (base:=base) T l4;refine F.ok zcC (fun vs H Q E h=>?_) (fun ly A outer s H vs Q E hr h=>?_)
 ·obtain⟨p,x,y,c,v,b,cs,ws,rfl,_⟩:=h;rfl
 ·obtain⟨p,x,y,c,v,b,cs,ws,rfl,hc,hv,hb,mp,x0,x1,y0,y1,g0,g1,hle,kG,q⟩:=h;refine zbb ?_; intro zX;refine⟨_,#[zd,#[za5,#[pvx,3],#[zaI,#[zh,#[zf,4,zcC.nd,#[A]],#[zh,#[zf,5,zcC.nd,#[A]],#[zJ]]]]],#[zd,#[zp,6,zcC.nd,#[A],#[zn,#[zb1],#[pvx,5],#[zq,kS,(hr.mono #[D]),T.m_value_at,kK.kp,kO,#[zL],#[za,#[pvx,0],#[za,#[pvx,1],#[ya,#[pvx,4]]]]]]],#[zd,#[zp,7,zcC.nd,(cv rfl),#[zn,#[zW],#[zn,#[zag],#[pvx,6],#[zq,nC,(hr.mono #[D]),T.m_inverse,l4.kp,l5,#[zL],#[za,#[pvx,0],#[ya,#[zq,kS,(hr.mono #[D]),T.m_value_at,kK.kp,kO,#[zL],#[za,#[pvx,0],#[za,#[pvx,2],#[ya,#[pvx,4]]]]]]]]],#[pvx,0]]],#[zd,#[zat,8,zcC.nd,#[A],(CompSc.of (N':=["number","other","factor","p"]) (ix:=[none,none,some 7,some 0]) (zg zeB) ["p","polynomial","vanishing","point","x","y","missing","factor","added"] rfl rfl #[N]),#[zbe,#[zN,#[zN,#[zaR]]]],#[zfr,T.zip_,#[za,#[pvx,1],#[ya,#[pvx,2]]]],(fun _ _ _ _=>#[zaK,(K),2,#[zh,#[zf,0,(show (["number","other","factor","p"]:List Str).Nodup from #[N]),#[A]],#[zh,#[zf,1,(show (["number","other","factor","p"]:List Str).Nodup from #[N]),#[A]],#[zJ]]]]),(fun _ _ _ _=>#[zG]),(fun _ _ _ _=>#[zn,#[zW],#[zn,#[z9],#[pvx,0],#[zn,#[zag],#[pvx,2],#[pvx,1]]],#[pvx,3]])],#[zo,#[zI,#[zn,#[zeb],#[pvx,8],#[zbj,zcq,#[pvx,1],#[zbt,#[zz,#[zt],T.len_,bQ,#[ya,#[pvx,8]]]],#[zb2]]]]]]]]],?_⟩;refine znE ?_; intro vq rN pC oP;have nZ:=ba;have rp:=zm mp;have p0:0 < p:=by lia
  have v0:=zao (x:=x) p0 cs;have v1:=zap (x:=x) p0 cs;refine⟨_,rfl,b,_,rfl,kF.of hb,rfl,_,_,rfl,_,_,rfl,rfl,?_⟩;refine⟨_,rfl,_,rfl,_,rfl,_,rfl,p,x,c,cs,rfl,.inl (ky.of hc),p0,#[O],x0,x1,_,_,rfl,rfl,?_⟩;refine⟨_,rfl,_,rfl,_,rfl,_,rfl,_,rfl,p,x,v,ws,rfl,.inl (ky.of hv),p0,#[O],x0,x1,p,_,rfl,mp,#[O],#[O],_,_,rfl,rfl,.inl ⟨#[O],#[O]⟩,_,rfl,_,_,rfl,rfl,p0,?_⟩;have f0:=aK ((y - zj p x cs)*inv p (zj p x ws)) (show p≠0 by lia);have f1:=aF ((y - zj p x cs)*inv p (zj p x ws)) p0;refine⟨_,rfl,_,rfl,c,v,_,_,rfl,ky.of hc,ky.of hv,ze7 (n:=ws.length) (f:=fun number other=>(number+((y - zj p x cs)*inv p (zj p x ws) % p)*other) % p) hc hv hle (af _) (.inr (af _)) #[O] ?_ ?_⟩
  ·intro j u w H6 T R B hu hv s6 hT hR;refine gY2 (kF.of zb) ?_;exact⟨_,rfl,_,rfl,_,rfl,_,_,rfl,rfl,.inl ⟨#[O],#[O]⟩,_,_,rfl,rfl,_,rfl,_,_,rfl,rfl,p0,hR⟩
  ·intro D H6 s6 hD;obtain⟨f,hf⟩:∃ f,(y - zj p x cs)*inv p (zj p x ws) % p=f:=⟨_,rfl⟩;rw [hf] at q ⊢;have lz:(a8 (fun number other=>(number+f*other) % p) cs ws).length=ws.length:=by rw [dJ]; lia
   have s7:=s6.trans (zc (o:=.lst ((a8 (fun number other=>(number+f*other) % p) cs ws).map V.int)) hD);have sI:kB H6 D (.lst ((a8 (fun number other=>(number+f*other) % p) cs ws).map V.int)) D=some (.lst ((a8 (fun number other=>(number+f*other) % p) cs ws).map V.int)):=zb;generalize kB H6 D (.lst ((a8 (fun number other=>(number+f*other) % p) cs ws).map V.int))=H7 at s7 sI ⊢;have yE:=s7 _ _ hc;refine⟨_,rfl,_,rfl,_,rfl,D,_,rfl,.inl (ky.of sI),?_⟩;refine⟨_,rfl,c,_,rfl,ky.of yE,fun z hz=>?_⟩;have ec:zbk (cs.map V.int) (some ((((a8 (fun number other=>(number+f*other) % p) cs ws).map V.int).length:Nat):Int)) none=(cs.drop ws.length).map V.int:=by
    rw [ab,lz,zkP (by rw [ab]; exact hle),i0]
   rw [ec];have s8:=zc (o:=.lst ((cs.drop ws.length).map V.int)) hz;refine⟨D,z,_,_,rfl,rfl,s8 _ _ sI,zb,by rw [ab,ab,lz,b7]; lia,fun l hl=>q l _ (((s7.trans s8).free hl)) ((s7.trans s8).trans (zc hl)) ?_⟩;rw [zb,zkO cs ws hle,ao]
theorem za2:FnScope ["p","points","polynomial","vanishing","x","y"] ["p","points"] (zg zcz):=#[S]
theorem zcT {fd:FuncData} (T:Txt K mg t) (F:Fun K "through" "through" zcz t.through fd):FnOk P w K mg base CX0 3 t.through fd ["p","points"] (zgC K):=by
 obtain⟨uO,tO,qt⟩:=T.f_bent;have wD:=zlY (P:=P) (w:=w) (base:=base) T tO;obtain⟨oU,ni,mo⟩:=T.f_times_root;have pD:=zeN (P:=P) (w:=w) (base:=base) T ni;refine F.ok za2 (fun vs H Q E h=>?_) (fun ly A outer s H vs Q E hr h=>?_)
 ·obtain⟨p,a,kx,rfl,_⟩:=h;rfl
 ·obtain⟨p,a,kx,rfl,hP,kG,mp,hp,vw,q⟩:=h;refine zbb ?_; intro zX;refine⟨_,#[zd,#[zp,2,za2.nd,#[A],#[zn,#[zjN],#[zaT,#[ya,#[zi]]],#[zz,#[zt],T.len_,bQ,#[ya,#[pvx,1]]]]],#[zd,#[zp,3,za2.nd,#[A],#[zaT,#[ya,#[zi]]]],#[zd,#[zbd,bJ,#[zP,#[pvx,1]],#[zaI,#[zh,#[zf,4,za2.nd,#[A]],#[zh,#[zf,5,za2.nd,#[A]],#[zJ]]]],#[zd,#[zp,2,za2.nd,#[A],#[zq,wD,(hr.mono #[D]),T.m_bent,tO.kp,qt,#[zL],#[za,#[pvx,0],by exact #[za,#[pvx,2],#[za,#[pvx,3],#[ya,#[zas,#[za,#[pvx,4],#[ya,#[pvx,5]]]]]]]]]],#[zo,#[zp,3,za2.nd,#[A],#[zq,pD,(hr.mono #[D]),T.m_times_root,ni.kp,mo,#[zL],#[za,#[pvx,0],#[za,#[pvx,3],#[ya,#[pvx,4]]]]]]]]],#[zo,#[zI,#[zaA,#[zaU],T.tuple_,gM,#[ya,#[pvx,2]]]]]]]],?_⟩;refine zjQ ?_; intro rN pC oP;have nZ:=ba;have rp:=zm mp;have p0:0 < p:=by lia
  obtain⟨bs,hS,rO,hb⟩:=id hP;refine⟨by show 1≤sizeLine; lia,fun z hz=>⟨_,rfl,a,_,rfl,.inl ((zc hz).seq hS),z,_,[.int 0],rfl,rfl,zb,by rw [ab]; lia,by rw [ab]; lia,by rw [ab]; show 1*_≤sizeLine; lia,fun c hc=>?_⟩⟩;have s0:=zc (o:=.lst [.int 0]) hz;have hcH:H c=none:=s0.free hc;refine⟨by show 1≤sizeLine; lia,fun v hv=>?_⟩;have hcv:c≠v:=zQ zb hv;rw [ab,zc0,rO,bw] at hv ⊢;have s2:zu H (kB (kB (kB H z (.lst [.int 0])) c (.lst ((ar kx.length 0).map V.int))) v (.lst [.int 1])):=(s0.trans (zc hc)).trans (zc hv);refine⟨_,rfl,a,rfl,⟨_,s2.seq hS⟩,zaQ (K:=K) (a:=a) (xs:=bs.map V.ref) (fun i σ H'=>∃ (c v:Addr) (s:List Int×List Int) (e4 e5:Option V),σ = [some (.int p),some (.ref a),some (.ref c),some (.ref v),e4,e5] ∧
   s=(kx.take i).foldl (zcm p) (ar kx.length 0,[1])∧Nw p kx.length ((kx.take i).map (md p)) s∧zu H H'∧H' c=some (.lst (s.1.map V.int))∧H' v=some (.lst (s.2.map V.int)))
   ⟨c,v,_,none,none,rfl,rfl,by rw [dC]; exact zge mp _,s2,by rw [zr hcv]; exact zb,zb⟩ (fun i σ H' _ ⟨_,_,_,_,_,_,_,_,s3,_⟩=>s3.seq hS) ?_ ?_⟩
  ·rintro zD zT i y σ H1 hy ⟨c,v,s,e4,e5,rfl,hs,nw,s1,qh,Dt⟩;obtain⟨b,rfl,yF⟩:=zK hy;obtain⟨hi,_⟩:=az.mp yF;obtain⟨⟨x,y⟩,hq⟩:∃ q,kx[i]? = some q:=⟨kx[i]'#[O],#[M]⟩;have hbq:=s1 _ _ (hb i b _ yF hq);have uh:=zek hq;have pT:=hp;rw [uh,ao,bh] at pT;have Bm:=pT.apart;obtain⟨x0,x1,m0,m1⟩:=hp.rg _ (aq.mpr ⟨_,aB hq,rfl⟩);obtain⟨y0,y1⟩:=vw _ (aB hq);dsimp only [md] at x0 x1 m0 m1 y0 y1;have yB:i < kx.length:=by lia
   have vt:(kx.take i).length=i:=by rw [aD]; lia
   have Du:=zhP mp nw (q:=md p (x,y)) (by rw [ab,vt]; exact yB) x0 x1 m0 m1 Bm;rw [zgB] at Du;obtain⟨Bn,xw⟩:=zhO mp nw (q:=(x,y)) x0 x1 (fun a ha=>⟨(Bm a ha).1,(Bm a ha).2.1,(Bm a ha).2.2.1⟩);dsimp only at Bn xw;have oZ:zcm p s (x,y)=(ad p ((y - zj p x s.1)*inv p (zj p x s.2) % p) s.1 s.2,zcl p x s.2):=rfl;rw [oZ] at Du;have l1:=nw.lc;have l2:=nw.lv;rw [ab,vt] at l2;refine⟨b,_,rfl,kF.of hbq,rfl,_,_,rfl,_,_,rfl,rfl,?_⟩;refine⟨_,rfl,_,rfl,_,rfl,_,rfl,_,rfl,by show 2≤sizeLine; lia,fun tt ht=>?_⟩;have t1:=zc (o:=.tup [.int x,.int y]) ht;refine⟨p,x,y,c,v,tt,s.1,s.2,rfl,t1 _ _ qh,t1 _ _ Dt,zb,mp,x0,x1,y0,y1,Bn,xw,#[O],#[O],fun l H3 hl s3 oQ=>?_⟩;have s4:=t1.trans s3;refine⟨_,rfl,_,rfl,_,rfl,p,x,v,s.2,rfl,s4 _ _ Dt,#[O],p0,#[O],#[O],fun l2 H4 rk s5 Dv=>?_⟩;refine⟨l,l2,zcm p s (x,y),_,_,rfl,?_,?_,(s1.trans s4).trans s5,?_,?_⟩
   ·rw [take_snoc hq,List.foldl_append,← hs];rfl
   ·rw [take_snoc hq,oZ,ao];exact Du
   ·rw [oZ];exact s5 _ _ oQ
   ·rw [oZ];exact Dv
  ·rintro σ H1 ⟨c,v,s,e4,e5,rfl,hs,nw,s1,qh,Dt⟩;rw [ab,rO,aM] at hs;refine⟨_,rfl,c,_,rfl,.inl ⟨ky.of qh,fun l hl=>q l _ (s1.free hl) (s1.trans (zc hl)) ?_⟩⟩;rw [zb,hs,zm9];rfl
theorem zaY:FnScope ["code","row","p","k","places"] ["code","row"] (zg zaN):=#[S]
theorem zaZ {fd:FuncData} (T:Txt K mg t) (F:Fun K "heard_points" "heard_points" zaN t.heard_points fd):FnOk P w K mg base CX0 1 t.heard_points fd ["code","row"] (zlD K):=by
 refine F.ok zaY (fun vs H Q E h=>?_) (fun ly A outer s H vs Q E hr h=>?_)
 ·obtain⟨c,tt,r,p,k,pl,rw,rfl,_⟩:=h;rfl
 ·obtain⟨c,tt,r,p,k,pl,rw,rfl,hc,oV,hn,q⟩:=h;refine zbb ?_; intro zX;refine⟨_,#[zd,#[za5,#[pvx,0],#[zaI,#[zh,#[zf,2,zaY.nd,#[A]],#[zh,#[zf,3,zaY.nd,#[A]],#[zh,#[zf,4,zaY.nd,#[A]],#[zJ]]]]]],#[zo,#[zI,#[zad,(CompSc.of (N':=["place","entry"]) (ix:=[none,none]) (zg zaN) ["code","row","p","k","places"] rfl rfl #[N]),#[zbe,#[zN,#[zN,#[zaR]]]],(@zj9 _ _ _ _ _ _ _ _ _ rfl T.zip_ #[za,#[pvx,4],#[ya,#[pvx,1]]] (by rfl) (by rfl)),(fun _ _ _ _=>#[zaK,(K),2,#[zh,#[zf,0,(show (["place","entry"]:List Str).Nodup from #[N]),#[A]],#[zh,#[zf,1,(show (["place","entry"]:List Str).Nodup from #[N]),#[A]],#[zJ]]]]),(fun _ _ _ _=>#[zbl,#[zC,#[zhB],#[pvx,1],#[zcf],(zY _)]]),(fun _ _ _ _=>#[zas,#[za,#[pvx,0],#[ya,#[pvx,1]]]])]]]],?_⟩;refine zmE ?_; intro oP;have nZ:=ba;have hl:=oV.len;refine⟨_,rfl,c,_,rfl,kF.of hc.1,rfl,_,_,rfl,_,_,rfl,_,_,rfl,rfl,?_⟩;refine⟨_,rfl,_,rfl,tt,r,_,_,rfl,kF.of hc.2,oV.at',zH (n:=pl.length) (fun i ys H'=>zu H H'∧∃ us:List Addr,ys=us.map V.ref∧PtB H' us (hps (pl.take i) (rw.take i))) ⟨fun _ _ e=>e,[],rfl,.nil⟩ ?_ ?_ ?_ ?_⟩
  ·rintro i ys H3 hi ⟨s3,_⟩;obtain⟨o,ho⟩:∃ o,rw[i]? = some o:=⟨rw[i]'#[O],#[M]⟩;exact⟨_,_,.int pl[i],mS o,kF.of (s3 _ _ hc.2),s3.seq oV.at',by rw [ah,aj hi]; rfl,by rw [ah,ho]; rfl⟩
  ·rintro ys H3 ⟨s3,_⟩;exact⟨_,_,kF.of (s3 _ _ hc.2),s3.seq oV.at',.inl (by rw [ab])⟩
  ·rintro zS zT zE i xx ys H3 H4 hi ⟨s3,us,rfl,lB⟩ ⟨T,u,v,hT,rfl,rfl,hu,hv⟩;obtain⟨x,rfl,hx⟩:=zaj (hu _ (kF.of (s3 _ _ hc.2)));obtain⟨o,rfl,ho⟩:=zfy (hv _ (s3.seq oV.at'));have v4:=zc (o:=.tup [.int x,mS o]) hT;have s4:=s3.trans v4;have hs:=zeu hx ho;have n9:=lB.length;have hb:=zbG (pl.take i) (rw.take i);rw [aD] at hb;refine⟨T,_,rfl,kF.of zb,rfl,_,_,rfl,_,_,rfl,rfl,?_⟩;refine⟨_,rfl,rfl,_,rfl,?_⟩;cases o with
   | none =>
    refine ziL ⟨s4,us,rfl,?_⟩;rw [hs,bE];exact lB.same v4
   | some z =>
    refine zol ⟨_,rfl,_,rfl,by show 2≤sizeLine; lia,fun T2 vy=>⟨by rw [ab]; lia,s4.trans (zc vy),us++[T2],by rw [ao]; rfl,?_⟩⟩;rw [hs];exact bD (lB.same (v4.trans (zc vy))) zb
  ·rintro ys H3 D ⟨s3,us,rfl,lB⟩ hD;rw [aM,aT #[O]] at lB;exact q D us _ (s3.free hD) (s3.trans (zc hD)) zb (lB.same (zc hD))
def zho (K:ag):Sp:=fun vs H Q _=>∃ (a:Addr) (ns:List Int),vs = [.ref a]∧ky K H a (ns.map V.int)∧ns.length≤63 ∧
 ∀ (c tt:Addr) (p:Int) (k:Nat) (pl:List Int) (H':Hp),H c=none→zu H H'→p∈zl∧3≤k∧k≤5∧pl.length=16∧pl.Nodup∧(∀ x∈pl,0≤x∧x < p)→za6 H' c tt p k pl→Q (.ref c) H'
theorem zne {m:Int} (h0:0≤m) (h1:m < 6):∃ p:Int,atI [V.int 97,.int 89,.int 17,.int 53,.int 19,.int 31] m=some (.int p)∧p∈zl∧17≤p:=by
 have:m=0∨m=1∨m=2∨m=3∨m=4∨m=5:=by lia
 rcases this with e | e | e | e | e | e <;> rw [e]
 ·exact⟨97,rfl,#[D],#[D]⟩
 ·exact⟨89,rfl,#[D],#[D]⟩
 ·exact⟨17,rfl,#[D],#[D]⟩
 ·exact⟨53,rfl,#[D],#[D]⟩
 ·exact⟨19,rfl,#[D],#[D]⟩
 ·exact⟨31,rfl,#[D],#[D]⟩
theorem zcb:FnScope ["script","plan","p","left"] ["script"] (zg zbY):=#[S]
theorem zhp {fd:FuncData} (T:Txt K mg t) (F:Fun K "_law_great" "_law_great" zbY t.l_great fd):FnOk P w K mg base CX0 3 t.l_great fd ["script"] (zho K):=by
 obtain⟨mY,k7,lj⟩:=T.f_l_draws;have l8:=zcS (P:=P) (w:=w) (base:=base) T k7;refine F.ok zcb (fun vs H Q E h=>?_) (fun ly A outer s H vs Q E hr h=>?_)
 ·obtain⟨a,ns,rfl,_⟩:=h;rfl
 ·obtain⟨a,ns,rfl,hS,kG,q⟩:=h;refine zbb ?_; intro zX;refine⟨_,#[zd,#[zp,1,zcb.nd,(cv rfl),#[zq,l8,(hr.mono #[D]),T.m_l_draws,k7.kp,lj,#[zL],#[za,#[pvx,0],by exact #[za,#[zi],#[za,#[zi],#[ya,#[zi]]]]]]],#[zd,#[zp,2,zcb.nd,#[A],#[zab,#[zay],#[zaT,#[zdD,#[zdD,#[zdD,#[za,#[zi],#[za,#[zi],#[ya,#[zi]]]]]]]],#[zn,#[zW],#[zab,#[zay],#[pvx,1],#[zi]],#[zi]]]],#[zd,#[zp,3,zcb.nd,(cv rfl),#[zaA,#[zbO],T.list_,boot_list,#[ya,#[zaA,#[zck],T.range_,gH,#[ya,#[pvx,2]]]]]],#[zo,#[zI,#[zas,#[za,#[pvx,2],#[za,#[zn,#[z9],#[zi],#[zn,#[zW],#[zab,#[zay],#[pvx,1],#[zi]],#[zi]]],#[ya,#[zaA,#[zaU],T.tuple_,gM,#[ya,#[zad,(CompSc.of (N':=["j","left","plan"]) (ix:=[none,some 3,some 1]) (zg zbY) ["script","plan","p","left"] rfl rfl #[N]),#[zai],#[za3,T.range_,#[ya,#[zi]]],(fun _ _ _ _=>#[zf,0,(show (["j","left","plan"]:List Str).Nodup from #[N]),#[A]]),(fun _ _ _ _=>#[zG]),(fun _ _ _ _=>#[zjX,(K),cE,iM,iN,#[zf3],#[pvx,1],#[ya,#[zn,#[zW],#[zab,#[zbn,(K)],#[pvx,2],#[zn,#[z9],#[zi],#[pvx,0]]],#[zz,#[zaG,(K)],T.len_,bQ,#[ya,#[pvx,1]]]]]])]]]]]]]]]]]],?_⟩;refine zjQ ?_; intro rN pC oP;refine⟨_,rfl,a,ns,0,20,27720,rfl,hS,kG,#[D],#[D],#[D],#[D],#[D],#[D],fun l ds H1 hl s1 hd kW=>?_⟩;have Bl:ds.length=20:=hd.1;have dat:∀ m:Int,0≤m→m < 20→∃ c:Int,atI (ds.map V.int) m=some (.int c):=fun m h0 h1=>zcZ h0 #[O]
  have nZ:=ba;obtain⟨d0,ed0⟩:=dat 0 #[D] #[D];obtain⟨d1,ed1⟩:=dat 1 #[D] #[D];refine⟨by show 6≤sizeLine; lia,fun l6 hl6=>?_⟩;have u2:=zc (o:=.lst [V.int 97,.int 89,.int 17,.int 53,.int 19,.int 31]) hl6;have tP:=u2 _ _ kW;obtain⟨p,ep,mp,p17⟩:=zne (m:=d0 % 6) (aK _ #[D]) (aF _ #[D]);have rp:=zm mp;refine⟨_,rfl,l,_,_,_,rfl,rfl,ky.of tP,ed0,_,_,rfl,rfl,(by show (0:Int) < 6; decide),l6,_,_,_,rfl,rfl,ky.of zb,ep,?_⟩;have s2:=s1.trans u2;generalize kB H1 l6 (.lst [V.int 97,.int 89,.int 17,.int 53,.int 19,.int 31])=H2 at u2 tP s2 ⊢;refine⟨_,rfl,p,rfl,fun r uJ=>⟨r,p,rfl,zb,#[O],#[O],fun lf xA=>?_⟩⟩;have u3:=(zc (o:=.rng 0 p) uJ).trans (zc (o:=.lst ((zaa 0 p.toNat).map V.int)) xA);have oQ:=u3 _ _ tP;have xB:kB (kB H2 r (.rng 0 p)) lf (.lst ((zaa 0 p.toNat).map V.int)) lf=some (.lst ((zaa 0 p.toNat).map V.int)):=zb;have rP:H2 lf=none:=(zc (o:=.rng 0 p) uJ).free xA;have uP:l≠lf:=zQ tP rP;have s3:=s2.trans u3;have Dw:H lf=none:=s2.free rP;generalize kB (kB H2 r (.rng 0 p)) lf (.lst ((zaa 0 p.toNat).map V.int))=H3 at u3 oQ xB s3 ⊢;obtain⟨Bo,Bp⟩:=ze5 p;have k0:=aK d1 (show (3:Int)≠0 by decide);have k1:=aF d1 (show (0:Int) < 3 by decide);refine⟨_,rfl,_,rfl,l,_,_,_,rfl,rfl,ky.of oQ,ed1,_,_,rfl,rfl,(by show (0:Int) < 3; decide),_,_,rfl,rfl,_,rfl,#[D],#[D],zH (n:=16) (fun i ys H'=>∃ xs ls:List Int,ys=xs.map V.int∧xs.length=i∧zu H H'∧H' l=some (.lst (ds.map V.int))∧H' lf=some (.lst (ls.map V.int))∧ls.length+i=p.toNat∧(xs++ls).Nodup∧∀ y∈xs++ls,0≤y∧y < p)
   ⟨[],zaa 0 p.toNat,rfl,rfl,s3,oQ,xB,by rw [zcH]; rfl,by simpa using Bo,by simpa using Bp⟩ (fun i ys H' hi _=>hi) (fun ys H' _=>af _) ?_ ?_⟩
  ·rintro zS zT zE i x ys H4 H5 hi ⟨xs,ls,rfl,tF,s4,rQ,pZ,tK,nd,rg⟩ ⟨rfl,rfl⟩;refine gY ?_;obtain⟨c,ec⟩:=dat (2+(0+(i:Int))) #[O] #[O];have Dx:0 < ls.length:=by lia
   have lm:((ls.map V.int).length:Int)=(ls.length:Int):=by rw [ab]
   have c0:=aK c (show (ls.length:Int)≠0 by lia);have c1:=aF c (show (0:Int) < ls.length by lia);obtain⟨y,ey⟩:∃ y,ls[(c % (ls.length:Int)).toNat]? = some y:=⟨ls[(c % (ls.length:Int)).toNat]'#[O],#[M]⟩;refine⟨_,rfl,.inl ⟨rfl,_,ky.of pZ⟩,_,rfl,_,rfl,_,_,rfl,rfl,l,_,_,_,rfl,rfl,ky.of rQ,ec,_,rfl,lf,_,rfl,.inl (ky.of pZ),_,_,rfl,rfl,(by rw [lm]; lia),lf,_,_,(c % (ls.length:Int)).toNat,.int y,rfl,rfl,pZ,?_⟩;rw [lm];refine⟨#[O],#[O],by rw [ab]; exact fh c0 c1,by rw [ah,ey]; rfl,zau (by rw [ab]; lia),xs++[y],ls.eraseIdx (c % (ls.length:Int)).toNat,by rw [ao]; rfl,by rw [ap,tF]; rfl,zaH s4 Dw,by rw [zr uP]; exact rQ,by rw [zb,zdp],?_,zhR ey nd rg⟩;rw [iV];split <;> lia
  ·rintro ys H4 D ⟨xs,ls,rfl,tF,s4,rQ,pZ,tK,nd,rg⟩ hD;refine⟨D,_,rfl,.inl ⟨ky.of zb,fun tt yG=>⟨by show 3≤sizeLine; rw [ba]; decide,fun c hc=>?_⟩⟩⟩;have s5:=(s4.trans (zc (o:=.lst (xs.map V.int)) hD)).trans (zc (o:=.tup (xs.map V.int)) yG);refine q c tt p (3+d1 % 3).toNat xs _ (s5.free hc) (s5.trans (zc hc)) ⟨mp,#[O],#[O],tF,(fc.mp nd).1,fun y hy=>rg y (aP _ hy)⟩ ⟨?_,?_⟩
   ·rw [show (((3+d1 % 3).toNat:Nat):Int)=3+d1 % 3 by lia];exact zb
   ·rw [zr (zQ zb hc)];exact zb
end
section
variable {P:Program} {w:World} {K:ag} {mg:Str→Option Value} {base:Heap} {t:Adr}
theorem zhq:FnScope ["p","vector","times","other"] ["p","vector","times","other"] (zg zbW):=#[S]
theorem zhr {fd:FuncData} (T:Txt K mg t) (F:Fun K "without" "without" zbW t.without fd):FnOk P w K mg base CX0 1 t.without fd ["p","vector","times","other"] (zhg K):=by
 refine F.ok zhq (fun vs H Q E h=>?_) (fun ly A outer s H vs Q E hr h=>?_)
 ·obtain⟨p,tm,a,b,as,bs,rfl,_⟩:=h;rfl
 ·obtain⟨p,tm,a,b,as,bs,rfl,ha,hb,hl,hn,p0,t0,t1,q⟩:=h;refine zbb ?_; intro zX;refine⟨_,#[zo,#[zI,#[zad,(CompSc.of (N':=["number","less","times","p"]) (ix:=[none,none,some 2,some 0]) (zg zbW) ["p","vector","times","other"] rfl rfl #[N]),#[zbe,#[zN,#[zN,#[zaR]]]],#[zfr,T.zip_,#[za,#[pvx,1],#[ya,#[pvx,3]]]],(fun _ _ _ _=>#[zaK,(K),2,#[zh,#[zf,0,(show (["number","less","times","p"]:List Str).Nodup from #[N]),#[A]],#[zh,#[zf,1,(show (["number","less","times","p"]:List Str).Nodup from #[N]),#[A]],#[zJ]]]]),(fun _ _ _ _=>#[zG]),(fun _ _ _ _=>#[zn,#[zW],#[zn,#[zb1],#[pvx,0],#[zn,#[zag],#[pvx,2],#[pvx,1]]],#[pvx,3]])]]],?_⟩;have nZ:=ba;refine⟨_,rfl,_,rfl,a,b,_,_,rfl,ky.of ha,ky.of hb,ze7 (n:=as.length) (f:=fun x y=>(x - tm*y) % p) ha hb (af _) #[O] (.inl (af _)) #[O] ?_ ?_⟩
  ·intro j u w H6 T R B hu hv s6 hT hR;refine gY2 (kF.of zb) ?_;exact⟨_,rfl,_,rfl,_,rfl,_,_,rfl,rfl,.inl ⟨#[O],#[O]⟩,_,_,rfl,rfl,_,rfl,_,_,rfl,rfl,p0,hR⟩
  ·intro D H6 s6 hD;exact q D _ (s6.free hD) (s6.trans (zc hD)) zb
theorem zB:FnScope ["p","vectors","length","cleared","count","vector","whole","lead","other","leads","factor"] ["p","vectors"] (zg zal):=#[S]
theorem zdk {fd:FuncData} (T:Txt K mg t) (F:Fun K "first_relation" "first_relation" zal t.first_relation fd):FnOk P w K mg base CX0 2 t.first_relation fd ["p","vectors"] (zdd K):=by
 obtain⟨qu,pf,nD⟩:=T.f_without;have rR:=zhr (P:=P) (w:=w) (base:=base) T pf;obtain⟨oz,l4,l5⟩:=T.f_inverse;have nC:=zeF (P:=P) (w:=w) (base:=base) T l4;refine F.ok zB (fun vs H Q E h=>?_) (fun ly A outer s H vs Q E hr h=>?_)
 ·obtain⟨p,a,ls,vv,L,rfl,_⟩:=h;rfl
 ·obtain⟨p,a,ls,vv,L,rfl,ha,Dy,lA,hN,hL,hvv,hp,qn,qs⟩:=h;refine zbb ?_; intro zX;refine⟨_,#[zd,#[zp,2,zB.nd,#[A],#[zz,#[zt],T.len_,bQ,#[ya,#[zab,#[zay],#[pvx,1],#[zi]]]]],#[zd,#[zp,3,zB.nd,#[A],#[zaT,#[ze]]],#[zd,#[zbd,bJ,#[zf6,T.enumerate_,#[ya,#[pvx,1]]],#[zaI,#[zh,#[zf,4,zB.nd,#[A]],#[zh,#[zf,5,zB.nd,#[A]],#[zJ]]]],#[zd,#[zp,6,zB.nd,(cv rfl),#[zn,#[zeb],#[pvx,5],#[zn,#[zjN],#[zaT,#[ya,#[zi]]],#[zz,#[zt],T.len_,bQ,#[ya,#[pvx,1]]]]]],#[zd,#[za5,#[zi],#[zjx,#[pvx,6],#[zn,#[z9],#[pvx,2],#[pvx,4]],set_list]],#[zd,#[zbd,bJ,#[zP,#[pvx,3]],#[zaI,#[zh,#[zf,7,zB.nd,#[A]],#[zh,#[zf,8,zB.nd,#[A]],#[zJ]]]],#[zo,#[zp,6,zB.nd,(cv rfl),#[zq,rR,(hr.mono #[D]),T.m_without,pf.kp,nD,#[zL],#[za,#[pvx,0],by exact #[za,#[pvx,6],#[za,#[zab,#[zay],#[pvx,6],#[pvx,7]],#[ya,#[pvx,8]]]]]]]]],#[zd,#[zat,9,zB.nd,#[A],(CompSc.of (N':=["at","whole"]) (ix:=[none,some 6]) (zg zal) ["p","vectors","length","cleared","count","vector","whole","lead","other","leads","factor"] rfl rfl #[N]),#[zai],#[za3,T.range_,#[ya,#[pvx,2]]],(fun _ _ _ _=>#[zf,0,(show (["at","whole"]:List Str).Nodup from #[N]),#[A]]),(fun _ _ _ _=>#[zbl,#[zC,#[zl8],#[zab,#[zbn,(K)],#[pvx,1],#[pvx,0]],#[zi],(zY _)]]),(fun _ _ _ _=>#[pvx,0])],#[zd,#[zbq,(@zmq _ _ _ _ (@zjH _ _ _ #[pvx,9] (fun _=>rfl))),#[zo,#[zI,#[zbj,zcq,#[pvx,6],#[zbt,#[pvx,2]],#[zbt,#[zn,#[z9],#[zn,#[z9],#[pvx,2],#[pvx,4]],#[zi]]]]]],#[zax]],#[zd,#[zp,10,zB.nd,(cv rfl),#[zq,nC,(hr.mono #[D]),T.m_inverse,l4.kp,l5,#[zL],#[za,#[pvx,0],#[ya,#[zab,#[zay],#[pvx,6],#[zab,#[zay],#[pvx,9],#[zi]]]]]]],#[zo,#[zdM,#[zf2,cE,dG,dH,#[zcr],#[pvx,3],#[ya,#[zas,#[za,#[zab,#[zay],#[pvx,9],#[zi]],#[ya,#[zad,(CompSc.of (N':=["number","factor","p"]) (ix:=[none,some 10,some 0]) (zg zal) ["p","vectors","length","cleared","count","vector","whole","lead","other","leads","factor"] rfl rfl #[N]),#[zai],#[zP,#[pvx,6]],(fun _ _ _ _=>#[zf,0,(show (["number","factor","p"]:List Str).Nodup from #[N]),#[A]]),(fun _ _ _ _=>#[zG]),(fun _ _ _ _=>#[zn,#[zW],#[zn,#[zag],#[pvx,0],#[pvx,1]],#[pvx,2]])]]]]]]]]]]]]]]],#[zo,#[zI,#[zcf]]]]]],?_⟩;refine zjQ ?_; intro rN pC oP;have nZ:=ba;have rp:=zm hp;have p0:0 < p:=by lia
  have tK:=Dy.length;have hN0:0 < vv.length:=fS.mpr lA;obtain⟨l0,hl0⟩:∃ l0,ls[0]? = some l0:=⟨ls[0]'#[O],#[M]⟩;obtain⟨v0,hv0,Dz⟩:=Paired.get Dy hl0;have DA:=(hvv v0 (aB hv0)).1;refine⟨_,rfl,a,_,_,.ref l0,rfl,rfl,ky.of ha,zaO (j:=0) (by rw [ah,hl0]; rfl),l0,_,rfl,.inl (ky.of Dz),?_⟩;rw [ab,DA];refine⟨by show 0≤sizeLine; lia,fun ca hca=>?_⟩;have u1:=zc (o:=.lst []) hca;refine⟨_,rfl,a,_,rfl,ky.of (u1 _ _ ha),zfo (n:=vv.length) (fun i σ H'=>∃ (cs:List Addr) (cl:List (Nat×List Int)) (e4 e5 e6 e7 e8 e9 pQ:Option V),σ = [some (.int p),some (.ref a),some (.int (L:Int)),some (.ref ca),e4,e5,e6,e7,e8,e9,pQ]∧zu H H'∧H' ca=some (.lst (cs.map V.ref))∧ClA ca H' cs cl∧Ech p L vv.length i vv cl)
   ⟨[],[],none,none,none,none,none,none,none,rfl,u1,zb,.nil,Ech.start p L vv.length vv⟩ ?_ ?_ ?_ ?_⟩
  ·rintro i σ H1 hi ⟨cs,cl,e4,e5,e6,e7,e8,e9,pQ,rfl,s1,_⟩;exact⟨_,.ref (ls[i]'#[O]),ky.of (s1 _ _ ha),by rw [ah,aj #[O]]; rfl⟩
  ·rintro σ H1 ⟨cs,cl,e4,e5,e6,e7,e8,e9,pQ,rfl,s1,_⟩;exact⟨_,ky.of (s1 _ _ ha),by rw [ab]; lia⟩
  ·rintro zD zT i x σ H1 H2 hi ⟨cs,cl,e4,e5,e6,e7,e8,e9,pQ,rfl,s1,qh,qf,E⟩ ⟨T,v,hT,rfl,rfl,hv⟩;obtain⟨lv,rfl,hlv⟩:=zK (hv _ (ky.of (s1 _ _ ha)));obtain⟨vec,yH,hva⟩:=Paired.get Dy hlv;obtain⟨xY,hvr⟩:=hvv vec (aB yH);have t2:=zc (o:=.tup [.int (i:Int),.ref lv]) hT;refine⟨T,_,rfl,kF.of zb,rfl,_,_,rfl,_,_,rfl,rfl,?_⟩;have s2:=s1.trans t2;have DB:=t2 _ _ qh;have yI:=qf.same t2;generalize kB H1 T (.tup [.int (i:Int),.ref lv])=H2 at t2 s2 DB yI ⊢;refine⟨_,rfl,by show 1≤sizeLine; lia,fun z hz=>⟨_,rfl,a,_,rfl,.inl (ky.of ((s2.trans (zc hz)) _ _ ha)),z,_,[.int 0],rfl,rfl,zb,by rw [ab]; lia,by rw [ab]; lia,by rw [ab]; show 1*_≤sizeLine; lia,fun y hy=>?_⟩⟩;rw [ab,zc0,tK,bw];have t3:=(zc (o:=.lst [.int 0]) hz).trans (zc (o:=.lst ((ar vv.length (0:Int)).map V.int)) hy);have h3y:kB (kB H2 z (.lst [.int 0])) y (.lst ((ar vv.length (0:Int)).map V.int)) y=some (.lst ((ar vv.length (0:Int)).map V.int)):=zb;generalize kB (kB H2 z (.lst [.int 0])) y (.lst ((ar vv.length (0:Int)).map V.int))=H3 at t3 h3y ⊢;refine⟨lv,y,_,_,rfl,rfl,(s2.trans t3) _ _ hva,h3y,by rw [ab,ab,aS]; lia,fun wl qQ=>?_⟩;rw [← ao];have t4:=zc (o:=.lst ((vec++ar vv.length (0:Int)).map V.int)) qQ;refine⟨_,rfl,_,rfl,_,rfl,_,_,rfl,rfl,wl,_,_,L+i,rfl,rfl,zb,?_,?_⟩
   ·rw [← io];exact zhT (by rw [ab,ap,aS]; lia)
   have ew:((vec++ar vv.length (0:Int)).map V.int).set (L+i) (.int 1)=((vec++ar vv.length (0:Int)).set (L+i) 1).map V.int:=by rw [List.map_set]
   rw [ew,zkY];have t4:=t3.trans (zc (o:=.lst (((vec++ar vv.length (0:Int)).set (L+i) 1).map V.int)) qQ);have DC:kB H3 wl (.lst (((vec++ar vv.length (0:Int)).set (L+i) 1).map V.int)) wl=some (.lst (((vec++ar vv.length (0:Int)).set (L+i) 1).map V.int)):=zb;have W0:=zkw hp (N:=vv.length) hi yH xY hvr;have hwc:wl≠ca:=fun e=>by
    have:=t3 _ _ DB;rw [← e,qQ] at this;cases this
   generalize kB H3 wl (.lst (((vec++ar vv.length (0:Int)).set (L+i) 1).map V.int))=H4 at t4 DC ⊢;generalize (vec++ar vv.length (0:Int)).set (L+i) 1=w0 at W0 DC ⊢;have s4:=s2.trans t4;have Bq:=t4 _ _ DB;have wF:=yI.same t4;have yJ:=wF.length;refine⟨_,rfl,ca,rfl,⟨_,ky.of Bq⟩,zaQ (K:=K) (a:=ca) (xs:=cs.map V.ref) (fun j σ H'=>∃ (wa:Addr) (w:List Int) (e7 e8:Option V),σ = [some (.int p),some (.ref a),some (.int (L:Int)),some (.ref ca),some (.int (i:Int)),some (.ref lv),some (.ref wa),e7,e8,e9,pQ]∧zu H4 H'∧H' wa=some (.lst (w.map V.int))∧wa≠ca∧Wh p L vv.length i vv (cl.take j) w)
    ⟨wl,w0,_,_,rfl,fun _ _ e=>e,DC,hwc,W0⟩ (fun j σ H' _ ⟨_,_,_,_,_,s5,_⟩=>ky.of (s5 _ _ Bq)) ?_ ?_⟩
   ·rintro zD zT j y σ H5 hy ⟨wa,w,e7,e8,rfl,s5,vz,hwa,W⟩;obtain⟨b,rfl,hb⟩:=zK hy;obtain⟨aa,haa,oa,qY,tB,xo⟩:=Paired.get wF hb;obtain⟨o1,o2,o3,_⟩:=E.one j aa haa;refine⟨b,_,rfl,kF.of (s5 _ _ qY),rfl,_,_,rfl,_,_,rfl,rfl,?_⟩;have hg:=zew p0 W.rg aa.1;refine⟨_,rfl,_,rfl,_,rfl,_,rfl,wa,_,_,.int (gl w aa.1),rfl,rfl,ky.of vz,zaO (by rw [ah,zaM (by rw [W.ln]; lia)]; rfl),_,rfl,p,gl w aa.1,wa,oa,w,aa.2,rfl,vz,s5 _ _ tB,by rw [W.ln,o2],by rw [W.ln]; lia,p0,hg.1,#[O],fun l H6 hl s6 h6l=>?_⟩;refine⟨l,_,_,_,rfl,s5.trans s6,h6l,fun e=>?_,zlA hp E hi haa W⟩;have:=s5 _ _ Bq;rw [← e,hl] at this;cases this
   ·rintro σ H5 ⟨wa,w,e7,e8,rfl,s5,vz,hwa,W⟩;rw [ab,yJ,aM] at W;have h5c:=s5 _ _ Bq;have DD:=wF.same s5;have Br:=s4.trans s5;refine⟨_,rfl,_,rfl,#[O],#[O],?_⟩;rw [bw];refine zH (n:=L) (fun j ys H'=>H'=H5∧ys=(((aJ j).filter fun m=>decide (gl w m≠0)).map fun m:Nat=>(m:Int)).map V.int) ⟨rfl,rfl⟩ (fun j ys H' hj _=>hj) (fun ys H' _=>af _) ?_ ?_
    ·rintro zS zT zE j xx ys H6 H7 hj ⟨rfl,rfl⟩ ⟨rfl,rfl⟩;have hgj:(w.map V.int)[j]? = some (.int (gl w j)):=by rw [ah,zaM (by rw [W.ln]; lia)]; rfl
     refine⟨_,rfl,_,rfl,wa,_,_,.int (gl w j),rfl,rfl,ky.of vz,by rw [fN]; exact zaO hgj,rfl,_,rfl,?_⟩;have wG:=cb (fun m=>decide (gl w m≠0)) (aJ j);rw [bm] at wG;rw [fG,cf,ao,ao];by_cases h0:gl w j=0
     ·refine zaP (fun h=>absurd h (by rw [h0]; simp)) (fun _=>⟨rfl,?_⟩);rw [bS (by simpa using h0),dU,eN,eN,bE]
     ·refine zaP (fun _=>⟨_,rfl,zau (by rw [ab,ab]; lia),rfl,?_⟩) (fun h=>absurd (by simpa using h0) h);rw [bR (by simpa using h0),dU,fN];rfl
    ·rintro ys H6 D ⟨rfl,rfl⟩ hD;have t7:=zc (o:=.lst ((((aJ L).filter fun m=>decide (gl w m≠0)).map fun m:Nat=>(m:Int)).map V.int)) hD;have sI:kB H6 D (.lst ((((aJ L).filter fun m=>decide (gl w m≠0)).map fun m:Nat=>(m:Int)).map V.int)) D=_:=zb;generalize kB H6 D (.lst ((((aJ L).filter fun m=>decide (gl w m≠0)).map fun m:Nat=>(m:Int)).map V.int))=H7 at t7 sI ⊢;have s7:=Br.trans t7;have Bs:=t7 _ _ vz;have yE:=t7 _ _ h5c;have DE:=DD.same t7;refine⟨_,rfl,_,.inl ⟨_,ky.of sI,rfl⟩,?_⟩;cases wH:(aJ L).filter fun m=>decide (gl w m≠0) with
     | nil =>
      refine zaP (fun _=>?_) (fun h=>absurd rfl h);have hz:∀ x,x < L→gl w x=0:=fun x hx=>by
       have:=iC.mp wH x (bd.mpr hx);simpa using this
      refine⟨_,rfl,_,rfl,_,rfl,_,rfl,_,rfl,_,_,rfl,rfl,_,_,rfl,rfl,_,rfl,wa,_,rfl,ky.of Bs,fun l hl=>?_⟩;have ec:zbk (w.map V.int) (some (L:Int)) (some ((L:Int)+(i:Int)+1))=((w.drop L).take (i+1)).map V.int:=by
       rw [show (L:Int)+(i:Int)+1=((L+i+1:Nat):Int) by lia,zlJ (by rw [ab,W.ln]; lia),← i0,← dq,show L+i+1 - L=i+1 by lia]
      rw [ec];obtain⟨d1,d2,d3⟩:=zm7 W hi hz;exact qs l _ i _ (s7.free hl) (s7.trans (zc hl)) zb d1 hi d2 d3
     | cons ld lds =>
      refine zaP (fun h=>absurd h #[M]) (fun _=>?_);have hm:ld∈(aJ L).filter fun m=>decide (gl w m≠0):=by rw [wH]; exact aE
      (obtain⟨uk,qV⟩:=aU.mp hm)
      have Bk:ld < L:=bd.mp uk;have Bn:gl w ld≠0:=by simpa using qV
      obtain⟨g0,g1⟩:=zew p0 W.rg ld;rw [wH] at sI;have yK:atI ((((ld :: lds).map fun m:Nat=>(m:Int))).map V.int) 0=some (.int (ld:Int)):=zaO (j:=0) rfl;refine⟨_,rfl,_,rfl,_,rfl,D,_,_,.int (ld:Int),rfl,rfl,ky.of sI,yK,wa,_,_,.int (gl w ld),rfl,rfl,ky.of Bs,zaO (by rw [ah,zaM (by rw [W.ln]; lia)]; rfl),p,gl w ld,rfl,hp,g0,g1,?_⟩;refine⟨_,rfl,.inl ⟨rfl,_,ky.of yE⟩,_,rfl,D,_,_,.int (ld:Int),rfl,rfl,ky.of sI,yK,_,rfl,wa,rfl,⟨_,ky.of Bs⟩,ze8 (fs:=(w.map fun x=>x*inv p (gl w ld) % p).map V.int) (ky.of Bs) (by rw [ab,ab,ab]) (by rw [ab,W.ln]; lia) ?_ ?_⟩
      ·intro j x y R B hx hy hR;obtain⟨n,rfl,hn⟩:=zaj hx;obtain⟨n',rfl,ux⟩:=zaj hy;rw [ah,hn] at ux;cases ux;have hnr:=W.rg n (aB hn);exact gY ⟨_,rfl,_,rfl,_,_,rfl,rfl,.inl ⟨#[O],#[O]⟩,_,rfl,_,_,rfl,rfl,p0,hR⟩
      ·intro D2 rS;have t8:=zc (o:=.lst ((w.map fun x=>x*inv p (gl w ld) % p).map V.int)) rS;have h8D:kB H7 D2 (.lst ((w.map fun x=>x*inv p (gl w ld) % p).map V.int)) D2=some (.lst ((w.map fun x=>x*inv p (gl w ld) % p).map V.int)):=zb;have hDc:D2≠ca:=fun e=>by rw [e,yE] at rS; cases rS
       generalize kB H7 D2 (.lst ((w.map fun x=>x*inv p (gl w ld) % p).map V.int))=H8 at t8 h8D ⊢;refine⟨by show 2≤sizeLine; lia,fun tb htb=>?_⟩;have t9:=zc (o:=.tup [.int (ld:Int),.ref D2]) htb;have Bt:kB H8 tb (.tup [.int (ld:Int),.ref D2]) tb=some (.tup [.int (ld:Int),.ref D2]):=zb;have Bu:=t9 _ _ (t8 _ _ yE);have s9:=(s7.trans t8).trans t9;have yL:=(DE.same t8).same t9;have yM:=t9 _ _ h8D;generalize kB H8 tb (.tup [.int (ld:Int),.ref D2])=H9 at t9 Bt Bu s9 yL yM ⊢;have yC:=E.ln;refine⟨ca,_,_,rfl,rfl,Bu,by rw [ab,yJ,yC]; lia,cs++[tb],_,_,_,_,_,_,_,_,rfl,zaH s9 hca,by rw [zb,ao]; rfl,bD (yL.put Bu) ⟨D2,?_,?_,hDc⟩,zkx hp E hi W Bk Bn⟩
       ·rw [zr (fun e=>by rw [e,Bu] at Bt; cases Bt)];exact Bt
       ·rw [zr hDc];exact yM
  ·rintro σ H1 ⟨cs,cl,e4,e5,e6,e7,e8,e9,pQ,rfl,s1,qh,qf,E⟩;exact qn H1 s1 (zky E)
theorem zdx:FnScope ["p","left","points"] ["p","left","points"] (zg zaF):=#[S]
theorem zdy {fd:FuncData} (T:Txt K mg t) (F:Fun K "times_entries" "times_entries" zaF t.times_entries fd):FnOk P w K mg base CX0 4 t.times_entries fd ["p","left","points"] (zdu K):=by
 obtain⟨mZ,k8,lp⟩:=T.f_through;have l9:=zcT (P:=P) (w:=w) (base:=base) T k8;obtain⟨lS,kK,kO⟩:=T.f_value_at;have kS:=zbJ (P:=P) (w:=w) (base:=base) T kK;refine F.ok zdx (fun vs H Q E h=>?_) (fun ly A outer s H vs Q E hr h=>?_)
 ·obtain⟨p,la,a,l,bs,kx,rfl,_⟩:=h;rfl
 ·obtain⟨p,la,a,l,bs,kx,rfl,hla,ha,hB,hn,hp,hP,q⟩:=h;refine zbb ?_; intro zX;refine⟨_,#[zo,#[zI,#[zq,l9,(hr.mono #[D]),T.m_through,k8.kp,lp,#[zL],#[za,#[pvx,0],#[ya,#[zad,(CompSc.of (N':=["x","y","p","left"]) (ix:=[none,none,some 0,some 1]) (zg zaF) ["p","left","points"] rfl rfl #[N]),#[zbe,#[zN,#[zN,#[zaR]]]],#[zP,#[pvx,2]],(fun _ _ _ _=>#[zaK,(K),2,#[zh,#[zf,0,(show (["x","y","p","left"]:List Str).Nodup from #[N]),#[A]],#[zh,#[zf,1,(show (["x","y","p","left"]:List Str).Nodup from #[N]),#[A]],#[zJ]]]]),(fun _ _ _ _=>#[zG]),(fun _ _ _ _=>#[zas,#[za,#[pvx,0],#[ya,#[zn,#[zag],#[zq,kS,(hr.mono #[D]),T.m_value_at,kK.kp,kO,#[zL],#[za,#[pvx,2],#[za,#[pvx,3],#[ya,#[pvx,0]]]]],#[pvx,1]]]]])]]]]]],?_⟩;have nZ:=ba;have rp:=zm hp;have p0:0 < p:=by lia
  have rO:=hB.length;refine⟨_,rfl,_,rfl,a,rfl,⟨_,ha⟩,zH (n:=bs.length) (fun i ys H'=>zu H H'∧∃ us:List Addr,ys=us.map V.ref∧PtB H' us ((kx.take i).map fun a=>(a.1,zj p a.1 l*a.2))) ⟨fun _ _ e=>e,[],rfl,.nil⟩ ?_ ?_ ?_ ?_⟩
  ·rintro i ys H1 hi ⟨s1,_⟩;exact⟨_,.ref bs[i],s1.seq ha,by rw [ah,aj hi]; rfl⟩
  ·rintro ys H1 ⟨s1,_⟩;exact⟨_,s1.seq ha,by rw [ab]; exact af _⟩
  ·rintro zS zT zE i y ys H1 H2 hi ⟨s1,us,rfl,lB⟩ ⟨rfl,hy⟩;obtain⟨b,rfl,hb⟩:=zK (hy _ (s1.seq ha));obtain⟨pt,wI,lK⟩:=Paired.get hB hb;obtain⟨x0,x1,y0,y1⟩:=hP.rg pt (aB wI);have n9:=lB.length;rw [ab,aD] at n9;have v0:=zao (x:=pt.1) p0 l;have v1:=zap (x:=pt.1) p0 l;refine gY2 (kF.of (s1 _ _ lK)) ⟨_,rfl,_,rfl,_,rfl,_,rfl,p,pt.1,la,l,rfl,.inr (zna s1 hla),p0,#[O],x0,x1,_,rfl,_,_,rfl,rfl,.inl ⟨#[O],#[O]⟩,by show 2≤sizeLine; lia,fun z hz=>?_⟩;refine⟨by rw [ab]; lia,s1.trans (zc hz),us++[z],by rw [ao]; rfl,?_⟩;rw [take_snoc wI,ao];exact bD (lB.same (zc hz)) zb
  ·rintro ys H1 D ⟨s1,us,rfl,lB⟩ hD;rw [rO,aM] at lB;have t2:=zc (o:=.lst (us.map V.ref)) hD;have xC:kB H1 D (.lst (us.map V.ref)) D=some (.lst (us.map V.ref)):=zb;have qv:=lB.same t2;generalize kB H1 D (.lst (us.map V.ref))=H2 at t2 xC qv ⊢;refine⟨p,D,_,rfl,qv.pts xC,by rw [ab]; lia,hp,by rw [zkF]; exact zcx p0 hP,fun q hq=>?_,fun z H3 hz s3 h3=>q z H3 ((s1.trans t2).free hz) ((s1.trans t2).trans s3) (by rw [zkF] at h3; exact h3)⟩;obtain⟨b,hb,rfl⟩:=aq.mp hq;obtain⟨_,_,y0,y1⟩:=hP.rg b hb;have v0:=zao (x:=b.1) p0 l;have v1:=zap (x:=b.1) p0 l;dsimp only;have h1:zj p b.1 l*b.2≤97*97:=Int.mul_le_mul #[O] #[O] y0 #[O];have h2:=j8 v0 y0;lia
theorem zjm:FnScope ["rights","many"] ["rights","many"] (zg s_beyond):=#[S]
theorem zjn {fd:FuncData} (T:Txt K mg t) (F:Fun K "beyond" "beyond" s_beyond t.beyond fd):FnOk P w K mg base CX0 1 t.beyond fd ["rights","many"] (zjf K):=by
 refine F.ok zjm (fun vs H Q E h=>?_) (fun ly A outer s H vs Q E hr h=>?_)
 ·obtain⟨a,m,bs,rs,rfl,_⟩:=h;rfl
 ·obtain⟨a,m,bs,rs,rfl,ha,hT,kG,q⟩:=h;refine zbb ?_; intro zX;refine⟨_,#[zo,#[zI,(@zls _ _ _ _ _ _ _ _ _ _ _ _ _ _ _ _ _ _ _ _ _ (CompSc.of (N':=["right","number","many"]) (ix:=[none,none,some 1]) (zg s_beyond) ["rights","many"] rfl rfl #[N]) rfl (zdO (js:=[0]) (i:=0) #[D]) (zdO (js:=[1]) (i:=1) #[D]) #[D] #[D] #[zP,#[pvx,0]] (fun _ _ _ _=>#[zf,0,(show (["right","number","many"]:List Str).Nodup from #[N]),#[A]]) (fun _ _ _ _=>#[zG]) (fun _ _ _ _=>(@zlF _ (K) _ _ _ rfl #[zbj,(zkE (K:=K) rfl),#[pvx,0],#[zbt,#[pvx,2]],#[zb2]])) (fun _ _ _ _=>#[zf,1,(show (["right","number","many"]:List Str).Nodup from #[N]),#[A]]) (fun _ _ _ _=>#[zG]) (fun _ _ _ _=>#[pvx,1]) (by intro _; rfl) (by intros; rfl))]],?_⟩;have nZ:=ba;have rO:=hT.length;refine⟨_,rfl,a,rfl,⟨_,ha⟩,zh7 (n:=bs.length) (fun i ys H'=>ys=(bey m (rs.take i)).map V.int∧zu H H') ⟨rfl,fun _ _ e=>e⟩ ?_ ?_ ?_ ?_⟩
  ·rintro i ys H1 hi ⟨_,s1⟩;exact⟨_,.ref bs[i],s1.seq ha,by rw [ah,aj hi]; rfl⟩
  ·rintro ys H1 ⟨_,s1⟩;exact⟨_,s1.seq ha,by rw [ab]; exact af _⟩
  ·rintro i y ys H1 H2 hi ⟨rfl,s1⟩ ⟨rfl,hy⟩;obtain⟨b,rfl,hb⟩:=zK (hy _ (s1.seq ha));obtain⟨r,oV,lK⟩:=Paired.get hT hb;have yN:=kG (i+1);rw [zgD m oV,ap] at yN;refine gY ⟨_,rfl,_,rfl,_,rfl,b,_,rfl,kF.of (s1 _ _ lK),fun z H3 t2 uQ=>?_⟩;have ec:zbk (r.map V.int) (some (m:Int)) none=(r.drop m).map V.int:=by
    unfold zbk;rw [HT.sIx_nat,HT.sIx_none,ab,i0,aT (by rw [b7,ab]; exact af _)];by_cases h:m≤r.length
    ·rw [cF h]
    ·rw [show min m r.length=r.length by lia,dY (by rw [ab]; exact af _),dY (by rw [ab]; lia)]
   rw [ec] at uQ;refine⟨z,rfl,⟨_,uQ⟩,zh7 (n:=(r.drop m).length) (fun j ys H'=>ys=(bey m (rs.take i)++(r.drop m).take j).map V.int∧H'=H3) ⟨by rw [dC,bE],rfl⟩ ?_ ?_ ?_ ?_⟩
   ·rintro j ys H4 hj ⟨_,rfl⟩;exact⟨_,.int (r.drop m)[j],uQ,by rw [ah,aj hj]; rfl⟩
   ·rintro ys H4 ⟨_,rfl⟩;exact⟨_,uQ,by rw [ab]; exact af _⟩
   ·rintro j y ys H4 H5 hj ⟨rfl,rfl⟩ ⟨rfl,hy⟩;obtain⟨n,rfl,hn⟩:=zaj (hy _ (uQ));refine gY ⟨_,rfl,?_,?_,rfl⟩
    ·rw [ab,ap,aD];lia
    ·rw [take_snoc hn,← bi,ao (l₂:=[n])];rfl
   ·rintro ys H4 ⟨rfl,rfl⟩;exact⟨by rw [aM,zgD m oV],s1.trans t2⟩
  ·rintro ys H1 ⟨rfl,s1⟩ D hD;rw [rO,aM] at *;exact q D _ (s1.free hD) (s1.trans (zc hD)) zb
theorem zkQ:FnScope ["polynomial","many"] ["polynomial","many"] (zg zdZ):=#[S]
theorem zkR {fd:FuncData} (T:Txt K mg t) (F:Fun K "sized" "sized" zdZ t.sized fd):FnOk P w K mg base CX0 1 t.sized fd ["polynomial","many"] (zkG K):=by
 refine F.ok zkQ (fun vs H Q E h=>?_) (fun ly A outer s H vs Q E hr h=>?_)
 ·obtain⟨a,m,q,rfl,_⟩:=h;rfl
 ·obtain⟨a,m,cs,rfl,ha,m1,kG,q⟩:=h;refine zbb ?_; intro zX;refine⟨_,#[zo,#[zI,#[zbj,zlH,#[zn,#[zil],#[pvx,0],#[zn,(@zlI _),#[zas,#[ya,#[zi]]],#[pvx,1]]],#[zb2],#[zbt,#[pvx,1]]]]],?_⟩;have nZ:=ba;refine⟨_,rfl,by show 1≤sizeLine; lia,fun t1 wC=>⟨_,rfl,t1,_,[.int 0],rfl,rfl,zb,#[M],#[O],#[O],by show 1*_≤sizeLine; lia,fun z H1 s1 h1z=>?_⟩⟩;rw [bw,zc0] at h1z;have s01:=(zc (o:=.tup [.int 0]) wC).trans s1;refine⟨a,z,_,_,rfl,rfl,s01 _ _ ha,h1z,by rw [ab,ab,aS]; lia,fun e=>?_,fun y H2 s2 h2y=>?_⟩
  ·have:=congrArg dW e;rw [ab,aS] at this;exact absurd this (by show ¬ m=0; lia)
  rw [← ao] at h2y;refine⟨_,rfl,_,rfl,y,_,rfl,h2y,fun x H3 s3 h3x=>?_⟩;have ec:zbk ((cs++ar m 0).map V.int) none (some (m:Int))=(szd cs m).map V.int:=by
   unfold zbk szd;rw [HT.sIx_nat,HT.sIx_none,dB,eU,ab,ap,aS,cF #[O],dq]
  rw [ec] at h3x;exact q x H3 ((s01.trans s2).trans s3) h3x
theorem zA:FnScope ["code","rows","p","k","places","parts","e","needed","relation","power","left"] ["code","rows"] (zg z0):=#[S]
theorem zbZ {fd:FuncData} (T:Txt K mg t) (F:Fun K "joint_locator" "joint_locator" z0 t.joint_locator fd):FnOk P w K mg base CX0 5 t.joint_locator fd ["code","rows"] (zdv K):=by
 obtain⟨kZ,kD,kH⟩:=T.f_heard_points;have kM:=zaZ (P:=P) (w:=w) (base:=base) T kD;obtain⟨nE,lD,k6⟩:=T.f_times_entries;have mI:=zdy (P:=P) (w:=w) (base:=base) T lD;obtain⟨nj,me,lq⟩:=T.f_first_relation;have nF:=zdk (P:=P) (w:=w) (base:=base) T me;obtain⟨rT,p4,oA⟩:=T.f_beyond;have tQ:=zjn (P:=P) (w:=w) (base:=base) T p4;obtain⟨tR,pE,og⟩:=T.f_sized;have rf:=zkR (P:=P) (w:=w) (base:=base) T pE;refine F.ok zA (fun vs H Q E h=>?_) (fun ly A outer s H vs Q E hr h=>?_)
 ·obtain⟨c,tt,ra,p,k,pl,rK,rws,rfl,_⟩:=h;rfl
 ·obtain⟨c,tt,ra,p,k,pl,rK,rws,rfl,hc,mU,rh,uI,hn,hp,lN,kW,hok,k0,k1,q⟩:=h;refine zbb ?_; intro zX;refine⟨_,#[zd,#[za5,#[pvx,0],#[zaI,#[zh,#[zf,2,zA.nd,(cv rfl)],#[zh,#[zf,3,zA.nd,(cv rfl)],#[zh,#[zf,4,zA.nd,#[A]],#[zJ]]]]]],#[zd,#[zat,5,zA.nd,#[A],(CompSc.of (N':=["row","code"]) (ix:=[none,some 0]) (zg z0) ["code","rows","p","k","places","parts","e","needed","relation","power","left"] rfl rfl #[N]),#[zai],#[zP,#[pvx,1]],(fun _ _ _ _=>#[zf,0,(show (["row","code"]:List Str).Nodup from #[N]),#[A]]),(fun _ _ _ _=>#[zG]),(fun _ _ _ _=>#[zq,kM,(hr.mono #[D]),T.m_heard_points,kD.kp,kH,#[zL],#[za,#[pvx,1],#[ya,#[pvx,0]]]])],#[zd,#[zp,6,zA.nd,(cv rfl),(@zns _ _ _ _ _ _ zmw #[zi])],#[zd,#[zp,7,zA.nd,#[A],#[zaT,#[ze]]],#[zd,#[zp,8,zA.nd,#[A],#[zcf]],#[zd,#[zfX,bJ,#[zC,(@zmx _),#[pvx,8],#[zcf],(zY _)],#[zd,#[zjz,6,zA.nd,(cv rfl),#[zi],zk4],#[zd,(zhf #[zp,9,zA.nd,(cv rfl),#[zn,(@zfe _ (K) rfl),#[zn,(@zlE _),#[zas,#[ya,#[zi]]],#[pvx,6]],#[zas,#[ya,#[zi]]]]]),#[zd,#[zdM,#[zf2,cE,dG,dH,#[zcr],#[pvx,7],#[ya,#[zad,(CompSc.of (N':=["points","p","power"]) (ix:=[none,some 2,some 9]) (zg z0) ["code","rows","p","k","places","parts","e","needed","relation","power","left"] rfl rfl #[N]),#[zai],#[zP,#[pvx,5]],(fun _ _ _ _=>#[zf,0,(show (["points","p","power"]:List Str).Nodup from #[N]),#[A]]),(fun _ _ _ _=>#[zG]),(fun _ _ _ _=>#[zq,mI,(hr.mono #[D]),T.m_times_entries,lD.kp,k6,#[zL],#[za,#[pvx,1],#[za,#[pvx,2],#[ya,#[pvx,0]]]]])]]]],#[zo,#[zp,8,zA.nd,#[A],#[zq,nF,(hr.mono #[D]),T.m_first_relation,me.kp,lq,#[zL],#[za,#[pvx,2],#[ya,#[zad,(CompSc.of (N':=["rights","k","e"]) (ix:=[none,some 3,some 6]) (zg z0) ["code","rows","p","k","places","parts","e","needed","relation","power","left"] rfl rfl #[N]),#[zai],#[zP,#[pvx,7]],(fun _ _ _ _=>#[zf,0,(show (["rights","k","e"]:List Str).Nodup from #[N]),#[A]]),(fun _ _ _ _=>#[zG]),(fun _ _ _ _=>#[zq,tQ,(hr.mono #[D]),T.m_beyond,p4.kp,oA,#[zL],#[za,#[pvx,0],#[ya,#[zn,#[z9],#[pvx,1],#[pvx,2]]]]])]]]]]]]]]],#[zd,#[zp,10,zA.nd,(cv rfl),#[zq,rf,(hr.mono #[D]),T.m_sized,pE.kp,og,#[zL],#[za,#[zaA,#[zaU],T.tuple_,gM,#[ya,#[pvx,8]]],#[ya,#[zn,#[z9],#[pvx,6],#[zi]]]]]],#[zo,#[zI,#[zas,#[za,#[pvx,6],#[za,#[pvx,10],#[ya,#[zad,(CompSc.of (N':=["points","p","left","k","e"]) (ix:=[none,some 2,some 10,some 3,some 6]) (zg z0) ["code","rows","p","k","places","parts","e","needed","relation","power","left"] rfl rfl #[N]),#[zai],#[zP,#[pvx,5]],(fun _ _ _ _=>#[zf,0,(show (["points","p","left","k","e"]:List Str).Nodup from #[N]),#[A]]),(fun _ _ _ _=>#[zG]),(fun _ _ _ _=>#[zq,rf,(hr.mono #[D]),T.m_sized,pE.kp,og,#[zL],#[za,#[zq,mI,(hr.mono #[D]),T.m_times_entries,lD.kp,k6,#[zL],#[za,#[pvx,1],#[za,#[pvx,2],#[ya,#[pvx,0]]]]],#[ya,#[zn,#[z9],#[pvx,3],#[pvx,4]]]]])]]]]]]]]]]]]]],?_⟩;refine znF ?_; intro zN8 Ds xy vq rN pC oP;have nZ:=ba;have rp:=zm hp;have p0:0 < p:=by lia
  have nG:=rh.length;obtain⟨kA,p5⟩:∃ kA,kA=rws.map (hps pl):=⟨_,rfl⟩;have hP:∀ kx∈kA,Pts p kx:=fun kx h=>by
   rw [p5] at h;obtain⟨rw,h1,rfl⟩:=aq.mp h;exact zdc lN kW (hok rw h1)
  have yO:∀ kx∈kA,kx.length≤16:=fun kx h=>by
   rw [p5] at h;obtain⟨rw,h1,rfl⟩:=aq.mp h;exact aN (zbG pl rw) hn
  have wI:kA.length=rws.length:=by rw [p5,ab]
  refine⟨_,rfl,c,_,rfl,kF.of hc.1,rfl,_,_,rfl,_,_,rfl,_,_,rfl,rfl,?_⟩;refine⟨_,rfl,ra,rfl,⟨_,mU⟩,zH (n:=rK.length) (fun i ys H'=>zu H H'∧∃ us:List Addr,ys=us.map V.ref∧zfJ H' us (kA.take i)) ⟨fun _ _ e=>e,[],rfl,.nil⟩ ?_ ?_ ?_ ?_⟩
  ·rintro i ys H1 hi ⟨s1,_⟩;exact⟨_,.ref rK[i],s1.seq mU,by rw [ah,aj hi]; rfl⟩
  ·rintro ys H1 ⟨s1,_⟩;exact⟨_,s1.seq mU,by rw [ab]; exact af _⟩
  ·rintro zS zT zE i y ys H1 H2 hi ⟨s1,us,rfl,lB⟩ ⟨rfl,hy⟩;obtain⟨b,rfl,hb⟩:=zK (hy _ (s1.seq mU));obtain⟨rw,DF,lK,DG⟩:=Paired.get rh hb;have n9:=lB.length;rw [aD] at n9;refine gY ⟨_,rfl,_,rfl,c,tt,b,p,k,pl,rw,rfl,hc.same s1,⟨ky.of (s1 _ _ lK),DG⟩,#[O],fun l bs H3 hl3 s3 oQ hB=>?_⟩;refine⟨by rw [ab]; lia,s1.trans s3,us++[l],by rw [ao]; rfl,?_⟩;have hpi:kA[i]? = some (hps pl rw):=by rw [p5,ah,DF]; rfl
   rw [take_snoc hpi];exact bD (lB.same s3) ⟨bs,oQ,hB⟩
  ·rintro ys H1 pa ⟨s1,us,rfl,lB⟩ hpa;rw [nG,← wI,aM] at lB;have t2:=zc (o:=.lst (us.map V.ref)) hpa;have sJ:kB H1 pa (.lst (us.map V.ref)) pa=some (.lst (us.map V.ref)):=zb;have qv:=lB.same t2;have s2:=s1.trans t2;generalize kB H1 pa (.lst (us.map V.ref))=H2 at t2 sJ qv s2 ⊢;have n9:=qv.length;refine⟨_,rfl,bu _,fun na yo=>?_⟩;have t3:=zc (o:=.lst []) yo;refine⟨fun m σ H'=>∃ (n:Nat) (ns:List Addr) (ev:Int) (rel:V) (e9 pQ:Option V),σ = [some (.ref c),some (.ref ra),some (.int p),some (.int (k:Int)),some (.ref tt),some (.ref pa),some (.int ev),some (.ref na),some rel,e9,pQ]∧zu H2 H'∧H' na=some (.lst (ns.map V.ref))∧NdA p kA na H' ns (aJ n) ∧
    ((rel = .non∧ev=(n:Int) - 1∧m=20 - n∧n≤16∧∀ e',e' < n→Indep p (zco k e' kA) (za8 p k e' kA))∨(∃ (rl:Addr) (cc:List Int) (mm e:Nat),rel = .ref rl∧ev=(e:Int)∧e≤16∧H' rl=some (.lst (cc.map V.int))∧IsP p (mm+1) cc∧mm < e+1∧gl cc mm=1∧Dep p (zco k e kA) (za8 p k e kA) cc∧∀ e',e' < e→Indep p (zco k e' kA) (za8 p k e' kA))),
    ⟨20,0,[],_,_,_,_,rfl,t3,zb,.nil,.inl ⟨rfl,rfl,rfl,#[O],fun _ h=>by lia⟩⟩,?_⟩
   rintro m σ H3 ⟨n,ns,ev,rel,e9,pQ,rfl,s3,h3n,yP,oZ⟩;have yQ:=yP.length;rw [bm] at yQ;rcases oZ with ⟨rfl,rfl,rfl,oW,uR⟩ | ⟨rl,cc,mm,e,rfl,rfl,yR,Bv,lR,vd,rd,DH,uR⟩
   ·refine⟨_,rfl,rfl,_,rfl,?_⟩;refine zaP (fun _=>?_) (fun h=>absurd rfl h);refine⟨fun σ' H'=>∃ m',m' < 20 - n∧∃ (n:Nat) (ns:List Addr) (ev:Int) (rel:V) (e9 pQ:Option V),σ' = [some (.ref c),some (.ref ra),some (.int p),some (.int (k:Int)),some (.ref tt),some (.ref pa),some (.int ev),some (.ref na),some rel,e9,pQ]∧zu H2 H'∧H' na=some (.lst (ns.map V.ref))∧NdA p kA na H' ns (aJ n) ∧
     ((rel = .non∧ev=(n:Int) - 1∧m'=20 - n∧n≤16∧∀ e',e' < n→Indep p (zco k e' kA) (za8 p k e' kA))∨(∃ (rl:Addr) (cc:List Int) (mm e:Nat),rel = .ref rl∧ev=(e:Int)∧e≤16∧H' rl=some (.lst (cc.map V.int))∧IsP p (mm+1) cc∧mm < e+1∧gl cc mm=1∧Dep p (zco k e kA) (za8 p k e kA) cc∧∀ e',e' < e→Indep p (zco k e' kA) (za8 p k e' kA))),fun _ _ z=>z,?_⟩
    refine⟨_,rfl,_,_,rfl,rfl,?_⟩;have e1:(n:Int) - 1+1=(n:Int):=by lia
    refine⟨fun σ' H'=>∃ pw:Addr,σ' = [some (.ref c),some (.ref ra),some (.int p),some (.int (k:Int)),some (.ref tt),some (.ref pa),some (.int (n:Int)),some (.ref na),some .non,some (.ref pw),pQ]∧zu H3 H'∧kF K H' pw ((unit n).map V.int),?_,?_⟩
    ·refine⟨by show 1≤sizeLine; lia,fun t1 wC=>⟨_,rfl,t1,_,[.int 0],rfl,rfl,kF.of zb,#[M],#[O],#[O],by show 1*_≤sizeLine; lia,fun z H4 s4 h4z=>?_⟩⟩;rw [e1,bw,zc0] at h4z;have s34:=(zc (o:=.tup [.int 0]) wC).trans s4;refine⟨by show 1≤sizeLine; lia,fun t2 uM=>⟨z,t2,_,_,rfl,rfl,zna (zc uM) h4z,kF.of zb,#[M],by rw [ab,aS]; show n+1≤sizeLine; lia,fun e0=>?_,fun _ pw hpw=>?_⟩⟩
     ·have hn0:n=0:=by
       have:=congrArg dW e0;rw [ab,aS] at this;exact this
      subst hn0;exact⟨t2,congrArg (fun v:Int=>[some (V.ref c),some (.ref ra),some (.int p),some (.int (k:Int)),some (.ref tt),some (.ref pa),some (.int v),some (.ref na),some .non,some (.ref t2),pQ]) e1,s34.trans (zc uM),kF.of zb⟩
     ·refine⟨pw,congrArg (fun v:Int=>[some (V.ref c),some (.ref ra),some (.int p),some (.int (k:Int)),some (.ref tt),some (.ref pa),some (.int v),some (.ref na),some .non,some (.ref pw),pQ]) e1,(s34.trans (zc uM)).trans (zc hpw),?_⟩;have:(unit n).map V.int=(ar n (0:Int)).map V.int++[.int 1]:=by unfold unit; rw [ao]; rfl
      rw [this];exact kF.of zb
    ·rintro σ' H4 ⟨pw,rfl,s4,h4p⟩;have xD:=s3.trans s4;have Bw:=xD _ _ sJ;have tS:=qv.same xD;have DI:=s4 _ _ h3n;have DJ:=yP.same s4;refine⟨_,rfl,.inl ⟨rfl,_,ky.of DI⟩,_,rfl,pa,rfl,⟨_,ky.of Bw⟩,zH (n:=us.length) (fun i ys H'=>zu H4 H'∧∃ ws:List Addr,ys=ws.map V.ref∧zaE H' ws ((kA.take i).map fun kx=>Tp p kx n)) ⟨fun _ _ e=>e,[],rfl,.nil⟩ ?_ ?_ ?_ ?_⟩
     ·rintro i ys H5 hi ⟨s5,_⟩;exact⟨_,.ref us[i],ky.of (s5 _ _ Bw),by rw [ah,aj hi]; rfl⟩
     ·rintro ys H5 ⟨s5,_⟩;exact⟨_,ky.of (s5 _ _ Bw),by rw [ab]; exact af _⟩
     ·rintro zS zT zE i y ys H5 H6 hi ⟨s5,ws,rfl,p6⟩ ⟨rfl,hy⟩;obtain⟨b,rfl,hb⟩:=zK (hy _ (ky.of (s5 _ _ Bw)));obtain⟨kx,lI,bs,lK,hB⟩:=Paired.get tS hb;have qQ:=p6.length;rw [ab,aD] at qQ;have hm:=aB lI;refine gY ⟨_,rfl,_,rfl,_,rfl,p,pw,b,unit n,bs,kx,rfl,zna s5 h4p,ky.of (s5 _ _ lK),hB.same s5,aN (yO kx hm) #[D],hp,hP kx hm,fun z H7 hz s7 h7z=>?_⟩;refine⟨by rw [ab]; lia,s5.trans s7,ws++[z],by rw [ao]; rfl,?_⟩;rw [take_snoc lI,ao];exact bD (p6.same s7) h7z
     ·rintro ys H5 D2 ⟨s5,ws,rfl,p6⟩ rS;rw [n9,aM] at p6;have t6:=zc (o:=.lst (ws.map V.ref)) rS;have vA:kB H5 D2 (.lst (ws.map V.ref)) D2=some (.lst (ws.map V.ref)):=zb;have hDn:D2≠na:=fun e=>by
       have:=s5 _ _ DI;rw [← e,rS] at this;cases this
      have sL:=s5.trans t6;have yS:=p6.same t6;generalize kB H5 D2 (.lst (ws.map V.ref))=H6 at t6 vA sL yS ⊢;have DK:=sL _ _ DI;have DL:=DJ.same sL;refine⟨na,_,_,rfl,rfl,DK,by rw [ab]; lia,?_⟩;have yT:zu H2 (kB H6 na (.lst (ns.map V.ref++[.ref D2]))):=zaH (xD.trans sL) yo;have wJ:kB H6 na (.lst (ns.map V.ref++[.ref D2])) na=some (.lst ((ns++[D2]).map V.ref)):=by rw [zb,ao]; rfl
      have tT:NdA p kA na (kB H6 na (.lst (ns.map V.ref++[.ref D2]))) (ns++[D2]) (aJ (n+1)):=by
       rw [fG];exact bD (DL.put DK) ⟨ws,by rw [zr hDn]; exact vA,hDn,yS.put DK⟩
      generalize kB H6 na (.lst (ns.map V.ref++[.ref D2]))=H7 at yT wJ tT ⊢;have hn7:=tT.length;rw [bm] at hn7;refine⟨_,rfl,_,rfl,na,rfl,⟨_,ky.of wJ⟩,zH (n:=(ns++[D2]).length) (fun i ys H'=>zu H7 H'∧∃ vs:List Addr,ys=vs.map V.ref∧LsA H' vs ((za8 p k n kA).take i)) ⟨fun _ _ e=>e,[],rfl,.nil⟩ ?_ ?_ ?_ ?_⟩
      ·rintro i ys H8 hi ⟨s8,_⟩;exact⟨_,.ref (ns++[D2])[i],ky.of (s8 _ _ wJ),by rw [ah,aj hi]; rfl⟩
      ·rintro ys H8 ⟨s8,_⟩;exact⟨_,ky.of (s8 _ _ wJ),by rw [ab]; exact af _⟩
      ·rintro zS zT zE i y ys H8 H9 hi ⟨s8,vs,rfl,yU⟩ ⟨rfl,hy⟩;obtain⟨b,rfl,hb⟩:=zK (hy _ (ky.of (s8 _ _ wJ)));obtain⟨i',nB,us',lK,_,hT⟩:=Paired.get tT hb;have oI:i < n+1:=by lia
       rw [cH oI] at nB;cases nB;have xY:=yU.length;rw [aD] at xY;refine gY ⟨_,rfl,_,rfl,_,rfl,_,_,rfl,rfl,b,k+n,us',_,(by show [V.ref b,V.int ((k:Int)+(n:Int))]=_; rw [io]),ky.of (s8 _ _ lK),hT.same s8,fun j=>?_,fun z Ha hz sa haz=>?_⟩
       ·rw [← dq,zdX hp fun q hq=>hP q (ci hq)];refine aN (zhi (b:=16) fun q hq=>?_) ?_
        ·have:=yO q (ci hq);lia
        ·rw [aD];lia
       ·refine⟨by rw [ab]; lia,s8.trans sa,vs++[z],by rw [ao]; rfl,?_⟩;have hvi:(za8 p k n kA)[i]? = some (bey (k+n) (kA.map fun kx=>Tp p kx i)):=by
         unfold za8;rw [ah,cH oI];rfl
        rw [take_snoc hvi];exact bD (yU.same sa) haz
      ·rintro ys H8 D3 ⟨s8,vs,rfl,yU⟩ xi;have DM:(za8 p k n kA).length=n+1:=by unfold za8; rw [ab,bm]
       rw [hn7,← DM,aM] at yU;have t9:=zc (o:=.lst (vs.map V.ref)) xi;have yM:kB H8 D3 (.lst (vs.map V.ref)) D3=some (.lst (vs.map V.ref)):=zb;have yV:=yU.same t9;have rV:=s8.trans t9;generalize kB H8 D3 (.lst (vs.map V.ref))=H9 at t9 yM yV rV ⊢;refine⟨p,D3,vs,za8 p k n kA,zco k n kA,rfl,yM,yV,(fun e=>by (rw [e] at DM; cases DM)),#[O],?_,zlM hp hP,hp,fun Ha sa hI=>?_,fun l cc mm Ha hl sa wK lR vd rd hD=>?_⟩
       ·refine aN (zhi (b:=16) fun q hq=>?_) #[O];have:=yO q hq;lia
       ·have kU:=zkM hp yO hI;refine⟨20 - (n+1),#[O],n+1,ns++[D2],_,_,_,_,rfl,yT.trans (rV.trans sa),(rV.trans sa) _ _ wJ,tT.same (rV.trans sa),.inl ⟨rfl,#[O],rfl,#[O],fun e' vf=>?_⟩⟩;by_cases e:e'=n
        ·subst e; exact hI
        ·exact uR e' #[O]
       ·exact⟨0,#[O],n+1,ns++[D2],_,_,_,_,rfl,yT.trans (rV.trans sa),(rV.trans sa) _ _ wJ,tT.same (rV.trans sa),.inr ⟨l,cc,mm,n,rfl,rfl,oW,wK,lR,#[O],rd,hD,uR⟩⟩
   ·refine⟨_,rfl,rfl,_,rfl,?_⟩;refine zaP (fun h=>absurd h #[M]) (fun _=>?_);have h3a:=s3 _ _ sJ;have DN:=qv.same s3;have qf:cc.length=mm+1:=lR.1;refine⟨_,rfl,rl,_,rfl,.inl ⟨ky.of Bv,fun tl vt=>?_⟩⟩;have t4:=zc (o:=.tup (cc.map V.int)) vt;have h4t:kB H3 tl (.tup (cc.map V.int)) tl=some (.tup (cc.map V.int)):=zb;generalize kB H3 tl (.tup (cc.map V.int))=H4 at t4 h4t ⊢;refine⟨_,rfl,_,_,rfl,rfl,tl,e+1,cc,rfl,h4t,#[O],#[O],fun lf H5 s5 DO=>?_⟩;have L:=znb hp (k:=k) hP lR vd rd DH uR;generalize szd cc (e+1)=left at DO L ⊢;have DP:=t4.trans s5;have Bx:=DP _ _ h3a;have pF:=DN.same DP;refine⟨_,rfl,_,rfl,_,rfl,pa,rfl,⟨_,ky.of Bx⟩,zH (n:=us.length) (fun i ys H'=>zu H5 H'∧∃ ws:List Addr,ys=ws.map V.ref∧zaE H' ws ((kA.take i).map fun kx=>szd (thr p (tmP p left kx)) (k+e))) ⟨fun _ _ e=>e,[],rfl,.nil⟩ ?_ ?_ ?_ ?_⟩
    ·rintro i ys H6 hi ⟨s6,_⟩;exact⟨_,.ref us[i],ky.of (s6 _ _ Bx),by rw [ah,aj hi]; rfl⟩
    ·rintro ys H6 ⟨s6,_⟩;exact⟨_,ky.of (s6 _ _ Bx),by rw [ab]; exact af _⟩
    ·rintro zS zT zE i y ys H6 H7 hi ⟨s6,ws,rfl,p6⟩ ⟨rfl,hy⟩;obtain⟨b,rfl,hb⟩:=zK (hy _ (ky.of (s6 _ _ Bx)));obtain⟨kx,lI,bs,lK,hB⟩:=Paired.get pF hb;have qQ:=p6.length;rw [ab,aD] at qQ;have hm:=aB lI;have yW:=yO kx hm;refine gY ⟨_,rfl,_,rfl,_,rfl,p,lf,b,left,bs,kx,rfl,kF.of (s6 _ _ DO),ky.of (s6 _ _ lK),hB.same s6,aN yW #[D],hp,hP kx hm,fun z H8 hz s8 h8z=>?_⟩;refine⟨_,rfl,_,rfl,_,_,rfl,rfl,z,k+e,_,(by show [V.ref z,V.int ((k:Int)+(e:Int))]=_; rw [io]),h8z,#[O],by rw [zcP hp (hP kx hm)]; lia,fun x H9 s9 h9x=>?_⟩;refine⟨by rw [ab]; lia,s6.trans (s8.trans s9),ws++[x],by rw [ao]; rfl,?_⟩;rw [take_snoc lI,ao];exact bD (p6.same (s8.trans s9)) h9x
    ·rintro ys H6 D2 ⟨s6,ws,rfl,p6⟩ rS;rw [n9,aM] at p6;have t7:=zc (o:=.lst (ws.map V.ref)) rS;have sI:kB H6 D2 (.lst (ws.map V.ref)) D2=some (.lst (ws.map V.ref)):=zb;have tU:=p6.same t7;have DQ:=s6.trans t7;generalize kB H6 D2 (.lst (ws.map V.ref))=H7 at t7 sI tU DQ ⊢;refine⟨by show 3≤sizeLine; lia,fun z hz=>?_⟩;have t8:=zc (o:=.tup [.int (e:Int),.ref lf,.ref D2]) hz;have yT:=(s2.trans s3).trans (DP.trans DQ);exact q z lf D2 ws e left _ _ (yT.trans t8) zb ((DQ.trans t8) _ _ DO) (t8 _ _ sI) (tU.same t8) yR (by rw [← p5]; exact L)
theorem zbh:FnScope ["code","row","e","left","rights"] ["code","row"] (zg zbx):=#[S]
theorem zcJ {fd:FuncData} (T:Txt K mg t) (F:Fun K "locator_of" "locator_of" zbx t.locator_of fd):FnOk P w K mg base CX0 6 t.locator_of fd ["code","row"] (zeM K):=by
 obtain⟨mf,kP,kQ⟩:=T.f_joint_locator;have lE:=zbZ (P:=P) (w:=w) (base:=base) T kP;refine F.ok zbh (fun vs H Q E h=>?_) (fun ly A outer s H vs Q E hr h=>?_)
 ·obtain⟨c,tt,r,p,k,pl,rw,rfl,_⟩:=h;rfl
 ·obtain⟨c,tt,r,p,k,pl,rw,rfl,hc,mU,nG,hn,hp,lN,kW,tH,k0,k1,q⟩:=h;refine zbb ?_; intro zX;refine⟨_,#[zd,#[za5,#[zq,lE,(hr.mono #[D]),T.m_joint_locator,kP.kp,kQ,#[zL],#[za,#[pvx,0],#[ya,#[zaT,#[ya,#[pvx,1]]]]]],#[zaI,#[zh,#[zf,2,zbh.nd,#[A]],#[zh,#[zf,3,zbh.nd,#[A]],#[zh,#[zf,4,zbh.nd,#[A]],#[zJ]]]]]],#[zo,#[zI,#[zas,#[za,#[pvx,2],#[za,#[pvx,3],#[ya,#[zab,#[zay],#[pvx,4],#[zi]]]]]]]]],?_⟩;refine zmE ?_; intro oP;have nZ:=ba;refine⟨_,rfl,_,rfl,by show 1≤sizeLine; lia,fun ra hrA=>?_⟩;have t1:=zc (o:=.lst [.ref r]) hrA;refine⟨c,tt,ra,p,k,pl,[r],[rw],rfl,hc.same t1,ky.of zb,.cons ⟨t1 _ _ mU,nG⟩ .nil,(by show 1≤10; decide),hn,hp,lN,kW,fun vM h=>?_,k0,k1,fun z la l3 us e left lC H2 s2 uQ tP h2r hT he L=>?_⟩
  ·obtain rfl:vM=rw:=by simpa using h
   exact tH
  have hl:=hT.length;have CY:lC.length=1:=by rw [L.rt]; rfl
  obtain⟨u0,rfl⟩:∃ u0,us = [u0]:=iD.mp #[O];obtain⟨right,rfl⟩:∃ r0,lC = [r0]:=iD.mp CY;obtain⟨r',oV,hu⟩:=Paired.get hT (i:=0) (a:=u0) rfl;cases oV;refine⟨z,_,rfl,kF.of uQ,rfl,_,_,rfl,_,_,rfl,_,_,rfl,rfl,?_⟩;refine⟨_,rfl,_,rfl,_,rfl,l3,_,_,_,rfl,rfl,ky.of h2r,rfl,by show 3≤sizeLine; lia,fun y hy=>?_⟩;have pR:=t1.trans s2;exact q y la u0 e left right _ (pR.trans (zc hy)) zb ((zc hy) _ _ tP) ((zc hy) _ _ hu) he L
end
section
variable {P:Program} {w:World} {K:ag} {mg:Str→Option Value} {base:Heap} {t:Adr}
theorem zfO (xs:List V) (j:Nat):zbk xs none (some (j:Int))=xs.take j:=by
 unfold zbk;rw [HT.sIx_nat,HT.sIx_none,eU,dB];by_cases h:j≤xs.length
 ·rw [cF h]
 ·rw [show min j xs.length=xs.length by lia,aT (af _),aT (show xs.length≤j by lia)]
theorem zcc:FnScope ["things","many","chosen","step"] ["things","many"] (zg zby):=#[S]
theorem zhs {fd:FuncData} (T:Txt K mg t) (F:Fun K "choices" "choices" zby t.choices fd):FnOk P w K mg base CX0 1 t.choices fd ["things","many"] (zhc K):=by
 refine F.ok zcc (fun vs H Q E h=>?_) (fun ly A outer s H vs Q E hr h=>?_)
 ·obtain⟨a,m,xs,rfl,_⟩:=h;rfl
 ·obtain⟨a,m,xs,rfl,hS,hx,hm,q⟩:=h;refine zbb ?_; intro zX;refine⟨_,#[zd,#[zp,2,zcc.nd,#[A],#[zaT,#[ya,#[zas,#[za,#[zi],#[ya,#[zaT,#[ze]]]]]]]],#[zd,#[zbd,bJ,#[za3,T.range_,#[ya,#[pvx,1]]],#[zf,3,zcc.nd,#[A]],#[zo,(@zhb _ _ _ _ _ _ _ _ _ _ _ _ _ _ _ _ _ _ _ _ _ (2) _ _ _ zcc.nd rfl #[A] (CompSc.of (N':=["start","picked","at","things"]) (ix:=[none,none,none,some 0]) (zg zby) ["things","many","chosen","step"] rfl rfl #[N]) rfl (zjT (js:=[0,1]) (zed (js:=[0,1]) (i:=0) #[D] (zed (js:=[0,1]) (i:=1) #[D] (zhG (js:=[0,1]))))) (zdO (js:=[2]) (i:=2) #[D]) #[D] #[D] #[zP,#[pvx,2]] (fun _ _ _ _=>#[zaK,(K),2,#[zh,#[zf,0,(show (["start","picked","at","things"]:List Str).Nodup from #[N]),#[A]],#[zh,#[zf,1,(show (["start","picked","at","things"]:List Str).Nodup from #[N]),#[A]],#[zJ]]]]) (fun _ _ _ _=>#[zG]) (fun _ _ _ _=>(@ziD _ _ _ _ _ _ _ rfl T.range_ #[za,#[pvx,0],#[ya,#[zz,#[zaG,(K)],T.len_,bQ,#[ya,#[pvx,3]]]]] (by rfl) (by rfl))) (fun _ _ _ _=>#[zf,2,(show (["start","picked","at","things"]:List Str).Nodup from #[N]),#[A]]) (fun _ _ _ _=>#[zG]) (fun _ _ _ _=>#[zas,#[za,#[zn,#[z9],#[pvx,2],#[zi]],#[ya,#[zn,#[zeb],#[pvx,1],#[zaT,#[ya,#[zab,#[zbn,(K)],#[pvx,3],#[pvx,2]]]]]]]]) (by rfl) (by intro _; rfl) (by intros; rfl) (by trivial))]],#[zo,#[zI,#[zad,(CompSc.of (N':=["start","picked"]) (ix:=[none,none]) (zg zby) ["things","many","chosen","step"] rfl rfl #[N]),#[zbe,#[zN,#[zN,#[zaR]]]],#[zP,#[pvx,2]],(fun _ _ _ _=>#[zaK,(K),2,#[zh,#[zf,0,(show (["start","picked"]:List Str).Nodup from #[N]),#[A]],#[zh,#[zf,1,(show (["start","picked"]:List Str).Nodup from #[N]),#[A]],#[zJ]]]]),(fun _ _ _ _=>#[zG]),(fun _ _ _ _=>#[pvx,1])]]]]],?_⟩;refine ziM ?_; intro pC oP;have nZ:=ba;refine⟨bu _,fun L0 hL0=>⟨by show 2≤sizeLine; lia,fun T0 hT0=>⟨by show 1≤sizeLine; lia,fun c hc=>?_⟩⟩⟩;have u0:=zc (o:=.lst []) hL0;have u1:=zc (o:=.tup [.int 0,.ref L0]) hT0;have u2:=zc (o:=.lst [.ref T0]) hc;have yX:zet (kB (kB (kB H L0 (.lst [])) T0 (.tup [.int 0,.ref L0])) c (.lst [.ref T0])) [T0] (chs xs 0):=.cons ⟨L0,u2 _ _ zb,(u1.trans u2) _ _ zb⟩ .nil;have tI:kB (kB (kB H L0 (.lst [])) T0 (.tup [.int 0,.ref L0])) c (.lst [.ref T0]) c=some (.lst ([T0].map V.ref)):=zb;have s0:=(u0.trans u1).trans u2;generalize kB (kB (kB H L0 (.lst [])) T0 (.tup [.int 0,.ref L0])) c (.lst [.ref T0])=H0 at yX tI s0 ⊢;refine⟨_,rfl,_,rfl,#[O],#[O],?_⟩;rw [bw];refine zec (lo:=0) (n:=m) (fun i σ H'=>∃ (c:Addr) (ts:List Addr) (e3:Option V),σ = [some (.ref a),some (.int m),some (.ref c),e3]∧zu H H'∧H' c=some (.lst (ts.map V.ref))∧zet H' ts (chs xs i)) ⟨c,[T0],none,rfl,s0,tI,yX⟩ ?_ ?_
  ·rintro zD zT i σ H1 hi ⟨c,ts,e3,rfl,s1,qh,qe⟩;have qf:=qe.length;have nu:=zcv (xs:=xs) (i+1) hx;have wG:((chs xs i).flatMap (nxt xs)).length≤65536:=nu;refine⟨_,rfl,c,rfl,⟨_,ky.of qh⟩,zh7 (n:=ts.length) (fun i' ys H'=>∃ us:List Addr,ys=us.map V.ref∧zu H1 H'∧zet H' us (((chs xs i).take i').flatMap (nxt xs))) ⟨[],rfl,fun _ _ e=>e,.nil⟩ ?_ ?_ ?_ ?_⟩
   ·rintro i' ys H2 nB ⟨us,_,s2,_⟩;exact⟨_,.ref ts[i'],ky.of (s2 _ _ qh),by rw [ah,aj nB]; rfl⟩
   ·rintro ys H2 ⟨us,_,s2,_⟩;exact⟨_,ky.of (s2 _ _ qh),by rw [ab]; exact af _⟩
   ·rintro i' y ys H2 H3 nB ⟨us,rfl,s2,lB⟩ ⟨rfl,hy⟩;obtain⟨tt,rfl,yG⟩:=zK (hy _ (ky.of (s2 _ _ qh)));obtain⟨cc,lR,lK⟩:=Paired.get qe yG;obtain⟨L,xl,xm⟩:=lK.same s2;have hle:=zm4 (aB lR);have kW:=zgw (aB lR);obtain⟨st,pk⟩:=cc;dsimp only at xl xm hle kW;refine gY2 (kF.of xl) ?_;refine⟨_,rfl,_,rfl,a,xs,rfl,.inl ((s1.trans s2).seq hS),_,_,rfl,⟨#[O],#[O],#[O],#[O]⟩,?_⟩;have en:((xs.length:Int) - (st:Int)).toNat=xs.length - st:=by lia
    rw [en];refine zh7 (n:=xs.length - st) (fun j ys H'=>∃ us:List Addr,ys=us.map V.ref∧zu H3 H'∧zet H' us (((chs xs i).take i').flatMap (nxt xs)++(nxt xs (st,pk)).take j)) ⟨us,rfl,fun _ _ e=>e,by rw [dC,bE]; exact lB⟩ (fun j ys H' hj _=>hj) (fun ys H' _=>af _) ?_ ?_
    ·rintro j z ys H4 H5 hj ⟨us,rfl,s4,lB⟩ ⟨rfl,rfl⟩;obtain⟨x,sS⟩:∃ x,xs[st+j]? = some x:=⟨xs[st+j]'#[O],#[M]⟩;have lK:atI xs ((st:Int)+(j:Int))=some x:=by
      have e:((st+j:Nat):Int)=(st:Int)+j:=by lia
      rw [← e];exact zaO sS
     have hng:=zlv (c:=(st,pk)) sS;have n9:=lB.length;have hpart:=zjd (f:=nxt xs) lR (show j < (nxt xs (st,pk)).length by rw [zfE]; exact hj);have yQ:=zfE xs (st,pk);refine gY ?_;refine⟨_,rfl,_,_,rfl,rfl,_,rfl,_,rfl,_,rfl,a,xs,_,x,rfl,rfl,((s1.trans s2).trans s4).seq hS,lK,by show 1≤sizeLine; lia,fun b hb=>?_⟩;have v1:=zc (o:=.lst [x]) hb;refine⟨L,b,pk,[x],rfl,rfl,(s4.trans v1) _ _ xm,zb,by show pk.length+1≤sizeLine; lia,fun L2 yY=>⟨by show 2≤sizeLine; lia,fun T2 vy=>⟨?_,us++[T2],by rw [ao]; rfl,?_,?_⟩⟩⟩
     ·rw [ab,n9,ap,aD];lia
     ·exact s4.trans (v1.trans ((zc yY).trans (zc vy)))
     ·rw [take_snoc hng,← bi];refine bD (lB.same (v1.trans ((zc yY).trans (zc vy)))) ⟨L2,?_,(zc vy) _ _ zb⟩;rw [zb];show some (HO.tup [.int ((st:Int)+(j:Int)+1),.ref L2])=some (HO.tup [.int ((st+j+1:Nat):Int),.ref L2]);have e:((st+j+1:Nat):Int)=(st:Int)+j+1:=by lia
      rw [e]
    ·rintro ys H4 ⟨us,rfl,s4,lB⟩;rw [aT (l:=nxt xs (st,pk)) (by rw [zfE]; exact af _)] at lB;exact⟨us,rfl,s2.trans s4,by rw [zje lR]; exact lB⟩
   ·rintro ys H2 ⟨us,rfl,s2,lB⟩ D hD;rw [qf,aT (af _)] at lB;exact⟨D,us,_,rfl,s1.trans (s2.trans (zc hD)),zb,lB.same (zc hD)⟩
  ·rintro σ H1 ⟨c,ts,e3,rfl,s1,qh,qe⟩;have qf:=qe.length;have nu:=zcv (xs:=xs) m hx;refine⟨_,rfl,c,rfl,⟨_,ky.of qh⟩,zH (n:=ts.length) (fun i ys H'=>H'=H1∧∃ us:List Addr,ys=us.map V.ref∧zgx H1 us (((chs xs m).map (·.2)).take i)) ⟨rfl,[],rfl,.nil⟩ ?_ ?_ ?_ ?_⟩
   ·rintro i ys H2 hi ⟨rfl,_⟩;exact⟨_,.ref ts[i],ky.of qh,by rw [ah,aj hi]; rfl⟩
   ·rintro ys H2 ⟨rfl,_⟩;exact⟨_,ky.of qh,by rw [ab]; exact af _⟩
   ·rintro zS zT zE i y ys H2 H3 hi ⟨rfl,us,rfl,lB⟩ ⟨rfl,hy⟩;obtain⟨tt,rfl,yG⟩:=zK (hy _ (ky.of qh));obtain⟨cc,lR,L,xl,xm⟩:=Paired.get qe yG;have n9:=lB.length;refine gY2 (kF.of xl) ⟨_,rfl,?_,rfl,us++[L],by rw [ao]; rfl,?_⟩
    ·rw [ab,n9,aD,ab];lia
    ·have DR:((chs xs m).map (·.2))[i]? = some cc.2:=by rw [ah,lR]; rfl
     rw [take_snoc DR];exact bD lB xm
   ·rintro ys H2 D ⟨rfl,us,rfl,lB⟩ hD;rw [aT (by rw [ab,qf]; exact af _)] at lB;exact q D us _ (s1.free hD) (s1.trans (zc hD)) zb (lB.same (zc hD))
theorem zd0:FnScope ["code","row","polynomial","p","k","places"] ["code","row","polynomial"] (zg zeC):=#[S]
theorem zd1 {fd:FuncData} (T:Txt K mg t) (F:Fun K "fits" "fits" zeC t.fits fd):FnOk P w K mg base CX0 2 t.fits fd ["code","row","polynomial"] (zhV K):=by
 obtain⟨lS,kK,kO⟩:=T.f_value_at;have kS:=zbJ (P:=P) (w:=w) (base:=base) T kK;refine F.ok zd0 (fun vs H Q E h=>?_) (fun ly A outer s H vs Q E hr h=>?_)
 ·obtain⟨c,tt,ra,po,p,k,pl,kR,rw,rfl,_⟩:=h;rfl
 ·obtain⟨c,tt,ra,po,p,k,pl,kR,rw,rfl,hc,mU,nG,vB,p0,p1,kW,hn,q⟩:=h;refine zbb ?_; intro zX;refine⟨_,#[zd,#[za5,#[pvx,0],#[zaI,#[zh,#[zf,3,zd0.nd,(cv rfl)],#[zh,#[zf,4,zd0.nd,#[A]],#[zh,#[zf,5,zd0.nd,#[A]],#[zJ]]]]]],#[zo,#[zI,#[zad,(CompSc.of (N':=["at","place","entry","p","polynomial"]) (ix:=[none,none,none,some 3,some 2]) (zg zeC) ["code","row","polynomial","p","k","places"] rfl rfl #[N]),#[zbe,#[zN,(@ziO _ _ _ #[zbe,#[zN,#[zN,#[zaR]]]] #[zaR] zg7)]],(@zg6 _ _ _ _ _ _ _ _ _ _ _ rfl T.enumerate_ rfl T.zip_ #[za,#[pvx,5],#[ya,#[pvx,1]]] (by rfl) (by rfl) (by rfl)),(fun _ _ _ _=>#[zaK,(K),2,#[zh,#[zf,0,(show (["at","place","entry","p","polynomial"]:List Str).Nodup from #[N]),#[A]],#[zh,#[zaK,(K),2,#[zh,#[zf,1,(show (["at","place","entry","p","polynomial"]:List Str).Nodup from #[N]),#[A]],#[zh,#[zf,2,(show (["at","place","entry","p","polynomial"]:List Str).Nodup from #[N]),#[A]],#[zJ]]]],#[zJ]]]]),(fun _ _ _ _=>#[zbl,#[zC,#[zeV],#[pvx,2],#[zq,kS,(hr.mono #[D]),T.m_value_at,kK.kp,kO,#[zL],#[za,#[pvx,3],#[za,#[pvx,4],#[ya,#[pvx,1]]]]],(zY _)]]),(fun _ _ _ _=>#[pvx,0])]]]],?_⟩;refine zmE ?_; intro oP;refine⟨_,rfl,c,_,rfl,kF.of hc.1,rfl,_,_,rfl,_,_,rfl,_,_,rfl,rfl,?_⟩;refine⟨_,rfl,_,rfl,tt,ra,_,_,rfl,kF.of hc.2,ky.of mU,zH (n:=pl.length) (fun i ys H'=>ys=(zaV p pl rw kR i).map V.int∧zu H H') ⟨rfl,fun _ _ e=>e⟩ ?_ ?_ ?_ ?_⟩
  ·rintro i ys H3 hi ⟨_,s3⟩;obtain⟨o,ho⟩:∃ o,rw[i]? = some o:=⟨rw[i]'#[O],#[M]⟩;exact⟨_,_,.int pl[i],mS o,kF.of (s3 _ _ hc.2),ky.of (s3 _ _ mU),by rw [ah,aj hi]; rfl,by rw [ah,ho]; rfl⟩
  ·rintro ys H3 ⟨_,s3⟩;exact⟨_,_,kF.of (s3 _ _ hc.2),ky.of (s3 _ _ mU),by rw [ab]⟩
  ·rintro zS zT zE i xx ys H3 H4 hi ⟨rfl,s3⟩ ⟨T1,T2,u,v,hT1,vy,lA,rfl,rfl,hu,hv⟩;obtain⟨x,rfl,hx⟩:=zaj (hu _ (kF.of (s3 _ _ hc.2)));obtain⟨o,rfl,ho⟩:=zfy (hv _ (ky.of (s3 _ _ mU)));obtain⟨x0,x1⟩:=kW x (aB hx);have s4:zu H3 (kB (kB H3 T1 (.tup [.int x,mS o])) T2 (.tup [.int i,.ref T1])):=zaH (zc hT1) vy;refine⟨T2,_,rfl,kF.of zb,rfl,_,_,rfl,_,_,rfl,T1,_,rfl,kF.of (by rw [zr lA]; exact zb),rfl,_,_,rfl,_,_,rfl,rfl,rfl,?_⟩;refine⟨_,rfl,_,rfl,_,rfl,_,rfl,p,x,po,kR,rfl,.inr (kF.of ((s3.trans s4) _ _ vB)),p0,p1,x0,x1,zj6 o _,_,rfl,?_⟩;rw [ze9,zen hx ho,ao];have kG:=zgk p pl rw kR i;refine zaP (fun h1=>⟨_,rfl,zau (by rw [ab]; lia),?_,s3.trans s4⟩) (fun h1=>⟨?_,s3.trans s4⟩)
   ·rw [if_pos h1];rfl
   ·rw [if_neg h1];simp
  ·rintro ys H3 D ⟨rfl,s3⟩ hD;exact q D _ (s3.free hD) (s3.trans (zc hD)) zb
theorem zdz:FnScope ["code","row","polynomial","places","some"] ["code","row","polynomial"] (zg zbX):=#[S]
theorem zjo {fd:FuncData} (T:Txt K mg t) (F:Fun K "_law_fits" "_law_fits" zbX t.l_fits fd):FnOk P w K mg base CX0 2 t.l_fits fd ["code","row","polynomial"] (ziY K):=by
 obtain⟨oB,mh,mi⟩:=T.f_l_value;have nH:=zeE (P:=P) (w:=w) (base:=base) T mh;refine F.ok zdz (fun vs H Q E h=>?_) (fun ly A outer s H vs Q E hr h=>?_)
 ·obtain⟨c,tt,ra,po,p,k,pl,kR,rw,rfl,_⟩:=h;rfl
 ·obtain⟨c,tt,ra,po,p,k,pl,kR,rw,rfl,hc,mU,nG,vB,p0,p1,kW,hn,q⟩:=h;refine zbb ?_; intro zX;refine⟨_,#[zd,#[zp,3,zdz.nd,(cv rfl),#[zab,#[zbM],#[pvx,0],#[zi]]],#[zd,#[zat,4,zdz.nd,#[A],(CompSc.of (N':=["number","row"]) (ix:=[none,some 1]) (zg zbX) ["code","row","polynomial","places","some"] rfl rfl #[N]),#[zai],#[za3,T.range_,#[ya,#[zz,#[zt],T.len_,bQ,#[ya,#[pvx,1]]]]],(fun _ _ _ _=>#[zf,0,(show (["number","row"]:List Str).Nodup from #[N]),#[A]]),(fun _ _ _ _=>#[zbl,#[zC,#[zhB],#[zab,#[zbn,(K)],#[pvx,1],#[pvx,0]],#[zcf],(zY _)]]),(fun _ _ _ _=>#[pvx,0])],#[zo,#[zI,#[zad,(CompSc.of (N':=["number","code","polynomial","places","row"]) (ix:=[none,some 0,some 2,some 3,some 1]) (zg zbX) ["code","row","polynomial","places","some"] rfl rfl #[N]),#[zai],#[zP,#[pvx,4]],(fun _ _ _ _=>#[zf,0,(show (["number","code","polynomial","places","row"]:List Str).Nodup from #[N]),#[A]]),(fun _ _ _ _=>#[zbl,#[zC,#[zeV],#[zq,nH,(hr.mono #[D]),T.m_l_value,mh.kp,mi,#[zL],#[za,#[zab,#[zcY,(K)],#[pvx,1],#[zi]],#[za,#[pvx,2],#[ya,#[zab,#[zcY,(K)],#[pvx,3],#[pvx,0]]]]]],#[zab,#[zbn,(K)],#[pvx,4],#[pvx,0]],(zY _)]]),(fun _ _ _ _=>#[pvx,0])]]]]],?_⟩;refine ziM ?_; intro pC oP;refine⟨_,rfl,c,_,_,_,rfl,rfl,kF.of hc.1,rfl,?_⟩;refine⟨_,rfl,ra,_,rfl,.inl (ky.of mU),_,rfl,by rw [ab]; lia,by rw [ab]; lia,?_⟩;rw [ab,bw];refine zH (n:=rw.length) (fun i ys H'=>ys=(zbA rw i).map V.int∧H'=H) ⟨rfl,rfl⟩ (fun i ys H' hi _=>hi) (fun ys H' _=>af _) ?_ ?_
  ·rintro zS zT zE i xx ys H4 H5 hi ⟨rfl,rfl⟩ ⟨rfl,rfl⟩;obtain⟨o,ho⟩:∃ o,rw[i]? = some o:=⟨rw[i]'#[O],#[M]⟩;have lK:atI (rw.map mS) (0+(i:Int))=some (mS o):=by
    rw [fN];exact zaO (by rw [ah,ho]; rfl)
   refine⟨_,rfl,_,rfl,ra,_,_,_,rfl,rfl,ky.of mU,lK,rfl,_,rfl,?_⟩;have hl:=zc1 rw i;rw [zg8,ho,ao];refine zaP (fun h1=>⟨_,rfl,zau (by rw [ab]; lia),?_,rfl⟩) (fun h1=>⟨?_,rfl⟩)
   ·cases o with
    | none=>exact absurd h1 (by simp [mS])
    | some z=>rw [fN]; rfl
   ·cases o with
    | none=>simp
    | some z=>exact absurd (by simp [mS]) h1
  ·rintro ys H4 D ⟨rfl,rfl⟩ hD;have sD:=zc (o:=.lst ((zbA rw rw.length).map V.int)) hD;have DS:kB H4 D (.lst ((zbA rw rw.length).map V.int)) D=some (.lst ((zbA rw rw.length).map V.int)):=zb;generalize kB H4 D (.lst ((zbA rw rw.length).map V.int))=H5 at sD DS ⊢;have nZ:=zc1 rw rw.length;refine⟨_,rfl,D,rfl,⟨_,ky.of DS⟩,ziX (K:=K) (xs:=(zbA rw rw.length).map V.int) (kp:=zmS p pl rw kR) (f:=id) (ky.of DS) (by rw [ab]; lia) ?_ ?_⟩
   ·intro j xx R B hx hR;obtain⟨z,rfl,hz⟩:=zaj hx;obtain⟨m,rfl,hm⟩:=zi1 (aB hz);obtain⟨o,ho⟩:∃ o,rw[m]? = some o:=⟨rw[m]'#[O],#[M]⟩;obtain⟨x,hx⟩:∃ x,pl[m]? = some x:=⟨pl[m]'#[O],#[M]⟩;obtain⟨x0,x1⟩:=kW x (aB hx);refine⟨_,rfl,c,_,_,_,rfl,rfl,kF.of (sD _ _ hc.1),rfl,_,rfl,_,rfl,_,rfl,tt,_,_,.int x,rfl,rfl,kF.of (sD _ _ hc.2),zaO (by rw [ah,hx]; rfl),p,x,po,kR,rfl,.inr (kF.of (sD _ _ vB)),p0,p1,x0,x1,_,rfl,_,rfl,ra,_,_,mS o,rfl,rfl,ky.of (sD _ _ mU),zaO (by rw [ah,ho]; rfl),ziZ o _,_,rfl,?_⟩;have e:zmS p pl rw kR (.int (m:Int))=decide (V.int (zj p x kR)=mS o):=by
     show zaS p pl rw kR ((m:Int)).toNat=_;rw [bw,zen hx ho];exact decide_eq_decide.mpr ⟨fun e=>e.symm,fun e=>e.symm⟩
    rw [e] at hR;refine zaP (fun h1=>⟨_,rfl,?_⟩) (fun h1=>?_)
    ·rw [if_pos h1] at hR;exact hR
    ·rw [if_neg h1] at hR;exact hR
   ·intro D2 rS;refine q D2 _ (sD.free rS) (sD.trans (zc rS)) ?_;rw [zb,zi0,nG]
theorem ziv {p:Int} {kx:List (Int×Int)} (hP:Pts p kx):kx.map (md p)=kx:=by
 refine (cn fun q hq=>?_).trans (iA _);obtain⟨_,_,h1,h2⟩:=hP.rg q hq;show (q.1,q.2 % p)=q;rw [ck h1 h2]
theorem zaB:FnScope ["code","points","p","k","places","found","picked"] ["code","points"] (zg zaW):=#[S]
theorem zcp {fd:FuncData} (T:Txt K mg t) (F:Fun K "all_through" "all_through" zaW t.all_through fd):FnOk P w K mg base CX0 4 t.all_through fd ["code","points"] (zex K):=by
 obtain⟨qw,pg,nI⟩:=T.f_choices;have rW:=zhs (P:=P) (w:=w) (base:=base) T pg;obtain⟨mZ,k8,lp⟩:=T.f_through;have l9:=zcT (P:=P) (w:=w) (base:=base) T k8;refine F.ok zaB (fun vs H Q E h=>?_) (fun ly A outer s H vs Q E hr h=>?_)
 ·obtain⟨c,tt,a,p,k,pl,bs,kx,rfl,_⟩:=h;rfl
 ·obtain⟨c,tt,a,p,k,pl,bs,kx,rfl,hc,hS,hB,hn,hp,hP,k0,k1,q⟩:=h;have hu:(A.deeper (envOfC (bV "all_through") (zg zaW) s.heap.objs.size t.all_through ly)).units+1 < cLine:=by have:=hr.units; lia
  refine zbb ?_; intro zX;refine⟨_,#[zd,#[za5,#[pvx,0],#[zaI,#[zh,#[zf,2,zaB.nd,#[A]],#[zh,#[zf,3,zaB.nd,#[A]],#[zh,#[zf,4,zaB.nd,#[A]],#[zJ]]]]]],#[zd,#[zp,5,zaB.nd,#[A],(@zkd _ _)],#[zd,#[zbd,bJ,#[zP,#[zq,rW,(hr.mono #[D]),T.m_choices,pg.kp,nI,#[zL],#[za,#[pvx,1],#[ya,#[pvx,3]]]]],#[zf,6,zaB.nd,#[A]],#[zo,(@zlh _ _ _ _ _ _ _ _ _ hu #[pvx,5] #[zq,l9,(hr.mono #[D]),T.m_through,k8.kp,lp,#[zL],#[za,#[pvx,2],#[ya,#[pvx,6]]]] #[zd4] rfl)]],#[zo,#[zI,#[zz,(@zfD _ rfl),T.sorted_,boot_sorted,#[ya,#[pvx,5]]]]]]]],?_⟩;refine zjQ ?_; intro rN pC oP;have nZ:=ba;have rp:=zm hp;obtain⟨zs,rfl,rfl,hz⟩:=hB.zs;rw [ab] at hn;refine⟨_,rfl,c,_,rfl,kF.of hc.1,rfl,_,_,rfl,_,_,rfl,_,_,rfl,rfl,fun D hD=>?_⟩;have s0:=zc (o:=.dT []) hD;have DT:kB H D (.dT []) D=some (.dT []):=zb;generalize kB H D (.dT [])=H0 at s0 DT ⊢;refine⟨_,rfl,_,rfl,a,k,_,rfl,s0.seq hS,by rw [ab,ab]; lia,#[O],fun l ls H1 hl s1 tV By=>?_⟩;have hlD:l≠D:=fun e=>by rw [e,DT] at hl; cases hl
  rw [bz,zfd (V.ref ∘ fun z:Addr×Int×Int=>z.1) zs k] at By;have kW:=By.length;rw [ab,ab] at kW;have nu:=zcv (xs:=zs) k hn;obtain⟨xE,uS⟩:∃ xE,(chs zs k).map (·.2)=xE:=⟨_,rfl⟩;rw [uS] at By;have xF:ls.length=xE.length:=by rw [kW,← uS,ab]
  have yZ:H1 D=some (.dT []):=s1 _ _ DT;have hid:=zgl H1 D;refine⟨l,rfl,⟨_,ky.of tV⟩,zaQ (K:=K) (a:=l) (xs:=ls.map V.ref) (fun i σ H'=>∃ (kE:List (List Key×V)) (ml:List (List Int)) (e6:Option V),σ = [some (.ref c),some (.ref a),some (.int p),some (.int k),some (.ref tt),some (.ref D),e6] ∧
   zu (hide H1 D) H'∧H' D=some (.dT kE)∧KeysAre kE ml∧ml.Nodup∧ml.length≤i∧∀ x,x∈ml↔∃ zk∈xE.take i,x=thr p (zk.map (·.2)))
   ⟨[],[],none,rfl,hid,yZ,rfl,#[M],af _,fun x=>by simp⟩ (fun i σ H' _ ⟨_,_,_,_,s3,_⟩=>ky.of (s3 _ _ (zaL tV hlD))) ?_ ?_⟩
  ·rintro zD zT i y σ H2 hy ⟨kE,ml,e6,rfl,s2,xC,wz,lN,DU,lV⟩;obtain⟨b,rfl,yF⟩:=zK hy;obtain⟨hi,_⟩:=az.mp yF;obtain⟨vk,y4,qY⟩:=Paired.get By yF;obtain⟨zk,hzk,rfl⟩:∃ zk,xE[i]? = some zk∧vk=zk.map (V.ref ∘ fun z:Addr×Int×Int=>z.1):=by
    rw [ah] at y4;cases e:xE[i]? with
    | none=>rw [e] at y4; cases y4
    | some zk=>rw [e] at y4; exact⟨zk,rfl,(aQ y4).symm⟩
   have hbD:b≠D:=fun e=>by rw [e,yZ] at qY; cases qY
   obtain⟨uF,kG⟩:=zdb.mp (by rw [uS]; exact aB hzk:zk∈(chs zs k).map (·.2));have uu:Pts p (zk.map (·.2)):=hP.sub (uF.map _);have lI:zj2 K H2 b (zk.map (·.2)):=by
    refine⟨zk.map (·.1),?_,by rw [ab,ab],fun j b' q' h1 h2=>?_⟩
    ·have:=s2 _ _ (zaL qY hbD);rw [bz];exact ky.of this
    ·rw [ah] at h1 h2;cases e:zk[j]? with
     | none=>rw [e] at h1; cases h1
     | some z =>
      rw [e] at h1 h2;cases h1;cases h2;have oT:=hz z (uF.subset (aB e));have hzD:z.1≠D:=zQ oT hD;exact s2 _ _ (zaL ((s0.trans s1) _ _ oT) hzD)
   have hmf:kE.length=ml.length:=by
    have:=congrArg dW wz;rw [ab,ab] at this;exact this
   refine⟨_,rfl,_,rfl,_,rfl,p,b,_,rfl,lI,by rw [ab]; lia,hp,(by rw [ziv uu]; exact uu),(fun q hq=>by have:=uu.rg q hq; lia),fun tl H3 vt s3 h3=>?_⟩;rw [ziv uu] at h3;have h3D:=s3 _ _ xC;refine⟨D,_,rfl,zkb.t (k:=(thr p (zk.map (·.2))).map c8) h3D (by rw [h3,bz]; rfl) #[O],?_⟩;obtain⟨rJ,m1,m2,m3,m4⟩:=zkA wz lN (thr p (zk.map (·.2))) (.bl true);refine⟨_,rJ,_,rfl,?_,zb,m1,m2,#[O],fun x=>?_⟩
   ·refine zaH (s2.trans s3) ?_;unfold hide;rw [if_pos rfl]
   ·rw [m4 x,lV x,take_snoc hzk];constructor
    ·rintro (⟨DV,h1,h2⟩ | e)
     ·exact⟨DV,aP _ h1,h2⟩
     ·exact⟨zk,aG _ (aR.mpr rfl),e⟩
    ·rintro⟨DV,h1,h2⟩;rcases (aL.mp h1) with h1 | h1
     ·exact .inl ⟨DV,h1,h2⟩
     ·rw [aR.mp h1] at h2;exact .inr h2
  ·rintro σ H2 ⟨kE,ml,e6,rfl,s2,xC,wz,lN,DU,lV⟩;rw [ab,xF] at lV DU;rw [aM] at lV;rw [← xF,kW] at DU;have lP:∀ x,x∈ml↔∃ pk∈(chs (zs.map (·.2)) k).map (·.2),x=thr p pk:=fun x=>by
    rw [lV x,zfd,uS];constructor
    ·rintro⟨zk,h1,h2⟩;exact⟨_,eF h1,h2⟩
    ·rintro⟨pk,h1,h2⟩;obtain⟨zk,h3,rfl⟩:=aq.mp h1;exact⟨zk,h3,h2⟩
   have y6:∀ x∈ml,IsP p k x:=fun x hx=>by
    obtain⟨pk,h1,rfl⟩:=(lP x).mp hx;exact zid hp hP h1
   refine⟨_,rfl,D,k,p,kE,ml,rfl,xC,wz,fun ms hm=>y6 ms hm,k0,#[O],fun r pO oV pd y8 hH=>?_⟩;have hHs:zu H H2:=fun x u e=>s2 _ _ (zaL ((s0.trans s1) _ _ e) (zQ e hD))
   have e1:pO.map (fun q=>V.ref q.1)=(pO.map (·.1)).map V.ref:=by rw [bz]; rfl
   rw [e1];refine q r (pO.map (·.1)) (pO.map (·.2)) _ (hHs.free oV) (hHs.trans (zc oV)) zb ((zaE.of hH).same (zc oV)) (by rw [pd.length_eq]; lia) (zlz #[O] (fun x hx=>y6 x (pd.mem_iff.mp hx)) (pd.nodup_iff.mpr lN) ?_) fun x=>?_
   ·rw [bM];exact y8
   ·rw [pd.mem_iff];exact lP x
def zfP (K:ag):Sp:=fun vs H Q _=>∃ (c tt r:Addr) (p:Int) (k:Nat) (T:Int) (pl:List Int) (rw:List (Option Int)),vs = [.ref c,.ref r,.int T]∧za6 H c tt p k pl∧H r=some (.lst (rw.map mS))∧rw.length=pl.length∧pl.length≤16∧p∈zl∧pl.Nodup∧(∀ x∈pl,0≤x∧x < p)∧(∀ z,some z∈rw→0≤z∧z < p)∧1≤k∧k≤100∧(k:Int)≤T ∧
 ∀ (l:Addr) (rs:List Addr) (qs:List (List Int)) (H':Hp),H l=none→zu H H'→H' l=some (.lst (rs.map V.ref))→zaE H' rs qs→zcO p k qs→(∀ q,q∈qs↔IsP p k q∧T≤(hits p q (hps pl rw):Int))→Q (.ref l) H'
theorem zbK:FnScope ["code","row","t","k","points","first"] ["code","row","t"] (zg zbC):=#[S]
theorem zdJ {fd:FuncData} (T:Txt K mg t) (F:Fun K "all_near" "all_near" zbC t.all_near fd):FnOk P w K mg base CX0 5 t.all_near fd ["code","row","t"] (zfP K):=by
 obtain⟨kZ,kD,kH⟩:=T.f_heard_points;have kM:=zaZ (P:=P) (w:=w) (base:=base) T kD;obtain⟨oh,lL,mq⟩:=T.f_fits;have m5:=zd1 (P:=P) (w:=w) (base:=base) T lL;obtain⟨mL,kX,kY⟩:=T.f_all_through;have lW:=zcp (P:=P) (w:=w) (base:=base) T kX;refine F.ok zbK (fun vs H Q E h=>?_) (fun ly A outer s H vs Q E hr h=>?_)
 ·obtain⟨c,tt,r,p,k,T',pl,rw,rfl,_⟩:=h;rfl
 ·obtain⟨c,tt,r,p,k,T',pl,rw,rfl,hc,mU,nG,hn,hp,lN,kW,rh,k0,k1,h1,q⟩:=h;refine zbb ?_; intro zX;refine⟨_,#[zd,#[zp,3,zbK.nd,#[A],#[zab,#[zbM],#[pvx,0],#[zi]]],#[zd,#[zbq,#[zC,#[zd6],#[pvx,2],#[pvx,3],(zY _)],#[zeS],#[zax]],#[zd,#[zp,4,zbK.nd,#[A],#[zq,kM,(hr.mono #[D]),T.m_heard_points,kD.kp,kH,#[zL],#[za,#[pvx,0],#[ya,#[pvx,1]]]]],#[zd,#[zbq,#[zC,#[zf0],#[pvx,2],#[zz,#[zt],T.len_,bQ,#[ya,#[pvx,4]]],(zY _)],#[zo,#[zI,#[zaT,#[ze]]]],#[zax]],#[zd,#[zp,5,zbK.nd,#[A],#[zbj,zcq,#[pvx,4],#[zb2],#[zbt,#[zn,#[z9],#[zn,#[zb1],#[zz,#[zt],T.len_,bQ,#[ya,#[pvx,4]]],#[pvx,2]],#[pvx,3]]]]],#[zo,#[zI,#[zad,(CompSc.of (N':=["polynomial","code","row","t"]) (ix:=[none,some 0,some 1,some 2]) (zg zbC) ["code","row","t","k","points","first"] rfl rfl #[N]),#[zai],#[zP,#[zq,lW,(hr.mono #[D]),T.m_all_through,kX.kp,kY,#[zL],#[za,#[pvx,0],#[ya,#[pvx,5]]]]],(fun _ _ _ _=>#[zf,0,(show (["polynomial","code","row","t"]:List Str).Nodup from #[N]),#[A]]),(fun _ _ _ _=>#[zbl,#[zC,#[zjG],#[zz,#[zaG,(K)],T.len_,bQ,#[ya,#[zq,m5,(hr.mono #[D]),T.m_fits,lL.kp,mq,#[zL],#[za,#[pvx,1],#[za,#[pvx,2],#[ya,#[pvx,0]]]]]]],#[pvx,3],(zY _)]]),(fun _ _ _ _=>#[pvx,0])]]]]]]]],?_⟩;refine zmF ?_; intro xy vq rN pC oP;have nZ:=ba;have rp:=zm hp;have hR:RowAt K H r pl.length rw:=⟨ky.of mU,nG⟩;have hP:=zdc lN kW rh;have Bz:=zbG pl rw;refine⟨_,rfl,c,_,_,_,rfl,rfl,kF.of hc.1,rfl,?_⟩;refine⟨_,rfl,_,rfl,_,_,rfl,rfl,_,rfl,?_⟩
  ·refine zaP (fun h=>absurd (of_decide_eq_true h) #[O]) (fun _=>?_);refine⟨_,rfl,_,rfl,c,tt,r,p,k,pl,rw,rfl,hc,hR,#[O],fun l bs H1 sW s1 tV hB=>?_⟩;have rO:bs.length=(hps pl rw).length:=hB.length;refine⟨_,rfl,_,rfl,l,_,rfl,.inl (ky.of tV),_,_,rfl,rfl,_,rfl,?_⟩;rw [ab];refine zaP (fun kU=>?_) (fun mQ=>?_)
   ·have kU:=of_decide_eq_true kU;refine⟨bu _,fun z hz=>q z [] [] _ (s1.free hz) (s1.trans (zc hz)) zb .nil ⟨#[M],.nil⟩ fun x=>?_⟩;have:=cb (hit p x) (hps pl rw);constructor
    ·intro h; cases h
    ·rintro⟨_,h⟩;unfold hits at h;lia
   ·have mQ:¬ T' > (bs.length:Int):=fun h=>mQ (decide_eq_true h)
    obtain⟨tn,rfl⟩:∃ tn:Nat,T'=tn:=⟨T'.toNat,#[O]⟩;refine⟨_,rfl,_,rfl,l,_,rfl,.inl (ky.of tV),_,rfl,_,_,rfl,rfl,_,rfl,_,_,rfl,rfl,_,rfl,l,_,rfl,ky.of tV,fun z hz=>?_⟩;have DW:((bs.map V.ref).length:Int) - (tn:Int)+(k:Int)=((bs.length - tn+k:Nat):Int):=by rw [ab]; lia
    rw [DW,zfO,← dq];have v1:=zc (o:=.lst ((bs.take (bs.length - tn+k)).map V.ref)) hz;have hzz:kB H1 z (.lst ((bs.take (bs.length - tn+k)).map V.ref)) z=some (.lst ((bs.take (bs.length - tn+k)).map V.ref)):=zb;have s2:=s1.trans v1;have pB:=(hB.same v1).take (bs.length - tn+k);generalize kB H1 z (.lst ((bs.take (bs.length - tn+k)).map V.ref))=H2 at v1 hzz s2 pB ⊢;have BA:Pts p ((hps pl rw).take (bs.length - tn+k)):=hP.sub (bT _ _);refine⟨_,rfl,_,rfl,c,tt,z,p,k,pl,_,_,rfl,hc.same s2,ky.of hzz,pB,by rw [aD]; lia,hp,BA,k0,k1,fun l2 rs qs H3 rk s3 oQ hT y9 p7 lV=>?_⟩;have Aa:=hT.length;have uv:=s2.trans s3;refine⟨l2,rfl,⟨_,ky.of oQ⟩,zH (n:=rs.length) (fun i ys H'=>zu H3 H'∧∃ us:List Addr,ys=us.map V.ref∧us.length≤i∧zaE H' us ((qs.take i).filter fun x=>decide ((tn:Int)≤(hits p x (hps pl rw):Int)))) ⟨fun _ _ e=>e,[],rfl,af _,.nil⟩ ?_ ?_ ?_ ?_⟩
    ·rintro i ys H4 hi ⟨s4,_⟩;exact⟨_,.ref rs[i],ky.of (s4 _ _ oQ),by rw [ah,aj hi]; rfl⟩
    ·rintro ys H4 ⟨s4,_⟩;exact⟨_,ky.of (s4 _ _ oQ),by rw [ab]; exact af _⟩
    ·rintro zS zT zE i y ys H4 H5 hi ⟨s4,us,rfl,n9,lB⟩ ⟨rfl,hy⟩;obtain⟨rb,rfl,xG⟩:=zK (hy _ (ky.of (s4 _ _ oQ)));obtain⟨qq,sM,lK⟩:=Paired.get hT xG;have tW:=uv.trans s4;refine⟨_,rfl,_,rfl,_,rfl,c,tt,r,rb,p,k,pl,qq,rw,rfl,hc.same tW,tW _ _ mU,nG,s4 _ _ lK,#[O],#[O],kW,#[O],fun fl H6 wG s6 h6=>?_⟩;refine⟨fl,_,rfl,.inl (ky.of h6),_,rfl,_,_,rfl,rfl,_,rfl,?_⟩;have ef:((zaV p pl rw qq pl.length).map V.int).length=hits p qq (hps pl rw):=by rw [ab]; exact zbH nG
     rw [ef];have rF:(qs.take (i+1)).filter (fun x=>decide ((tn:Int)≤(hits p x (hps pl rw):Int)))=(qs.take i).filter (fun x=>decide ((tn:Int)≤(hits p x (hps pl rw):Int)))++[qq].filter (fun x=>decide ((tn:Int)≤(hits p x (hps pl rw):Int))):=by rw [take_snoc sM,cf]
     refine zaP (fun h=>⟨_,rfl,?_,s4.trans s6,us++[rb],by rw [ao]; rfl,by rw [ap]; exact fm n9,?_⟩) (fun h=>⟨s4.trans s6,us,rfl,#[O],?_⟩)
     ·rw [ab]; lia
     ·rw [rF,bR (p:=fun x=>decide ((tn:Int)≤(hits p x (hps pl rw):Int))) h];exact bD (lB.same s6) ((s4.trans s6) _ _ lK)
     ·rw [rF,bS (p:=fun x=>decide ((tn:Int)≤(hits p x (hps pl rw):Int))) h,dU,bE];exact lB.same s6
    ·rintro ys H4 D ⟨s4,us,rfl,n9,lB⟩ hD;rw [Aa,aM] at lB;have tW:=uv.trans s4;refine q D us _ _ (tW.free hD) (tW.trans (zc hD)) zb (lB.same (zc hD)) (p7.filter _) fun x=>?_
     rw [aU,lV x,decide_eq_true_iff];constructor
     ·rintro⟨⟨pk,h1,rfl⟩,h2⟩;exact⟨zid hp BA h1,h2⟩
     ·rintro⟨h1',h2⟩;exact⟨zcN hp hP h1' (t:=tn) #[O] #[O] #[O],h2⟩
def zlZ (p:Int) (kx:List (Int×Int)) (H:Hp):List Addr→List (List Int)→Prop:=Paired fun b q=>∃ r,H b=some (.tup [.int (hits p q kx:Int),.ref r])∧H r=some (.tup (q.map V.int))
theorem zlZ.same {p:Int} {kx:List (Int×Int)} {H H':Hp} (s:zu H H') {bs:List Addr} {qs:List (List Int)} (h:zlZ p kx H bs qs):zlZ p kx H' bs qs:=bA (fun _ _ ⟨r,z1,z2⟩=>⟨r,s _ _ z1,s _ _ z2⟩) h
theorem zkS {p:Int} (hp:p∈zl) {kx pk:List (Int×Int)} (hP:Pts p kx) {k:Nat} (h:pk∈(chs kx k).map (·.2)):k≤hits p (thr p pk) kx:=by
 obtain⟨h1,h2⟩:=zdb.mp h;obtain⟨_,_,h3⟩:=zcK hp (hP.sub h1);unfold hits;have hs:=h1.filter (hit p (thr p pk));rw [i8.mpr (fun a ha=>by unfold hit; exact decide_eq_true (h3 a ha))] at hs;have:=hs.length_le;lia
def zht (K:ag):Sp:=fun vs H Q _=>∃ (c tt r:Addr) (p:Int) (k:Nat) (pl:List Int) (rw:List (Option Int)),vs = [.ref c,.ref r]∧za6 H c tt p k pl∧H r=some (.lst (rw.map mS))∧rw.length=pl.length∧pl.length≤16∧p∈zl∧pl.Nodup∧(∀ x∈pl,0≤x∧x < p)∧(∀ z,some z∈rw→0≤z∧z < p)∧1≤k∧k≤100 ∧
 k≤(hps pl rw).length∧∀ (z l:Addr) (rs:List Addr) (qs:List (List Int)) (M:Nat) (H':Hp),H z=none→H l=none→zu H H'→H' z=some (.tup [.int (M:Int),.ref l])→H' l=some (.lst (rs.map V.ref))→zaE H' rs qs→qs.length≤65536→zcO p k qs→k≤M→(∃ q,IsP p k q∧hits p q (hps pl rw)=M)→(∀ q,IsP p k q→hits p q (hps pl rw)≤M)→(∀ q,q∈qs↔IsP p k q∧hits p q (hps pl rw)=M)→Q (.ref z) H'
theorem zbE:FnScope ["code","row","k","points","counted","most"] ["code","row"] (zg zbf):=#[S]
theorem zhu {fd:FuncData} (T:Txt K mg t) (F:Fun K "nearest" "nearest" zbf t.nearest fd):FnOk P w K mg base CX0 5 t.nearest fd ["code","row"] (zht K):=by
 obtain⟨kZ,kD,kH⟩:=T.f_heard_points;have kM:=zaZ (P:=P) (w:=w) (base:=base) T kD;obtain⟨mL,kX,kY⟩:=T.f_all_through;have lW:=zcp (P:=P) (w:=w) (base:=base) T kX;obtain⟨oh,lL,mq⟩:=T.f_fits;have m5:=zd1 (P:=P) (w:=w) (base:=base) T lL;refine F.ok zbE (fun vs H Q E h=>?_) (fun ly A outer s H vs Q E hr h=>?_)
 ·obtain⟨c,tt,r,p,k,pl,rw,rfl,_⟩:=h;rfl
 ·obtain⟨c,tt,r,p,k,pl,rw,rfl,hc,mU,nG,hn,hp,lN,kW,rh,k0,k1,h1,q⟩:=h;refine zbb ?_; intro zX;refine⟨_,#[zd,#[zp,2,zbE.nd,#[A],#[zab,#[zbM],#[pvx,0],#[zi]]],#[zd,#[zp,3,zbE.nd,#[A],#[zq,kM,(hr.mono #[D]),T.m_heard_points,kD.kp,kH,#[zL],#[za,#[pvx,0],#[ya,#[pvx,1]]]]],#[zd,#[zbq,#[zC,#[zd6],#[zz,#[zt],T.len_,bQ,#[ya,#[pvx,3]]],#[pvx,2],(zY _)],#[zeS],#[zax]],#[zd,#[zat,4,zbE.nd,#[A],(CompSc.of (N':=["polynomial","code","row"]) (ix:=[none,some 0,some 1]) (zg zbf) ["code","row","k","points","counted","most"] rfl rfl #[N]),#[zai],#[zP,#[zq,lW,(hr.mono #[D]),T.m_all_through,kX.kp,kY,#[zL],#[za,#[pvx,0],#[ya,#[pvx,3]]]]],(fun _ _ _ _=>#[zf,0,(show (["polynomial","code","row"]:List Str).Nodup from #[N]),#[A]]),(fun _ _ _ _=>#[zG]),(fun _ _ _ _=>#[zas,#[za,#[zz,#[zaG,(K)],T.len_,bQ,#[ya,#[zq,m5,(hr.mono #[D]),T.m_fits,lL.kp,mq,#[zL],#[za,#[pvx,1],#[za,#[pvx,2],#[ya,#[pvx,0]]]]]]],#[ya,#[pvx,0]]]])],#[zd,#[zp,5,zbE.nd,(cv rfl),#[zz,(@zjj _ rfl),T.max_,boot_max,#[ya,#[zad,(CompSc.of (N':=["many","polynomial"]) (ix:=[none,none]) (zg zbf) ["code","row","k","points","counted","most"] rfl rfl #[N]),#[zbe,#[zN,#[zN,#[zaR]]]],#[zP,#[pvx,4]],(fun _ _ _ _=>#[zaK,(K),2,#[zh,#[zf,0,(show (["many","polynomial"]:List Str).Nodup from #[N]),#[A]],#[zh,#[zf,1,(show (["many","polynomial"]:List Str).Nodup from #[N]),#[A]],#[zJ]]]]),(fun _ _ _ _=>#[zG]),(fun _ _ _ _=>#[pvx,0])]]]],#[zo,#[zI,#[zas,#[za,#[pvx,5],#[ya,#[zad,(CompSc.of (N':=["many","polynomial","most"]) (ix:=[none,none,some 5]) (zg zbf) ["code","row","k","points","counted","most"] rfl rfl #[N]),#[zbe,#[zN,#[zN,#[zaR]]]],#[zP,#[pvx,4]],(fun _ _ _ _=>#[zaK,(K),2,#[zh,#[zf,0,(show (["many","polynomial","most"]:List Str).Nodup from #[N]),#[A]],#[zh,#[zf,1,(show (["many","polynomial","most"]:List Str).Nodup from #[N]),#[A]],#[zJ]]]]),(fun _ _ _ _=>#[zbl,#[zC,#[zeV],#[pvx,0],#[pvx,2],(zY _)]]),(fun _ _ _ _=>#[pvx,1])]]]]]]]]]]],?_⟩;refine zmF ?_; intro xy vq rN pC oP;have nZ:=ba;have rp:=zm hp;have hR:RowAt K H r pl.length rw:=⟨ky.of mU,nG⟩;have hP:=zdc lN kW rh;have Bz:=zbG pl rw;refine⟨_,rfl,c,_,_,_,rfl,rfl,kF.of hc.1,rfl,?_⟩;refine⟨_,rfl,_,rfl,c,tt,r,p,k,pl,rw,rfl,hc,hR,#[O],fun l bs H1 sW s1 tV hB=>?_⟩;have rO:bs.length=(hps pl rw).length:=hB.length;refine⟨_,rfl,l,_,rfl,.inl (ky.of tV),_,rfl,_,_,rfl,rfl,_,rfl,?_⟩;rw [ab];refine zaP (fun h=>absurd (of_decide_eq_true h) #[O]) (fun _=>?_);refine⟨_,rfl,_,rfl,c,tt,l,p,k,pl,_,_,rfl,hc.same s1,ky.of tV,hB,#[O],hp,hP,k0,k1,fun l2 rs qs H3 rk s3 oQ hT y9 p7 lV=>?_⟩;have Aa:=hT.length;have uv:=s1.trans s3;have lA:qs≠[]:=fun e=>by
   have hm:thr p ((hps pl rw).take k)∈qs:=(lV _).mpr ⟨(hps pl rw).take k,zdb.mpr ⟨bT _ _,by rw [aD]; lia⟩,rfl⟩;rw [e] at hm;cases hm
  refine⟨l2,rfl,⟨_,ky.of oQ⟩,zH (n:=rs.length) (fun i ys H'=>zu H3 H'∧∃ us:List Addr,ys=us.map V.ref∧zlZ p (hps pl rw) H' us (qs.take i)) ⟨fun _ _ e=>e,[],rfl,.nil⟩ ?_ ?_ ?_ ?_⟩
  ·rintro i ys H4 hi ⟨s4,_⟩;exact⟨_,.ref rs[i],ky.of (s4 _ _ oQ),by rw [ah,aj hi]; rfl⟩
  ·rintro ys H4 ⟨s4,_⟩;exact⟨_,ky.of (s4 _ _ oQ),by rw [ab]; exact af _⟩
  ·rintro zS zT zE i y ys H4 H5 hi ⟨s4,us,rfl,lB⟩ ⟨rfl,hy⟩;obtain⟨rb,rfl,xG⟩:=zK (hy _ (ky.of (s4 _ _ oQ)));obtain⟨qq,sM,lK⟩:=Paired.get hT xG;have tW:=uv.trans s4;have n9:=lB.length;rw [aD] at n9;refine gY ⟨_,rfl,_,rfl,_,rfl,c,tt,r,rb,p,k,pl,qq,rw,rfl,hc.same tW,tW _ _ mU,nG,s4 _ _ lK,#[O],#[O],kW,#[O],fun fl H6 wG s6 h6=>?_⟩;refine⟨fl,_,rfl,.inl (ky.of h6),_,rfl,by show 2≤sizeLine; lia,fun z hz=>?_⟩;have ef:((zaV p pl rw qq pl.length).map V.int).length=hits p qq (hps pl rw):=by rw [ab]; exact zbH nG
   rw [ef];have s7:=zc (o:=.tup [.int (hits p qq (hps pl rw):Int),.ref rb]) hz;refine⟨by rw [ab]; lia,s4.trans (s6.trans s7),us++[z],by rw [ao]; rfl,?_⟩;rw [take_snoc sM];exact bD (lB.same (s6.trans s7)) ⟨rb,zb,(s4.trans (s6.trans s7)) _ _ lK⟩
  ·rintro ys H4 D ⟨s4,us,rfl,lB⟩ hD;rw [Aa,aM] at lB;have v5:=zc (o:=.lst (us.map V.ref)) hD;have xH:kB H4 D (.lst (us.map V.ref)) D=some (.lst (us.map V.ref)):=zb;have pF:=lB.same v5;have Br:=(uv.trans s4).trans v5;generalize kB H4 D (.lst (us.map V.ref))=H5 at v5 xH pF Br ⊢;have BB:=pF.length;refine⟨_,rfl,D,rfl,⟨_,ky.of xH⟩,zH (n:=us.length) (fun i ys H'=>H'=H5∧ys=((qs.take i).map fun x=>(hits p x (hps pl rw):Int)).map V.int) ⟨rfl,rfl⟩ ?_ ?_ ?_ ?_⟩
   ·rintro i ys H' hi ⟨rfl,_⟩;exact⟨_,.ref us[i],ky.of xH,by rw [ah,aj hi]; rfl⟩
   ·rintro ys H' ⟨rfl,_⟩;exact⟨_,ky.of xH,by rw [ab]; exact af _⟩
   ·rintro zS zT zE i y ys H' H6 hi ⟨rfl,rfl⟩ ⟨rfl,hy⟩;obtain⟨b,rfl,hb⟩:=zK (hy _ (ky.of xH));obtain⟨qq,sM,rb,lK,uT⟩:=Paired.get pF hb;refine gY2 (kF.of lK) ⟨_,rfl,?_,rfl,?_⟩
    ·rw [ab,ab,aD]; lia
    ·rw [take_snoc sM,ao,ao]; rfl
   ·rintro ys H' D2 ⟨rfl,rfl⟩ rS;rw [BB,aM];have v6:=zc (o:=.lst ((qs.map fun x=>(hits p x (hps pl rw):Int)).map V.int)) rS;have h6d:kB H' D2 (.lst ((qs.map fun x=>(hits p x (hps pl rw):Int)).map V.int)) D2=_:=zb;refine⟨D2,_,rfl,ky.of h6d,fun e=>lA (List.map_eq_nil_iff.mp e),fun M hM1 hM2=>?_⟩;have vA:=v6 _ _ xH;have Ab:=pF.same v6;have wL:=Br.trans v6;generalize kB H' D2 (.lst ((qs.map fun x=>(hits p x (hps pl rw):Int)).map V.int))=H6 at v6 h6d vA Ab wL ⊢;obtain⟨qM,hqM,rfl⟩:=aq.mp hM1;obtain⟨pM,hpM,eM⟩:=(lV qM).mp hqM;have hkM:k≤hits p qM (hps pl rw):=by rw [eM]; exact zkS hp hP hpM
    have lP:∀ x,IsP p k x→k≤hits p x (hps pl rw)→x∈qs:=fun x hx hk=>by
     obtain⟨pk,h1,h2⟩:=zcN hp hP (n:=(hps pl rw).length) hx (af k) #[O] hk;rw [aM] at h1;exact (lV x).mpr ⟨pk,h1,h2⟩
    have vC:∀ x,IsP p k x→hits p x (hps pl rw)≤hits p qM (hps pl rw):=fun x hx=>by
     by_cases hk:k≤hits p x (hps pl rw)
     ·have:=hM2 _ (aq.mpr ⟨x,lP x hx hk,rfl⟩);lia
     ·lia
    have DX:IsP p k qM:=p7.1 qM hqM;have hex:∃ x,IsP p k x∧hits p x (hps pl rw)=hits p qM (hps pl rw):=⟨qM,DX,rfl⟩;generalize hits p qM (hps pl rw)=M at hkM vC hex ⊢;refine⟨_,rfl,_,rfl,D,rfl,⟨_,ky.of vA⟩,zH (n:=us.length) (fun i ys H'=>H'=H6∧∃ ws:List Addr,ys=ws.map V.ref∧ws.length≤i∧zaE H6 ws ((qs.take i).filter fun x=>decide (hits p x (hps pl rw)=M))) ⟨rfl,[],rfl,af _,.nil⟩ ?_ ?_ ?_ ?_⟩
    ·rintro i ys H' hi ⟨rfl,_⟩;exact⟨_,.ref us[i],ky.of vA,by rw [ah,aj hi]; rfl⟩
    ·rintro ys H' ⟨rfl,_⟩;exact⟨_,ky.of vA,by rw [ab]; exact af _⟩
    ·rintro zS zT zE i y ys H' H7 hi ⟨rfl,ws,rfl,qQ,p6⟩ ⟨rfl,hy⟩;obtain⟨b,rfl,hb⟩:=zK (hy _ (ky.of vA));obtain⟨qq,sM,rb,lK,uT⟩:=Paired.get Ab hb;have rF:(qs.take (i+1)).filter (fun x=>decide (hits p x (hps pl rw)=M))=(qs.take i).filter (fun x=>decide (hits p x (hps pl rw)=M))++[qq].filter (fun x=>decide (hits p x (hps pl rw)=M)):=by rw [take_snoc sM,cf]
     refine⟨b,_,rfl,kF.of lK,rfl,_,_,rfl,_,_,rfl,rfl,?_⟩;refine⟨_,rfl,_,rfl,?_⟩;refine⟨rfl,_,rfl,?_⟩;have eD:decide (V.int (hits p qq (hps pl rw):Int)=V.int (M:Int))=decide (hits p qq (hps pl rw)=M):=by
      by_cases h:hits p qq (hps pl rw)=M
      ·rw [h]; simp
      ·rw [decide_eq_false h,decide_eq_false fun e=>h (by injection e with e; lia)]
     rw [eD];refine zaP (fun h=>⟨_,rfl,?_,rfl,ws++[rb],by rw [ao]; rfl,by rw [ap]; exact fm qQ,?_⟩) (fun h=>⟨rfl,ws,rfl,#[O],?_⟩)
     ·rw [ab]; lia
     ·rw [rF,bR (p:=fun x=>decide (hits p x (hps pl rw)=M)) h];exact bD p6 uT
     ·rw [rF,bS (p:=fun x=>decide (hits p x (hps pl rw)=M)) h,dU,bE];exact p6
    ·rintro ys H' D3 ⟨rfl,ws,rfl,qQ,p6⟩ xi;rw [BB,aM] at p6;refine⟨by show 2≤sizeLine; lia,fun z hz=>?_⟩;have v7:=zc (o:=.lst (ws.map V.ref)) xi;have h7d:kB H' D3 (.lst (ws.map V.ref)) D3=some (.lst (ws.map V.ref)):=zb;have tU:=p6.same v7;have Ac:=wL.trans v7;generalize kB H' D3 (.lst (ws.map V.ref))=H7 at v7 h7d tU Ac hz ⊢;have v8:=zc (o:=.tup [.int (M:Int),.ref D3]) hz;refine q z D3 ws _ M _ (Ac.free hz) (wL.free xi) (Ac.trans v8) zb (v8 _ _ h7d) (tU.same v8) (aN (cb _ _) y9) (p7.filter _) hkM hex vC fun x=>?_
     rw [aU,decide_eq_true_iff];constructor
     ·rintro⟨h1,h2⟩;exact⟨p7.1 x h1,h2⟩
     ·rintro⟨h1,h2⟩;exact⟨lP x h1 #[O],h2⟩
end
section
variable {p:Int} {k:Nat} {kx:List (Int×Int)} {f:List Int}
def zcU (p:Int) (f:List Int) (kx:List (Int×Int)):List Int:=(kx.filter fun a=>!hit p f a).map (·.1)
theorem zcD (p:Int) (f:List Int) (kx:List (Int×Int)):hits p f kx+(zcU p f kx).length=kx.length:=by
 unfold hits zcU;rw [ab];induction kx with
 | nil=>rfl
 | cons a l ih =>
  cases h:hit p f a
  ·rw [bS (by simp [h]),bR (by simp [h]),br,br];lia
  ·rw [bR h,bS (by simp [h]),br,br];lia
theorem zl0 (hp:p∈zl) (hf:IsP p k f):Good p k (zcU p f kx).length [kx] (zbU p (zcU p f kx)):=by
 have rp:=zm hp;intro q hq;obtain rfl:q=kx:=by simpa using hq
 have hw:=zdg hp (zcU p f q);refine⟨(zcQ f (zbU p (zcU p f q)) (k+(zcU p f q).length) ((zcU p f q).length+1)).map (· % p),⟨by rw [ab]; unfold zcQ; rw [ab,bm],fun c hc=>?_⟩,fun a ha=>?_⟩
 ·obtain⟨d,_,rfl⟩:=aq.mp hc;exact⟨aK _ #[O],aF _ #[O]⟩
 ·refine Cg.eq ?_ (zao #[O] _) (zap #[O] _) (aK _ #[O]) (aF _ #[O]);refine (zdw _).trans ((zhk (by rw [hf.1]; exact af _) (by rw [hw.1]; exact af _)).trans (Cg.trans ?_ (Cg.emod _ _).symm));cases hh:hit p f a
  ·have hz:Cg p (zj p a.1 (zbU p (zcU p f q))) 0:=(zdf _).trans (Cg.of_eq (zcR (aq.mpr ⟨a,aU.mpr ⟨ha,by rw [hh]; rfl⟩,rfl⟩)));exact (hz.mul (Cg.refl p _)).trans ((Cg.of_eq #[O]).trans (hz.mul (Cg.refl p a.2)).symm)
  ·have:zj p a.1 f=a.2:=of_decide_eq_true hh;rw [this];exact Cg.refl _ _
theorem znY (hP:Pts p kx) {a b:Int×Int} (ha:a∈kx) (hb:b∈kx) (e:a.1=b.1):a=b:=by
 obtain⟨i,hi⟩:=bt ha
 (obtain⟨j,hj⟩:=bt hb)
 have h1:(kx.map (·.1))[i]? = some a.1:=by rw [ah,hi]; rfl
 have h2:(kx.map (·.1))[j]? = some b.1:=by rw [ah,hj]; rfl
 have oO:i=j:=(gG (az.mp h1).1 hP.nd).mp (by rw [h1,h2,e]);subst oO;rw [hi] at hj;exact aQ hj
theorem zkT (hp:p∈zl) (hP:Pts p kx) (kU:(zcU p f kx).length < kx.length):∃ i,gl (zbU p (zcU p f kx)) i≠0:=by
 have rp:=zm hp;refine eJ fun xU=>?_
 have lP:∀ i,gl (zbU p (zcU p f kx)) i=0:=fun i=>eJ fun h=>xU ⟨i,h⟩
 have hs:=zcD p f kx;have uN:0 < (kx.filter (hit p f)).length:=by unfold hits at hs; lia
 obtain⟨a,ha⟩:=fP uN;obtain⟨h1,h2⟩:=aU.mp ha;obtain⟨x0,x1,_⟩:=hP.rg a h1;refine zeA hp ⟨x0,x1⟩ (xs:=zcU p f kx) (fun x hx=>?_) ((zdf (zcU p f kx)).symm.trans (zde fun c hc=>?_))
 ·obtain⟨b,hb,rfl⟩:=aq.mp hx;obtain⟨b1,b2⟩:=aU.mp hb;obtain⟨y0,y1,_⟩:=hP.rg b b1;refine⟨y0,y1,fun e=>?_⟩;have mJ:=znY hP b1 h1 e;rw [mJ,h2] at b2;cases b2
 ·obtain⟨j,hj⟩:=bt hc;have:=lP j;rw [zbB hj] at this;exact Cg.of_eq this
theorem ziw (hp:p∈zl) (hP:Pts p kx) (hf:IsP p k f) (hk:1≤k) (hh:kx.length+k≤2*hits p f kx) {e:Nat} {left right:List Int} (L:LocOk p k [kx] e left [right]):e≤(zcU p f kx).length:=by
 have hs:=zcD p f kx;refine fo fun kU=>?_
 obtain⟨i,hi⟩:=zkT hp hP (f:=f) #[O];exact hi (L.mn _ kU _ (zdg hp _) (zl0 hp hf) i)
theorem zhv (hp:p∈zl) (hP:Pts p kx) (hf:IsP p k f) (hk:1≤k) (hh:kx.length+k≤2*hits p f kx) {e:Nat} {left right:List Int} (L:LocOk p k [kx] e left [right]) (hr:IsP p (k+e) right) (ur:∀ a∈kx,zj p a.1 right=zj p a.1 left*a.2 % p) (z:Int):zj p z right=zj p z left*zj p z f % p:=by
 have rp:=zm hp;have he:=ziw hp hP hf hk hh L;have hs:=zcD p f kx;have hl:=L.lf;have hC:(zcQ f left (k+e) (e+1)).length=k+e:=by unfold zcQ; rw [ab,bm]
 have hme:∀ z,Cg p (zj p z (zcQ f left (k+e) (e+1))) (zj p z left*zj p z f):=fun z=>zhk (by rw [hf.1]; exact af _) (by rw [hl.1]; exact af _)
 have hD:=zb8 hp (k+e) (a8 (· - ·) right (zcQ f left (k+e) (e+1))) ((kx.filter (hit p f)).map (·.1)) (by rw [dJ,hC,hr.1,Nat.min_self]) (by rw [ab]; unfold hits at hs hh; lia)
  ((dM.map _).nodup hP.nd) (fun x hx=>by
   obtain⟨a,ha,rfl⟩:=aq.mp hx;have:=hP.rg a (aU.mp ha).1;exact⟨this.1,this.2.1⟩) fun x hx=>by
   obtain⟨a,ha,rfl⟩:=aq.mp hx;obtain⟨h1,h2⟩:=aU.mp ha;have h3:=ur a h1;have h4:zj p a.1 f=a.2:=of_decide_eq_true h2;rw [← h4] at h3;refine (zda (by rw [hr.1,hC])).trans ?_;rw [h3];exact ((Cg.emod _ _).sub (hme _)).trans (Cg.of_eq #[O])
 have hz:=zde (z:=z) hD;have h4:=(zda (p:=p) (x:=z) (a:=right) (b:=zcQ f left (k+e) (e+1)) (by rw [hr.1,hC])).symm.trans hz;refine Cg.eq ?_ (zao #[O] _) (zap #[O] _) (aK _ #[O]) (aF _ #[O]);have h5:=h4.add (hme z);exact (Cg.of_eq #[O]).trans (h5.trans ((Cg.of_eq #[O]).trans (Cg.emod _ _).symm))
def zdl (p:Int) (left:List Int) (kx:List (Int×Int)):List (Int×Int):=kx.filter fun a=>decide (zj p a.1 left≠0)
theorem zkU (hp:p∈zl) (hP:Pts p kx) (hf:IsP p k f) (hk:1≤k) (hh:kx.length+k≤2*hits p f kx) {e:Nat} {left right:List Int} (L:LocOk p k [kx] e left [right]) (hr:IsP p (k+e) right) (ur:∀ a∈kx,zj p a.1 right=zj p a.1 left*a.2 % p):∀ a∈zdl p left kx,zj p a.1 f=a.2:=fun a ha=>by
 have rp:=zm hp;obtain⟨h1,h2⟩:=aU.mp ha;have h2:zj p a.1 left≠0:=by simpa using h2
 have h3:=ur a h1;rw [zhv hp hP hf hk hh L hr ur] at h3;have h4:Cg p (zj p a.1 left*zj p a.1 f) (zj p a.1 left*a.2):=Cg.of_mod h3;have h5:Cg p (zj p a.1 left*(zj p a.1 f - a.2)) 0:=by
  have:=h4.sub (Cg.refl p (zj p a.1 left*a.2));exact (Cg.of_eq (by rw [Int.mul_sub])).trans (this.trans (Cg.of_eq #[O]))
 have v0:=zao (x:=a.1) (show 0 < p by lia) left;have v1:=zap (x:=a.1) (show 0 < p by lia) left;have h6:=zds hp (a:=zj p a.1 left) (by rw [ck v0 v1]; exact h2) h5;have h7:Cg p (zj p a.1 f) a.2:=by
  have:=h6.add (Cg.refl p a.2);exact (Cg.of_eq #[O]).trans (this.trans (Cg.of_eq #[O]))
 obtain⟨_,_,y0,y1⟩:=hP.rg a h1;exact h7.eq (zao #[O] _) (zap #[O] _) y0 y1
theorem zjp (hp:p∈zl) (hP:Pts p kx) {e:Nat} {left:List Int} (hl:IsP p (e+1) left) (hnz:∃ i,gl left i≠0):kx.length≤(zdl p left kx).length+e:=by
 have rp:=zm hp;have hs:(zdl p left kx).length+(kx.filter fun a=>decide (zj p a.1 left=0)).length=kx.length:=by
  unfold zdl;clear hP;induction kx with
  | nil=>rfl
  | cons a l ih =>
   by_cases h:zj p a.1 left=0
   ·rw [bS (by simp [h]),bR (by simp [h]),br,br];lia
   ·rw [bR (by simp [h]),bS (by simp [h]),br,br];lia
 refine fo fun kU=>?_
 have h:=zb8 hp (e+1) left ((kx.filter fun a=>decide (zj p a.1 left=0)).map (·.1)) hl.1 (by rw [ab]; lia) ((dM.map _).nodup hP.nd) (fun x hx=>by
  obtain⟨a,ha,rfl⟩:=aq.mp hx;have:=hP.rg a (aU.mp ha).1;exact⟨this.1,this.2.1⟩) fun x hx=>by
  obtain⟨a,ha,rfl⟩:=aq.mp hx;exact Cg.of_eq (by simpa using (aU.mp ha).2)
 obtain⟨i,hi⟩:=hnz;refine hi ?_;by_cases yB:i < left.length
 ·have hm:=aB (zaM yB);obtain⟨c0,c1⟩:=hl.2 _ hm;exact (h _ hm).eq c0 c1 (bP _) #[O]
 ·exact za0 #[O]
theorem zl1 (hp:p∈zl) (hP:Pts p kx) (hf:IsP p k f) (hk:1≤k) (hh:kx.length+k≤2*hits p f kx) {e:Nat} {left right:List Int} (L:LocOk p k [kx] e left [right]) (hr:IsP p (k+e) right) (ur:∀ a∈kx,zj p a.1 right=zj p a.1 left*a.2 % p) :
  k≤(zdl p left kx).length∧f=thr p ((zdl p left kx).take k):=by
 have he:=ziw hp hP hf hk hh L;have hs:=zcD p f kx;have hm:=zjp hp hP L.lf L.nz;have rn:k≤(zdl p left kx).length:=by lia
 refine⟨rn,zfF hp (hP.sub ((bT _ _).trans dM)) (by rw [aD,hf.1]; exact (cF rn).symm) hf.2 fun a ha=>?_⟩;exact zkU hp hP hf hk hh L hr ur a (ci ha)
end
section
variable {P:Program} {w:World} {K:ag} {mg:Str→Option Value} {base:Heap} {t:Adr}
def znZ (p:Int) (k:Nat) (kx:List (Int×Int)) (H':Hp) (v:V):Prop:=(∃ (z:Addr) (q:List Int),v = .ref z∧H' z=some (.tup (q.map V.int))∧IsP p k q∧kx.length+k≤2*hits p q kx∧∀ f,IsP p k f→kx.length+k≤2*hits p f kx→f=q)∨(v = .non∧∀ f,IsP p k f→¬ kx.length+k≤2*hits p f kx)
def zl2 (K:ag):Sp:=fun vs H Q _=>∃ (c tt r:Addr) (p:Int) (k:Nat) (pl:List Int) (rw:List (Option Int)),vs = [.ref c,.ref r]∧za6 H c tt p k pl∧H r=some (.lst (rw.map mS))∧rw.length=pl.length∧pl.length≤16∧p∈zl∧pl.Nodup∧(∀ x∈pl,0≤x∧x < p)∧(∀ z,some z∈rw→0≤z∧z < p)∧1≤k∧k≤100∧∀ v H',zu H H'→znZ p k (hps pl rw) H' v→Q v H'
theorem zbi:FnScope ["code","row","p","k","places","points","e","left","right","right_points","polynomial"] ["code","row"] (zg zeD):=#[S]
theorem zl3 {fd:FuncData} (T:Txt K mg t) (F:Fun K "half" "half" zeD t.half fd):FnOk P w K mg base CX0 7 t.half fd ["code","row"] (zl2 K):=by
 obtain⟨kZ,kD,kH⟩:=T.f_heard_points;have kM:=zaZ (P:=P) (w:=w) (base:=base) T kD;obtain⟨mV,k9,lh⟩:=T.f_locator_of;have mv:=zcJ (P:=P) (w:=w) (base:=base) T k9;obtain⟨lS,kK,kO⟩:=T.f_value_at;have kS:=zbJ (P:=P) (w:=w) (base:=base) T kK;obtain⟨mZ,k8,lp⟩:=T.f_through;have l9:=zcT (P:=P) (w:=w) (base:=base) T k8;obtain⟨oh,lL,mq⟩:=T.f_fits;have m5:=zd1 (P:=P) (w:=w) (base:=base) T lL;refine F.ok zbi (fun vs H Q E h=>?_) (fun ly A outer s H vs Q E hr h=>?_)
 ·obtain⟨c,tt,r,p,k,pl,rw,rfl,_⟩:=h;rfl
 ·obtain⟨c,tt,r,p,k,pl,rw,rfl,hc,mU,nG,hn,hp,lN,kW,rh,k0,k1,q⟩:=h;have q1:∀ (z:Addr) (qq:List Int) (H':Hp),zu H H'→H' z=some (.tup (qq.map V.int))→IsP p k qq→(hps pl rw).length+k≤2*hits p qq (hps pl rw)→(∀ f,IsP p k f→(hps pl rw).length+k≤2*hits p f (hps pl rw)→f=qq)→Q (.ref z) H':=fun z qq H' s a b c d=>q (.ref z) H' s (.inl ⟨z,qq,rfl,a,b,c,d⟩)
  have q2:∀ H',zu H H'→(∀ f,IsP p k f→¬ (hps pl rw).length+k≤2*hits p f (hps pl rw))→Q .non H':=fun H' s a=>q .non H' s (.inr ⟨rfl,a⟩)
  refine zbb ?_; intro zX;refine⟨_,#[zd,#[za5,#[pvx,0],#[zaI,#[zh,#[zf,2,zbi.nd,(cv rfl)],#[zh,#[zf,3,zbi.nd,#[A]],#[zh,#[zf,4,zbi.nd,#[A]],#[zJ]]]]]],#[zd,#[zp,5,zbi.nd,#[A],#[zq,kM,(hr.mono #[D]),T.m_heard_points,kD.kp,kH,#[zL],#[za,#[pvx,0],#[ya,#[pvx,1]]]]],#[zd,#[za5,#[zq,mv,(hr.mono #[D]),T.m_locator_of,k9.kp,lh,#[zL],#[za,#[pvx,0],#[ya,#[pvx,1]]]],#[zaI,#[zh,#[zf,6,zbi.nd,#[A]],#[zh,#[zf,7,zbi.nd,(cv rfl)],#[zh,#[zf,8,zbi.nd,#[A]],#[zJ]]]]]],#[zd,#[zat,9,zbi.nd,#[A],(CompSc.of (N':=["x","y","p","left"]) (ix:=[none,none,some 2,some 7]) (zg zeD) ["code","row","p","k","places","points","e","left","right","right_points","polynomial"] rfl rfl #[N]),#[zbe,#[zN,#[zN,#[zaR]]]],#[zP,#[pvx,5]],(fun _ _ _ _=>#[zaK,(K),2,#[zh,#[zf,0,(show (["x","y","p","left"]:List Str).Nodup from #[N]),#[A]],#[zh,#[zf,1,(show (["x","y","p","left"]:List Str).Nodup from #[N]),#[A]],#[zJ]]]]),(fun _ _ _ _=>#[zbl,#[zC,#[zl8],#[zq,kS,(hr.mono #[D]),T.m_value_at,kK.kp,kO,#[zL],#[za,#[pvx,2],#[za,#[pvx,3],#[ya,#[pvx,0]]]]],#[zi],(zY _)]]),(fun _ _ _ _=>#[zas,#[za,#[pvx,0],#[ya,#[pvx,1]]]])],#[zd,#[zbq,#[zC,#[zd6],#[zz,#[zt],T.len_,bQ,#[ya,#[pvx,9]]],#[pvx,3],(zY _)],#[zo,#[zI,#[zcf]]],#[zax]],#[zd,#[zp,10,zbi.nd,#[A],#[zq,l9,(hr.mono #[D]),T.m_through,k8.kp,lp,#[zL],#[za,#[pvx,2],#[ya,#[zbj,zcq,#[pvx,9],#[zb2],#[zbt,#[pvx,3]]]]]]],#[zd,#[zbq,#[zC,#[zd6],#[zn,#[zag],#[zi],#[zz,#[zt],T.len_,bQ,#[ya,#[zq,m5,(hr.mono #[D]),T.m_fits,lL.kp,mq,#[zL],#[za,#[pvx,0],#[za,#[pvx,1],#[ya,#[pvx,10]]]]]]]],#[zn,#[z9],#[zz,#[zt],T.len_,bQ,#[ya,#[pvx,5]]],#[pvx,3]],(zY _)],#[zo,#[zI,#[zcf]]],#[zax]],#[zo,#[zI,#[pvx,10]]]]]]]]]],?_⟩;refine znF ?_; intro zN8 Ds xy vq rN pC oP;have nZ:=ba;have rp:=zm hp;have p0:0 < p:=by lia
  have hP:=zdc lN kW rh;have Bz:=zbG pl rw;have hR:RowAt K H r pl.length rw:=⟨ky.of mU,nG⟩;refine⟨_,rfl,c,_,rfl,kF.of hc.1,rfl,_,_,rfl,_,_,rfl,_,_,rfl,rfl,?_⟩;refine⟨_,rfl,_,rfl,c,tt,r,p,k,pl,rw,rfl,hc,hR,#[O],fun l bs H1 sW s1 tV hB=>?_⟩;have rO:bs.length=(hps pl rw).length:=hB.length;have rd:=hc.same s1;refine⟨_,rfl,_,rfl,c,tt,r,p,k,pl,rw,rfl,rd,s1 _ _ mU,nG,hn,hp,lN,kW,rh,k0,k1,fun z la rb e left right H2 s2 uQ tP h2r yR L=>?_⟩;obtain⟨tX,Ad⟩:=L.ok (hps pl rw) #[M];have hrt:right=szd (thr p (tmP p left (hps pl rw))) (k+e):=by
   have:=L.rt;simpa using this
  rw [← hrt] at tX Ad;have yn:=fun (f:List Int) (hf:IsP p k f) (hh:(hps pl rw).length+k≤2*hits p f (hps pl rw))=>zl1 hp hP hf k0 hh L tX Ad
  refine⟨z,_,rfl,kF.of uQ,rfl,_,_,rfl,_,_,rfl,_,_,rfl,rfl,?_⟩;have sJ:=s2 _ _ tV;have pB:=hB.same s2;refine⟨_,rfl,l,rfl,⟨_,ky.of sJ⟩,zH (n:=bs.length) (fun i ys H'=>zu H2 H'∧∃ us:List Addr,ys=us.map V.ref∧us.length≤i∧PtB H' us (zdl p left ((hps pl rw).take i))) ⟨fun _ _ e=>e,[],rfl,af _,.nil⟩ ?_ ?_ ?_ ?_⟩
  ·rintro i ys H3 hi ⟨s3,_⟩;exact⟨_,.ref bs[i],ky.of (s3 _ _ sJ),by rw [ah,aj hi]; rfl⟩
  ·rintro ys H3 ⟨s3,_⟩;exact⟨_,ky.of (s3 _ _ sJ),by rw [ab]; exact af _⟩
  ·rintro zS zT zE i y ys H3 H4 hi ⟨s3,us,rfl,n9,lB⟩ ⟨rfl,hy⟩;obtain⟨b,rfl,hb⟩:=zK (hy _ (ky.of (s3 _ _ sJ)));obtain⟨pt,wI,lK⟩:=Paired.get pB hb;obtain⟨x0,x1,_⟩:=hP.rg pt (aB wI);have rF:zdl p left ((hps pl rw).take (i+1))=zdl p left ((hps pl rw).take i)++[pt].filter fun a=>decide (zj p a.1 left≠0):=by
    unfold zdl;rw [take_snoc wI,cf]
   refine⟨b,_,rfl,kF.of (s3 _ _ lK),rfl,_,_,rfl,_,_,rfl,rfl,?_⟩;refine⟨_,rfl,_,rfl,_,rfl,p,pt.1,la,left,rfl,.inr (kF.of (s3 _ _ tP)),p0,#[O],x0,x1,rfl,_,rfl,?_⟩;by_cases h0:zj p pt.1 left=0
   ·refine zaP (fun h=>absurd h (by rw [h0]; simp)) (fun _=>?_);refine⟨s3,us,rfl,#[O],?_⟩;rw [rF,bS (by simp [h0]),dU,bE];exact lB
   ·refine zaP (fun _=>?_) (fun h=>absurd (by simpa using h0) h);refine⟨_,rfl,_,rfl,by show 2≤sizeLine; lia,fun w hw=>?_⟩;refine⟨by rw [ab]; lia,s3.trans (zc hw),us++[w],by rw [ao]; rfl,by rw [ap]; exact fm n9,?_⟩;rw [rF,bR (by simp [h0]),dU];exact bD (lB.same (zc hw)) zb
  ·rintro ys H3 Ae ⟨s3,us,rfl,n9,lB⟩ DY;rw [rO,aM] at lB;have t4:=zc (o:=.lst (us.map V.ref)) DY;have vD:kB H3 Ae (.lst (us.map V.ref)) Ae=some (.lst (us.map V.ref)):=zb;have tS:=lB.same t4;have s4:=(s1.trans s2).trans (s3.trans t4);have xD:=s3.trans t4;generalize kB H3 Ae (.lst (us.map V.ref))=H4 at t4 vD tS s4 xD ⊢;have hrpl:=tS.length;refine⟨_,rfl,Ae,_,rfl,.inl (ky.of vD),_,rfl,_,_,rfl,rfl,_,rfl,?_⟩;rw [ab];refine zaP (fun kU=>?_) (fun mQ=>?_)
   ·have kU:=of_decide_eq_true kU;refine q2 H4 s4 fun f hf hh=>?_
    have:=(yn f hf hh).1;lia
   ·have mQ:¬ (us.length:Int) < (k:Int):=fun h=>mQ (decide_eq_true h)
    refine⟨_,rfl,_,rfl,_,rfl,_,rfl,Ae,_,rfl,ky.of vD,fun w hw=>?_⟩;rw [zfO,← dq];have t5:=zc (o:=.lst ((us.take k).map V.ref)) hw;have vz:kB H4 w (.lst ((us.take k).map V.ref)) w=some (.lst ((us.take k).map V.ref)):=zb;have pF:=(tS.same t5).take k;generalize kB H4 w (.lst ((us.take k).map V.ref))=H5 at t5 vz pF ⊢;have uu:Pts p ((zdl p left (hps pl rw)).take k):=hP.sub ((bT _ _).trans dM);refine⟨p,w,_,rfl,pF.pts vz,by rw [aD]; lia,hp,(by rw [ziv uu]; exact uu),(fun q hq=>by have:=uu.rg q hq; lia),fun pz H6 hpz s6 h6=>?_⟩;rw [ziv uu] at h6;obtain⟨g1,g2,g3⟩:=zcK hp uu;have DZ:IsP p k (thr p ((zdl p left (hps pl rw)).take k)):=⟨by rw [g1,aD]; lia,g2⟩;generalize sM:thr p ((zdl p left (hps pl rw)).take k)=qq at h6 DZ;have sL:=t5.trans s6;have BC:=s4.trans sL;refine⟨_,rfl,_,rfl,_,rfl,c,tt,r,pz,p,k,pl,qq,rw,rfl,hc.same BC,BC _ _ mU,nG,h6,#[O],#[O],kW,#[O],fun fl H7 wG s7 h7=>?_⟩;refine⟨fl,_,rfl,.inl (ky.of h7),_,_,rfl,rfl,.inl ⟨#[D],#[D]⟩,_,rfl,l,_,rfl,.inl (ky.of ((xD.trans (sL.trans s7)) _ _ sJ)),_,rfl,_,_,rfl,rfl,_,_,rfl,rfl,_,rfl,?_⟩;have ef:((zaV p pl rw qq pl.length).map V.int).length=hits p qq (hps pl rw):=by rw [ab]; exact zbH nG
    rw [ef,ab,rO];refine zaP (fun kU=>?_) (fun Af=>?_)
    ·have kU:=of_decide_eq_true kU;refine q2 H7 (BC.trans s7) fun f hf hh=>?_
     have e1:=(yn f hf hh).2;rw [sM] at e1;rw [e1] at hh;lia
    ·have Af:¬ 2*(hits p qq (hps pl rw):Int) < ((hps pl rw).length:Int)+(k:Int):=fun h=>Af (decide_eq_true h)
     refine⟨_,rfl,q1 pz qq H7 (BC.trans s7) (s7 _ _ h6) DZ #[O] fun f hf hh=>?_⟩;rw [← sM];exact (yn f hf hh).2
end
section
variable {P:Program} {w:World} {K:ag} {mg:Str→Option Value} {base:Heap} {t:Adr}
theorem zl4 (i:Int) (ms:List Int):inV (.int i) (ms.map V.int)=decide (i∈ms):=by
 rw [bN,decide_eq_true_iff];unfold inV;rw [gW];constructor
 ·rintro⟨y,hy,e⟩;obtain⟨m,hm,rfl⟩:=aq.mp hy;have:m=i:=by simpa [eqV] using e
  rw [← this];exact hm
 ·intro h;exact⟨.int i,aq.mpr ⟨i,h,rfl⟩,by simp [eqV]⟩
def zfQ (K:ag):Sp:=fun vs H Q _=>∃ (r a:Addr) (rw:List (Option Int)) (ms:List Int),vs = [.ref r,.ref a]∧H r=some (.lst (rw.map mS))∧H a=some (.lst (ms.map V.int))∧rw.length≤1000 ∧
 ∀ (l:Addr) (H':Hp),H l=none→zu H H'→H' l=some (.lst ((zZ ms rw).map mS))→Q (.ref l) H'
theorem zjq {ms:List Int} {rw:List (Option Int)} {i:Nat} {o:Option Int} (h:rw[i]? = some o):(zZ ms rw).take (i+1)=(zZ ms rw).take i++[if (i:Int)∈ms then o else none]:=take_snoc (zfK h)
theorem zgL:FnScope ["row","numbers"] ["row","numbers"] (zg zbD):=#[S]
theorem zgM {fd:FuncData} (T:Txt K mg t) (F:Fun K "heard_at" "heard_at" zbD t.heard_at fd):FnOk P w K mg base CX0 1 t.heard_at fd ["row","numbers"] (zfQ K):=by
 refine F.ok zgL (fun vs H Q E h=>?_) (fun ly A outer s H vs Q E hr h=>?_)
 ·obtain⟨r,a,rw,ms,rfl,_⟩:=h;rfl
 ·obtain⟨r,a,rw,ms,rfl,oV,ha,hn,q⟩:=h;refine zbb ?_; intro zX;refine⟨_,#[zo,#[zI,#[zad,(CompSc.of (N':=["at","entry","numbers"]) (ix:=[none,none,some 1]) (zg zbD) ["row","numbers"] rfl rfl #[N]),#[zbe,#[zN,#[zN,#[zaR]]]],#[zf6,T.enumerate_,#[ya,#[pvx,0]]],(fun _ _ _ _=>#[zaK,(K),2,#[zh,#[zf,0,(show (["at","entry","numbers"]:List Str).Nodup from #[N]),#[A]],#[zh,#[zf,1,(show (["at","entry","numbers"]:List Str).Nodup from #[N]),#[A]],#[zJ]]]]),(fun _ _ _ _=>#[zG]),(fun _ _ _ _=>(@zjw _ _ _ _ _ _ _ _ #[zC,(@zgZ _ (K) rfl),#[pvx,0],#[pvx,2],(by with_unfolding_all rfl)] #[pvx,1] #[zcf]))]]],?_⟩;have nZ:=ba;refine⟨_,rfl,r,_,rfl,ky.of oV,zH (n:=rw.length) (fun i ys H'=>ys=((zZ ms rw).take i).map mS∧zu H H') ⟨rfl,fun _ _ e=>e⟩ ?_ ?_ ?_ ?_⟩
  ·rintro i ys H3 hi ⟨_,s3⟩;exact⟨_,mS rw[i],ky.of (s3 _ _ oV),by rw [ah,aj hi]; rfl⟩
  ·rintro ys H3 ⟨_,s3⟩;exact⟨_,ky.of (s3 _ _ oV),by rw [ab]; exact af _⟩
  ·rintro zS zT zE i xx ys H3 H4 hi ⟨rfl,s3⟩ ⟨T,u,hT,rfl,rfl,hu⟩;obtain⟨o,rfl,ho⟩:=zfy (hu _ (ky.of (s3 _ _ oV)));have s4:=s3.trans (zc (o:=.tup [.int i,mS o]) hT);have hl:(((zZ ms rw).take i).map mS).length < sizeLine:=by rw [ab,aD]; lia
   refine gY2 (kF.of zb) ?_;refine⟨_,rfl,_,rfl,a,_,rfl,.inl (ky.of (s4 _ _ ha)),rfl,?_,_,rfl,?_⟩
   ·rw [cN];intro y hy;obtain⟨m,_,rfl⟩:=aq.mp hy;rfl
   rw [zjq ho,ao,zl4];refine zaP (fun h=>⟨_,rfl,hl,?_,s4⟩) (fun h=>⟨hl,?_,s4⟩)
   ·rw [if_pos (of_decide_eq_true h)]; rfl
   ·rw [if_neg (fun z=>h (decide_eq_true z))]; rfl
  ·rintro ys H3 D ⟨rfl,s3⟩ hD;rw [aT (by rw [zbV]; exact af _)];exact q D _ (s3.free hD) (s3.trans (zc hD)) zb
def SA0 (H:Hp):List Addr→List (List (List Int)×List Int)→Prop:=Paired fun b s=>∃ ka na rs,H b=some (.tup [.ref ka,.ref na])∧H ka=some (.tup (rs.map V.ref))∧zaE H rs s.1∧H na=some (.lst (s.2.map V.int))
theorem SA0.same {H H':Hp} (s:zu H H') {bs:List Addr} {ss:List (List (List Int)×List Int)} (h:SA0 H bs ss):SA0 H' bs ss:=bA (fun _ _ ⟨ka,na,rs,z1,z2,z3,z4⟩=>⟨ka,na,rs,s _ _ z1,s _ _ z2,z3.same s,s _ _ z4⟩) h
def SAt (lg:Addr) (H:Hp):List Addr→List (List (List Int)×List Int)→Prop:=Paired fun b s=>∃ ka na rs,H b=some (.tup [.ref ka,.ref na])∧H ka=some (.tup (rs.map V.ref))∧zaE H rs s.1∧H na=some (.lst (s.2.map V.int))∧na≠lg
theorem SAt.same {lg:Addr} {H H':Hp} (s:zu H H') {bs:List Addr} {ss:List (List (List Int)×List Int)} (h:SAt lg H bs ss):SAt lg H' bs ss:=bA (fun _ _ ⟨ka,na,rs,z1,z2,z3,z4,z5⟩=>⟨ka,na,rs,s _ _ z1,s _ _ z2,z3.same s,s _ _ z4,z5⟩) h
theorem SAt.zero {lg:Addr} {H:Hp} {bs:List Addr} {ss:List (List (List Int)×List Int)} (h:SAt lg H bs ss):SA0 H bs ss:=bA (fun _ _ ⟨ka,na,rs,z1,z2,z3,z4,_⟩=>⟨ka,na,rs,z1,z2,z3,z4⟩) h
theorem zbQ {H:Hp} {a lg:Addr} {xs ys:List V} (h:H a=some (.tup xs)) (hl:H lg=some (.lst ys)):a≠lg:=fun e=>by rw [e,hl] at h; cases h
theorem SAt.hide {lg:Addr} {H:Hp} {bs:List Addr} {ss:List (List (List Int)×List Int)} {xs:List V} (h:SAt lg H bs ss) (hl:H lg=some (.lst xs)):SAt lg (hide H lg) bs ss:=bA (fun _ _ ⟨ka,na,rs,z1,z2,z3,z4,z5⟩=>⟨ka,na,rs,zaL z1 (zbQ z1 hl),zaL z2 (zbQ z2 hl),bA (fun _ _ z=>zaL z (zbQ z hl)) z3,zaL z4 z5,z5⟩) h
theorem SAt.put {lg:Addr} {H:Hp} {bs:List Addr} {ss:List (List (List Int)×List Int)} {xs:List V} {o:HO} (h:SAt lg H bs ss) (hl:H lg=some (.lst xs)):SAt lg (kB H lg o) bs ss:=bA (fun _ _ ⟨ka,na,rs,z1,z2,z3,z4,z5⟩=>⟨ka,na,rs,by rw [zr (zbQ z1 hl)]; exact z1,by rw [zr (zbQ z2 hl)]; exact z2,z3.put hl,by rw [zr z5]; exact z4,z5⟩) h
def zeO (K:ag):Sp:=fun vs H Q _=>∃ (c tt ra:Addr) (p:Int) (k T:Nat) (pl:List Int) (rK:List Addr) (rws:List (List (Option Int))),vs = [.ref c,.ref ra,.int (T:Int)]∧za6 H c tt p k pl∧H ra=some (.lst (rK.map V.ref))∧zji pl.length H rK rws∧rws.length≤10∧pl.length≤16∧p∈zl∧pl.Nodup∧(∀ x∈pl,0≤x∧x < p)∧(∀ rw∈rws,∀ z,some z∈rw→0≤z∧z < p)∧1≤k∧k≤100∧k≤T∧rws≠[] ∧
 ∀ (l:Addr) (us:List Addr) (pP:List (List (List Int))) (H':Hp),H l=none→zu H H'→H' l=some (.lst (us.map V.ref))→us.length≤65536→zhl H' us pP→(pP.Pairwise fun a b=>nn p k a < nn p k b)→(∀ qs,qs∈pP↔JN p k pl T rws qs)→Q (.ref l) H'
theorem zae:FnScope ["code","rows","t","starts","row","longer","known","numbers","heard","polynomial"] ["code","rows","t"] (zg zba):=#[S]
theorem zeP {fd:FuncData} (T:Txt K mg t) (F:Fun K "joint_near" "joint_near" zba t.joint_near fd):FnOk P w K mg base CX0 6 t.joint_near fd ["code","rows","t"] (zeO K):=by
 obtain⟨p8,oC,m6⟩:=T.f_heard_at;have qz:=zgM (P:=P) (w:=w) (base:=base) T oC;obtain⟨nX,lr,lu⟩:=T.f_all_near;have mw:=zdJ (P:=P) (w:=w) (base:=base) T lr;obtain⟨oh,lL,mq⟩:=T.f_fits;have m5:=zd1 (P:=P) (w:=w) (base:=base) T lL;refine F.ok zae (fun vs H Q E h=>?_) (fun ly A outer s H vs Q E hr h=>?_)
 ·obtain⟨c,tt,ra,p,k,T',pl,rK,rws,rfl,_⟩:=h;rfl
 ·obtain⟨c,tt,ra,p,k,T',pl,rK,rws,rfl,hc,mU,hRw,uI,hn,hp,lN,kW,tH,k0,k1,kT,D0,q⟩:=h;refine zbb ?_; intro zX;refine⟨_,#[zd,#[zp,3,zae.nd,#[A],#[zaT,#[ya,#[zas,#[za,#[zas,#[ze]],#[ya,#[zaA,#[zbO],T.list_,boot_list,#[ya,#[zaA,#[zck],T.range_,gH,#[ya,#[zz,#[zt],T.len_,bQ,#[ya,#[zab,#[zbM],#[pvx,0],#[zi]]]]]]]]]]]]]],#[zd,#[zbd,bJ,#[zP,#[pvx,1]],#[zf,4,zae.nd,#[A]],#[zd,#[zp,5,zae.nd,#[A],#[zaT,#[ze]]],#[zd,#[zbd,bJ,#[zP,#[pvx,3]],#[zaI,#[zh,#[zf,6,zae.nd,#[A]],#[zh,#[zf,7,zae.nd,#[A]],#[zJ]]]],#[zd,#[zp,8,zae.nd,#[A],#[zq,qz,(hr.mono #[D]),T.m_heard_at,oC.kp,m6,#[zL],#[za,#[pvx,4],#[ya,#[pvx,7]]]]],#[zo,#[zbd,bJ,#[zP,#[zq,mw,(hr.mono #[D]),T.m_all_near,lr.kp,lu,#[zL],#[za,#[pvx,0],#[za,#[pvx,8],#[ya,#[pvx,2]]]]]],#[zf,9,zae.nd,#[A]],#[zo,#[zdM,#[zf2,cE,dG,dH,#[zcr],#[pvx,5],#[ya,#[zas,#[za,#[zn,#[zil],#[pvx,6],#[zas,#[ya,#[pvx,9]]]],#[ya,#[zq,m5,(hr.mono #[D]),T.m_fits,lL.kp,mq,#[zL],#[za,#[pvx,0],#[za,#[pvx,8],#[ya,#[pvx,9]]]]]]]]]]]]]]]],#[zo,#[zp,3,zae.nd,#[A],#[pvx,5]]]]]],#[zo,#[zI,#[zad,(CompSc.of (N':=["known","numbers"]) (ix:=[none,none]) (zg zba) ["code","rows","t","starts","row","longer","known","numbers","heard","polynomial"] rfl rfl #[N]),#[zbe,#[zN,#[zN,#[zaR]]]],#[zP,#[pvx,3]],(fun _ _ _ _=>#[zaK,(K),2,#[zh,#[zf,0,(show (["known","numbers"]:List Str).Nodup from #[N]),#[A]],#[zh,#[zf,1,(show (["known","numbers"]:List Str).Nodup from #[N]),#[A]],#[zJ]]]]),(fun _ _ _ _=>#[zG]),(fun _ _ _ _=>#[pvx,0])]]]]],?_⟩;refine ziM ?_; intro pC oP;have nZ:=ba;have rp:=zm hp;have rO:rK.length=rws.length:=hRw.length;have h2n:2 ^ pl.length≤65536:=iU #[D] hn;refine⟨by show 0≤sizeLine; lia,fun ka hka=>?_⟩;have u1:=zc (o:=.tup []) hka;have f1:kB H ka (.tup []) ka=some (.tup []):=zb;generalize kB H ka (.tup [])=H1 at u1 f1 ⊢;have rd:=hc.same u1;refine⟨_,rfl,c,_,_,_,rfl,rfl,kF.of rd.1,rfl,tt,_,rfl,.inr (kF.of rd.2),_,rfl,fun r uJ=>⟨r,_,rfl,zb,#[O],by rw [ab]; lia,fun na yo=>?_⟩⟩;have e0:(((pl.map V.int).length:Nat):Int).toNat=pl.length:=by rw [ab]; lia
  rw [e0];have u2:=(zc (o:=.rng 0 (((pl.map V.int).length:Nat):Int)) uJ).trans (zc (o:=.lst ((zaa 0 pl.length).map V.int)) yo);have f2:kB (kB H1 r (.rng 0 (((pl.map V.int).length:Nat):Int))) na (.lst ((zaa 0 pl.length).map V.int)) na=some (.lst ((zaa 0 pl.length).map V.int)):=zb;generalize kB (kB H1 r (.rng 0 (((pl.map V.int).length:Nat):Int))) na (.lst ((zaa 0 pl.length).map V.int))=H2 at u2 f2 ⊢;refine⟨by show 2≤sizeLine; lia,fun b hb=>?_⟩;have u3:=zc (o:=.tup [.ref ka,.ref na]) hb;have f3:kB H2 b (.tup [.ref ka,.ref na]) b=some (.tup [.ref ka,.ref na]):=zb;generalize kB H2 b (.tup [.ref ka,.ref na])=H3 at u3 f3 ⊢;refine⟨by show 1≤sizeLine; lia,fun sa oM=>?_⟩;have u4:=zc (o:=.lst [.ref b]) oM;have f4:kB H3 sa (.lst [.ref b]) sa=some (.lst ([b].map V.ref)):=zb;generalize kB H3 sa (.lst [.ref b])=H4 at u4 f4 ⊢;have s4:=u1.trans (u2.trans (u3.trans u4));have vE:SA0 H4 [b] [([],zaa 0 pl.length)]:=.cons ⟨ka,na,[],u4 _ _ f3,(u2.trans (u3.trans u4)) _ _ f1,.nil,(u3.trans u4) _ _ f2⟩ .nil;refine⟨_,rfl,ra,rfl,⟨_,ky.of (s4 _ _ mU)⟩,zaQ (K:=K) (a:=ra) (xs:=rK.map V.ref) (fun j σ H'=>∃ (sa:Addr) (bs:List Addr) (ss:List (List (List Int)×List Int)) (e4 e5 e6 e7 e8 e9:Option V),σ = [some (.ref c),some (.ref ra),some (.int (T':Int)),some (.ref sa),e4,e5,e6,e7,e8,e9]∧zu H H'∧H' sa=some (.lst (bs.map V.ref))∧SA0 H' bs ss∧(∀ s∈ss,JS p k pl T' (rws.take j) s)∧((ss.map (·.1)).Pairwise fun a b=>nn p k a < nn p k b)∧(∀ qs,JN p k pl T' (rws.take j) qs→qs∈ss.map (·.1))∧ss.length≤65536)
   ⟨sa,[b],[([],zaa 0 pl.length)],none,none,none,none,none,none,rfl,s4,f4,vE,fun s hs=>by rw [aR.mp hs]; exact zlP,List.pairwise_singleton _ _,fun qs hq=>(by have h0:=hq.len; simp at h0; simp [h0]),by show 1≤65536; decide⟩ (fun j σ H' _ ⟨_,_,_,_,_,_,_,_,_,_,s',_⟩=>ky.of (s' _ _ mU)) ?_ ?_⟩
  ·rintro zD zT j x σ H5 hx ⟨sa,bs,ss,e4,e5,e6,e7,e8,e9,rfl,s5,qA,wM,hJ,D4,xr,Ag⟩;obtain⟨rb,rfl,xG⟩:=zK hx;obtain⟨rw,rh,lK,nG⟩:=Paired.get hRw xG;have D5:=tH rw (aB rh);have htk:rws.take (j+1)=rws.take j++[rw]:=take_snoc rh;have lA:rws.take j++[rw]≠[]:=by simp
   refine⟨by show 0≤sizeLine; lia,fun lg hlg=>?_⟩;have D6:=hlg;have u6:=zc (o:=.lst []) hlg;have f6:kB H5 lg (.lst []) lg=some (.lst []):=zb;generalize kB H5 lg (.lst [])=H6 at u6 f6 ⊢;have wN:=wM.length;refine⟨_,rfl,sa,rfl,⟨_,ky.of (u6 _ _ qA)⟩,zaQ (K:=K) (a:=sa) (xs:=bs.map V.ref) (fun i σ H'=>∃ (us:List Addr) (out:List (List (List Int)×List Int)) (e6 e7 e8 e9:Option V),σ = [some (.ref c),some (.ref ra),some (.int (T':Int)),some (.ref sa),some (.ref rb),some (.ref lg),e6,e7,e8,e9]∧zu H5 H'∧H' lg=some (.lst (us.map V.ref))∧SAt lg H' us out∧(∀ s∈out,JS p k pl T' (rws.take j++[rw]) s)∧((out.map (·.1)).Pairwise fun a b=>nn p k a < nn p k b)∧(∀ o∈out,∃ a x,o.1=a++[x]∧a∈(ss.take i).map (·.1))∧∀ s∈ss.take i,∀ q,IsP p k q→T'≤hits p q (hps pl (zZ s.2 rw))→s.1++[q]∈out.map (·.1))
    ⟨[],[],e6,e7,e8,e9,rfl,u6,f6,.nil,fun s hs=>(by cases hs),.nil,fun o ho=>(by cases ho),fun s hs=>(by cases hs)⟩ (fun i σ H' _ ⟨_,_,_,_,_,_,_,s',_⟩=>ky.of (s' _ _ qA)) ?_ ?_⟩
   ·rintro zD zT i x σ H7 hx ⟨us,out,e6,e7,e8,e9,rfl,s7,tY,BD,Ah,BE,hdo,BF⟩;obtain⟨sb,rfl,mj⟩:=zK hx;obtain⟨⟨qs,ms⟩,xI,ka,na,rs,z1,z2,z3,z4⟩:=Paired.get (wM.same s7) mj;have hJi:=hJ _ (aB xI);refine⟨sb,_,rfl,kF.of z1,rfl,_,_,rfl,_,_,rfl,rfl,?_⟩;refine⟨_,rfl,_,rfl,rb,na,rw,ms,rfl,(s5.trans s7) _ _ lK,z4,#[O],fun hd H8 hhd s8 h8=>?_⟩;have s08:=(s5.trans s7).trans s8;refine⟨_,rfl,_,rfl,_,rfl,c,tt,hd,p,k,_,pl,zZ ms rw,rfl,hc.same s08,h8,by rw [zbV]; exact nG,hn,hp,lN,kW,zlO D5,k0,k1,#[O],fun nl ns qN H9 yQ s9 h9 hTN hRN hmN=>?_⟩;have y9:∀ a∈(ss.take i).map (·.1),nn p k a < nn p k qs:=by
     rw [dq];exact zlV D4 (by rw [ah,xI]; rfl)
    have tZ:∀ r,(∀ s∈out++(qN.take r).map (fun q=>(qs++[q],zaV p pl (zZ ms rw) q pl.length)),JS p k pl T' (rws.take j++[rw]) s)∧((out++(qN.take r).map (fun q=>(qs++[q],zaV p pl (zZ ms rw) q pl.length))).map (·.1)).Pairwise (fun a b=>nn p k a < nn p k b)∧∀ o∈out++(qN.take r).map (fun q=>(qs++[q],zaV p pl (zZ ms rw) q pl.length)),∃ a x,o.1=a++[x]∧a∈(ss.take i).map (·.1)++[qs]:=fun r=>by
     have h1:=zlU #[O] (fun q=>zaV p pl (zZ ms rw) q pl.length) BE (fun o ho=>(Ah o ho).isp) hdo y9 (show zcO p k (qN.take r) from ⟨fun q hq=>hRN.1 q (ci hq),hRN.2.sublist (bT r qN)⟩);refine⟨fun s hs=>?_,h1⟩;rcases aL.mp hs with h | h
     ·exact Ah s h
     ·obtain⟨qq,hq,rfl⟩:=aq.mp h;have hm:=(hmN qq).mp (ci hq);exact zlQ hJi nG hm.1 #[O]
    have D7:∀ r,(out++(qN.take r).map (fun q=>(qs++[q],zaV p pl (zZ ms rw) q pl.length))).length≤65536:=fun r=>aN (zgI hp lN kW kT lA (tZ r).1 (zgK (tZ r).2.1)) h2n
    have Ai:=s9 _ _ (s8 _ _ tY);have Bz:hd≠lg:=fun e=>by rw [e,tY] at hhd; cases hhd
    have D9:nl≠lg:=fun e=>by rw [e,s8 _ _ tY] at yQ; cases yQ
    have s59:zu H5 (hide H9 lg):=fun a o e=>zaL ((s7.trans (s8.trans s9)) _ _ e) (fun z=>by rw [z,D6] at e; cases e)
    have Aj:=s5.trans s59;have hSo9:=(BD.same (s8.trans s9)).hide Ai;have h9n:=zaL h9 D9;have h9h:=zaL (s9 _ _ h8) Bz;have Ak:zaE (hide H9 lg) ns qN:=bA (fun _ _ z=>zaL z (zbQ z Ai)) hTN;have z2':=zaL (s9 _ _ (s8 _ _ z2)) (zbQ (s9 _ _ (s8 _ _ z2)) Ai);have z3':zaE (hide H9 lg) rs qs:=bA (fun _ _ z=>zaL z (zbQ z Ai)) ((z3.same s8).same s9);have D':=hTN.length;refine⟨nl,rfl,⟨_,ky.of h9⟩,zaQ (K:=K) (a:=nl) (xs:=ns.map V.ref) (fun r σ H'=>∃ (vs:List Addr) (e9:Option V),σ = [some (.ref c),some (.ref ra),some (.int (T':Int)),some (.ref sa),some (.ref rb),some (.ref lg),some (.ref ka),some (.ref na),some (.ref hd),e9]∧zu (hide H9 lg) H'∧H' lg=some (.lst (vs.map V.ref))∧SAt lg H' vs (out++(qN.take r).map (fun q=>(qs++[q],zaV p pl (zZ ms rw) q pl.length))))
     ⟨us,e9,rfl,zgl _ _,Ai,by rw [dC,eN,bE]; exact BD.same (s8.trans s9)⟩ (fun r σ H' _ ⟨_,_,_,s',_⟩=>ky.of (s' _ _ h9n)) ?_ ?_⟩
    ·rintro zD zT r x σ Ha hx ⟨vs,e9',rfl,uU,wK,Al⟩;obtain⟨rq,rfl,Aa⟩:=zK hx;obtain⟨qq,sM,Am⟩:=Paired.get Ak Aa;have xY:=Al.length;have hcr:=D7 r;have Ea:=z3'.length;have Dq:qs.length=(rws.take j).length:=hJi.len;rw [aD] at Dq;have hjlt:=(az.mp xG).1;refine⟨_,rfl,.inl ⟨rfl,_,ky.of wK⟩,_,rfl,_,rfl,by show 1≤sizeLine; lia,fun x1 xp=>?_⟩;have w1:=zc (o:=.tup [.ref rq]) xp;have g1:kB Ha x1 (.tup [.ref rq]) x1=some (.tup ([rq].map V.ref)):=zb;generalize kB Ha x1 (.tup [.ref rq])=Hb at w1 g1 ⊢;refine⟨ka,x1,_,_,rfl,rfl,w1 _ _ (uU _ _ z2'),g1,by rw [ab,Ea]; show _+1≤sizeLine; lia,#[M],fun x2 Hc w2 g2=>?_⟩;have An:=w1.trans w2;have sHc:=Aj.trans (uU.trans An);refine⟨_,rfl,_,rfl,_,rfl,c,tt,hd,rq,p,k,pl,qq,zZ ms rw,rfl,hc.same sHc,(uU.trans An) _ _ h9h,by rw [zbV]; exact nG,(uU.trans An) _ _ Am,#[O],#[O],kW,#[O],fun fl Hd wG w3 g3=>?_⟩;refine⟨by show 2≤sizeLine; lia,fun pr hpr=>?_⟩;have w4:=zc (o:=.tup [.ref x2,.ref fl]) hpr;have g4:kB Hd pr (.tup [.ref x2,.ref fl]) pr=some (.tup [.ref x2,.ref fl]):=zb;generalize kB Hd pr (.tup [.ref x2,.ref fl])=He at w4 g4 ⊢;have Ao:=An.trans (w3.trans w4);have rX:=Ao _ _ wK;refine⟨lg,_,_,rfl,rfl,rX,by rw [ab]; lia,?_⟩;have Eb:hide H9 lg lg=none:=by unfold hide; rw [if_pos rfl]
     have Ap:fl≠lg:=fun e=>by
      have:=An _ _ wK;rw [← e,wG] at this;cases this
     have hSe:=Al.same Ao;refine⟨vs++[pr],_,rfl,zaH (uU.trans Ao) Eb,by rw [zb,ao]; rfl,?_⟩;rw [take_snoc sM,ao,← bi];refine bD (hSe.put rX) ⟨x2,fl,rs++[rq],?_,?_,?_,?_,Ap⟩
     ·rw [zr (zbQ g4 rX)]; exact g4
     ·have uq:=(w3.trans w4) _ _ g2;rw [zr (zbQ uq rX),uq,ao]
     ·exact zaE.put (bD (z3'.same (uU.trans Ao)) ((uU.trans Ao) _ _ Am)) rX
     ·rw [zr Ap];exact w4 _ _ g3
    ·rintro σ Ha ⟨vs,e9',rfl,uU,wK,Al⟩;rw [ab,D',aM] at Al;have h3:=tZ qN.length;rw [aM] at h3;refine⟨vs,_,_,_,_,_,rfl,s59.trans uU,wK,Al,h3.1,h3.2.1,?_,?_⟩
     ·rw [take_snoc xI,ao];exact h3.2.2
     ·rw [take_snoc xI];intro s hs q hq hh;rw [ao,aL];rcases aL.mp hs with hs | hs
      ·exact .inl (BF s hs q hq hh)
      ·rw [aR.mp hs] at hh ⊢;exact .inr (aq.mpr ⟨_,aq.mpr ⟨q,(hmN q).mpr ⟨hq,by have:T'≤hits p q (hps pl (zZ ms rw)):=hh; lia⟩,rfl⟩,rfl⟩)
   ·rintro σ H7 ⟨us,out,e6,e7,e8,e9,rfl,s7,tY,BD,Ah,BE,hdo,BF⟩;refine⟨_,rfl,?_⟩;refine⟨lg,us,out,_,_,_,_,_,_,rfl,s5.trans s7,tY,BD.zero,by rw [htk]; exact Ah,BE,?_,aN (zgI hp lN kW kT lA Ah (zgK BE)) h2n⟩;rw [htk];rw [ab,wN,aM] at BF;exact znd nG hJ xr BF
  ·rintro σ H5 ⟨sa,bs,ss,e4,e5,e6,e7,e8,e9,rfl,s5,qA,wM,hJ,D4,xr,Ag⟩;rw [ab,rO,aM] at hJ xr;have wN:=wM.length;refine⟨_,rfl,sa,rfl,⟨_,ky.of qA⟩,zH (n:=bs.length) (fun i ys H'=>H'=H5∧∃ us:List Addr,ys=us.map V.ref∧us.length=i∧zhl H5 us ((ss.take i).map (·.1))) ⟨rfl,[],rfl,rfl,.nil⟩ ?_ ?_ ?_ ?_⟩
   ·rintro i ys H6 hi ⟨rfl,_⟩;exact⟨_,.ref bs[i],ky.of qA,by rw [ah,aj hi]; rfl⟩
   ·rintro ys H6 ⟨rfl,_⟩;exact⟨_,ky.of qA,by rw [ab]; exact af _⟩
   ·rintro zS zT zE i x ys H6 H7 hi ⟨rfl,us,rfl,n9,BG⟩ ⟨rfl,hx⟩;obtain⟨sb,rfl,mj⟩:=zK (hx _ (ky.of qA));obtain⟨⟨qs,ms⟩,xI,ka,na,rs,z1,z2,z3,z4⟩:=Paired.get wM mj;refine gY2 (kF.of z1) ?_;exact⟨_,rfl,by rw [ab]; lia,rfl,us++[ka],by rw [ao]; rfl,by rw [ap,n9]; rfl,by rw [take_snoc xI,ao]; exact bD BG ⟨rs,z2,z3⟩⟩
   ·rintro ys H6 D ⟨rfl,us,rfl,n9,BG⟩ hD;rw [wN,aM] at BG;refine q D us _ _ (s5.free hD) (s5.trans (zc hD)) zb #[O] (BG.same (zc hD)) D4 fun qs=>⟨fun h=>?_,xr qs⟩
    obtain⟨⟨rY,ms⟩,hs,e⟩:=aq.mp h;have e:rY=qs:=e;subst e;exact znX (hJ _ hs) D0
end
end My
end
section
namespace My
open PySem PySem.Spec L2 PyProof.Rows Srt
structure Slp (p:Int) (k:Nat) (pl:List Int) (ss:List Int) (f ys:List Int):Prop where
 isp:IsP p k f
 len:ys.length=pl.length
 rg:∀ y∈ys,0≤y∧y < p
 ft:∀ (i:Nat) (x:Int),(i:Int)∉ss→pl[i]? = some x→ys[i]? = some (zj p x f)
def rwS (ys:List Int):List (Option Int):=ys.map some
theorem zfR (ys:List Int):(rwS ys).map mS=ys.map V.int:=by unfold rwS; rw [bz]; rfl
theorem zd2 (ys:List Int):(rwS ys).length=ys.length:=ab _
theorem zhw {p:Int} {ys:List Int} (h:∀ y∈ys,0≤y∧y < p):∀ z,some z∈rwS ys→0≤z∧z < p:=fun z hz=>by
 obtain⟨y,hy,e⟩:=aq.mp hz;cases e;exact h _ hy
section
variable {p:Int} {k:Nat} {pl ss:List Int}
theorem Slp.fit {f ys:List Int} (h:Slp p k pl ss f ys) {i:Nat} (hi:i < pl.length) (hn:(i:Int)∉ss):zaS p pl (rwS ys) f i=true:=by
 have hx:pl[i]? = some pl[i]:=aj hi;rw [zen (o:=some (zj p pl[i] f)) hx (by unfold rwS; rw [ah,h.ft i _ hn hx]; rfl)];exact decide_eq_true rfl
theorem zjr (n:Nat) (ss:List Int):n≤((aJ n).filter fun i:Nat=>decide ((i:Int)∉ss)).length+ss.length:=by
 have h1:((aJ n).filter fun i:Nat=>decide ((i:Int)∈ss)).length≤ss.length:=by
  have hn:(((aJ n).filter fun i:Nat=>decide ((i:Int)∈ss)).map fun i:Nat=>(i:Int)).Nodup:=bM.mpr (d7 (fun {a b} mJ e=>mJ #[O]) (df.filter _));have:=bZ hn (l₂:=ss) fun z hz=>by
   obtain⟨i,hi,rfl⟩:=aq.mp hz;exact of_decide_eq_true (aU.mp hi).2
  rwa [ab] at this
 have h2:(aJ n).length=((aJ n).filter fun i:Nat=>decide ((i:Int)∈ss)).length+((aJ n).filter fun i:Nat=>!decide ((i:Int)∈ss)).length:=by
  induction aJ n with
  | nil=>rfl
  | cons x xs ih =>
   rw [jU,jU,br,ih];cases decide ((x:Int)∈ss) <;> simp <;> lia
 have h3:((aJ n).filter fun i:Nat=>!decide ((i:Int)∈ss))=(aJ n).filter fun i:Nat=>decide ((i:Int)∉ss):=gC fun i _=>by simp
 rw [h3,bm] at h2;lia
theorem zkV {fs yss:List (List Int)} {T:Nat} (hl:fs.length=yss.length) (h:∀ (l:Nat) f ys,fs[l]? = some f→yss[l]? = some ys→Slp p k pl ss f ys) (hT:T+ss.length≤pl.length):JN p k pl T (yss.map rwS) fs:=by
 refine⟨by rw [ab]; exact hl,fun q hq=>?_,?_⟩
 ·obtain⟨l,hq⟩:=bt hq;have oS:=(az.mp hq).1;exact (h l q yss[l] hq (aj #[O])).isp
 ·have:=zjr pl.length ss;have h2:((aJ pl.length).filter fun i:Nat=>decide ((i:Int)∉ss)).length≤(cmn p pl (yss.map rwS) fs).length:=by
   refine bZ (df.filter _) fun i hi=>?_
   obtain⟨h1,h2⟩:=aU.mp hi;refine zbw.mpr ⟨bd.mp h1,fun z hz=>?_⟩;obtain⟨l,hz⟩:=bt hz;rw [dw,ah] at hz;obtain⟨oT,sU⟩:=hz;obtain⟨ys,hy,e⟩:=fj.mp oT;rw [← e];exact (h l _ _ sU hy).fit (bd.mp h1) (of_decide_eq_true h2)
  lia
theorem zkW {rows:List (List (Option Int))} {qs:List (List Int)} {T:Nat} (h:JN p k pl T rows qs):JS p k pl T rows (qs,(cmn p pl rows qs).map fun i:Nat=>(i:Int)):=by
 refine⟨h.len,h.isp,fun i hi=>?_,fun z hz=>?_,?_,fun _=>by rw [ab]; exact h.many⟩
 ·constructor
  ·intro hm l row q h1 h2;obtain⟨j,hj,e⟩:=aq.mp hm;have:j=i:=by lia
   subst this;exact (zbw.mp hj).2 _ (zip_get h1 h2)
  ·intro hm;refine aq.mpr ⟨i,zbw.mpr ⟨hi,fun z hz=>?_⟩,rfl⟩;obtain⟨l,hz⟩:=bt hz;rw [dw] at hz;exact hm l _ _ hz.1 hz.2
 ·obtain⟨j,hj,rfl⟩:=aq.mp hz;exact⟨j,rfl,(zbw.mp hj).1⟩
 ·exact bM.mpr (d7 (fun {a b} mJ e=>mJ #[O]) (zfN _))
theorem zix (hp:p∈zl) (lN:pl.Nodup) (kW:∀ x∈pl,0≤x∧x < p) {T:Nat} (h1:1≤T) {rows:List (List (Option Int))} {qs:List (List Int)} (lA:rows≠[]) (h:JN p k pl T rows qs) {e:Nat} {left:List Int} {lC:List (List Int)} (L:LocOk p k (rows.map (hps pl)) e left lC):e+T≤pl.length:=by
 have:=zkN hp lN kW h1 lA (zkW h) L;rw [ab] at this;have:=h.many;lia
theorem zl5 (hp:p∈zl) {kx:List (Int×Int)} {qs:List (List Int)} (hP:Pts p kx) (hl:kx.length≤16) (hR:zcO p k qs) (h:∀ q∈qs,k≤hits p q kx):qs.length≤65536:=by
 have hn:qs.Nodup:=hR.2.imp fun {a b} mJ e=>by rw [e] at mJ; lia
 have hs:qs ⊆ ((chs kx k).map (·.2)).map (thr p):=fun q hq=>by
  obtain⟨pk,h1,h2⟩:=zcN hp hP (n:=kx.length) (hR.1 q hq) (af k) #[O] (h q hq);rw [aM] at h1;exact aq.mpr ⟨pk,h1,h2.symm⟩
 have:=hn.length_le_of_subset hs;rw [ab,ab] at this;exact aN this (zcv k hl)
theorem Slp.one {f ys:List Int} (h:Slp p k pl ss f ys) {T:Nat} (hT:T+ss.length≤pl.length):JN p k pl T [rwS ys] [f]:=zkV (yss:=[ys]) rfl (fun l f' lJ h1 h2=>by
 cases l with
 | zero=>cases h1; cases h2; exact h
 | succ l=>simp at h1) hT
theorem Slp.hits {f ys:List Int} (h:Slp p k pl ss f ys) {T:Nat} (hT:T+ss.length≤pl.length):T≤hits p f (hps pl (rwS ys)):=(zlW (h.one hT) (l:=0) rfl rfl ((zd2 _).trans h.len)).2
end
end My
end
section
namespace My
open PySem L2 PyProof.Rows
section
variable {P:Program} {w:World} {K:ag} {mg:Str→Option Value} {base:Heap} {t:Adr}
def zfS (K:ag):Sp:=fun vs H Q _=>∃ (a c tt sa:Addr) (ns ss:List Int) (at' p:Int) (k:Nat) (pl:List Int),vs = [.ref a,.int at',.ref c,.ref sa]∧ky K H a (ns.map V.int)∧ns.length≤63∧0≤at'∧at'≤900∧za6 H c tt p k pl∧p∈zl∧(∀ x∈pl,0≤x∧x < p)∧pl.length=16∧k≤5∧H sa=some (.lst (ss.map V.int))∧(∀ y∈ss,0≤y∧y < 16)∧ss.length≤16 ∧
 ∀ (z o r:Addr) (f ys:List Int) (H':Hp),zu H H'→H' z=some (.tup [.ref o,.ref r])→H' o=some (.tup (f.map V.int))→H' r=some (.lst (ys.map V.int))→Slp p k pl ss f ys→Q (.ref z) H'
theorem zak:FnScope ["script","at","code","slips","p","k","places","draws","one","row","number","more"] ["script","at","code","slips"] (zg za4):=#[S]
theorem zfT {fd:FuncData} (T:Txt K mg t) (F:Fun K "_law_slipped" "_law_slipped" za4 t.l_slipped fd):FnOk P w K mg base CX0 3 t.l_slipped fd ["script","at","code","slips"] (zfS K):=by
 obtain⟨mY,k7,lj⟩:=T.f_l_draws;have l8:=zcS (P:=P) (w:=w) (base:=base) T k7;obtain⟨oB,mh,mi⟩:=T.f_l_value;have nH:=zeE (P:=P) (w:=w) (base:=base) T mh;refine F.ok zak (fun vs H Q E h=>?_) (fun ly A outer s H vs Q E hr h=>?_)
 ·obtain⟨a,c,tt,sa,ns,ss,at',p,k,pl,rfl,_⟩:=h;rfl
 ·obtain⟨a,c,tt,sa,ns,ss,at',p,k,pl,rfl,hS,kG,a0,a1,hc,hp,kW,hn,k5,oM,wM,hsl16,q⟩:=h;refine zbb ?_; intro zX;refine⟨_,#[zd,#[za5,#[pvx,2],#[zaI,#[zh,#[zf,4,zak.nd,(cv rfl)],#[zh,#[zf,5,zak.nd,#[A]],#[zh,#[zf,6,zak.nd,#[A]],#[zJ]]]]]],#[zd,#[zp,7,zak.nd,#[A],#[zq,l8,(hr.mono #[D]),T.m_l_draws,k7.kp,lj,#[zL],#[za,#[pvx,0],by exact #[za,#[pvx,1],#[za,#[zi],#[ya,#[zi]]]]]]],#[zd,#[zp,8,zak.nd,(cv rfl),#[zaA,#[zaU],T.tuple_,gM,#[ya,#[zad,(CompSc.of (N':=["draw","p"]) (ix:=[none,some 4]) (zg za4) ["script","at","code","slips","p","k","places","draws","one","row","number","more"] rfl rfl #[N]),#[zai],#[zP,#[zbj,zcq,#[pvx,7],#[zb2],#[zbt,#[pvx,5]]]],(fun _ _ _ _=>#[zf,0,(show (["draw","p"]:List Str).Nodup from #[N]),#[A]]),(fun _ _ _ _=>#[zG]),(fun _ _ _ _=>#[zn,#[zW],#[pvx,0],#[pvx,1]])]]]],#[zd,#[zat,9,zak.nd,#[A],(CompSc.of (N':=["x","p","one"]) (ix:=[none,some 4,some 8]) (zg za4) ["script","at","code","slips","p","k","places","draws","one","row","number","more"] rfl rfl #[N]),#[zai],(@zjB _ _ _ _ #[pvx,6]),(fun _ _ _ _=>#[zf,0,(show (["x","p","one"]:List Str).Nodup from #[N]),#[A]]),(fun _ _ _ _=>#[zG]),(fun _ _ _ _=>#[zq,nH,(hr.mono #[D]),T.m_l_value,mh.kp,mi,#[zL],#[za,#[pvx,1],#[za,#[pvx,2],#[ya,#[pvx,0]]]]])],#[zd,#[zbd,bJ,#[zP,#[pvx,3]],#[zf,10,zak.nd,#[A]],#[zd,#[zp,11,zak.nd,#[A],#[zn,#[z9],#[zi],#[zn,#[zW],#[zab,#[zay],#[pvx,7],#[zn,#[z9],#[zi],#[pvx,10]]],#[zn,#[zb1],#[pvx,4],#[zi]]]]],#[zo,#[za5,#[zn,#[zW],#[zn,#[z9],#[zab,#[zay],#[pvx,9],#[pvx,10]],#[pvx,11]],#[pvx,4]],#[zjx,#[pvx,9],#[pvx,10],set_list]]]]],#[zo,#[zI,#[zas,#[za,#[pvx,8],#[ya,#[pvx,9]]]]]]]]]]],?_⟩;refine zmF ?_; intro xy vq rN pC oP;have nZ:=ba;have rp:=zm hp;have p0:0 < p:=by lia
  refine⟨_,rfl,c,_,rfl,kF.of hc.1,rfl,_,_,rfl,_,_,rfl,_,_,rfl,rfl,?_⟩;refine⟨_,rfl,_,rfl,a,ns,at',24,27720,rfl,hS,kG,a0,#[O],#[D],#[D],#[D],#[D],fun pa ds H1 hpa s1 hd h1p=>?_⟩;have Bl:ds.length=24:=hd.1;have dat:∀ m:Int,0≤m→m < 24→∃ c:Int,atI (ds.map V.int) m=some (.int c):=fun m h0 h1=>zcZ h0 #[O]
  refine⟨_,rfl,_,rfl,_,rfl,pa,_,rfl,ky.of h1p,fun z hz=>?_⟩;have ems:zbk (ds.map V.int) none (some (k:Int))=(ds.take k).map V.int:=by rw [zfO,dq]
  rw [ems];have t2:=zc (o:=.lst ((ds.take k).map V.int)) hz;refine⟨z,rfl,⟨_,ky.of zb⟩,ze8 (K:=K) (xs:=(ds.take k).map V.int) (fs:=(ds.take k).map fun d=>V.int (d % p)) (ky.of zb) (by rw [ab,ab]) (by rw [ab,aD]; lia) ?_ ?_⟩
  ·intro j x y R B hx hy hR;obtain⟨c,_,rfl,rfl⟩:=zgh hx hy;refine gY ?_;exact⟨_,rfl,_,rfl,_,_,rfl,rfl,p0,hR⟩
  intro D hD;have Ec:((ds.take k).map fun d=>V.int (d % p))=((ds.take k).map (· % p)).map V.int:=by rw [bz]; rfl
  rw [Ec];have hf:IsP p k ((ds.take k).map (· % p)):=⟨by rw [ab,aD]; lia,fun x hx=>by
   obtain⟨d,_,rfl⟩:=aq.mp hx;exact⟨aK _ #[O],aF _ p0⟩⟩
  generalize ((ds.take k).map (· % p))=f at hf ⊢;refine⟨D,_,rfl,.inl ⟨ky.of zb,fun po vB=>?_⟩⟩;have s2:=((s1.trans t2).trans (zc (o:=.lst (f.map V.int)) hD)).trans (zc (o:=.tup (f.map V.int)) vB);have pR:=(t2.trans (zc (o:=.lst (f.map V.int)) hD)).trans (zc (o:=.tup (f.map V.int)) vB);have sJ:=pR _ _ h1p;have Ed:kB (kB (kB H1 z (.lst ((ds.take k).map V.int))) D (.lst (f.map V.int))) po (.tup (f.map V.int)) po=some (.tup (f.map V.int)):=zb;generalize kB (kB (kB H1 z (.lst ((ds.take k).map V.int))) D (.lst (f.map V.int))) po (.tup (f.map V.int))=H2 at s2 pR sJ Ed ⊢;have sC:=hc.same s2;refine⟨_,rfl,tt,rfl,⟨_,kF.of sC.2⟩,zH (n:=pl.length) (fun m ys H'=>H'=H2∧ys=((pl.take m).map fun x=>zj p x f).map V.int) ⟨rfl,rfl⟩ ?_ ?_ ?_ ?_⟩
  ·rintro m ys H' hm ⟨rfl,_⟩;exact⟨_,.int pl[m],kF.of sC.2,by rw [ah,aj hm]; rfl⟩
  ·rintro ys H' ⟨rfl,_⟩;exact⟨_,kF.of sC.2,by rw [ab]; exact af _⟩
  ·rintro zS zT zE m y ys H' H3 hm ⟨rfl,rfl⟩ ⟨rfl,hy⟩;obtain⟨x,rfl,hx⟩:=zaj (hy _ (kF.of sC.2));obtain⟨x0,x1⟩:=kW x (aB hx);refine gY ⟨_,rfl,_,rfl,_,rfl,p,x,po,f,rfl,.inr (kF.of Ed),p0,#[O],x0,x1,?_,rfl,?_⟩
   ·rw [ab,ab,aD]; lia
   ·rw [take_snoc hx,ao,ao]; rfl
  rintro ys Ee ro ⟨rfl,rfl⟩ hro;rw [aM];have t3:=zc (o:=.lst ((pl.map fun x=>zj p x f).map V.int)) hro;have Bv:kB Ee ro (.lst ((pl.map fun x=>zj p x f).map V.int)) ro=some (.lst ((pl.map fun x=>zj p x f).map V.int)):=zb;generalize kB Ee ro (.lst ((pl.map fun x=>zj p x f).map V.int))=H3 at t3 Bv ⊢;have h3s:=t3 _ _ (s2 _ _ oM);have hS0:Slp p k pl (ss.take 0) f (pl.map fun x=>zj p x f):=⟨hf,ab _,fun y hy=>by
   obtain⟨x,_,rfl⟩:=aq.mp hy;exact⟨zao p0 _,zap p0 _⟩,fun i x _ hx=>by rw [ah,hx]; rfl⟩
  refine⟨_,rfl,sa,rfl,⟨_,ky.of h3s⟩,zaQ (K:=K) (a:=sa) (xs:=ss.map V.int) (fun j σ H'=>∃ (ys:List Int) (pQ Ef:Option V),σ = [some (.ref a),some (.int at'),some (.ref c),some (.ref sa),some (.int p),some (.int (k:Int)),some (.ref tt),some (.ref pa),some (.ref po),some (.ref ro),pQ,Ef]∧zu Ee H'∧H' ro=some (.lst (ys.map V.int))∧Slp p k pl (ss.take j) f ys) ⟨_,none,none,rfl,t3,Bv,hS0⟩ (fun j σ H' _ ⟨_,_,_,_,s',_⟩=>ky.of (s' _ _ (s2 _ _ oM))) ?_ ?_⟩
  ·rintro zD zT j y σ H4 hy ⟨ys,pQ,Ef,rfl,s4,vD,vE⟩;obtain⟨n,rfl,ux⟩:=zaj hy;obtain⟨n0,n1⟩:=wM n (aB ux);obtain⟨d',ed⟩:=dat (6+n) #[O] #[O];have tJ:=vE.len;obtain⟨v,hv⟩:∃ v,ys[n.toNat]? = some v:=⟨ys[n.toNat]'#[O],#[M]⟩;have hnx:n=((n.toNat:Nat):Int):=by lia
   have hvx:atI (ys.map V.int) n=some (.int v):=by
    rw [hnx];exact zaO (by rw [ah,hv]; rfl)
   refine⟨_,rfl,_,rfl,_,_,rfl,rfl,pa,_,_,_,rfl,rfl,ky.of (s4 _ _ sJ),ed,_,rfl,_,_,rfl,rfl,_,_,rfl,rfl,#[O],_,_,rfl,rfl,?_⟩;refine⟨_,rfl,_,rfl,ro,_,_,.int v,rfl,rfl,ky.of vD,hvx,_,rfl,_,_,rfl,rfl,_,rfl,_,_,rfl,rfl,p0,_,rfl,_,rfl,ro,_,_,n.toNat,rfl,rfl,vD,?_,?_⟩
   ·rw [hnx,bw];exact zhT (by rw [ab]; lia)
   refine⟨ys.set n.toNat ((v+(1+d' % (p - 1))) % p),_,_,rfl,zaH s4 hro,by rw [zb,List.map_set],⟨hf,by rw [fA]; exact tJ,fun y hy=>?_,fun i x hi hx=>?_⟩⟩
   ·rcases gL hy with h | h
    ·exact vE.rg y h
    ·rw [h];exact⟨aK _ #[O],aF _ p0⟩
   ·rw [take_snoc ux,aL,aR] at hi;rw [cT (fun e=>hi (.inr #[O]))];exact vE.ft i x (fun h=>hi (.inl h)) hx
  ·rintro σ H4 ⟨ys,pQ,Ef,rfl,s4,vD,vE⟩;rw [ab,aM] at vE;refine⟨_,rfl,_,rfl,by show 2≤sizeLine; lia,fun z' xj=>?_⟩;have t5:=zc (o:=.tup [.ref po,.ref ro]) xj;exact q z' po ro f ys _ (s2.trans (s4.trans t5)) zb ((s4.trans t5) _ _ Ed) (t5 _ _ vD) vE
end
end My
end
section
namespace My
open PySem PySem.Spec L2 PyProof.Rows Srt
section
variable {K:ag} {H:Hp}
theorem ziy {α:Type} [DecidableEq α] {xs ys:List α}:((aJ (min xs.length ys.length)).all (fun j=>decide (xs[j]? = ys[j]?)) && xs.length == ys.length)=decide (xs=ys):=by
 rw [bN];simp only [cA,cN,bd,decide_eq_true_eq,beq_iff_eq];constructor
 ·rintro⟨h1,h2⟩;refine c9 fun j=>?_
  by_cases hj:j < xs.length
  ·exact h1 j #[O]
  ·rw [bv #[O],bv #[O]]
 ·rintro rfl;exact⟨fun _ _=>rfl,rfl⟩
theorem zl6 {a b:Addr} {q q':List Int} (ha:H a=some (.tup (q.map V.int))) (hb:H b=some (.tup (q'.map V.int))):EqD K H 9 (.ref a) (.ref b) (decide (q=q')):=by
 by_cases mJ:a=b
 ·subst mJ;rw [decide_eq_true (zdh (ha.symm.trans hb))];exact .same
 ·have h:=EqD.tups (K:=K) (d:=8) mJ (kF.of ha) (kF.of hb) zgb;rw [ab,ab,ziy] at h;exact h
theorem zl7 {a b:Addr} {ra rb:List Addr} {qs rY:List (List Int)} (ha:H a=some (.tup (ra.map V.ref))) (hb:H b=some (.tup (rb.map V.ref))) (h1:zaE H ra qs) (h2:zaE H rb rY):EqD K H 10 (.ref a) (.ref b) (decide (qs=rY)):=by
 by_cases mJ:a=b
 ·subst mJ;rw [ha] at hb;have hr:ra=rb:=(gf fun a b z=>by simpa using z).mp (HO.tup.inj (aQ hb));subst hr;have l1:=h1.length;have l2:=h2.length;have:qs=rY:=by
   refine c9 fun j=>?_
   by_cases hj:j < ra.length
   ·obtain⟨q1,z1,z2⟩:=Paired.get h1 (aj hj);obtain⟨q2,w1,w2⟩:=Paired.get h2 (aj hj);rw [z1,w1,zdh (z2.symm.trans w2)]
   ·rw [bv #[O],bv #[O]]
  rw [decide_eq_true this];exact .same
 ·have h:=EqD.tups (K:=K) (d:=9) (e:=fun j=>decide (qs[j]? = rY[j]?)) mJ (kF.of ha) (kF.of hb) fun j x y hx hy=>by
   obtain⟨x,rfl,sS⟩:=zK hx;obtain⟨y,rfl,vP⟩:=zK hy;obtain⟨q1,z1,z2⟩:=Paired.get h1 sS;obtain⟨q2,w1,w2⟩:=Paired.get h2 vP;rw [z1,w1];have:=zl6 (K:=K) z2 w2;rw [show (decide (some q1=some q2))=decide (q1=q2) from decide_eq_decide.mpr ⟨fun e=>aQ e,fun e=>by rw [e]⟩];exact this
  have l1:=h1.length;have l2:=h2.length;rw [ab,ab,l1,l2,ziy] at h;exact h
theorem znf {a b:Addr} {q:List Int} (ha:H a=some (.tup (q.map V.int))) (hb:H b=some (.tup (q.map V.int))):EqD K H 8 (.ref a) (.ref b) true:=by
 by_cases mJ:a=b
 ·subst mJ;exact .same
 ·have h:=EqD.tups (K:=K) (d:=7) (e:=fun _=>true) mJ (kF.of ha) (kF.of hb) fun j x y hx hy=>by
   rw [hx] at hy;cases hy;obtain⟨z,rfl,_⟩:=zaj hx;have h:=EqD.flat (K:=K) (H:=H) (d:=7) (x:=.int z) (y:=.int z) rfl rfl;have e:eqV (.int z) (.int z)=true:=by simp [eqV]
   rw [e] at h;exact h
  have e:((aJ (min (q.map V.int).length (q.map V.int).length)).all (fun _=>true) && (q.map V.int).length == (q.map V.int).length)=true:=by simp
  rw [e] at h;exact h
theorem zn0 {Q:VK} {a b:Addr} {as bs:List Addr} {ps:List (List Int)} (ha:H a=some (.lst (as.map V.ref))) (hb:H b=some (.lst (bs.map V.ref))) (h1:zaE H as ps) (h2:zaE H bs ps) (q:Q (.bl false) H):zmM K true (.ref a) (.ref b) H Q:=by
 have l1:=h1.length;have l2:=h2.length;refine⟨a,b,_,_,rfl,rfl,.inl ⟨ky.of ha,ky.of hb⟩,.inr ⟨by rw [ab,ab]; lia,fun _=>true,fun j x y e1 e2=>?_,?_⟩⟩
 ·obtain⟨x,rfl,hx⟩:=zK e1;obtain⟨y,rfl,hy⟩:=zK e2;obtain⟨r1,z1,z2⟩:=Paired.get h1 hx;obtain⟨r2,w1,w2⟩:=Paired.get h2 hy;rw [z1] at w1;cases w1;exact znf z2 w2
 ·have:(aJ (as.map V.ref).length).all (fun _=>true)=true:=by simp
  rw [this];exact q
theorem zn1 {Q:VK} {a b:Addr} {ms:List Int} (ha:H a=some (.tup (ms.map V.int))) (hb:H b=some (.tup (ms.map V.int))) (q:Q (.bl false) H):zmM K true (.ref a) (.ref b) H Q:=by
 refine⟨a,b,_,_,rfl,rfl,.inr ⟨kF.of ha,kF.of hb⟩,.inr ⟨rfl,fun _=>true,fun j x y e1 e2=>?_,?_⟩⟩
 ·rw [e1] at e2;cases e2;obtain⟨z,rfl,_⟩:=zaj e1;have h:=EqD.flat (K:=K) (H:=H) (d:=8) (x:=.int z) (y:=.int z) rfl rfl;have e:eqV (.int z) (.int z)=true:=by simp [eqV]
  rw [e] at h;exact h
 ·have:(aJ (ms.map V.int).length).all (fun _=>true)=true:=by simp
  rw [this];exact q
noncomputable def isAtN (H:Hp) (qs:List (List Int)) (u:Value):Bool:=@decide (∃ b rs,u = .ref b∧H b=some (.tup (rs.map V.ref))∧zaE H rs qs) (dO _)
theorem zkX {ra:List Addr} {qs rY:List (List Int)} (h1:zaE H ra qs) (h2:zaE H ra rY):qs=rY:=by
 have l1:=h1.length;have l2:=h2.length;refine c9 fun j=>?_
 by_cases hj:j < ra.length
 ·obtain⟨q1,z1,z2⟩:=Paired.get h1 (aj hj);obtain⟨q2,w1,w2⟩:=Paired.get h2 (aj hj);rw [z1,w1,zdh (z2.symm.trans w2)]
 ·rw [bv #[O],bv #[O]]
theorem zgN {qs rY:List (List Int)} {b:Addr} {rs:List Addr} (h:H b=some (.tup (rs.map V.ref))) (hT:zaE H rs rY):isAtN H qs (.ref b)=decide (rY=qs):=by
 unfold isAtN;rw [bN,@decide_eq_true_iff _ (dO _),decide_eq_true_iff];constructor
 ·rintro⟨b',rs',eb,hb,hT'⟩;cases eb;rw [h] at hb;have hr:rs=rs':=(gf fun a b z=>by simpa using z).mp (HO.tup.inj (aQ hb));subst hr;exact zkX hT hT'
 ·rintro rfl;exact⟨b,rs,rfl,h,hT⟩
theorem zdm {qs:List (List Int)}:∀ {as:List Addr} {pP:List (List (List Int))} {us:List Value},zhl H as pP→zM (as.map V.ref) us→us.any (isAtN H qs)=decide (qs∈pP)
 | _,_,_,.nil,.nil=>by simp
 | r :: rs,q' :: rY,u :: us,.cons ⟨rr,h1,h2⟩ t,.cons ru tu=>by
  have ih:=zdm (qs:=qs) t tu;cases ru;rw [dP,ih,zgN h1 h2,bN,ij,decide_eq_true_iff,decide_eq_true_iff,decide_eq_true_iff,aC];exact⟨fun z=>z.imp kb id,fun z=>z.imp kb id⟩
end
theorem zjs {X:Cx} {K:ag} (hK:X.K=K) (hu:X.A.units+20 < cLine):OpR X (compareOp .NotIn) (fun x y H Q=>∃ (a l:Addr) (ra as:List Addr) (qs:List (List Int)) (pP:List (List (List Int))),x = .ref a∧y = .ref l∧H a=some (.tup (ra.map V.ref))∧zaE H ra qs∧ky K H l (as.map V.ref)∧zhl H as pP∧Q (.bl (!decide (qs∈pP))) H):=by
 subst hK;intro ku s σ H x y v u Q I rx ry h;obtain⟨a,l,ra,as,qs,pP,rfl,rfl,ha,hta,hl,hT,hQ⟩:=h;cases rx;cases ry;obtain⟨kz,r,pl,hz⟩:=I.list hl;refine jt (isAtN H qs) pl.isList (fun w hw=>?_) ⟨.bl _,H,I,rfl,?_⟩
 ·have hw:w∈kz:=by simpa using hw
  obtain⟨j,hj⟩:=iL.mp hw;obtain⟨tz,oq⟩:=az.mp hj;obtain⟨z,oT,rz⟩:=r.getE (j:=j) tz;obtain⟨b,rfl,hb⟩:=zK oT;obtain⟨q',n5,rb,hH,hTb⟩:=Paired.get hT hb;have rG:kz.toArray[j]=w:=by simpa using oq
  rw [rG] at rz;cases rz;rw [zgN hH hTb];exact (zl7 (K:=X.K) hH ha hTb hta).at I X.A.in1 (.ref b) (.ref a) rfl rfl (by simp only [cP]; lia)
 ·rw [jT,zdm hT r];exact hQ
end My
end
section
namespace PySem
open PyProof.Rows
end PySem
namespace L2
open PySem PySem.Spec PyProof.Rows
theorem zjt {X:Cx} (hc:X.calm=true):zci X (.builtin "min") (fun xs H Q=>∃ (p:Addr) (ns:List Int),xs = [.ref p]∧ky X.K H p (ns.map V.int)∧ns≠[]∧∀ M:Int,M∈ns→(∀ a∈ns,M≤a)→Q (.int M) H):=by
 intro ku s σ H xs us Q I r h;obtain⟨p,ns,rfl,hq,hn,q⟩:=h;obtain⟨u,rfl,rx⟩:=vals1 r;cases rx;obtain⟨kz,rv,pl,hz⟩:=I.list hq;have hi:IntsAre kz ns:=by simpa using intsAre_of rv
 (obtain⟨xs,e⟩:=hi.allInts.items)
 have ui:ns=xs.toList.map (·.1):=by rw [← hi.numsOf,← nums_intItems,← e]
 have hsz:0 < xs.size:=by
  have h3:=fS.mpr hn;rw [ui,ab,aZ] at h3;exact h3
 have hl:=pl.isList;rw [e] at hl;refine min_intList (I.ok.hd hc) hl hsz fun v h' tk hv hk=>?_
 (obtain⟨t,rfl⟩:=intItems_at hv)
 (obtain⟨h1,h2⟩:=argBest_lt (numAt xs) (xs.size - 1))
 refine⟨.int _,H,I.kept hk,⟨_,rfl⟩,q _ ?_ fun a ha=>?_⟩
 ·(rw [ui,jS]; exact getD_mem (by rw [ab,aZ]; lia))
 ·rw [ui] at ha
  (obtain⟨j,hj,rfl⟩:=mem_getD ha)
  (rw [ab,aZ] at hj)
  (rw [← jS]; exact h2 j #[O])
end L2
end
section
namespace L2
open PySem
section
variable {r1 r2 r3 r4 r5 r6 r7 r8 r9 B6 B7 B8 B9 B' Ca r16 r17 r18 r19:TS} {D:Ends} {σ:St} {H:Hp}
theorem zn2 (h:let N19:=r19 D; let N18:=r18 (D.n N19); let N17:=r17 (D.n N18); let N16:=r16 (D.n N17); let N15:=Ca (D.n N16); let N14:=B' (D.n N15); let N13:=B9 (D.n N14); let N12:=B8 (D.n N13); let N11:=B7 (D.n N12); let N10:=B6 (D.n N11); let N9:=r9 (D.n N10); let N8:=r8 (D.n N9); let N7:=r7 (D.n N8); let N6:=r6 (D.n N7); let N5:=r5 (D.n N6); let N4:=r4 (D.n N5); let N3:=r3 (D.n N4); let N2:=r2 (D.n N3); r1 (D.n N2) σ H):(zam r1 (zam r2 (zam r3 (zam r4 (zam r5 (zam r6 (zam r7 (zam r8 (zam r9 (zam B6 (zam B7 (zam B8 (zam B9 (zam B' (zam Ca (zam r16 (zam r17 (zam r18 r19)))))))))))))))))) D σ H:=h
end
end L2
end
section
namespace My
open PySem L2 PyProof.Rows
section
variable {P:Program} {w:World} {K:ag} {mg:Str→Option Value} {base:Heap} {t:Adr}
def SmA (H:Hp):List Addr→List (List Int×List Int)→Prop:=Paired fun z q=>∃ o r,H z=some (.tup [.ref o,.ref r])∧H o=some (.tup (q.1.map V.int))∧H r=some (.lst (q.2.map V.int))
theorem SmA.same {H H':Hp} {zs:List Addr} {ps:List (List Int×List Int)} (h:SmA H zs ps) (s:zu H H'):SmA H' zs ps:=bA (fun _ _ ⟨o,r,h1,h2,h3⟩=>⟨o,r,s _ _ h1,s _ _ h2,s _ _ h3⟩) h
theorem zav:FnScope ["script","code","p","k","places","plan","left","slips","one","row","t","near","counts","most","best","some","rows","mixed","each","unused","many"] ["script"] (zg zbs):=#[S]
theorem zng {fd:FuncData} (T:Txt K mg t) (F:Fun K "law" "law" zbs t.law fd):FnOk P w K mg base CX0 8 t.law fd ["script"] (zfw K):=by
 obtain⟨qB,ph,nJ⟩:=T.f_l_great;have rZ:=zhp (P:=P) (w:=w) (base:=base) T ph;obtain⟨mY,k7,lj⟩:=T.f_l_draws;have l8:=zcS (P:=P) (w:=w) (base:=base) T k7;obtain⟨pG,mM,lT⟩:=T.f_l_slipped;have nY:=zfT (P:=P) (w:=w) (base:=base) T mM;obtain⟨nX,lr,lu⟩:=T.f_all_near;have mw:=zdJ (P:=P) (w:=w) (base:=base) T lr;obtain⟨sd,oD,nk⟩:=T.f_l_fits;have p9:=zjo (P:=P) (w:=w) (base:=base) T oD;obtain⟨qC,pj,nK⟩:=T.f_nearest;have se:=zhu (P:=P) (w:=w) (base:=base) T pj;obtain⟨mV,k9,lh⟩:=T.f_locator_of;have mv:=zcJ (P:=P) (w:=w) (base:=base) T k9;obtain⟨uV,ua,qD⟩:=T.f_half;have wO:=zl3 (P:=P) (w:=w) (base:=base) T ua;obtain⟨mf,kP,kQ⟩:=T.f_joint_locator;have lE:=zbZ (P:=P) (w:=w) (base:=base) T kP;obtain⟨oX,nr,mB⟩:=T.f_joint_near;have pH:=zeP (P:=P) (w:=w) (base:=base) T nr;refine F.ok zav (fun vs H Q E h=>?_) (fun ly A outer s H vs Q E hr h=>?_)
 ·obtain⟨a,ns,rfl,_⟩:=h;rfl
 ·obtain⟨a,ns,rfl,hS,kG,q⟩:=h;have hu:(A.deeper (envOfC (bV "law") (zg zbs) s.heap.objs.size t.law ly)).units+20 < cLine:=by have:=hr.units; lia
  refine zbb ?_; intro zX;refine⟨_,#[zd,#[zp,1,zav.nd,(cv rfl),#[zq,rZ,(hr.mono #[D]),T.m_l_great,ph.kp,nJ,#[zL],#[ya,#[pvx,0]]]],#[zd,#[za5,#[pvx,1],#[zaI,#[zh,#[zf,2,zav.nd,#[A]],#[zh,#[zf,3,zav.nd,#[A]],#[zh,#[zf,4,zav.nd,#[A]],#[zJ]]]]]],#[zd,#[zp,5,zav.nd,(cv rfl),#[zq,l8,(hr.mono #[D]),T.m_l_draws,k7.kp,lj,#[zL],#[za,#[pvx,0],by exact #[za,#[zi],#[za,#[zi],#[ya,#[zi]]]]]]],#[zd,#[zp,6,zav.nd,(cv rfl),#[zaA,#[zbO],T.list_,boot_list,#[ya,#[zaA,#[zck],T.range_,gH,#[ya,#[zi]]]]]],#[zd,#[zp,7,zav.nd,(cv rfl),#[zad,(CompSc.of (N':=["j","left","plan"]) (ix:=[none,some 6,some 5]) (zg zbs) ["script","code","p","k","places","plan","left","slips","one","row","t","near","counts","most","best","some","rows","mixed","each","unused","many"] rfl rfl #[N]),#[zai],#[za3,T.range_,#[ya,#[zn,#[zW],#[zab,#[zay],#[pvx,5],#[zi]],#[zz,(@ziF _ rfl),T.min_,boot_min,#[za,#[zi],#[ya,#[zn,#[zb1],#[zi],#[pvx,3]]]]]]]],(fun _ _ _ _=>#[zf,0,(show (["j","left","plan"]:List Str).Nodup from #[N]),#[A]]),(fun _ _ _ _=>#[zG]),(fun _ _ _ _=>#[zjX,(K),cE,iM,iN,#[zf3],#[pvx,1],#[ya,#[zn,#[zW],#[zab,#[zbn,(K)],#[pvx,2],#[pvx,0]],#[zz,#[zaG,(K)],T.len_,bQ,#[ya,#[pvx,1]]]]]])]],#[zd,#[za5,#[zq,nY,(hr.mono #[D]),T.m_l_slipped,mM.kp,lT,#[zL],#[za,#[pvx,0],by exact #[za,#[zi],#[za,#[pvx,1],#[ya,#[pvx,7]]]]]],#[zaI,#[zh,#[zf,8,zav.nd,#[A]],#[zh,#[zf,9,zav.nd,(cv rfl)],#[zJ]]]]],#[zd,#[zp,10,zav.nd,#[A],#[zn,#[zb1],#[zi],#[zz,#[zt],T.len_,bQ,#[ya,#[pvx,7]]]]],#[zd,#[zp,11,zav.nd,#[A],#[zq,mw,(hr.mono #[D]),T.m_all_near,lr.kp,lu,#[zL],#[za,#[pvx,1],#[za,#[pvx,9],#[ya,#[pvx,10]]]]]],#[zd,#[zat,12,zav.nd,#[A],(CompSc.of (N':=["other","code","row"]) (ix:=[none,some 1,some 9]) (zg zbs) ["script","code","p","k","places","plan","left","slips","one","row","t","near","counts","most","best","some","rows","mixed","each","unused","many"] rfl rfl #[N]),#[zai],#[zP,#[pvx,11]],(fun _ _ _ _=>#[zf,0,(show (["other","code","row"]:List Str).Nodup from #[N]),#[A]]),(fun _ _ _ _=>#[zG]),(fun _ _ _ _=>#[zz,#[zaG,(K)],T.len_,bQ,#[ya,#[zq,p9,(hr.mono #[D]),T.m_l_fits,oD.kp,nk,#[zL],#[za,#[pvx,1],#[za,#[pvx,2],#[ya,#[pvx,0]]]]]]])],#[zd,#[zbq,(@PW.pt _ _ _ #[zhx,#[zC,(zff rfl hu),#[pvx,8],#[pvx,11],(by with_unfolding_all rfl)],#[zfj,#[zC,#[zd6],#[zz,(@zjt _ rfl),T.min_,boot_min,#[ya,#[pvx,12]]],#[pvx,10],(zY _)]]]),#[zo,#[zI,#[zd4]]],#[zax]],#[zd,#[za5,#[zq,se,(hr.mono #[D]),T.m_nearest,pj.kp,nK,#[zL],#[za,#[pvx,1],#[ya,#[pvx,9]]]],#[zaI,#[zh,#[zf,13,zav.nd,#[A]],#[zh,#[zf,14,zav.nd,#[A]],#[zJ]]]]],#[zd,(zhf #[zbq,(@PW.pt _ _ _ #[zhx,#[zC,#[zd6],#[pvx,13],#[pvx,10],(zY _)],#[zfj,(@PW.pt _ _ _ #[zgO,#[zC,#[zeV],#[pvx,13],#[pvx,10],(zY _)],#[zfi,#[zC,#[zjW,hu],#[pvx,14],#[pvx,11],(zY _)]]])]]),#[zo,#[zI,#[zd4]]],#[zax]]),#[zd,(zhf #[zbq,(@PW.pt _ _ _ #[zhx,(@PW.pt _ _ _ #[zgO,#[zC,(@znu _),#[zn,#[zag],#[zi],#[zz,#[zt],T.len_,bQ,#[ya,#[pvx,7]]]],#[zn,#[zb1],#[zi],#[pvx,3]],(zY _)],#[zfi,#[zC,#[zjW,hu],#[zq,wO,(hr.mono #[D]),T.m_half,ua.kp,qD,#[zL],#[za,#[pvx,1],#[ya,#[pvx,9]]]],#[pvx,8],(zY _)]]]),#[zfj,#[zC,#[zf0],#[zab,#[zbM],#[zq,mv,(hr.mono #[D]),T.m_locator_of,k9.kp,lh,#[zL],#[za,#[pvx,1],#[ya,#[pvx,9]]]],#[zi]],#[zz,#[zt],T.len_,bQ,#[ya,#[pvx,7]]],(zY _)]]]),#[zo,#[zI,#[zd4]]],#[zax]]),#[zd,#[zp,15,zav.nd,(cv rfl),#[zad,(CompSc.of (N':=["j","script","code","slips"]) (ix:=[none,some 0,some 1,some 7]) (zg zbs) ["script","code","p","k","places","plan","left","slips","one","row","t","near","counts","most","best","some","rows","mixed","each","unused","many"] rfl rfl #[N]),#[zai],#[za3,T.range_,#[ya,#[zn,#[z9],#[zi],#[zn,#[zW],#[zab,#[zay],#[pvx,5],#[zi]],#[zi]]]]],(fun _ _ _ _=>#[zf,0,(show (["j","script","code","slips"]:List Str).Nodup from #[N]),#[A]]),(fun _ _ _ _=>#[zG]),(fun _ _ _ _=>#[zq,nY,(hr.mono #[D]),T.m_l_slipped,mM.kp,lT,#[zL],#[za,#[pvx,1],by exact #[za,#[zn,#[z9],#[zi],#[pvx,0]],#[za,#[pvx,2],#[ya,#[pvx,3]]]]]])]],#[zd,#[zat,16,zav.nd,#[A],(CompSc.of (N':=["each"]) (ix:=[none]) (zg zbs) ["script","code","p","k","places","plan","left","slips","one","row","t","near","counts","most","best","some","rows","mixed","each","unused","many"] rfl rfl #[N]),#[zai],#[zP,#[pvx,15]],(fun _ _ _ _=>#[zf,0,(show (["each"]:List Str).Nodup from #[N]),#[A]]),(fun _ _ _ _=>#[zG]),(fun _ _ _ _=>#[zab,#[zcY,(K)],#[pvx,0],#[zi]])],#[zd,#[zbq,(@PW.pt _ _ _ #[zhx,#[zC,(zjs rfl hu),#[zaA,#[zaU],T.tuple_,gM,#[ya,#[zad,(CompSc.of (N':=["each"]) (ix:=[none]) (zg zbs) ["script","code","p","k","places","plan","left","slips","one","row","t","near","counts","most","best","some","rows","mixed","each","unused","many"] rfl rfl #[N]),#[zai],#[zP,#[pvx,15]],(fun _ _ _ _=>#[zf,0,(show (["each"]:List Str).Nodup from #[N]),#[A]]),(fun _ _ _ _=>#[zG]),(fun _ _ _ _=>#[zab,#[zcY,(K)],#[pvx,0],#[zi]])]]],#[zq,pH,(hr.mono #[D]),T.m_joint_near,nr.kp,mB,#[zL],#[za,#[pvx,1],#[za,#[pvx,16],#[ya,#[pvx,10]]]]],(by with_unfolding_all rfl)],#[zfj,#[zC,#[zf0],#[zab,#[zbM],#[zq,lE,(hr.mono #[D]),T.m_joint_locator,kP.kp,kQ,#[zL],#[za,#[pvx,1],#[ya,#[pvx,16]]]],#[zi]],#[zz,#[zt],T.len_,bQ,#[ya,#[pvx,7]]],(zY _)]]]),#[zo,#[zI,#[zd4]]],#[zax]],#[zd,#[zat,17,zav.nd,#[A],(CompSc.of (N':=["number","some"]) (ix:=[none,some 15]) (zg zbs) ["script","code","p","k","places","plan","left","slips","one","row","t","near","counts","most","best","some","rows","mixed","each","unused","many"] rfl rfl #[N]),#[zai],#[za3,T.range_,#[ya,#[zi]]],(fun _ _ _ _=>#[zf,0,(show (["number","some"]:List Str).Nodup from #[N]),#[A]]),(fun _ _ _ _=>#[zG]),(fun _ _ _ _=>#[zab,#[zbn,(K)],#[zab,#[zcY,(K)],#[zab,#[zbn,(K)],#[pvx,1],#[zn,#[zW],#[pvx,0],#[zi]]],#[zi]],#[pvx,0]])],#[zd,#[zbd,bJ,#[zP,#[zbj,zcq,#[pvx,15],#[zb2],#[zbt,#[zi]]]],#[zaI,#[zh,#[zf,18,zav.nd,#[A]],#[zh,#[zf,19,zav.nd,#[A]],#[zJ]]]],#[zd,#[zp,20,zav.nd,#[A],#[zz,#[zt],T.len_,bQ,#[ya,#[zq,p9,(hr.mono #[D]),T.m_l_fits,oD.kp,nk,#[zL],#[za,#[pvx,1],#[za,#[pvx,17],#[ya,#[pvx,18]]]]]]]],#[zo,#[zbq,(@PW.pt _ _ _ #[zgO,#[zC,#[zjG],#[pvx,20],#[pvx,3],(zY _)],#[zfi,#[zC,(zff rfl hu),#[pvx,18],#[zq,mw,(hr.mono #[D]),T.m_all_near,lr.kp,lu,#[zL],#[za,#[pvx,1],#[za,#[pvx,17],#[ya,#[pvx,20]]]]],(by with_unfolding_all rfl)]]]),#[zo,#[zI,#[zd4]]],#[zax]]]]],#[zo,#[zI,#[zd4]]]]]]]]]]]]]]]]]]]]],?_⟩;refine zn2 ?_; intro zN19 Eg Eh Ei Ej zN14 zN13 zN12 zN11 Ek zN9 zN8 Ds xy vq rN pC oP;have nZ:=ba;refine⟨_,rfl,a,ns,rfl,hS,kG,fun c tt p k pl H1 rd s1 co hcA=>?_⟩;obtain⟨hp,k3,k5,hn,lN,kW⟩:=co;have rp:=zm hp;have p0:0 < p:=by lia
  refine⟨_,rfl,c,_,rfl,kF.of hcA.1,rfl,_,_,rfl,_,_,rfl,_,_,rfl,rfl,?_⟩;refine⟨_,rfl,a,ns,1,20,27720,rfl,s1.seq hS,kG,#[D],#[D],#[D],#[D],#[D],#[D],fun l ds H2 hl s2 hd tP=>?_⟩;have Bl:ds.length=20:=hd.1;have dat:∀ m:Int,0≤m→m < 20→∃ c:Int,atI (ds.map V.int) m=some (.int c):=fun m h0 h1=>zcZ h0 #[O]
  obtain⟨BH,El⟩:=dat 16 #[D] #[D];obtain⟨Aq,Em⟩:=dat 17 #[D] #[D];refine⟨16,rfl,fun r uJ=>⟨r,16,rfl,zb,#[D],#[D],fun lf xA=>?_⟩⟩;have u3:=(zc (o:=.rng 0 16) uJ).trans (zc (o:=.lst ((zaa 0 (16:Int).toNat).map V.int)) xA);have oQ:=u3 _ _ tP;have xB:kB (kB H2 r (.rng 0 16)) lf (.lst ((zaa 0 (16:Int).toNat).map V.int)) lf=some (.lst ((zaa 0 (16:Int).toNat).map V.int)):=zb;have rP:H2 lf=none:=(zc (o:=.rng 0 16) uJ).free xA;have uP:l≠lf:=zQ tP rP;generalize kB (kB H2 r (.rng 0 16)) lf (.lst ((zaa 0 (16:Int).toNat).map V.int))=H3 at u3 oQ xB ⊢;obtain⟨Bo,Bp⟩:=ze5 16;obtain⟨mm,vd⟩:∃ mm:Int,mm=(if 17 - (k:Int) < 9 then 17 - (k:Int) else 9):=⟨_,rfl⟩;have uk:0 < mm∧mm≤9∧mm≤17 - (k:Int):=by rw [vd]; split <;> lia
  have c0:=aK BH (show mm≠0 by lia);have c1:=aF BH uk.1;obtain⟨m,hm⟩:∃ m:Nat,BH % mm=(m:Int):=⟨(BH % mm).toNat,#[O]⟩;refine⟨_,rfl,l,_,_,_,rfl,rfl,ky.of oQ,El,_,rfl,_,_,rfl,rfl,_,_,rfl,?_⟩;rw [← vd];refine⟨_,_,rfl,rfl,uk.1,?_⟩;refine⟨(m:Int),by rw [← hm],#[O],#[O],zH (n:=m) (fun i ys H'=>∃ xs ls:List Int,ys=xs.map V.int∧xs.length=i∧zu H2 H'∧H' l=some (.lst (ds.map V.int))∧H' lf=some (.lst (ls.map V.int))∧ls.length+i=16∧(xs++ls).Nodup∧∀ y∈xs++ls,0≤y∧y < 16)
   ⟨[],zaa 0 (16:Int).toNat,rfl,rfl,u3,oQ,xB,rfl,by simpa using Bo,by simpa using Bp⟩ (fun i ys H' hi _=>hi) (fun ys H' _=>af _) ?_ ?_⟩
  ·rintro zS zT zE i x ys H4 H5 hi ⟨xs,ls,rfl,tF,s4,rQ,pZ,tK,nd,rg⟩ ⟨rfl,rfl⟩;refine gY ?_;obtain⟨c',ec⟩:=dat (0+(i:Int)) #[O] #[O];have Dx:0 < ls.length:=by lia
   have lm:((ls.map V.int).length:Int)=(ls.length:Int):=by rw [ab]
   have c0:=aK c' (show (ls.length:Int)≠0 by lia);have c1:=aF c' (show (0:Int) < ls.length by lia);obtain⟨y,ey⟩:∃ y,ls[(c' % (ls.length:Int)).toNat]? = some y:=⟨ls[(c' % (ls.length:Int)).toNat]'#[O],#[M]⟩;refine⟨_,rfl,.inl ⟨rfl,_,ky.of pZ⟩,_,rfl,_,rfl,l,_,_,_,rfl,rfl,ky.of rQ,ec,_,rfl,lf,_,rfl,.inl (ky.of pZ),_,_,rfl,rfl,(by rw [lm]; lia),lf,_,_,(c' % (ls.length:Int)).toNat,.int y,rfl,rfl,pZ,?_⟩;rw [lm];refine⟨#[O],#[O],by rw [ab]; exact fh c0 c1,by rw [ah,ey]; rfl,zau (by rw [ab]; lia),xs++[y],ls.eraseIdx (c' % (ls.length:Int)).toNat,by rw [ao]; rfl,by rw [ap,tF]; rfl,zaH s4 rP,by rw [zr uP]; exact rQ,by rw [zb,zdp],?_,zhR ey nd rg⟩;rw [iV];split <;> lia
  rintro ys H4 sa ⟨ss,ls,rfl,Ag,s4,Dv,_,tK,nd,rg⟩ oM;have rs:∀ y∈ss,0≤y∧y < 16:=fun y hy=>rg y (aP _ hy)
  have t5:=zc (o:=.lst (ss.map V.int)) oM;have qA:kB H4 sa (.lst (ss.map V.int)) sa=some (.lst (ss.map V.int)):=zb;have BI:=s4.trans t5;have h5l:=t5 _ _ Dv;generalize kB H4 sa (.lst (ss.map V.int))=H5 at t5 qA h5l BI ⊢;have Aj:=(s1.trans s2).trans BI;have hc5:=hcA.same (s2.trans BI);clear nd rg t5 s4 oQ xB u3 Bo Bp uP rP xA;have hss1:ss.length≤8∧ss.length+k≤16:=by lia
  clear uk c0 c1 hm vd;refine⟨_,rfl,_,rfl,_,rfl,a,c,tt,sa,ns,ss,2,p,k,pl,rfl,Aj.seq hS,kG,#[D],#[D],hc5,hp,kW,hn,k5,qA,rs,#[O],fun z6 o6 r6 f ys H6 s6 h6z h6o h6r S6=>?_⟩;refine⟨z6,_,rfl,kF.of h6z,rfl,_,_,rfl,_,_,rfl,rfl,?_⟩;have wQ:=hc5.same s6;refine⟨_,rfl,sa,_,rfl,.inl (ky.of (s6 _ _ qA)),_,_,rfl,rfl,?_⟩;obtain⟨T,hT⟩:∃ T:Nat,(16:Int) - ((ss.map V.int).length:Int)=(T:Int):=⟨16 - ss.length,by rw [ab]; lia⟩;have AZ:T+ss.length=16:=by rw [ab] at hT; lia
  show zbc 10 (V.int (16 - ((ss.map V.int).length:Int))) [some (.ref a),some (.ref c),some (.int p),some (.int (k:Int)),some (.ref tt),some (.ref l),some (.ref lf),some (.ref sa),some (.ref o6),some (.ref r6),none,none,none,none,none,none,none,none,none,none,none] H6 _;rw [hT];have qZ:1≤k:=by lia
  have vF:k≤100:=by lia
  have oW:pl.length≤16:=by lia
  have BJ:k≤T:=by lia
  have En:T+ss.length≤pl.length:=by lia
  have xJ:H6 r6=some (.lst ((rwS ys).map mS)):=by rw [zfR]; exact h6r
  have tJ:(rwS ys).length=pl.length:=(zd2 ys).trans S6.len;have vw:=zhw S6.rg;have hh:=S6.hits En;refine⟨_,rfl,_,rfl,_,rfl,c,tt,r6,p,k,(T:Int),pl,rwS ys,rfl,wQ,xJ,tJ,oW,hp,lN,kW,vw,qZ,vF,#[O],fun l7 rs7 qs H7 hl7 s7 tY BK Eo Ar=>?_⟩;have Ep:f∈qs:=(Ar f).mpr ⟨S6.isp,#[O]⟩;have y9:=BK.length;have hhp:=zbG pl (rwS ys);have BA:=zdc lN kW vw;have hq65:=zl5 hp BA #[O] Eo fun x hx=>(by have:=((Ar x).mp hx).2; lia)
  refine⟨_,rfl,l7,rfl,⟨_,ky.of tY⟩,zH (n:=qs.length) (fun i lJ H'=>zu H7 H'∧∃ es:List Int,lJ=es.map V.int∧es.length=i∧∀ x∈es,(T:Int)≤x) ⟨fun _ _ e=>e,[],rfl,rfl,fun x hx=>(by cases hx)⟩ ?_ ?_ ?_ ?_⟩
  ·rintro i lJ H8 hi ⟨s8,_⟩;exact⟨_,.ref (rs7[i]'#[O]),ky.of (s8 _ _ tY),by rw [ah,aj #[O]]; rfl⟩
  ·rintro lJ H8 ⟨s8,_⟩;exact⟨_,ky.of (s8 _ _ tY),by rw [ab]; lia⟩
  ·rintro zS zT zE i y lJ H8 H9 hi ⟨s8,es,rfl,rX,sT⟩ ⟨rfl,hy⟩;obtain⟨b,rfl,hb⟩:=zK (hy _ (ky.of (s8 _ _ tY)));obtain⟨q',n5,hqb⟩:=Paired.get BK hb;have nh:=(Ar q').mp (aB n5);refine gY ⟨_,rfl,_,rfl,_,rfl,c,tt,r6,b,p,k,pl,q',rwS ys,rfl,wQ.same (s7.trans s8),(s7.trans s8) _ _ xJ,tJ,s8 _ _ hqb,p0,#[O],kW,#[O],fun z8 Hz xk sz Er=>⟨z8,_,rfl,.inl (ky.of Er),?_⟩⟩;refine⟨by rw [ab]; lia,s8.trans sz,es++[((zaV p pl (rwS ys) q' pl.length).length:Int)],by rw [ab,ao]; rfl,by rw [ap,rX]; rfl,fun x hx=>?_⟩;rcases (aL.mp hx) with hx | hx
   ·exact sT x hx
   ·rw [aR.mp hx,zbH tJ];exact nh.2
  rintro lJ H8 D8 ⟨s8,es,rfl,rX,sT⟩ hD8;have t9:=zc (o:=.lst (es.map V.int)) hD8;have Es:kB H8 D8 (.lst (es.map V.int)) D8=some (.lst (es.map V.int)):=zb;have rV:=s8.trans t9;generalize kB H8 D8 (.lst (es.map V.int))=H9 at t9 Es rV ⊢;show Ek [some (.ref a),some (.ref c),some (.int p),some (.int (k:Int)),some (.ref tt),some (.ref l),some (.ref lf),some (.ref sa),some (.ref o6),some (.ref r6),some (.int (T:Int)),some (.ref l7),some (.ref D8),none,none,none,none,none,none,none,none] H9;have As:=s7.trans rV;have Et:=rV _ _ tY;have Ak:=BK.same rV;refine⟨_,rfl,_,rfl,o6,l7,f,rs7,qs,rfl,rfl,As _ _ h6o,ky.of Et,Ak,?_⟩;refine⟨_,rfl,?_⟩;refine zaP (fun h=>absurd h (by simp [Ep])) (fun _=>?_);have Au:es≠[]:=fun e0=>by
   rw [e0] at rX;exact List.ne_nil_of_mem Ep (fQ rX.symm)
  refine⟨_,rfl,D8,es,rfl,ky.of Es,Au,fun Mn hMn _=>⟨_,rfl,_,_,rfl,rfl,_,rfl,?_⟩⟩;refine zaP (fun h=>absurd (of_decide_eq_true h) (by have:=sT Mn hMn; lia)) (fun _=>?_);have hhk:k≤(hps pl (rwS ys)).length:=aN BJ (aN hh (cb _ _));have hc9:=wQ.same As;refine⟨_,rfl,_,rfl,c,tt,r6,p,k,pl,rwS ys,rfl,hc9,As _ _ xJ,tJ,oW,hp,lN,kW,vw,qZ,vF,hhk,fun z lb rsb bs M H10 hz hlb BL Av Aw wR _ Ax _ _ lP Ay=>?_⟩;refine⟨z,_,rfl,kF.of Av,rfl,_,_,rfl,_,_,rfl,rfl,?_⟩;have hTM:T≤M:=aN hh (lP f S6.isp);refine⟨fun σ' H'=>σ' = [some (.ref a),some (.ref c),some (.int p),some (.int (k:Int)),some (.ref tt),some (.ref l),some (.ref lf),some (.ref sa),some (.ref o6),some (.ref r6),some (.int (T:Int)),some (.ref l7),some (.ref D8),some (.int (M:Int)),some (.ref lb),none,none,none,none,none,none]∧H'=H10,?_,?_⟩
  ·refine⟨_,rfl,_,rfl,_,_,rfl,rfl,_,rfl,?_⟩;refine zaP (fun h=>absurd (of_decide_eq_true h) #[O]) (fun _=>?_);refine⟨_,rfl,_,rfl,rfl,_,rfl,?_⟩;refine zaP (fun hMT=>?_) (fun _=>ziL ⟨rfl,rfl⟩);have eMT:(M:Int)=T:=by simpa using hMT
   have eq:bs=qs:=zif Ax Eo fun x=>(Ay x).trans (Iff.trans ⟨fun h=>⟨h.1,#[O]⟩,fun h=>⟨h.1,by have:=lP x h.1; lia⟩⟩ (Ar x).symm)
   rw [eq] at wR;exact⟨_,rfl,_,rfl,zn0 Aw (BL _ _ Et) wR (Ak.same BL) ⟨_,rfl,ziL ⟨rfl,rfl⟩⟩⟩
  rintro σ' H10 ⟨rfl,rfl⟩;have sf:=As.trans BL;have Az:∀ {e:Nat} {left right:List Int},LocOk p k [hps pl (rwS ys)] e left [right]→e≤ss.length:=fun L=>by
   have:=zix hp lN kW (aN qZ BJ) (rows:=[rwS ys]) (List.cons_ne_nil _ _) (S6.one En) L;lia
  have Eu:∀ (e:Nat) {A B:Prop},e≤ss.length→B→if decide (((ss.map V.int).length:Int) < (e:Int))=true then A else B:=fun e A B h b=>zaP (fun hh=>absurd (of_decide_eq_true hh) (by rw [ab]; lia)) (fun _=>b)
  clear Ay lP Ax wR Aw Av hTM Ar Eo Ak BK Et Es sT rX Au t9 Ep;refine⟨fun σ' H'=>σ' = [some (.ref a),some (.ref c),some (.int p),some (.int (k:Int)),some (.ref tt),some (.ref l),some (.ref lf),some (.ref sa),some (.ref o6),some (.ref r6),some (.int (T:Int)),some (.ref l7),some (.ref D8),some (.int (M:Int)),some (.ref lb),none,none,none,none,none,none]∧zu H6 H',?_,?_⟩
  ·refine⟨_,rfl,sa,_,rfl,.inl (ky.of (sf _ _ (s6 _ _ qA))),_,_,rfl,rfl,.inl ⟨#[D],#[D]⟩,_,rfl,_,_,rfl,rfl,_,_,rfl,rfl,_,rfl,?_⟩;rw [ab];refine zaP (fun hle=>?_) (fun _=>?_)
   ·have hle:=of_decide_eq_true hle;refine⟨_,rfl,_,rfl,c,tt,r6,p,k,pl,rwS ys,rfl,wQ.same sf,sf _ _ xJ,tJ,oW,hp,lN,kW,vw,qZ,vF,fun v H11 sN hv=>?_⟩;have mQ:(hps pl (rwS ys)).length+k≤2*hits p f (hps pl (rwS ys)):=by lia
    rcases hv with ⟨z,qq,rfl,Ew,DZ,hqh,BB⟩ | ⟨rfl,xU⟩
    ·obtain rfl:=BB f S6.isp mQ;refine⟨_,rfl,zn1 Ew ((sf.trans sN) _ _ h6o) ⟨_,rfl,ziL ?_⟩⟩;exact⟨_,rfl,_,rfl,c,tt,r6,p,k,pl,rwS ys,rfl,wQ.same (sf.trans sN),(sf.trans sN) _ _ xJ,tJ,oW,hp,lN,kW,vw,qZ,vF,fun z2 la rb e left right AA pR wU _ _ _ L=>⟨z2,_,_,_,rfl,rfl,kF.of wU,rfl,_,rfl,sa,_,rfl,.inl (ky.of ((sf.trans (sN.trans pR)) _ _ (s6 _ _ qA))),_,_,rfl,rfl,_,rfl,Eu e (Az L) ⟨rfl,sf.trans (sN.trans pR)⟩⟩⟩
    ·exact absurd mQ (xU f S6.isp)
   ·refine ziL ?_;exact⟨_,rfl,_,rfl,c,tt,r6,p,k,pl,rwS ys,rfl,wQ.same sf,sf _ _ xJ,tJ,oW,hp,lN,kW,vw,qZ,vF,fun z2 la rb e left right AA pR wU _ _ _ L=>⟨z2,_,_,_,rfl,rfl,kF.of wU,rfl,_,rfl,sa,_,rfl,.inl (ky.of ((sf.trans pR) _ _ (s6 _ _ qA))),_,_,rfl,rfl,_,rfl,Eu e (Az L) ⟨rfl,sf.trans pR⟩⟩⟩
  rintro σ' H11 ⟨rfl,sN⟩;clear sf As rV s8 s7 BL;have Ex:=BI.trans (s6.trans sN);have AB:=wQ.same sN;have AD:=sN _ _ (s6 _ _ qA);obtain⟨m2,qV⟩:∃ m2:Nat,2+Aq % 3=(m2:Int):=⟨(2+Aq % 3).toNat,by have:=aK Aq (show (3:Int)≠0 by decide); lia⟩;have hm2':2≤m2∧m2≤4:=by have:=aK Aq (show (3:Int)≠0 by decide); have:=aF Aq (show (0:Int) < 3 by decide); lia
  refine⟨_,rfl,l,_,_,_,rfl,rfl,ky.of (sN _ _ (s6 _ _ h5l)),Em,_,_,rfl,rfl,(by show (0:Int) < 3; decide),_,_,rfl,rfl,(m2:Int),by rw [← qV],#[O],#[O],zH (n:=m2) (fun i lJ H'=>zu H11 H'∧∃ (zs:List Addr) (ps:List (List Int×List Int)),lJ=zs.map V.ref∧ps.length=i∧SmA H' zs ps∧∀ q∈ps,Slp p k pl ss q.1 q.2) ⟨fun _ _ e=>e,[],[],rfl,rfl,.nil,fun q hq=>(by cases hq)⟩ (fun i lJ H' hi _=>hi) (fun lJ H' _=>af _) ?_ ?_⟩
  ·rintro zS zT zE i x lJ AA BM hi ⟨pR,zs,ps,rfl,Ey,nu,hps⟩ ⟨rfl,rfl⟩;refine gY ⟨_,rfl,_,rfl,_,_,rfl,rfl,_,rfl,_,rfl,a,c,tt,sa,ns,ss,_,p,k,pl,rfl,(Aj.trans (s6.trans (sN.trans pR))).seq hS,kG,#[O],#[O],AB.same pR,hp,kW,hn,k5,pR _ _ AD,rs,#[O],fun z o r f' y' AE tW hz ho oV S'=>?_⟩;have xF:=nu.length;refine⟨by rw [ab]; lia,pR.trans tW,zs++[z],ps++[(f',y')],by rw [ao]; rfl,by rw [ap,Ey]; rfl,bD (nu.same tW) ⟨o,r,hz,ho,oV⟩,fun q hq=>?_⟩;rcases (aL.mp hq) with hq | hq
   ·exact hps q hq
   ·(rw [aR.mp hq])
    exact S'
  rintro lJ AA sm ⟨pR,zs,ps,rfl,hpn,nu,hps⟩ hD;have BN:=zc (o:=.lst (zs.map V.ref)) hD;have xK:kB AA sm (.lst (zs.map V.ref)) sm=some (.lst (zs.map V.ref)):=zb;have uv:=pR.trans BN;have nu:=nu.same BN;generalize kB AA sm (.lst (zs.map V.ref))=BM at BN xK uv nu ⊢;have xF:=nu.length;have Ez:=AB.same uv;have EA:=uv _ _ AD;have s0:=Aj.trans (s6.trans (sN.trans uv));clear BN pR hD;show Ej [some (.ref a),some (.ref c),some (.int p),some (.int (k:Int)),some (.ref tt),some (.ref l),some (.ref lf),some (.ref sa),some (.ref o6),some (.ref r6),some (.int (T:Int)),some (.ref l7),some (.ref D8),some (.int (M:Int)),some (.ref lb),some (.ref sm),none,none,none,none,none] BM;refine⟨_,rfl,sm,rfl,⟨_,ky.of xK⟩,zH (n:=zs.length) (fun i lJ H'=>H'=BM∧∃ rr:List Addr,lJ=rr.map V.ref∧rr.length=i∧zji pl.length BM rr ((ps.take i).map fun q=>rwS q.2)) ⟨rfl,[],rfl,rfl,.nil⟩ ?_ ?_ ?_ ?_⟩
  ·rintro i lJ H' hi ⟨rfl,_⟩;exact⟨_,.ref zs[i],ky.of xK,by rw [ah,aj hi]; rfl⟩
  ·rintro lJ H' ⟨rfl,_⟩;exact⟨_,ky.of xK,by rw [ab]; exact af _⟩
  ·rintro zS zT zE i y lJ H' AE hi ⟨rfl,rr,rfl,nG,vG⟩ ⟨rfl,hy⟩;obtain⟨b,rfl,hb⟩:=zK (hy _ (ky.of xK));obtain⟨q',n5,o,r,z1,z2,z3⟩:=Paired.get nu hb;refine gY ⟨_,rfl,b,_,_,_,rfl,rfl,kF.of z1,rfl,?_⟩;refine⟨by rw [ab]; lia,rfl,rr++[r],by rw [ao]; rfl,by rw [ap,nG]; rfl,?_⟩;rw [take_snoc n5,ao];exact bD vG ⟨by rw [zfR]; exact z3,(zd2 _).trans (hps q' (aB n5)).len⟩
  rintro lJ H' ra ⟨rfl,rr,rfl,nG,vG⟩ mU;rw [xF,aM] at vG;have wV:=zc (o:=.lst (rr.map V.ref)) mU;have EB:kB H' ra (.lst (rr.map V.ref)) ra=some (.lst (rr.map V.ref)):=zb;have vG:=vG.same wV;have sg:=wV _ _ xK;have nu:=nu.same wV;have uW:=Ez.same wV;have AF:=wV _ _ EA;have s0:=s0.trans wV;generalize kB H' ra (.lst (rr.map V.ref))=AE at wV EB vG sg nu uW AF s0 ⊢;show Ei [some (.ref a),some (.ref c),some (.int p),some (.int (k:Int)),some (.ref tt),some (.ref l),some (.ref lf),some (.ref sa),some (.ref o6),some (.ref r6),some (.int (T:Int)),some (.ref l7),some (.ref D8),some (.int (M:Int)),some (.ref lb),some (.ref sm),some (.ref ra),none,none,none,none] AE;have EC:JN p k pl T ((ps.map (·.2)).map rwS) (ps.map (·.1)):=zkV (by rw [ab,ab]) (fun i f' y' h1 h2=>by
   rw [ah] at h1 h2;obtain⟨q1,e1,rfl⟩:=fj.mp h1;obtain⟨q2,e2,rfl⟩:=fj.mp h2;rw [e1] at e2;cases e2;exact hps q1 (aB e1)) En
  rw [bz] at EC;have lA:(ps.map fun q=>rwS q.2)≠[]:=fun e=>by
   have:=congrArg dW e;rw [ab] at this;have h0:ps.length=0:=this;lia
  have h10:(ps.map fun q=>rwS q.2).length≤10:=by rw [ab]; lia
  have sE:∀ rw∈(ps.map fun q=>rwS q.2),∀ z,some z∈rw→0≤z∧z < p:=fun rw rh=>by
   obtain⟨q',h1,rfl⟩:=aq.mp rh;exact zhw (hps q' h1).rg
  refine⟨_,rfl,sm,rfl,⟨_,ky.of sg⟩,zH (n:=zs.length) (fun i lJ H'=>H'=AE∧∃ oo:List Addr,lJ=oo.map V.ref∧oo.length=i∧zaE AE oo ((ps.take i).map (·.1))) ⟨rfl,[],rfl,rfl,.nil⟩ ?_ ?_ ?_ ?_⟩
  ·rintro i lJ H' hi ⟨rfl,_⟩;exact⟨_,.ref zs[i],ky.of sg,by rw [ah,aj hi]; rfl⟩
  ·rintro lJ H' ⟨rfl,_⟩;exact⟨_,ky.of sg,by rw [ab]; exact af _⟩
  ·rintro zS zT zE i y lJ H' H15 hi ⟨rfl,oo,rfl,hol,BO⟩ ⟨rfl,hy⟩;obtain⟨b,rfl,hb⟩:=zK (hy _ (ky.of sg));obtain⟨q',n5,o,r,z1,z2,z3⟩:=Paired.get nu hb;refine gY ⟨_,rfl,b,_,_,_,rfl,rfl,kF.of z1,rfl,?_⟩;refine⟨by rw [ab]; lia,rfl,oo++[o],by rw [ao]; rfl,by rw [ap,hol]; rfl,?_⟩;rw [take_snoc n5,ao];exact bD BO z2
  rintro lJ H' D ⟨rfl,oo,rfl,hol,BO⟩ hD;rw [xF,aM] at BO;refine⟨D,_,rfl,.inl ⟨ky.of zb,fun po vB=>?_⟩⟩;have xM:=(zc (o:=.lst (oo.map V.ref)) hD).trans (zc (o:=.tup (oo.map V.ref)) vB);have h15:kB (kB H' D (.lst (oo.map V.ref))) po (.tup (oo.map V.ref)) po=some (.tup (oo.map V.ref)):=zb;generalize kB (kB H' D (.lst (oo.map V.ref))) po (.tup (oo.map V.ref))=H15 at xM h15 ⊢;refine⟨_,rfl,_,rfl,_,rfl,c,tt,ra,p,k,T,pl,rr,_,rfl,uW.same xM,xM _ _ EB,vG.same xM,h10,oW,hp,lN,kW,sE,qZ,vF,BJ,lA,fun l16 us pP H16 yW wL h16 _ hTn _ lV=>?_⟩;refine⟨po,l16,oo,us,_,pP,rfl,rfl,wL _ _ h15,(BO.same xM).same wL,ky.of h16,hTn,_,rfl,?_⟩;refine zaP (fun h=>absurd h (by simp; exact (lV _).mpr EC)) (fun _=>?_);have sL:=xM.trans wL;refine⟨_,rfl,_,rfl,c,tt,ra,p,k,pl,rr,_,rfl,uW.same sL,ky.of (sL _ _ EB),vG.same sL,h10,oW,hp,lN,kW,sE,qZ,vF,fun z2 la l3 _ e left lC H17 Ac ED _ _ _ _ L=>?_⟩;have rX:e≤ss.length:=by
   have:=zix hp lN kW (aN qZ BJ) lA EC L;lia
  have AG:=sL.trans Ac;refine⟨z2,_,_,_,rfl,rfl,kF.of ED,rfl,_,rfl,sa,_,rfl,.inl (ky.of (AG _ _ AF)),_,_,rfl,rfl,_,rfl,Eu e rX ?_⟩;have AH:=AG _ _ sg;have nu:=nu.same AG;have EE:=uW.same AG;have s0:=s0.trans AG;show Eh [some (.ref a),some (.ref c),some (.int p),some (.int (k:Int)),some (.ref tt),some (.ref l),some (.ref lf),some (.ref sa),some (.ref o6),some (.ref r6),some (.int (T:Int)),some (.ref l7),some (.ref D8),some (.int (M:Int)),some (.ref lb),some (.ref sm),some (.ref ra),none,none,none,none] H17;refine⟨_,rfl,#[D],#[D],zH (n:=16) (fun i lJ H'=>H'=H17∧∃ xs:List Int,lJ=xs.map V.int∧xs.length=i∧∀ y∈xs,0≤y∧y < p) ⟨rfl,[],rfl,rfl,fun y hy=>(by cases hy)⟩ (fun i lJ H' hi _=>hi) (fun lJ H' _=>af _) ?_ ?_⟩
  ·rintro zS zT zE i x lJ H' BP hi ⟨rfl,xs,rfl,tF,EF⟩ ⟨rfl,rfl⟩;obtain⟨j,hj⟩:∃ j:Nat,(0+(i:Int)) % 2=(j:Int):=⟨((0+(i:Int)) % 2).toNat,#[O]⟩;have oq:j < zs.length:=by lia
   obtain⟨q',n5,o,r,z1,z2,z3⟩:=Paired.get nu (aj oq);have S':=hps q' (aB n5);have hyl':=S'.len;obtain⟨y,hy⟩:∃ y,q'.2[i]? = some y:=⟨q'.2[i]'#[O],#[M]⟩;have lK:atI (zs.map V.ref) ((0+(i:Int)) % 2)=some (.ref zs[j]):=by
    rw [hj];exact zaO (by rw [ah,aj oq]; rfl)
   have uT:atI (q'.2.map V.int) (0+(i:Int))=some (.int y):=by
    rw [fN];exact zaO (by rw [ah,hy]; rfl)
   refine gY ⟨_,rfl,_,rfl,_,_,rfl,rfl,(by show (0:Int) < 2; decide),sm,_,_,.ref zs[j],rfl,rfl,ky.of AH,lK,zs[j],_,_,.ref r,rfl,rfl,kF.of z1,rfl,_,rfl,r,_,_,.int y,rfl,rfl,ky.of z3,uT,?_⟩;refine⟨by rw [ab]; lia,rfl,xs++[y],by rw [ao]; rfl,by rw [ap,tF]; rfl,fun v hv=>?_⟩;rcases aL.mp hv with hv | hv
   ·exact EF v hv
   ·rw [aR.mp hv];exact S'.rg y (aB hy)
  rintro lJ H' mx ⟨rfl,xs,rfl,tF,EF⟩ hmx;have AI:=zc (o:=.lst (xs.map V.int)) hmx;have h18:kB H' mx (.lst (xs.map V.int)) mx=some (.lst ((rwS xs).map mS)):=by rw [zfR]; exact zb
  have nu:=nu.same AI;have AJ:=EE.same AI;have AK:=AI _ _ AH;have s0:=s0.trans AI;generalize kB H' mx (.lst (xs.map V.int))=BP at AI h18 nu AJ AK s0 ⊢;have hxr:=zhw EF;have wW:(rwS xs).length=pl.length:=(zd2 xs).trans #[O];show Eg [some (.ref a),some (.ref c),some (.int p),some (.int (k:Int)),some (.ref tt),some (.ref l),some (.ref lf),some (.ref sa),some (.ref o6),some (.ref r6),some (.int (T:Int)),some (.ref l7),some (.ref D8),some (.int (M:Int)),some (.ref lb),some (.ref sm),some (.ref ra),some (.ref mx),none,none,none] BP;refine⟨_,rfl,_,rfl,sm,_,rfl,ky.of AK,fun x2 uq=>?_⟩;have EG:zbk (zs.map V.ref) none (some 2)=(zs.take 2).map V.ref:=by rw [show (2:Int)=((2:Nat):Int) from rfl,zfO,dq]
  rw [EG];have BQ:=zc (o:=.lst ((zs.take 2).map V.ref)) uq;have EH:kB BP x2 (.lst ((zs.take 2).map V.ref)) x2=some (.lst ((zs.take 2).map V.ref)):=zb;have nu:=nu.same BQ;have wX:=AJ.same BQ;have wY:=BQ _ _ h18;generalize kB BP x2 (.lst ((zs.take 2).map V.ref))=H19 at BQ EH nu wX wY ⊢;refine⟨x2,rfl,⟨_,ky.of EH⟩,zaQ (K:=K) (a:=x2) (xs:=(zs.take 2).map V.ref) (fun i σ H'=>∃ (EI EJ BR:Option V),σ = [some (.ref a),some (.ref c),some (.int p),some (.int (k:Int)),some (.ref tt),some (.ref l),some (.ref lf),some (.ref sa),some (.ref o6),some (.ref r6),some (.int (T:Int)),some (.ref l7),some (.ref D8),some (.int (M:Int)),some (.ref lb),some (.ref sm),some (.ref ra),some (.ref mx),EI,EJ,BR]∧zu H19 H') ⟨none,none,none,rfl,fun _ _ e=>e⟩ (fun i σ H' _ ⟨_,_,_,_,s'⟩=>ky.of (s' _ _ EH)) ?_ ?_⟩
  ·rintro zD zT i y σ H20 hy ⟨EI,EJ,BR,rfl,AL⟩;obtain⟨z,rfl,hz⟩:=zK hy;have hz:=aB hz;obtain⟨i',hz⟩:=bt (ci hz);obtain⟨q',n5,o,r,z1,z2,z3⟩:=Paired.get (nu.same AL) hz;have S':=hps q' (aB n5);have EK:=wX.same AL;have EL:=AL _ _ wY;refine⟨z,_,rfl,kF.of z1,rfl,_,_,rfl,_,_,rfl,rfl,?_⟩;show zT (zD i) [some (.ref a),some (.ref c),some (.int p),some (.int (k:Int)),some (.ref tt),some (.ref l),some (.ref lf),some (.ref sa),some (.ref o6),some (.ref r6),some (.int (T:Int)),some (.ref l7),some (.ref D8),some (.int (M:Int)),some (.ref lb),some (.ref sm),some (.ref ra),some (.ref mx),some (.ref o),some (.ref r),BR] H20;refine⟨_,rfl,_,rfl,_,rfl,c,tt,mx,o,p,k,pl,q'.1,rwS xs,rfl,EK,EL,wW,z2,p0,#[O],kW,#[O],fun z8 H21 xk Ex h21=>⟨z8,_,rfl,.inl (ky.of h21),?_⟩⟩;rw [ab,zbH wW];have BS:=AL.trans Ex;refine⟨_,rfl,_,rfl,_,_,rfl,rfl,_,rfl,?_⟩;refine zaP (fun mQ=>?_) (fun _=>ziL ⟨_,_,_,rfl,BS⟩);have mQ:=of_decide_eq_true mQ;refine⟨_,rfl,_,rfl,_,rfl,_,rfl,c,tt,mx,p,k,(hits p q'.1 (My.hps pl (rwS xs)):Int),pl,rwS xs,rfl,wX.same BS,BS _ _ wY,wW,oW,hp,lN,kW,hxr,qZ,vF,mQ,fun l22 EM AM H22 hl22 s22 h22 EN _ EO=>?_⟩;refine⟨o,l22,q'.1,EM,AM,rfl,rfl,(Ex.trans s22) _ _ z2,ky.of h22,EN,_,rfl,?_⟩;have lV:q'.1∈AM:=(EO _).mpr ⟨S'.isp,bP _⟩;exact zaP (fun h=>absurd h (by simp [lV])) (fun _=>⟨_,_,_,rfl,BS.trans s22⟩)
  ·rintro σ H20 ⟨EI,EJ,BR,rfl,AL⟩;exact q _
end
structure Dn (K:ag) (x:Str) (st:Stmt) (f:Addr) (fd:FuncData):Prop where
 a:bW K mainGlobals x=some (some (.ref f))
 f:Fun K x x st f fd
theorem zaC {K:ag} {x:Str} {st:Stmt} {f:Addr} {od an:Option Addr} {sl:Array (Option Value)} {oc kV dc pm cd ct:Value} (a:bW K mainGlobals x=some (some (.ref f))) (l:K.lookup f=some ⟨oc,od,.func (cV x x (zbF st) (zbu st) (zg st) .none kV dc pm an cd ct),sl⟩) (c:eW K cd x=true) (k:eV K (.ref f)=true):Dn K x st f (cV x x (zbF st) (zbu st) (zg st) .none kV dc pm an cd ct):=⟨a,zjP l c k⟩
theorem el0 {n:Nat} {us:List Value} (e:us.length=n+1):∃ a v,us=a :: v∧v.length=n:=by
 cases us with
 | nil=>cases e
 | cons a v=>exact⟨a,v,rfl,Nat.succ.inj e⟩
theorem el1 {us:List Value} (e:us.length=1):∃ a,us = [a]:=by
 obtain⟨a,v,rfl,h⟩:=el0 e;exact⟨a,by rw [fQ h]⟩
theorem el2 {us:List Value} (e:us.length=2):∃ a b,us = [a,b]:=by
 obtain⟨a,v,rfl,h⟩:=el0 e;obtain⟨b,rfl⟩:=el1 h;exact⟨a,b,rfl⟩
theorem el3 {us:List Value} (e:us.length=3):∃ a b c,us = [a,b,c]:=by
 obtain⟨a,v,rfl,h⟩:=el0 e;obtain⟨b,c,rfl⟩:=el2 h;exact⟨a,b,c,rfl⟩
theorem el4 {us:List Value} (e:us.length=4):∃ a b c d,us = [a,b,c,d]:=by
 obtain⟨a,v,rfl,h⟩:=el0 e;obtain⟨b,c,d,rfl⟩:=el3 h;exact⟨a,b,c,d,rfl⟩
local macro_rules|`(#[E2])=>`(fun _ _ _ _ _ _ _ h=>by obtain⟨_,_,e⟩:=el2 h;subst e;exact rfl)
local macro_rules|`(#[E3])=>`(fun _ _ _ _ _ _ _ h=>by obtain⟨_,_,_,e⟩:=el3 h;subst e;exact rfl)
local macro_rules|`(#[E4])=>`(fun _ _ _ _ _ _ _ h=>by obtain⟨_,_,_,_,e⟩:=el4 h;subst e;exact rfl)
theorem znh {l:ie} {w:World} {K:ag} {h:Heap} {mg:Str→Option Value} {fa fl mN qa:Addr} (X:K.In h) (G:h.Ns mainGlobals mg) (hfa:mg "law" = some (.ref fa))
  {od an:Option Addr} {sl:Array (Option Value)} {oc kV dc pm cd ct:Value} (qb:bW K mainGlobals "SlipError" = some (some (.ref mN))) (ub:bW K mainGlobals "TooFew" = some (some (.ref qa))) (qE:∃ f fd,Dn K "value_at" zca f fd) (sh:∃ f fd,Dn K "inverse" zcy f fd) (pI:∃ f fd,Dn K "times_root" za9 f fd) (wZ:∃ f fd,Dn K "bent" zeB f fd) (si:∃ f fd,Dn K "through" zcz f fd) (oE:∃ f fd,Dn K "heard_points" zaN f fd) (w6:∃ f fd,Dn K "fits" zeC f fd) (sj:∃ f fd,Dn K "choices" zby f fd) (oY:∃ f fd,Dn K "all_through" zaW f fd) (qF:∃ f fd,Dn K "all_near" zbC f fd) (sk:∃ f fd,Dn K "nearest" zbf f fd) (su:∃ f fd,Dn K "without" zbW f fd) (nL:∃ f fd,Dn K "first_relation" zal f fd) (qG:∃ f fd,Dn K "heard_at" zbD f fd) (pJ:∃ f fd,Dn K "joint_near" zba f fd) (n6:∃ f fd,Dn K "times_entries" zaF f fd) (uc:∃ f fd,Dn K "beyond" s_beyond f fd) (uX:∃ f fd,Dn K "sized" zdZ f fd) (n8:∃ f fd,Dn K "joint_locator" z0 f fd) (pK:∃ f fd,Dn K "locator_of" zbx f fd) (w8:∃ f fd,Dn K "half" zeD f fd) (ud:∃ f fd,Dn K "_law_cell" zdj f fd) (sv:∃ f fd,Dn K "_law_draws" zcA f fd) (sx:∃ f fd,Dn K "_law_value" zcB f fd) (ue:∃ f fd,Dn K "_law_fits" zbX f fd) (sy:∃ f fd,Dn K "_law_great" zbY f fd) (qc:∃ f fd,Dn K "_law_slipped" za4 f fd)   (sb:ki K mN (.type "BaseException")=some true)
  (al:bW K mainGlobals "law" = some (some (.ref fl))) (ll:K.lookup fl=some ⟨oc,od,.func (cV "law" "law" (zbF zbs) (zbu zbs) (zg zbs) .none kV dc pm an cd ct),sl⟩) (cl:eW K cd "law" = true) (kl:eV K (.ref fl)=true) (AN:bW K mainGlobals "len" = some none) (uY:bW K mainGlobals "range" = some none) (xa:bW K mainGlobals "list" = some none) (uZ:bW K mainGlobals "tuple" = some none) (AO:bW K mainGlobals "min" = some none) (AQ:bW K mainGlobals "max" = some none) (AR:bW K mainGlobals "zip" = some none) (qd:bW K mainGlobals "enumerate" = some none) (qH:bW K mainGlobals "reversed" = some none) (uf:bW K mainGlobals "sorted" = some none) (pL:bW K mainGlobals "ValueError" = some none) :
  ∃ fd:FuncData,(∀ (s:Shared) (v:Value),BindsTo s fd ⟨[v],[]⟩ [("script",v)])∧∀ base:Heap,K.In base→base.Ns mainGlobals mg→FnOk l.prog w K mg base CX0 8 fa fd ["script"] (zfw K):=by
 cases hfa.symm.trans (aV X G al);obtain⟨f_value_at,lS,m7⟩:=qE;have kO:=m7.f.binds (ps:=["p","polynomial","x"]) #[E3]
 obtain⟨f_inverse,oz,nM⟩:=sh;have l5:=nM.f.binds (ps:=["p","number"]) #[E2]
 obtain⟨f_times_root,oU,mC⟩:=pI;have mo:=mC.f.binds (ps:=["p","polynomial","root"]) #[E3]
 obtain⟨f_bent,uO,qI⟩:=wZ;have qt:=qI.f.binds (ps:=["p","polynomial","vanishing","point"]) #[E4]
 obtain⟨f_through,mZ,nN⟩:=si;have lp:=nN.f.binds (ps:=["p","points"]) #[E2]
 obtain⟨f_heard_points,kZ,lM⟩:=oE;have kH:=lM.f.binds (ps:=["code","row"]) #[E2]
 obtain⟨f_fits,oh,qJ⟩:=w6;have mq:=qJ.f.binds (ps:=["code","row","polynomial"]) #[E3]
 obtain⟨f_choices,qw,nO⟩:=sj;have nI:=nO.f.binds (ps:=["things","many"]) #[E2]
 obtain⟨f_all_through,mL,lX⟩:=oY;have kY:=lX.f.binds (ps:=["code","points"]) #[E2]
 obtain⟨f_all_near,nX,m8⟩:=qF;have lu:=m8.f.binds (ps:=["code","row","t"]) #[E3]
 obtain⟨f_nearest,qC,nP⟩:=sk;have nK:=nP.f.binds (ps:=["code","row"]) #[E2]
 obtain⟨f_without,qu,nQ⟩:=su;have nD:=nQ.f.binds (ps:=["p","vector","times","other"]) #[E4]
 obtain⟨f_first_relation,nj,lx⟩:=nL;have lq:=lx.f.binds (ps:=["p","vectors"]) #[E2]
 obtain⟨f_heard_at,p8,m9⟩:=qG;have m6:=m9.f.binds (ps:=["row","numbers"]) #[E2]
 obtain⟨f_joint_near,oX,mE⟩:=pJ;have mB:=mE.f.binds (ps:=["code","rows","t"]) #[E3]
 obtain⟨f_times_entries,nE,lF⟩:=n6;have k6:=lF.f.binds (ps:=["p","left","points"]) #[E3]
 obtain⟨f_beyond,rT,oF⟩:=uc;have oA:=oF.f.binds (ps:=["rights","many"]) #[E2]
 obtain⟨f_sized,tR,pN⟩:=uX;have og:=pN.f.binds (ps:=["polynomial","many"]) #[E2]
 obtain⟨f_joint_locator,mf,lG⟩:=n8;have kQ:=lG.f.binds (ps:=["code","rows"]) #[E2]
 obtain⟨f_locator_of,mV,mF⟩:=pK;have lh:=mF.f.binds (ps:=["code","row"]) #[E2]
 obtain⟨f_half,uV,qK⟩:=w8;have qD:=qK.f.binds (ps:=["code","row"]) #[E2]
 obtain⟨f_l_cell,rM,oG⟩:=ud;have ow:=oG.f.binds (ps:=["script","k"]) #[E2]
 obtain⟨f_l_draws,mY,nR⟩:=sv;have lj:=nR.f.binds (ps:=["script","k","many","base"]) #[E4]
 obtain⟨f_l_value,oB,nS⟩:=sx;have mi:=nS.f.binds (ps:=["p","polynomial","x"]) #[E3]
 obtain⟨f_l_fits,sd,oH⟩:=ue;have nk:=oH.f.binds (ps:=["code","row","polynomial"]) #[E3]
 obtain⟨f_l_great,qB,nT⟩:=sy;have nJ:=nT.f.binds (ps:=["script"]) fun _ _ _ _ _ _ _ h=>by obtain⟨_,rfl⟩:=el1 h; exact rfl
 obtain⟨f_l_slipped,pG,mO⟩:=qc;have lT:=mO.f.binds (ps:=["script","at","code","slips"]) #[E4]
 let t:Adr:=⟨mN,qa,f_value_at,f_inverse,f_times_root,f_bent,f_through,f_heard_points,f_fits,f_choices,f_all_through,f_all_near,f_nearest,f_without,f_first_relation,f_heard_at,f_joint_near,f_times_entries,f_beyond,f_sized,f_joint_locator,f_locator_of,f_half,f_l_cell,f_l_draws,f_l_value,f_l_fits,f_l_great,f_l_slipped,fa⟩
 have T:Txt K mg t:=⟨bU X G AN,bU X G uY,bU X G xa,bU X G uZ,bU X G AO,bU X G AQ,bU X G AR,bU X G qd,bU X G qH,bU X G uf,bU X G pL,aV X G qb,aV X G ub,sb,aV X G m7.a,aV X G nM.a,aV X G mC.a,aV X G qI.a,aV X G nN.a,aV X G lM.a,aV X G qJ.a,aV X G nO.a,aV X G lX.a,aV X G m8.a,aV X G nP.a,aV X G nQ.a,aV X G lx.a,aV X G m9.a,aV X G mE.a,aV X G lF.a,aV X G oF.a,aV X G pN.a,aV X G lG.a,aV X G mF.a,aV X G qK.a,aV X G oG.a,aV X G nR.a,aV X G nS.a,aV X G oH.a,aV X G nT.a,aV X G mO.a,⟨_,m7.f,kO⟩,⟨_,nM.f,l5⟩,⟨_,mC.f,mo⟩,⟨_,qI.f,qt⟩,⟨_,nN.f,lp⟩,⟨_,lM.f,kH⟩,⟨_,qJ.f,mq⟩,⟨_,nO.f,nI⟩,⟨_,lX.f,kY⟩,⟨_,m8.f,lu⟩,⟨_,nP.f,nK⟩,⟨_,nQ.f,nD⟩,⟨_,lx.f,lq⟩,⟨_,m9.f,m6⟩,⟨_,mE.f,mB⟩,⟨_,lF.f,k6⟩,⟨_,oF.f,oA⟩,⟨_,pN.f,og⟩,⟨_,lG.f,kQ⟩,⟨_,mF.f,lh⟩,⟨_,qK.f,qD⟩,⟨_,oG.f,ow⟩,⟨_,nR.f,lj⟩,⟨_,nS.f,mi⟩,⟨_,oH.f,nk⟩,⟨_,nT.f,nJ⟩,⟨_,mO.f,lT⟩⟩;have FL:=zjP (st:=zbs) ll cl kl;exact⟨cV "law" "law" (zbF zbs) (zbu zbs) (zg zbs) .none kV dc pm an cd ct,fun s v=>.of_eq rfl,fun base _ _=>zng (t:=t) T FL⟩
theorem walk {l:ie} {q:Program} {loose:List Str} {XP:(Str→Option Value)→Heap→Prop} {YP:World→Heap→Prop} {d:DefRec} {K:Params→ag} (hn:l.most=some 63) (xW:d.params.defaults = []) (hY:∀ (w:World) (h:Heap),YP w h→(K w.params).In h)
  (F:∀ (w:World) (mg:Str→Option Value) (fa:Addr) (h:Heap),(K w.params).In h→h.Ns mainGlobals mg→mg d.name=some (.ref fa)→∃ fd:FuncData,(∀ (s:Shared) (u:Value),BindsTo s fd ⟨[u],[]⟩ [("script",u)])∧∀ base:Heap,(K w.params).In base→base.Ns mainGlobals mg→FnOk l.prog w (K w.params) mg base CX0 8 fa fd ["script"] (zfw (K w.params))):kg q loose XP YP l.row.toRowW d [] (fun f vs=>jY f vs) :=
 L2.zla (n:=63) (k:=8) (x:="script") (CX:=fun _=>CX0) (sp:=fun w=>zfw (K w.params)) hn #[D] xW ⟨rfl,#[D],#[D]⟩ hY F (fun _ _ a ns hl _ hS=>⟨a,ns,rfl,hS,hl,fun _=>rfl⟩) fun _ _ _ _ _ z=>z
end My
namespace PySem.W.Fast
def tw4329087334441881335:Unit:=()
def tw17706230600101790677:Unit:=()
def tw17265636366487991218:Unit:=()
def tw7099017149780112951:Unit:=()
def tw10966403451758126329:Unit:=()
def tw12260361602878502337:Unit:=()
def tw9404604533692013429:Unit:=()
def tw1237675584457559010:Unit:=()
def tw4727298386888106678:Unit:=()
def tw3783816926009823459:Unit:=()
def tw5741562168619204322:Unit:=()
def tw6927901523707047744:Unit:=()
def tw11530203723841097715:Unit:=()
def tw9243488338327681786:Unit:=()
def tw10230091397012686598:Unit:=()
def tw13354945786384756658:Unit:=()
def tw9530151686004477567:Unit:=()
def tw10203329478207790142:Unit:=()
def tw3336804224029851912:Unit:=()
def tw17025959697754370504:Unit:=()
def tw17597903466844398999:Unit:=()
def tw16113802380095309585:Unit:=()
def tw9334013093785388328:Unit:=()
def tw523640398572686459:Unit:=()
def tw303877467772575208:Unit:=()
def tw9934530408516485967:Unit:=()
def tw11081687951633941731:Unit:=()
def tw1776478076437770186:Unit:=()
def tw3371858034922536069:Unit:=()
def tw9432446579445376931:Unit:=()
def tw12271053974689412976:Unit:=()
def tw6986550788176403394:Unit:=()
def tw4618816786125823546:Unit:=()
def tw14617121779993262791:Unit:=()
def tw8723144775915763200:Unit:=()
def tw1604876649098738794:Unit:=()
def tw16278958276909655277:Unit:=()
def tw3246333810513379930:Unit:=()
def tw5418073549687549756:Unit:=()
def tw8568040496628112970:Unit:=()
def tw9962138328920371289:Unit:=()
def tw3534045757751966845:Unit:=()
def tw10488144882424316286:Unit:=()
def tw448778128680420841:Unit:=()
def tw18125192752381618172:Unit:=()
def tw7842212245050563568:Unit:=()
def tw14916236330439583787:Unit:=()
def tw14931779093440454811:Unit:=()
def tw4295981498937908638:Unit:=()
def tw1114924101713080161:Unit:=()
def tw6017381915678212542:Unit:=()
def tw18035882705787467131:Unit:=()
def tw600117060671882579:Unit:=()
def tw4774305314881636900:Unit:=()
def tw2121222762304706428:Unit:=()
def tw8279749122191666162:Unit:=()
def tw3343610625918649856:Unit:=()
def tw1501351139895017711:Unit:=()
def tw8859125986414328965:Unit:=()
def tw12092226861030675537:Unit:=()
end PySem.W.Fast
open PySem PySem.W
open PyProof.Rows
set_option maxHeartbeats 0 in
theorem PySem.Challenge.cw_slipcurve_k36_whole_sixteen_places_holds : PySem.Challenge.rw_slipcurve_k36_whole_sixteen_places.Holds := by
 w_on; o_law; k_head; (case hw=>w_witness2)
 k_fill
 refine My.walk (l:=PySem.Challenge.rw_slipcurve_k36_whole_sixteen_places) rfl rfl (fun w h Y=>PySem.W.kIn_of Y) ?F
 case F =>
  intro w mg fa h KX G hmg;refine' My.znh KX G hmg ?a_SlipError ?a_TooFew ⟨_,_,My.zaC ?da_value_at ?dl_value_at ?dc_value_at ?dk_value_at⟩ ⟨_,_,My.zaC ?da_inverse ?dl_inverse ?dc_inverse ?dk_inverse⟩ ⟨_,_,My.zaC ?da_times_root ?dl_times_root ?dc_times_root ?dk_times_root⟩ ⟨_,_,My.zaC ?da_bent ?dl_bent ?dc_bent ?dk_bent⟩ ⟨_,_,My.zaC ?da_through ?dl_through ?dc_through ?dk_through⟩ ⟨_,_,My.zaC ?da_heard_points ?dl_heard_points ?dc_heard_points ?dk_heard_points⟩ ⟨_,_,My.zaC ?da_fits ?dl_fits ?dc_fits ?dk_fits⟩ ⟨_,_,My.zaC ?da_choices ?dl_choices ?dc_choices ?dk_choices⟩ ⟨_,_,My.zaC ?da_all_through ?dl_all_through ?dc_all_through ?dk_all_through⟩ ⟨_,_,My.zaC ?da_all_near ?dl_all_near ?dc_all_near ?dk_all_near⟩ ⟨_,_,My.zaC ?da_nearest ?dl_nearest ?dc_nearest ?dk_nearest⟩ ⟨_,_,My.zaC ?da_without ?dl_without ?dc_without ?dk_without⟩ ⟨_,_,My.zaC ?da_first_relation ?dl_first_relation ?dc_first_relation ?dk_first_relation⟩ ⟨_,_,My.zaC ?da_heard_at ?dl_heard_at ?dc_heard_at ?dk_heard_at⟩ ⟨_,_,My.zaC ?da_joint_near ?dl_joint_near ?dc_joint_near ?dk_joint_near⟩ ⟨_,_,My.zaC ?da_times_entries ?dl_times_entries ?dc_times_entries ?dk_times_entries⟩ ⟨_,_,My.zaC ?da_beyond ?dl_beyond ?dc_beyond ?dk_beyond⟩ ⟨_,_,My.zaC ?da_sized ?dl_sized ?dc_sized ?dk_sized⟩ ⟨_,_,My.zaC ?da_joint_locator ?dl_joint_locator ?dc_joint_locator ?dk_joint_locator⟩ ⟨_,_,My.zaC ?da_locator_of ?dl_locator_of ?dc_locator_of ?dk_locator_of⟩ ⟨_,_,My.zaC ?da_half ?dl_half ?dc_half ?dk_half⟩ ⟨_,_,My.zaC ?da_l_cell ?dl_l_cell ?dc_l_cell ?dk_l_cell⟩ ⟨_,_,My.zaC ?da_l_draws ?dl_l_draws ?dc_l_draws ?dk_l_draws⟩ ⟨_,_,My.zaC ?da_l_value ?dl_l_value ?dc_l_value ?dk_l_value⟩ ⟨_,_,My.zaC ?da_l_fits ?dl_l_fits ?dc_l_fits ?dk_l_fits⟩ ⟨_,_,My.zaC ?da_l_great ?dl_l_great ?dc_l_great ?dk_l_great⟩ ⟨_,_,My.zaC ?da_l_slipped ?dl_l_slipped ?dc_l_slipped ?dk_l_slipped⟩ ?sb ?al ?ll ?cl ?kl ?z_len ?z_range ?z_list ?z_tuple ?z_min ?z_max ?z_zip ?z_enumerate ?z_reversed ?z_sorted ?z_ValueError
  (case a_SlipError=>k_is)
  (case a_TooFew=>k_is)
  (case da_value_at=>k_is)
  (case dl_value_at=>k_is)
  (case dc_value_at=>k_is)
  (case dk_value_at=>k_is)
  (case da_inverse=>k_is)
  (case dl_inverse=>k_is)
  (case dc_inverse=>k_is)
  (case dk_inverse=>k_is)
  (case da_times_root=>k_is)
  (case dl_times_root=>k_is)
  (case dc_times_root=>k_is)
  (case dk_times_root=>k_is)
  (case da_bent=>k_is)
  (case dl_bent=>k_is)
  (case dc_bent=>k_is)
  (case dk_bent=>k_is)
  (case da_through=>k_is)
  (case dl_through=>k_is)
  (case dc_through=>k_is)
  (case dk_through=>k_is)
  (case da_heard_points=>k_is)
  (case dl_heard_points=>k_is)
  (case dc_heard_points=>k_is)
  (case dk_heard_points=>k_is)
  (case da_fits=>k_is)
  (case dl_fits=>k_is)
  (case dc_fits=>k_is)
  (case dk_fits=>k_is)
  (case da_choices=>k_is)
  (case dl_choices=>k_is)
  (case dc_choices=>k_is)
  (case dk_choices=>k_is)
  (case da_all_through=>k_is)
  (case dl_all_through=>k_is)
  (case dc_all_through=>k_is)
  (case dk_all_through=>k_is)
  (case da_all_near=>k_is)
  (case dl_all_near=>k_is)
  (case dc_all_near=>k_is)
  (case dk_all_near=>k_is)
  (case da_nearest=>k_is)
  (case dl_nearest=>k_is)
  (case dc_nearest=>k_is)
  (case dk_nearest=>k_is)
  (case da_without=>k_is)
  (case dl_without=>k_is)
  (case dc_without=>k_is)
  (case dk_without=>k_is)
  (case da_first_relation=>k_is)
  (case dl_first_relation=>k_is)
  (case dc_first_relation=>k_is)
  (case dk_first_relation=>k_is)
  (case da_heard_at=>k_is)
  (case dl_heard_at=>k_is)
  (case dc_heard_at=>k_is)
  (case dk_heard_at=>k_is)
  (case da_joint_near=>k_is)
  (case dl_joint_near=>k_is)
  (case dc_joint_near=>k_is)
  (case dk_joint_near=>k_is)
  (case da_times_entries=>k_is)
  (case dl_times_entries=>k_is)
  (case dc_times_entries=>k_is)
  (case dk_times_entries=>k_is)
  (case da_beyond=>k_is)
  (case dl_beyond=>k_is)
  (case dc_beyond=>k_is)
  (case dk_beyond=>k_is)
  (case da_sized=>k_is)
  (case dl_sized=>k_is)
  (case dc_sized=>k_is)
  (case dk_sized=>k_is)
  (case da_joint_locator=>k_is)
  (case dl_joint_locator=>k_is)
  (case dc_joint_locator=>k_is)
  (case dk_joint_locator=>k_is)
  (case da_locator_of=>k_is)
  (case dl_locator_of=>k_is)
  (case dc_locator_of=>k_is)
  (case dk_locator_of=>k_is)
  (case da_half=>k_is)
  (case dl_half=>k_is)
  (case dc_half=>k_is)
  (case dk_half=>k_is)
  (case da_l_cell=>k_is)
  (case dl_l_cell=>k_is)
  (case dc_l_cell=>k_is)
  (case dk_l_cell=>k_is)
  (case da_l_draws=>k_is)
  (case dl_l_draws=>k_is)
  (case dc_l_draws=>k_is)
  (case dk_l_draws=>k_is)
  (case da_l_value=>k_is)
  (case dl_l_value=>k_is)
  (case dc_l_value=>k_is)
  (case dk_l_value=>k_is)
  (case da_l_fits=>k_is)
  (case dl_l_fits=>k_is)
  (case dc_l_fits=>k_is)
  (case dk_l_fits=>k_is)
  (case da_l_great=>k_is)
  (case dl_l_great=>k_is)
  (case dc_l_great=>k_is)
  (case dk_l_great=>k_is)
  (case da_l_slipped=>k_is)
  (case dl_l_slipped=>k_is)
  (case dc_l_slipped=>k_is)
  (case dk_l_slipped=>k_is)
  (case sb=>k_is)
  (case al=>k_is)
  (case ll=>k_is)
  (case cl=>k_is)
  (case kl=>k_is)
  (case z_len=>k_is)
  (case z_range=>k_is)
  (case z_list=>k_is)
  (case z_tuple=>k_is)
  (case z_min=>k_is)
  (case z_max=>k_is)
  (case z_zip=>k_is)
  (case z_enumerate=>k_is)
  (case z_reversed=>k_is)
  (case z_sorted=>k_is)
  (case z_ValueError=>k_is)
#print axioms PySem.Challenge.cw_slipcurve_k36_whole_sixteen_places_holds
end