import PyProof.Rows.All
import Wide.All
import OpenK.AllK
import Wide.FinOn
import Lean
import PyProof.EqAt
import PyProof.EqKinds
import PyProof.Rows.MinMaxN
import PyProof.ListMulRoad
import KE.KUnpackStar
import KE.KIntText
import PyProof.CallStr
import KE.KDictSum
import KE.KSortTup
import PyProof.Walk
import PyProof.Rows.SortRuns
import PyProof.Rows.ChunkEnd
import PyProof.Rows.Range3
import PyProof.Rows.SeqGen
import PyProof.ConsumeWalk
import PyProof.ListRange
import PyProof.NeKinds
import PyProof.TupleCall
import PySem.Challenge.RW_slipcurve_k38_whole_together_and_alone
set_option maxHeartbeats 3999000
open List renaming length_map→ab,mem_cons_of_mem→aj,getElem?_map→ak,size_toArray→am,length_append→ao,getElem?_eq_getElem→ap,map_append→aq,replicate→aw,mem_cons_self→az,getElem?_eq_some_iff→aA,mem_map→aB,mem_cons→aC,mem_of_getElem?→aE,mem_append_right→aH,length_take→aI,mem_append→aK,mem_singleton→aN,mem_append_left→aP,take_of_length_le→aQ,range→aR,map_cons→aS,length_replicate→aT,take_length→aV,getD_eq_getElem?_getD→aW,not_mem_nil→aX,zipWith→a8,append_assoc→bj,lookup_cons→bq,map_map→bt,mem_range→bx,pairwise_map→bC,getElem?_append_right→bD,getElem?_append_left→bG,append_nil→bI,length_cons→bK,length_range→bM,length_drop→bQ,replicate_succ→bS,map_congr_left→bZ,take_append_drop→b7,take_sublist→cj,mem_filter→ck,drop_eq_getElem_cons→cp,getElem?_eq_none→cu,getElem?_take_of_lt→cv,getElem?_of_mem→cF,filterMap_cons→cH,getElem?_zipWith→cQ,extract_eq_take_drop→cR,nodup_cons→cS,mem_of_mem_take→c7,getElem?_replicate→df,length_zipWith→dg,getElem?_range→dh,all_eq_true→dj,drop_eq_nil_of_le→dt,flatten_cons→dB,getElem?_set_ne→dD,pairwise_iff_getElem→dF,drop_zero→dI,take_zero→dJ,eq_of_mem_replicate→dM,getElem_of_mem→dO,mem_map_of_mem→dP,getElem?_cons_succ→dQ,length_nil→dR,forIn_cons→dU,filter_append→dW,getElem?_drop→dX,length→dY,drop_of_length_le→d6,length_singleton→d7,length_filter_le→ee,mem_flatMap→et,any_cons→eD,map_take→eE,length_reverse→eG,zip_cons_cons→eL,filterMap_map→eN,map_nil→eP,getElem?_cons_zero→fb,filter_cons_of_pos→fc,filter_cons_of_neg→fe,reverse_cons→ff,ext_getElem?→fi,getElem?_set_self→fj,range_succ_eq_map→fo,sum_cons→ft,nodup_range→fv,drop_length→fz,concat_eq_append→fA,foldl→fC,find?_cons→fH,mem_of_mem_drop→fI,length_take_le→fP,flatMap_append→fQ,forIn_nil→fV,all_cons→gi,nodup_iff_pairwise_ne→gm,map_drop→gn,take_nil→gq,zip_nil_left→gv,nodup_append→gD,flatMap_cons→gF,getElem?_eq_none_iff→gM,getElem?_zip_eq_some→gO,getElem_mem→gX,nil_sublist→g6,sublist_nil→g7,any_eq_true→g8,reverse→ic,length_eq_zero_iff→ig,of_mem_zip→il,length_set→im,foldl_cons→io,nil_append→ip,range_succ→iu,filter_nil→iB,map_id→iK,filter_eq_nil_iff→iL,drop_drop→iO,eq_nil_or_concat→iP,pairwise_append→i3,length_pos_iff→jj,mem_filterMap→jn,forIn_toArray→jA,pairwise_cons→jE,take_add_one→jJ,getElem_take→jK,getElem?_inj→jO,zipIdx_cons→j2,zipIdx_nil→kh,nodup_nil→kw,take_take→kx
open PySem renaming wpAny_bind→ae,wpAny_pure→ai,wpAny_callSpecial?_slot→ba,wpAny_field→bb,wpAny_call_entry→be,sizeLine_eq→bi,wpAny_newObj_type→bu,wpAny_setField_rec→bE,wpAny_holding→bP,wpAny_loadPart'→bX,wpAny_rule→cg,wpAny_mono→cE,wpAny_attempt→cK,boot_len→c8,wpAny_typeNameOfWhole_keyiter→de,wpAny_seqItems→dk,wpAny_passesOwn→dw,wpAny_setField→dH,mem_of_lookup→dN,call_meets→dS,wpAny_of_eq→dZ,builtinLookup_eq_fast→d8,wpAny_isInstance→ek,wpAny_standAt→eA,wpAny_pyIter_tuple→eK,wpAny_pyIter_enum→fg,wpAny_pyIter_zip→fu,wpAny_execs_nil→fB,typeLookup_type→fF,wpAny_updateSeq_pair→fG,isSubtype_type→fS,isSubtype_stop→fT,wpAny_newTuple→fW,seqIndex_of→fZ,wpAny_Call_Name_kw→f8,wpAny_letOwnedTupleGo_enum→gj,wpAny_onRaise→gp,wpAny_pyIter_list→gu,wpAny_sequenceKey→gw,wpAny_pyIter_slot→gC,wpAny_dictEntries→gE,typeIs_int→gJ,wpAny_binaryOp_repeat_ref→gK,noFill_tuple_add→gR,wpAny_typeOf→gS,wpAny_getItem_list_slice→gT,wpAny_comprehension_free→gW,wpAny_specialOf→ir,wpAny_dictEpoch→iw,wpAny_ite_false→iz,wpAny_letGo→iG,wpAny_isOneOf_keyiter→iR,wpAny_loadName_local→iU,wpAny_pyIter_revIter→iZ,seq_tuple_add→i7,evalPart_none→i9,wpAny_handled→ja,wpAny_newList→jd,wpAny_loadName_cell→je,codeAny_mono→jp,concat_meets→jr,seqIndex_neg→ju,callType_new→jz,list_append→jH,wpAny_throw→jT,seqSlot_of→j8,wpAny_Name→kb,call→kf
open Nat renaming le_refl→af,le_trans→aU,lt_of_lt_of_le→bd,ne_of_lt→bf,zero_le→bh,lt_irrefl→ci,add_sub_cancel→cC,zero_add→cW,min_eq_left→c6,lt_succ_of_lt→dC,ne_of_gt→eJ,add_zero→eR,sub_zero→eU,sub_self→fM,le_succ→f7,le_of_succ_le→gA,le_of_lt→gQ,le_of_not_lt→gU,succ_ne_self→gV,add_sub_cancel_left→ij,le_antisymm→iC,pow_le_pow_right→i5,mul_comm→jw,succ_le_succ→jX,lt_succ_self→j1,le_add_right→j3
open PySem.W renaming Frag→ag,mg_of→aY,mg_none_of→bO,nsIn→bR,fnOf→cT,keepIn→eV,codeIn→eW,methodObj→gt,OpenLaw→iq,cellsFrom_some→iE,kat_cons→j4,kat_kind→j7,kat_nil→ko,kat_yes→kq,kat_one→kr,KatTups→kt,KatLex→kz,kat_no→kA,kat_lt→kC,WalkO→kF,mroIn→kH
open PySem.Heap renaming get?_push_of_some→ah,lt_size→aF,get?_push_size→aG,SameBut→bg,size_push→bA,get?_update_self→dz,get?_update_other→fm,get?_update_ne→ji,IsTuple→jB,ExtBut→jS
open PyProof.Rows renaming wpS_bind→ar,wpS_pure→av,callWith_type1→bv,slot_tuple_getitem→bU,wpS_forRange→cB,zipApart_new→cV,wpS_mono→dm,wpS_modify→er,wpS_get→eX,entry_tuple_getitem→fO,slicePart_none→fR,wpS_lift→fX,args_tuple_getitem→f9,boot_tuple→gN,pairsOf_size→gZ,subscriptTail_builtinR→iF,mirror_perm→iI,boot_sorted→iM,pairsOf_toList→iS,boot_range→iV,tupleItemsOf_→i8,listUpdate_at→jc,getElem?_mirror_all→jh,seqEpoch_at→jV,Subscript_→kc
open Or renaming inl→au,inr→dv
open Int renaming emod_lt_of_pos→aD,emod_nonneg→aJ,toNat_natCast→bz,le_refl→bT,le_trans→bY,mul_le_mul_of_nonneg_right→cq,emod_eq_of_lt→cG,mul_zero→cX,le_of_lt→eg,zero_mul→eh,mul_comm→eS,pow_succ→fK,fdiv_eq_ediv_of_nonneg→gh,mul_emod→hW,natCast_add→iA,one_mul→iJ,emod_emod_of_dvd→i6,sub_zero→jC,zero_add→jD,add_emod→jF,lt_trichotomy→jL,emod_add_emod→jP,mul_one→jR,mul_nonneg→ky
open Bool renaming false_ne_true→aL,false_eq_true→bm,eq_iff_iff→cf,and_eq_true→cM,and_true→jb,or_eq_true→kg,and_comm→kJ
open Option.some renaming inj→aM,injEq→jM
open PySem.Value renaming ref→aO,none→dq,type→iT,notImplemented→iX,int→jk,bool→j9,str→kD,isStrOf→kE
open PySem.Builtin.SmallTypes renaming nextOf→aZ,ownedTupleIsFree→bJ,ownedTupleHandOut→cA,newRecord→ku
open Array renaming getElem?_toList→bn,length_toList→bp,toList_append→bF,getElem?_eq_some_iff→cL,toList_extract→cZ,perm_iff_toList_perm→eF,toList_reverse→fJ,toList_map→j6,size_map→kB,toList→kK
open PySem.PassesOwn renaming never→br
open PySem.Paired renaming mono→bw,snoc→bH,length→gf
open PySem.Str renaming ofString→bL
open PySem.Builtin.Slice renaming slicePlaces→bN,sliceAdjust→cm,sliceApplied→eB,sliceFields→gI
open PySem.F renaming plainAttrs_list→bV,slot_list_append→b8,type_list_append→b9,slot_zip_next→cY,slot_dict_keyiterator_next→dn,slot_tuple_iterator_next→dA,slot_enumerate_next→ed,args_tuple_add_2→eM,entry_tuple_add→eZ,args_zip_next_1→fh,slot_tuple_add→fk,entry_zip_next→fw,slot_int_rmul→fE,args_dict_keyiterator_next_1→fL,entry_dict_keyiterator_next→fN,args_tuple_iterator_next_1→fU,entry_tuple_iterator_next→gc,args_tuple_mul_2→ge,entry_tuple_mul→gG,slot_tuple_mul→hV,args_enumerate_next_1→ie,entry_enumerate_next→iH,args_list_append_2→iY,args_object_init_2→i0,entry_list_append→jf,slot_list_append→jv,args_int_rmul_2→jI,entry_int_rmul→jZ,slot_dict_iter→j5
open PySem.NameKind renaming free→bW,cell→cJ
open ForInStep renaming yield→cn,done→eY
open List.Nodup renaming length_le_of_subset→cr
open PySem.Builtin.Tuple renaming tupleExact→cw,tupleItemsOf→eC,tupleTooMany→gr
open List.Pairwise renaming imp_of_mem→cD,nil→gz,imp→gH,sublist→iN,map→jN
open PySem.Heap.SameBut renaming update→cI
open PySem.Around renaming in1_units→cN
open PySem.Obj renaming data_mapFields→cP,mapSeq→cU,isFreed_of_fields→d9,mapFields→gk,cls_mapFields→gB
open Sum renaming inl→c9,inr→gP
open False renaming elim→dE
open Ne renaming symm→dG
open PySem.AutoSeq1 renaming sub_tuple_tuple→dL,idx_int→hU
open List.Perm renaming trans→eI
open PySem.Builtin.List renaming listTooLong→eQ
open List.cons renaming inj→fq
open PySem.Builtin.Dict_items renaming ownsTuple→fY
open PyProof.Rows.IsTup renaming new→f'
open PySem.SeqAt.EqAt renaming of_refs→gd,int_str→jl,str_int→jm,int_int→jq,same→kd
open PySem.Calls renaming Name_function_global→gg,call_function_entry→gL,spliced_cons→jo,spliced_nil→jG
open Classical renaming propDecidable→ik,em→jx
open PyProof renaming noPylong_small→iD
open PySem.Builtin.Dict renaming showsAll→iQ
open PySem.SeqAt renaming EqAt→iW
open PySem.W.KatTups renaming cons→i4
open PySem.SeqAt.RcNeAt renaming tuples→jg
open PySem.Heap.IsSliceOf renaming new→jt
open Option renaming isSome_some→jy,getD_none→jW,getD_some→j0,toList→kG,none→kO
open PySem.Data renaming fields→jQ,seq→kM
open PySem.Shared renaming heap→jU
open PySem.IsL renaming update→jY
open PySem.Draws renaming list→ki
open True renaming intro→kj
open PyProof.Rows.SortSt renaming mk'→km
open Prod renaming ext→kL
open Sum.inl renaming inj→kN
local macro_rules | `(tactic| trivial)=>`(tactic| first | exact .inl rfl | exact .inr rfl | assumption)
local macro_rules|`(#[$xs,*])=>do
 let a:=xs.getElems
 if h:a.size=0 then Lean.Macro.throwUnsupported else
 let s:=a[0].raw.getId.eraseMacroScopes.toString
 if s=="O" then `(by lia) else if s=="D" then `(by decide) else if s=="N" then `(by decide +kernel) else if s=="S" then `(⟨rfl,rfl,rfl,by decide +kernel,rfl,by decide +kernel,by decide +kernel⟩) else if s=="A" then `(Or.inl rfl) else if s=="M" then `(by simp) else
 match [("_____eb","zf"),("________eee","zbj zl zdP"),("________eeee","zK"),("_","zjp zO zG zau zeJ z8 zan zJ zR zmd zg zbb zhB zbc zdt zc2 zdj zaS zN zbl zY zgV zbS za4 zhA zfB zgP"),("_e__f","pvx"),("_________ereeeddrr","zQ zaL"),("___er","ya"),("___e","zo za3 zcH"),("____e","zM zac z0 zbs zfd"),("_______eeeu","zL"),("____","zh zde"),("__e____efeert","zr"),("_____e","zaH"),("______b","zcz"),("_____eer","zc zm"),("________________eefeeeneedrr","zw"),("________efeeei","zaP"),("______feer","zbp"),("__e_efet","zi"),("____er","zbP"),("____________eeeeeerrrrr","zdg"),("_f","zeK zcy"),("_____________efeeeeei","zaj"),("__f","zaM"),("_ef","zdZ zbF"),("__________eeee","zaR"),("______eerrr","zb7"),("______ferr","za2"),("_____________e___efeefeeeeerit","zbW"),("___","zbC"),("______eee","zfQ"),("__e______efeeet","zjj"),("___fe","zW"),("_________feerr","zdw"),("_e___e_fferr","zaU"),("________feer","zfW"),("______ee","zhw"),("_______ee","zhv"),("________fee","zhu"),("_e","zgZ")].find? fun q=>(q.2.splitOn " ").contains s with
 |none=>Lean.Macro.throwUnsupported
 |some (p,_)=>do
  let mut r:=#[]
  let mut i:=1
  for c in p.toList do
   if c=='e' then
    r:=r.push (a[i]!)
    i:=i+1
   else if c=='b' then
    r:=r.push (←`((by exact $(a[i]!))))
    i:=i+1
   else r:=r.push (←match c with|'_'=>`(_)|'r'=>`((by rfl))|'d'=>`((by decide))|'f'=>`(rfl)|'t'=>`((by trivial))|'i'=>`((by intro _; rfl))|'u'=>`((fun _ _=>rfl))|'n'=>`(.nil)|'l'=>`(Or.inl rfl)|'o'=>`(Or.inr rfl)|_=>`(nomark _))
  return Lean.Syntax.mkApp (←`(@$(⟨a[0].raw⟩):ident)) r
set_option Elab.async false
set_option linter.all false
set_option maxRecDepth 100000
namespace L2
open PySem PySem.Spec PyProof.Rows
abbrev Key:=Sum Int Str
def zeF:Key→Value→Bool
 | .inl k,v=>Value.isInt k v
 | .inr x,v=>kE x v
def zoi (w:World):Key→Int
 | .inl k=>hashInt k
 | .inr x=>hashStr w x
theorem zaq:∀ {k:Key} {v:Value},zeF k v=true→(∃ i t,k=c9 i∧v=jk i t)∨(∃ x t,k=gP x∧v=kD x t)
 | .inl i,v,h=>by
  obtain⟨t,e⟩:=Value.isInt_shape (k:=i) (v:=v) h;exact .inl ⟨i,t,rfl,e⟩
 | .inr x,v,h=>by
  obtain⟨t,e⟩:=Value.isStrOf_shape (x:=x) (v:=v) h;exact .inr ⟨x,t,rfl,e⟩
theorem ziu (i:Int) (t:Tok):zeF (.inl i) (.int i t)=true:=by simp [zeF,Value.isInt]
theorem ziv (x:Str) (t:Tok):zeF (.inr x) (.str x t)=true:=by simp [zeF,kE]
theorem zmr (a b:Int):decide ((c9 a:Key)=c9 b)=(a == b):=by
 by_cases e:a=b
 ·subst e; simp
 ·have h:¬ (c9 a:Key)=c9 b:=fun q=>e (kN q)
  rw [decide_eq_false h];exact (beq_eq_false_iff_ne.mpr e).symm
theorem zms (a b:Str):decide ((gP a:Key)=gP b)=decide (a=b):=by
 by_cases e:a=b
 ·subst e; simp
 ·have h:¬ (gP a:Key)=gP b:=fun q=>e (Sum.inr.inj q)
  rw [decide_eq_false h,decide_eq_false e]
theorem zmt (a:Int) (b:Str):decide ((c9 a:Key)=gP b)=false:=decide_eq_false (fun q=>nomatch q)
theorem zmu (a:Str) (b:Int):decide ((gP a:Key)=c9 b)=false:=decide_eq_false (fun q=>nomatch q)
def zaD (prog:Program) (w:World):PySem.KeyKind prog w Key where
 is:=zeF
 hash:=zoi w
 inj:=fun v a b ha hb=>by
  rcases zaq ha with ⟨i,t,rfl,rfl⟩ | ⟨x,t,rfl,rfl⟩
  ·rcases zaq hb with ⟨j,u,rfl,e⟩ | ⟨y,u,rfl,e⟩
   ·injection e with e1 _; rw [e1]
   ·exact nomatch e
  ·rcases zaq hb with ⟨j,u,rfl,e⟩ | ⟨y,u,rfl,e⟩
   ·exact nomatch e
   ·injection e with e1 _; rw [e1]
 byValue:=fun k v h=>by
  rcases zaq h with ⟨i,t,rfl,rfl⟩ | ⟨x,t,rfl,rfl⟩ <;> rfl
 pyHash:=fun hv h=>by
  rcases zaq hv with ⟨i,t,rfl,rfl⟩ | ⟨x,t,rfl,rfl⟩
  ·exact wpAny_pyHash_int h
  ·exact wpAny_pyHash_str h
 eqBool:=fun hu hv h=>by
  rcases zaq hu with ⟨i,t,rfl,rfl⟩ | ⟨x,t,rfl,rfl⟩
  ·rcases zaq hv with ⟨j,u,rfl,rfl⟩ | ⟨y,u,rfl,rfl⟩
   ·rw [zmr] at h; exact wpAny_eqBool_int h
   ·rw [zmt] at h; exact jl i t y u _ _ _ _ h
  ·rcases zaq hv with ⟨j,u,rfl,rfl⟩ | ⟨y,u,rfl,rfl⟩
   ·rw [zmu] at h; exact jm x t j u _ _ _ _ h
   ·rw [zms] at h; exact wpAny_eqBool_str h
 «strs»:=fun k x t v h=>by
  rcases zaq h with ⟨i,u,rfl,e⟩ | ⟨y,u,rfl,e⟩
  ·exact nomatch e
  ·injection e with e1 _
   subst e1;cases v <;> rfl
theorem zfN (prog:Program) (w:World) (i:Int) (t:Tok):(zaD prog w).is (.inl i) (.int i t)=true:=ziu i t
theorem zfO (prog:Program) (w:World) (x:Str) (t:Tok):(zaD prog w).is (.inr x) (.str x t)=true:=ziv x t
inductive V where
 | non | bl (b:Bool) | int (i:Int) | str (x:Str) | byt (b:Array UInt8) | flt (b:UInt64) | ref (a:Addr) | ty (n:String)
 deriving DecidableEq
def RelV:V→Value→Prop
 | .non,u=>u=dq
 | .bl b,u=>u=j9 b
 | .int i,u=>∃ t,u=jk i t
 | .str x,u=>∃ t,u=kD x t
 | .byt b,u=>∃ t,u=Value.bytes b t
 | .flt b,u=>∃ t,u=Value.float b t
 | .ref a,u=>u=aO a
 | .ty n,u=>u=iT n
abbrev zF:List V→List Value→Prop:=Paired RelV
theorem zF.length {xs:List V} {us:List Value} (r:zF xs us):xs.length=us.length:=gf r
theorem zF.get:∀ {xs:List V} {us:List Value} {i:Nat} {x:V},zF xs us→xs[i]? = some x→∃ u,us[i]? = some u∧RelV x u
 | _,_,_,_,.nil,e=>by simp at e
 | _,_,0,_,.cons r _,e=>by simp at e; subst e; exact⟨_,rfl,r⟩
 | _,_,i+1,x,.cons _ t,e=>by
  obtain⟨u,h1,h2⟩:=zF.get (i:=i) (x:=x) t (by simpa using e);exact⟨u,by simpa using h1,h2⟩
theorem zF.set {x:V} {u:Value} (r:RelV x u):∀ {xs:List V} {us:List Value} (i:Nat),zF xs us→zF (xs.set i x) (us.set i u)
 | _,_,_,.nil=>.nil
 | _,_,0,.cons _ t=>.cons r t
 | _,_,i+1,.cons q t=>.cons q (zF.set r i t)
theorem zF.append:∀ {xs ys:List V} {us ws:List Value},zF xs us→zF ys ws→zF (xs++ys) (us++ws)
 | _,_,_,_,.nil,s=>s
 | _,_,_,_,.cons r t,s=>.cons r (zF.append t s)
theorem zF.take:∀ {xs:List V} {us:List Value} (n:Nat),zF xs us→zF (xs.take n) (us.take n)
 | _,_,0,_=>.nil
 | _,_,_+1,.nil=>.nil
 | _,_,n+1,.cons r t=>.cons r (zF.take n t)
theorem zF.drop:∀ {xs:List V} {us:List Value} (n:Nat),zF xs us→zF (xs.drop n) (us.drop n)
 | _,_,0,r=>r
 | _,_,_+1,.nil=>.nil
 | _,_,n+1,.cons _ t=>zF.drop n t
def zjh:Option V→Option Value→Prop
 | some v,some u=>RelV v u
 | none,none=>True
 | _,_=>False
def KV {κ:Type}:List (κ×V)→List (κ×Value)→Prop:=Paired fun (p:κ×V) (q:κ×Value)=>p.1=q.1∧RelV p.2 q.2
def kV:Key→V
 | .inl i=>.int i
 | .inr x=>.str x
inductive HO where
 | lst (xs:List V)
 | tup (xs:List V)
 | dK (kZ:List (Key×V)) | dT (kZ:List (List Key×V))
 | set (S:Int→Bool) (n:Nat)
 | ins (C dx:Addr) (fs:List (Str×V))
 | own (x:Addr)
 | xd (fs:List (Str×V))
 | met (f x:Addr)
 | rng (lo hi:Int)
 | frz (o:Obj) (u:HO)
 | tbl (ps:Array Value)
 | ext (φ:Heap→Prop)
abbrev Hp:=Addr→Option HO
def kW (H:Hp) (a:Addr) (o:HO):Hp:=fun b=>if b=a then some o else H b
theorem zd {H:Hp} {a:Addr} {o:HO}:kW H a o a=some o:=by unfold kW; rw [if_pos rfl]
theorem zq {H:Hp} {a b:Addr} {o:HO} (h:b≠a):kW H a o b=H b:=by unfold kW; rw [if_neg h]
theorem zkZ {H:Hp} {a:Addr} {o u:HO}:kW (kW H a o) a u=kW H a u:=by
 funext b; unfold kW; split <;> rfl
theorem zny {H:Hp} {a b:Addr} {o u:HO} (h:H a=some o) (h':H b=some u) (d:o≠u):a≠b:=by
 intro e; subst e; rw [h] at h'; exact d (aM h')
theorem zH {H:Hp} {a b:Addr} {o:HO} (h:H a=some o) (h':H b=none):a≠b:=by
 intro e; subst e; rw [h] at h'; cases h'
section
variable (P:Program) (w:World)
def zaz (H:Hp) (h:Heap) (a:Addr):HO→Prop
 | .lst xs=>xs.length≤sizeLine∧∃ (kR:List Value) (n:Nat),zF xs kR∧h.get? a=some { cls:=.type "list",data:=.seq kR.toArray n }
 | .tup xs=>xs.length≤sizeLine∧∃ kR:List Value,zF xs kR∧IsTup h a kR.toArray
 | .dK kZ=>kZ.length≤sizeLine∧(a == sysModules)=false∧∃ vs,KV kZ vs∧h.DictOf (zaD P w) a vs
 | .dT kZ=>kZ.length≤sizeLine∧(a == sysModules)=false∧∃ xs:List (List Key×Addr×Value),
   Paired (fun (p:List Key×V) (q:List Key×Addr×Value)=>p.1=q.1∧H q.2.1=some (.tup (p.1.map kV))∧RelV p.2 q.2.2) kZ xs ∧
   ∃ o es ep,h.get? a=some o∧o.ExactDict∧o.data = .dict es ep∧es.toList=xs.map (entryOfKey (tupleKind (zaD P w)))∧(xs.map (·.1)).Nodup
 | .set S n=>h.SetOf (intKind P w) a S n
 | .ins C dx fs=>H dx=some (.own a)∧fs.length≤1000∧dx≠a∧h.get? a=some (PySem.W.instObj C dx) ∧
   ∃ mA,h.Ns1 dx mA∧(∀ f,zjh (fs.lookup f) (mA f))∧PySem.Within mA (fs.map (·.1))
 | .own _=>∃ o,h.get? a=some o
 | .xd fs=>∃ mA,h.Ns1 a mA∧∀ f,zjh (fs.lookup f) (mA f)
 | .rng lo hi=>∃ t u v,h.get? a=some { cls:=.type "range",data:=.fields #[.int lo t,.int hi u,.int 1 v] }
 | .frz o u=>h.get? a=some o∧zaz H h a u
 | .tbl ps=>h.get? a=some { cls:=.none,data:=.fields ps }
 | .met f x=>h.get? a=some (gt (.ref f) (.ref x))
 | .ext φ=>φ h∧(∃ o,h.get? a=some o)∧∀ h1 h2:Heap,φ h1→(∀ o,h1.get? a=some o→h2.get? a=some o)→φ h2
def HOk (H:Hp) (h:Heap):Prop:=∀ a o,H a=some o→zaz P w H h a o
end
section
variable {P:Program} {w:World} {H H':Hp} {h h':Heap} {a:Addr} {o:HO}
theorem zaz.lt (x:zaz P w H h a o):a < h.objs.size:=by
 cases o with
 | lst xs=>obtain⟨_,_,_,_,e⟩:=x; exact aF e
 | tup xs=>obtain⟨_,_,_,p⟩:=x; exact p.lt
 | dK kZ=>obtain⟨_,_,_,_,o,_,_,e,_⟩:=x; exact aF e
 | dT kZ=>obtain⟨_,_,_,_,o,_,_,e,_⟩:=x; exact aF e
 | set S n=>obtain⟨o,_,_,_,e,_⟩:=x; exact aF e
 | ins C dx fs=>obtain⟨_,_,_,e,_⟩:=x; exact aF e
 | own y=>obtain⟨_,e⟩:=x; exact aF e
 | xd fs=>obtain⟨_,⟨_,_,_,e,_⟩,_⟩:=x; exact aF e
 | rng lo hi=>obtain⟨_,_,_,e⟩:=x; exact aF e
 | frz ob u=>obtain⟨e,_⟩:=x; exact aF e
 | tbl ps=>exact aF (show h.get? a=some _ from x)
 | met f y=>exact aF (show h.get? a=some _ from x)
 | ext φ=>obtain⟨_,⟨_,e⟩,_⟩:=x; exact aF e
theorem Paired.mapP {α β:Type} {F G:α→β→Prop}:∀ {l₁:List α} {l₂:List β},Paired F l₁ l₂→(∀ a b,F a b→G a b)→Paired G l₁ l₂
 | _,_,.nil,_=>.nil
 | _,_,.cons r t,f=>.cons (f _ _ r) (Paired.mapP t f)
theorem zaz.stay (x:zaz P w H h a o) (k:∀ b u,(b=a∨H b=some (.own a))→h.get? b=some u→h'.get? b=some u)
  (ho:∀ b,H b=some (.own a)→H' b=some (.own a)) (ht:∀ b xs,H b=some (.tup xs)→H' b=some (.tup xs)):zaz P w H' h' a o:=by
 induction o with
 | lst xs=>obtain⟨z,kR,n,r,e⟩:=x; exact⟨z,kR,n,r,k _ _ (.inl rfl) e⟩
 | tup xs=>obtain⟨z,kR,r,ob,e,c⟩:=x; exact⟨z,kR,r,ob,k _ _ (.inl rfl) e,c⟩
 | dK kZ=>obtain⟨z,y,vs,r,ob,es,ep,e,c⟩:=x; exact⟨z,y,vs,r,ob,es,ep,k _ _ (.inl rfl) e,c⟩
 | dT kZ =>
  obtain⟨z,y,xs,r,ob,es,ep,e,c⟩:=x;exact⟨z,y,xs,Paired.mapP r fun p q z=>⟨z.1,ht _ _ z.2.1,z.2.2⟩,ob,es,ep,k _ _ (.inl rfl) e,c⟩
 | set S n=>obtain⟨ob,es,ep,t,e,c⟩:=x; exact⟨ob,es,ep,t,k _ _ (.inl rfl) e,c⟩
 | ins C dx fs =>
  obtain⟨d,z,ne,e,mA,⟨od,es,ep,e2,c⟩,r⟩:=x;exact⟨ho _ d,z,ne,k _ _ (.inl rfl) e,mA,⟨od,es,ep,k _ _ (.inr d) e2,c⟩,r⟩
 | own y=>obtain⟨ob,e⟩:=x; exact⟨ob,k _ _ (.inl rfl) e⟩
 | xd fs=>obtain⟨mA,⟨od,es,ep,e,c⟩,r⟩:=x; exact⟨mA,⟨od,es,ep,k _ _ (.inl rfl) e,c⟩,r⟩
 | rng lo hi=>obtain⟨t,u,v,e⟩:=x; exact⟨t,u,v,k _ _ (.inl rfl) e⟩
 | frz ob u ih=>obtain⟨e,q⟩:=x; exact⟨k _ _ (.inl rfl) e,ih q⟩
 | tbl ps =>
  have e:h.get? a=some { cls:=.none,data:=.fields ps }:=x;show h'.get? a=some { cls:=.none,data:=.fields ps };exact k a _ (.inl rfl) e
 | met f y =>
  have e:h.get? a=some (gt (.ref f) (.ref y)):=x;show h'.get? a=some (gt (.ref f) (.ref y));exact k a _ (.inl rfl) e
 | ext φ=>obtain⟨p,⟨o,e⟩,st⟩:=x; exact⟨st _ _ p fun o q=>k _ _ (.inl rfl) q,⟨o,k _ _ (.inl rfl) e⟩,st⟩
theorem HOk.lt (x:HOk P w H h) (e:H a=some o):a < h.objs.size:=(x a o e).lt
theorem HOk.fresh (x:HOk P w H h) (e:h.objs.size≤a):H a=none:=by
 cases q:H a with
 | none=>rfl
 | some u=>exact absurd (bd (x.lt q) e) (ci _)
theorem HOk.kept (x:HOk P w H h) (k:∀ b u,h.get? b=some u→h'.get? b=some u):HOk P w H h':=fun a o e =>
 (x a o e).stay (fun b u _ q=>k b u q) (fun _ q=>q) fun _ _ q=>q
theorem HOk.laid (x:HOk P w H h) (k:∀ b u,h.get? b=some u→h'.get? b=some u) (hp:h.objs.size≤a) (new:zaz P w (kW H a o) h' a o):HOk P w (kW H a o) h':=fun b u e=>by
 have hn:=x.fresh hp;by_cases hb:b=a
 ·subst hb; rw [zd] at e; cases e; exact new
 ·rw [zq hb] at e;exact (x b u e).stay (fun c v _ q=>k c v q) (fun c q=>by rw [zq (zH q hn)]; exact q) fun c xs q=>by rw [zq (zH q hn)]; exact q
end
def Rd (H:Hp) (a:Addr) (u:HO):Prop:=H a=some u∨∃ o,H a=some (.frz o u)
theorem Rd.ok {P:Program} {w:World} {H:Hp} {h:Heap} {a:Addr} {u:HO} (r:Rd H a u) (x:HOk P w H h):zaz P w H h a u:=by
 rcases r with r | ⟨o,r⟩
 ·exact x a u r
 ·obtain⟨_,q⟩:=x a _ r;exact q
def Mut:Option HO→Prop
 | some (.lst _)=>True
 | some (.dK _)=>True
 | some (.dT _)=>True
 | some (.set _ _)=>True
 | some (.ins _ _ _)=>True
 | some (.ext _)=>True
 | _=>False
section
variable {P:Program} {w:World} {H:Hp} {h h':Heap} {x e:Addr} {o':HO}
theorem HOk.write (ok:HOk P w H h) (mu:Mut (H x)) (he:e=x∨H e=some (.own x)) (k:∀ b u,b≠e→h.get? b=some u→h'.get? b=some u) (xu:∃ u,h'.get? e=some u)
  (new:zaz P w (kW H x o') h' x o'):HOk P w (kW H x o') h':=fun b u q=>by
 have x5:∀ c y,H c=some (.own y)→c≠x:=fun c y r z=>by subst z; rw [r] at mu; exact mu
 have BS:∀ c xs,H c=some (.tup xs)→c≠x:=fun c xs r z=>by subst z; rw [r] at mu; exact mu
 by_cases hb:b=x
 ·subst hb; rw [zd] at q; cases q; exact new
 ·rw [zq hb] at q;by_cases wc:b=e
  ·have q':H b=some (.own x):=by
    rcases he with z | z
    ·exact absurd (wc.trans z) hb
    ·rw [wc]; exact z
   rw [q] at q'; cases q';obtain⟨v,hv⟩:=xu;exact⟨v,by rw [wc]; exact hv⟩
  ·refine (ok b u q).stay (fun c v hc r=>k c v ?_ r) (fun c r=>by rw [zq (x5 c b r)]; exact r) fun c xs r=>by rw [zq (BS c xs r)]; exact r
   rcases hc with rfl | hc
   ·exact wc
   ·rintro rfl;rcases he with z | z
    ·exact x5 c b hc z
    ·rw [hc] at z; cases z; exact hb rfl
end
structure Un (fs ex:List Addr) (H H':Hp) (h h':Heap):Prop where
 keep:∀ b o,h.get? b=some o→H b=none→b∉fs→b∉ex→h'.get? b=some o
 slot:∀ b o,h.get? b=some o→H b=none→b∈fs→b∉ex→∃ sl,h'.get? b=some { o with slots:=sl }
 free:∀ b o,h.get? b=some o→H b=none→b∉ex→H' b=none
 there:∀ b o,h.get? b=some o→b∉ex→∃ o',h'.get? b=some o'
 tups:∀ b xs,H b=some (.tup xs)→H' b=some (.tup xs)
 frzs:∀ b o u,H b=some (.frz o u)→H' b=some (.frz o u)
 tbls:∀ b ps,H b=some (.tbl ps)→∃ more,H' b=some (.tbl (ps++more))
section
variable {fs fs' ex ex':List Addr} {H H1 H2:Hp} {h h1 h2 h':Heap} {a x e:Addr} {o:HO}
theorem Un.any (u:Un fs ex H H1 h h1) {b:Addr} {ob:Obj} (q:h.get? b=some ob) (n:H b=none) (hx:b∉ex):∃ sl,h1.get? b=some { ob with slots:=sl }:=by
 by_cases hb:b∈fs
 ·exact u.slot b ob q n hb hx
 ·exact⟨ob.slots,u.keep b ob q n hb hx⟩
theorem Un.kept (k:∀ b u,h.get? b=some u→h'.get? b=some u):Un fs ex H H h h' :=
 ⟨fun b ob q _ _ _=>k b ob q,fun b ob q _ _ _=>⟨ob.slots,k b ob q⟩,fun _ _ _ n _=>n,fun b ob q _=>⟨ob,k b ob q⟩,fun _ _ q=>q,fun _ _ _ q=>q,fun _ ps q=>⟨#[],by rw [q]; simp⟩⟩
theorem Un.refl:Un fs ex H H h h:=Un.kept fun _ _ q=>q
theorem Un.laid (k:∀ b u,h.get? b=some u→h'.get? b=some u) (hp:h.objs.size≤a) (hn:H a=none):Un fs ex H (kW H a o) h h' where
 keep:=fun b u q _ _ _=>k b u q
 slot:=fun b u q _ _ _=>⟨u.slots,k b u q⟩
 free:=fun b u q n _=>by rw [zq (bf (bd (aF q) hp))]; exact n
 there:=fun b u q _=>⟨u,k b u q⟩
 tups:=fun b xs q=>by rw [zq (zH q hn)]; exact q
 frzs:=fun b u xs q=>by rw [zq (zH q hn)]; exact q
 tbls:=fun b ps q=>⟨#[],by rw [zq (zH q hn),q]; simp⟩
theorem Un.write (mu:Mut (H x)) (he:e=x∨H e=some (.own x)) (k:∀ b u,b≠e→h.get? b=some u→h'.get? b=some u) (xu:∃ u,h'.get? e=some u):Un fs ex H (kW H x o) h h':=by
 have hx:∀ b,H b=none→b≠x:=fun b n z=>by subst z; rw [n] at mu; exact mu
 have hb:∀ b,H b=none→b≠e:=fun b n z=>by
  subst z;rcases he with r | r
  ·exact hx b n r
  ·rw [n] at r; cases r
 have hm:∀ b u,H b=some u→¬ Mut (some u)→b≠x:=fun b u q nm z=>by subst z; rw [q] at mu; exact nm mu
 refine⟨fun b u q n _ _=>k b u (hb b n) q,fun b u q n _ _=>⟨u.slots,k b u (hb b n) q⟩,fun b u q n _=>by rw [zq (hx b n)]; exact n,fun b u q _=>?_,
  fun b xs q=>by rw [zq (hm b _ q fun z=>z)]; exact q,fun b u xs q=>by rw [zq (hm b _ q fun z=>z)]; exact q,fun b ps q=>⟨#[],by rw [zq (hm b _ q fun z=>z),q]; simp⟩⟩
 by_cases wc:b=e
 ·subst wc; exact xu
 ·exact⟨u,k b u wc q⟩
end
def trk (h:Heap) (H:Hp):List Addr:=(aR h.objs.size).filter fun a=>(H a).isSome
def zfc (h:Heap) (H:Hp):Heap:=PySem.W.hideAll h (trk h H)
theorem ziw (h:Heap) (H:Hp):(zfc h H).objs.size=h.objs.size:=PySem.W.hideAll_size _ _
theorem zji {h:Heap} {H:Hp} {b:Addr} {o:Obj} (e:h.get? b=some o) (n:H b=none):(zfc h H).get? b=some o :=
 PySem.W.hideAll_get _ e fun hm=>by
  have q:(H b).isSome=true:=(ck.mp hm).2;rw [n] at q; simp at q
theorem zk0 {h:Heap} {H:Hp} {b:Addr} {o:Obj} (e:(zfc h H).get? b=some o):h.get? b=some o∧H b=none:=by
 have e':h.get? b=some o:=PySem.W.of_hideAll (trk h H) e;refine⟨e',?_⟩;cases q:H b with
 | none=>rfl
 | some x =>
  have hm:b∈trk h H:=ck.mpr ⟨bx.mpr (aF e'),by simp [q]⟩;have z:(zfc h H).get? b=none:=PySem.W.hideAll_none (trk h H) hm;rw [z] at e; cases e
structure Mod (K:ag) (mg:Str→Option Value) (base:Heap):Prop where
 kin:K.In base
 glob:base.Ns mainGlobals mg
 blt:∃ mb,base.Ns builtinsNs mb∧∀ x:Str,x≠"__name__"→mb x=bootBuiltins x
 nolimit:base.NoLimit
structure Cx where
 prog:Program
 w:World
 K:ag
 mg:Str→Option Value
 base:Heap
 A:Around
 N:List Str
 s₀:Shared
 H₀:Hp
 env:Env
 outer:List Env
 stack:List Env
 ex:List Addr
 fn:Str→Bool
 calm:Bool
 pn:List (Addr×Obj)
 xe:Value→Shared→Prop
def frs (l:List Env):List Addr:=l.filterMap (·.frame)
abbrev Cx.fs (X:Cx):List Addr:=frs X.outer
def Vis (sc:Scope) (x:Str):Prop:=sc.names.lookup x=some .local∨sc.names.lookup x=some .cell∨sc.names.lookup x=some .free
def Loc (sc:Scope) (x:Str):Prop:=sc.names.lookup x=some .local∨sc.names.lookup x=some .cell
def Look (env:Env) (h:Heap) (m:Str→Option Value) (x:Str) (u:Value):Prop :=
 (env.kindOf x=some .local∧m x=some u)∨((env.kindOf x=some .cell∨env.kindOf x=some .free)∧∃ c,env.cells.lookup x=some c∧h.IsCell c (some u))
structure Cx.Ok (X:Cx):Prop where
 mod:Mod X.K X.mg X.base
 kind:X.env.scope.kind = .function
 glob:X.env.globals=mainGlobals
 blt:X.env.builtins=builtinsNs
 above:X.s₀.heap.objs.size≤X.env.locals
 inj:∀ x y c,X.env.cells.lookup x=some c→X.env.cells.lookup y=some c→x=y
 has:∀ x,(X.env.kindOf x=some .cell∨X.env.kindOf x=some .free)→∃ c,X.env.cells.lookup x=some c
 cab:∀ x c,X.fn x=true→X.env.cells.lookup x=some c→X.s₀.heap.objs.size≤c
 hd:X.calm=true→X.A.handled=none
 frames:X.A.frames=some X.stack
 stk:X.stack=X.outer∨(X.stack=X.env :: X.outer∧X.env.frame=some X.env.locals)
 exf:∀ b∈X.ex,b≠X.env.locals∧∀ x c,X.env.cells.lookup x=some c→c≠b
 bs:∀ b o,X.base.get? b=some o→X.s₀.heap.get? b=some o∧X.H₀ b=none
 bsz:X.base.objs.size≤X.s₀.heap.objs.size
 noex:∀ b o,X.base.get? b=some o→b∉X.ex
 exfs:∀ b∈X.ex,b∉X.fs
 funs:X.s₀.heap.FunFrames X.base X.outer
 frf:∀ b∈X.fs,X.H₀ b=none
structure Inv (X:Cx) (kP:List (Addr×Obj)) (σ:List (Option V)) (H:Hp) (s:Shared):Prop where
 ok:X.Ok
 os:s.os=X.s₀.os
 bare:AllBare s.gens
 base:Un X.fs X.ex X.H₀ H X.s₀.heap s.heap
 loc:∃ m,s.heap.Ns X.env.locals m∧∀ (i:Nat) (x:Str) (v:V),X.N[i]? = some x→σ[i]? = some (some v)→Vis X.env.scope x→∃ u,RelV v u∧Look X.env s.heap m x u
 cell:∀ x c,X.env.cells.lookup x=some c→∃ v,s.heap.IsCell c v
 free:H X.env.locals=none
 freeC:∀ x c,X.env.cells.lookup x=some c→H c=none
 pin:∀ p∈X.pn++kP,s.heap.get? p.1=some p.2∧H p.1=none∧p.1≠X.env.locals∧p.1∉X.fs∧∀ v,p.2.data≠.cell v
 hok:HOk X.prog X.w H s.heap
 len:σ.length=X.N.length
section
variable {X:Cx} {kP:List (Addr×Obj)} {σ:List (Option V)} {H H':Hp} {s:Shared} {h':Heap}
theorem Cx.Ok.nofr (ok:X.Ok) {b:Addr} {o:Obj} (e:X.base.get? b=some o):b∉X.fs:=fun hb=>by
 have:=(ok.funs.mem hb).1;rw [e] at this; cases this
theorem Inv.bs (I:Inv X kP σ H s):∀ b o,X.base.get? b=some o→s.heap.get? b=some o∧H b=none:=fun b o e =>
 ⟨I.base.keep b o (I.ok.bs b o e).1 (I.ok.bs b o e).2 (I.ok.nofr e) (I.ok.noex b o e),I.base.free b o (I.ok.bs b o e).1 (I.ok.bs b o e).2 (I.ok.noex b o e)⟩
theorem Inv.bk (I:Inv X kP σ H s):∀ b o,X.base.get? b=some o→s.heap.get? b=some o:=fun b o e=>(I.bs b o e).1
theorem Inv.mod (I:Inv X kP σ H s):Mod X.K X.mg X.base:=I.ok.mod
theorem Inv.kIn (I:Inv X kP σ H s):X.K.In s.heap:=I.ok.mod.kin.keeps I.bk
theorem Inv.lt (I:Inv X kP σ H s):X.env.locals < s.heap.objs.size:=let ⟨_,hn,_⟩:=I.loc; hn.lt
theorem Inv.sz (I:Inv X kP σ H s):X.s₀.heap.objs.size≤s.heap.objs.size:=aU I.ok.above (gQ I.lt)
theorem Inv.nofs (I:Inv X kP σ H s) {a:Addr} (h:s.heap.objs.size≤a):a∉X.fs:=fun hb=>by
 obtain⟨_,o,ho,_⟩:=I.ok.funs.mem hb;exact absurd (bd (aF ho) (aU I.sz h)) (ci _)
theorem Inv.cne (I:Inv X kP σ H s):∀ x c,X.env.cells.lookup x=some c→c≠X.env.locals:=fun x c e z=>by
 obtain⟨v,o,ho,hd⟩:=I.cell x c e;obtain⟨m,⟨o',es,ep,uB,xv,_⟩,_⟩:=I.loc;rw [z,uB] at ho; cases ho; rw [xv] at hd; cases hd
theorem Inv.funs (I:Inv X kP σ H s):s.heap.FunFrames X.base X.outer:=by
 have all:∀ (l:List Env),(∀ b∈frs l,b∈X.fs)→X.s₀.heap.FunFrames X.base l→s.heap.FunFrames X.base l:=by
  intro l;induction l with
  | nil=>intro _ _; trivial
  | cons env r ih =>
   intro hs hl;obtain⟨hk,⟨L,o,hf,hn,ho,hd⟩,hr⟩:=hl;have hL:L∈X.fs:=hs L (by unfold frs; rw [cH,hf]; exact az);obtain⟨sl,e⟩:=I.base.slot L o ho (I.ok.frf L hL) hL fun z=>I.ok.exfs L z hL
   exact⟨hk,⟨L,_,hf,hn,e,hd⟩,ih (fun b hb=>hs b (by unfold frs; rw [cH,hf]; exact aj _ hb)) hr⟩
 exact all X.outer (fun _ hb=>hb) I.ok.funs
theorem Inv.stack (I:Inv X kP σ H s):s.heap.FunFrames X.base X.stack:=by
 rcases I.ok.stk with e | ⟨e,hf⟩
 ·rw [e]; exact I.funs
 ·rw [e];obtain⟨m,hn,_⟩:=I.loc;refine .cons (by rw [I.ok.kind]; decide) hf hn ?_ I.funs;exact Heap.get?_none_of_le (aU I.ok.bsz I.ok.above)
theorem Inv.stkSub (I:Inv X kP σ H s):∀ b∈frs X.stack,b∈X.env.locals :: X.fs:=fun b hb=>by
 rcases I.ok.stk with e | ⟨e,hf⟩
 ·rw [e] at hb; exact aj _ hb
 ·rw [e] at hb;unfold frs at hb;rw [cH,hf] at hb;exact hb
theorem Inv.stkFree (I:Inv X kP σ H s):∀ b∈frs X.stack,H b=none:=fun b hb=>by
 rcases aC.mp (I.stkSub b hb) with e | hb
 ·rw [e]; exact I.free
 ·obtain⟨_,o,ho,_⟩:=I.ok.funs.mem hb;exact I.base.free b o ho (I.ok.frf b hb) fun z=>I.ok.exfs b z hb
theorem Inv.step {g':Array GenState} {t':Nat} {d':Drawn} {ch:List Addr} (I:Inv X kP σ H s)
  (qE:∀ b∈ch,(b∈X.ex∨X.s₀.heap.objs.size≤b)∧b≠X.env.locals∧(∀ x c,X.env.cells.lookup x=some c→c≠b)∧∀ p∈X.pn++kP,p.1≠b)
  (keep:∀ b o,b≠X.env.locals→b∉X.fs→b∉ch→s.heap.get? b=some o→H b=none→h'.get? b=some o)
  (slot:∀ b o,b≠X.env.locals→b∈X.fs→b∉ch→s.heap.get? b=some o→H b=none→∃ sl,h'.get? b=some { o with slots:=sl }) (free:∀ b o,b∉ch→s.heap.get? b=some o→H b=none→H' b=none)
  (there:∀ b o,b∉ch→s.heap.get? b=some o→∃ o',h'.get? b=some o')
  (tups:∀ b xs,H b=some (.tup xs)→H' b=some (.tup xs)) (frzs:∀ b o u,H b=some (.frz o u)→H' b=some (.frz o u)) (tbls:∀ b ps,H b=some (.tbl ps)→∃ more,H' b=some (.tbl (ps++more)))
  (ns:∀ m,s.heap.Ns X.env.locals m→h'.Ns X.env.locals m) (hok:HOk X.prog X.w H' h') (hg:AllBare g') :
  Inv X kP σ H' { s with heap:=h',gens:=g',drawn:=d',toks:=t' }:=by
 have neL:∀ b o,X.s₀.heap.get? b=some o→b≠X.env.locals:=fun b o e=>bf (bd (aF e) I.ok.above)
 have AY:∀ b o,X.s₀.heap.get? b=some o→b∉X.ex→b∉ch:=fun b o e hx hb=>by
  rcases (qE b hb).1 with z | z
  ·exact hx z
  ·exact absurd (bd (aF e) z) (ci _)
 have cellK:∀ x c,X.env.cells.lookup x=some c→∀ v,s.heap.IsCell c v→h'.IsCell c v:=fun x c e v ⟨o,ho,hd⟩=>by
  have x6:c∉ch:=fun z=>(qE c z).2.2.1 x c e rfl
  by_cases hc:c∈X.fs
  ·obtain⟨sl,q⟩:=slot c o (I.cne x c e) hc x6 ho (I.freeC x c e);exact⟨_,q,hd⟩
  ·exact⟨o,keep c o (I.cne x c e) hc x6 ho (I.freeC x c e),hd⟩
 refine⟨I.ok,I.os,hg,⟨fun b o e n hb hx=>?_,fun b o e n hb hx=>?_,fun b o e n hx=>?_,fun b o e hx=>?_,fun b xs e=>tups b xs (I.base.tups b xs e),fun b o xs e=>frzs b o xs (I.base.frzs b o xs e),fun b ps e=>?_⟩,?_,fun x c e=>?_,?_,fun x c e=>?_,fun p hp=>?_,hok,I.len⟩
 ·exact keep b o (neL b o e) hb (AY b o e hx) (I.base.keep b o e n hb hx) (I.base.free b o e n hx)
 ·obtain⟨sl,e1⟩:=I.base.slot b o e n hb hx;obtain⟨sl',e2⟩:=slot b _ (neL b o e) hb (AY b o e hx) e1 (I.base.free b o e n hx);exact⟨sl',e2⟩
 ·obtain⟨o',e1⟩:=I.base.there b o e hx;exact free b o' (AY b o e hx) e1 (I.base.free b o e n hx)
 ·obtain⟨o',e1⟩:=I.base.there b o e hx;exact there b o' (AY b o e hx) e1
 ·obtain⟨m1,e1⟩:=I.base.tbls b ps e;obtain⟨m2,e2⟩:=tbls b _ e1;exact⟨m1++m2,by rw [e2,Array.append_assoc]⟩
 ·obtain⟨m,hn,hl⟩:=I.loc;refine⟨m,ns m hn,fun i x v e1 e2 e3=>?_⟩;obtain⟨u,r,l⟩:=hl i x v e1 e2 e3;refine⟨u,r,?_⟩;rcases l with l | ⟨k,c,e,z⟩
  ·exact .inl l
  ·exact .inr ⟨k,c,e,cellK x c e _ z⟩
 ·obtain⟨v,z⟩:=I.cell x c e;exact⟨v,cellK x c e v z⟩
 ·obtain⟨m,⟨o,_,_,ho,_⟩,_⟩:=I.loc;exact free _ o (fun z=>(qE _ z).2.1 rfl) ho I.free
 ·obtain⟨v,o,ho,hd⟩:=I.cell x c e;exact free c o (fun z=>(qE c z).2.2.1 x c e rfl) ho (I.freeC x c e)
 ·obtain⟨e,n,ne,nf,d⟩:=I.pin p hp;have x6:p.1∉ch:=fun z=>(qE p.1 z).2.2.2 p hp rfl
  exact⟨keep p.1 p.2 ne nf x6 e n,free p.1 p.2 x6 e n,ne,nf,d⟩
theorem Inv.un {t':Nat} (I:Inv X kP σ H s) (u:Un X.fs [] H H' s.heap h') (hok:HOk X.prog X.w H' h'):Inv X kP σ H' { s with heap:=h',toks:=t' }:=by
 obtain⟨m,⟨o,es,ep,ho,r⟩,_⟩:=id I.loc;obtain⟨sl,hL⟩:=u.any ho I.free #[M];exact I.step (g':=s.gens) (d':=s.drawn) (ch:=[]) (fun _ z=>nomatch z) (fun b o _ hb _ e n=>u.keep b o e n hb #[M]) (fun b o _ hb _ e n=>u.slot b o e n hb #[M]) (fun b o _ e n=>u.free b o e n #[M]) (fun b o _ e=>u.there b o e #[M]) u.tups u.frzs u.tbls (fun m' hm=>by
  obtain⟨o',uM,BU,uB,r'⟩:=hm;rw [ho] at uB; cases uB;exact⟨_,uM,BU,hL,r'⟩) hok I.bare
theorem Inv.call {g':Array GenState} {t':Nat} {d':Drawn} {ch:List Addr} (I:Inv X kP σ H s) (u:Un (frs X.stack) ch H H' s.heap h') (hok:HOk X.prog X.w H' h') (hg:AllBare g')
  (qE:∀ b∈ch,(b∈X.ex∨X.s₀.heap.objs.size≤b)∧b≠X.env.locals∧(∀ x c,X.env.cells.lookup x=some c→c≠b)∧∀ p∈X.pn++kP,p.1≠b) :
  Inv X kP σ H' { s with heap:=h',gens:=g',drawn:=d',toks:=t' }:=by
 obtain⟨m,⟨o,es,ep,ho,r⟩,_⟩:=id I.loc;obtain⟨sl,hL⟩:=u.any ho I.free fun z=>(qE _ z).2.1 rfl
 exact I.step (ch:=ch) qE (fun b o hL hb hc e n=>u.keep b o e n (fun z=>(aC.mp (I.stkSub b z)).elim hL hb) hc) (fun b o _ _ hc e n=>u.any e n hc) (fun b o hc e n=>u.free b o e n hc) (fun b o hc e=>u.there b o e hc) u.tups u.frzs u.tbls (fun m' hm=>by
  obtain⟨o',uM,BU,uB,r'⟩:=hm;rw [ho] at uB; cases uB;exact⟨_,uM,BU,hL,r'⟩) hok hg
theorem Inv.turned {t':Nat} {it:Addr} (I:Inv X kP σ H s) (k:∀ b o,b≠it→s.heap.get? b=some o→h'.get? b=some o) (hn:H it=none) (hL:it≠X.env.locals)
  (h1:it∈X.ex∨X.s₀.heap.objs.size≤it) (h2:∀ x c,X.env.cells.lookup x=some c→c≠it) (h3:∀ p∈X.pn++kP,p.1≠it):Inv X kP σ H { s with heap:=h',toks:=t' }:=by
 have rD:∀ b u,H b=some u→b≠it:=fun b u e z=>by rw [z,hn] at e; cases e
 refine I.step (g':=s.gens) (d':=s.drawn) (ch:=[it]) (fun b hb=>?_) (fun b o _ _ hc e _=>k b o (fun z=>hc (by simp [z])) e) (fun b o _ _ hc e _=>⟨o.slots,k b o (fun z=>hc (by simp [z])) e⟩) (fun _ _ _ _ n=>n)
  (fun b o hc e=>⟨o,k b o (fun z=>hc (by simp [z])) e⟩) (fun _ _ e=>e) (fun _ _ _ e=>e) (fun b ps e=>⟨#[],by rw [e]; simp⟩) (fun m hm=>?_) (fun b u e=>?_) I.bare
 ·have e:b=it:=by simpa using hb
  subst e;exact⟨h1,hL,h2,h3⟩
 ·obtain⟨o,es,ep,ho,r⟩:=hm;exact⟨o,es,ep,k _ o (dG hL) ho,r⟩
 ·refine (I.hok b u e).stay (fun c v hc q=>k c v ?_ q) (fun _ q=>q) fun _ _ q=>q
  rcases hc with z | z
  ·rw [z]; exact rD b u e
  ·exact rD c _ z
theorem Inv.tok (I:Inv X kP σ H s) (t:Nat):Inv X kP σ H { s with toks:=t }:=I.un (h':=s.heap) (t':=t) Un.refl I.hok
theorem Inv.kept {t':Nat} (I:Inv X kP σ H s) (k:∀ b u,s.heap.get? b=some u→h'.get? b=some u):Inv X kP σ H { s with heap:=h',toks:=t' }:=I.un (Un.kept k) (I.hok.kept k)
theorem Inv.laid {a:Addr} {o:HO} {t':Nat} (I:Inv X kP σ H s) (k:∀ b u,s.heap.get? b=some u→h'.get? b=some u) (hp:s.heap.objs.size≤a) (new:zaz X.prog X.w (kW H a o) h' a o) :
  Inv X kP σ (kW H a o) { s with heap:=h',toks:=t' }:=I.un (Un.laid k hp (I.hok.fresh hp)) (I.hok.laid k hp new)
theorem Inv.write {x e:Addr} {o:HO} {t':Nat} (I:Inv X kP σ H s) (mu:Mut (H x)) (he:e=x∨H e=some (.own x)) (k:∀ b u,b≠e→s.heap.get? b=some u→h'.get? b=some u) (xu:∃ u,h'.get? e=some u)
  (new:zaz X.prog X.w (kW H x o) h' x o):Inv X kP σ (kW H x o) { s with heap:=h',toks:=t' }:=I.un (Un.write mu he k xu) (I.hok.write mu he k xu new)
theorem Inv.weak {σ':List (Option V)} (I:Inv X kP σ H s) (hl:σ'.length=σ.length) (w:∀ (i:Nat) v,σ'[i]? = some (some v)→σ[i]? = some (some v)):Inv X kP σ' H s :=
 ⟨I.ok,I.os,I.bare,I.base,let ⟨m,hn,rE⟩:=I.loc; ⟨m,hn,fun i x v e1 e2 e3=>rE i x v e1 (w i v e2) e3⟩,I.cell,I.free,I.freeC,I.pin,I.hok,hl.trans I.len⟩
theorem Inv.pins_of {n5:List (Addr×Obj)} (I:Inv X kP σ H s) (h:∀ p∈n5,s.heap.get? p.1=some p.2∧H p.1=none∧p.1≠X.env.locals∧p.1∉X.fs∧∀ v,p.2.data≠.cell v):Inv X n5 σ H s :=
 ⟨I.ok,I.os,I.bare,I.base,I.loc,I.cell,I.free,I.freeC,fun p hp=>(aK.mp hp).elim (fun z=>I.pin p (aP _ z)) (h p),I.hok,I.len⟩
theorem zfP {N:List Str} (hN:N.Nodup) {i j:Nat} {x:Str} (a:N[i]? = some x) (b:N[j]? = some x):i=j:=by
 obtain⟨h1,e1⟩:=aA.mp a;obtain⟨h2,e2⟩:=aA.mp b;exact (List.getElem_inj hN).mp (e1.trans e2.symm)
theorem zeG {M:Model} {A:Around} {E:Value→Shared→Prop} {i:Nat} {x:Str} {v:V} {u:Value} {Q:Unit→Shared→Prop} (I:Inv X kP σ H s) (hN:X.N.Nodup) (hi:X.N[i]? = some x) (hx:Loc X.env.scope x) (r:RelV v u)
  (h:∀ s',Inv X kP (σ.set i (some v)) H s'→(∃ a,bg a s.heap s'.heap∧(a=X.env.locals∨X.env.cells.lookup x=some a))→Q () s') (hf:X.fn x=true∨X.env.scope.names.lookup x=some .local:=by first | exact .inl rfl | exact .inr rfl | assumption):wpAny M A (storeName X.env x u) Q E s:=by
 obtain⟨m,hn,hl⟩:=id I.loc;have BV:(X.env.scope.kind == .class || (X.env.scope.kind == .module && X.env.locals != X.env.globals))=false:=by rw [I.ok.kind]; rfl
 have hiσ:i < σ.length:=by rw [I.len]; exact (aA.mp hi).1
 have cne:=I.cne;have tracked:∀ {a:Addr} {h':Heap},(∃ o,s.heap.get? a=some o∧H a=none)→bg a s.heap h'→HOk X.prog X.w H h':=fun {a h'} ha hs b ob e=>by
  obtain⟨_,_,vH⟩:=ha;refine (I.hok b ob e).stay (fun c w' hc q=>(hs.2 c ?_).trans q) (fun _ q=>q) fun _ _ q=>q
  rintro rfl;rcases hc with rfl | hc
  ·rw [vH] at e; cases e
  ·rw [vH] at hc; cases hc
 rcases hx with hk | hk
 ·refine wpAny_storeName_local hk hn (fun h' xw hs=>?_) BV;obtain⟨oL,_,_,uN,_⟩:=id hn;refine h _ ⟨I.ok,I.os,I.bare,⟨fun b o e n hb hx=>?_,fun b o e n hb hx=>?_,I.base.free,fun b o e hx=>?_,I.base.tups,I.base.frzs,I.base.tbls⟩,⟨_,xw,fun j y v' e1 e2 e3=>?_⟩,fun y c e=>?_,I.free,I.freeC,fun p hp=>?_,tracked ⟨oL,uN,I.free⟩ hs,by simpa using I.len⟩ ⟨_,hs,.inl rfl⟩
  ·exact (hs.2 b (bf (bd (aF e) I.ok.above))).trans (I.base.keep b o e n hb hx)
  ·obtain⟨sl,e1⟩:=I.base.slot b o e n hb hx;exact⟨sl,(hs.2 b (bf (bd (aF e) I.ok.above))).trans e1⟩
  ·obtain⟨o',e1⟩:=I.base.there b o e hx;exact⟨o',(hs.2 b (bf (bd (aF e) I.ok.above))).trans e1⟩
  ·by_cases hj:j=i
   ·subst hj;rw [hi] at e1; cases e1;rw [fj hiσ] at e2;cases e2;exact⟨u,r,.inl ⟨hk,#[M]⟩⟩
   ·rw [dD (dG hj)] at e2;obtain⟨u',r',q⟩:=hl j y v' e1 e2 e3;refine⟨u',r',?_⟩;rcases q with ⟨k,e⟩ | ⟨k,c,e,z⟩
    ·refine .inl ⟨k,?_⟩;have:y≠x:=fun e=>hj (zfP hN e1 (e ▸ hi))
     simp [this,e]
    ·exact .inr ⟨k,c,e,z.sameBut hs (cne y c e)⟩
  ·obtain⟨w',z⟩:=I.cell y c e;exact⟨w',z.sameBut hs (cne y c e)⟩
  ·obtain⟨e,n,ne,nf,d⟩:=I.pin p hp;exact⟨(hs.2 p.1 ne).trans e,n,ne,nf,d⟩
 ·have x8:X.fn x=true:=by
   rcases hf with z | z
   ·exact z
   ·rw [z] at hk; cases hk
  obtain⟨c,hc⟩:=I.ok.has x (.inl hk);obtain⟨w',z⟩:=I.cell x c hc;refine wpAny_storeName_cell I.ok.kind hk hc z (fun h' k7 hs=>?_);obtain⟨oc,hoc,BW⟩:=id z;refine h { s with heap:=h' } ⟨I.ok,I.os,I.bare,⟨fun b o e n hb hx=>?_,fun b o e n hb hx=>?_,I.base.free,fun b o e hx=>?_,I.base.tups,I.base.frzs,I.base.tbls⟩,⟨m,hn.sameBut hs (dG (cne x c hc)),fun j y v' e1 e2 e3=>?_⟩,fun y c' e=>?_,I.free,I.freeC,fun p hp=>?_,tracked ⟨oc,hoc,I.freeC x c hc⟩ hs,by simpa using I.len⟩ ⟨c,hs,.inr hc⟩
  ·exact (hs.2 b (bf (bd (aF e) (I.ok.cab x c x8 hc)))).trans (I.base.keep b o e n hb hx)
  ·obtain⟨sl,e1⟩:=I.base.slot b o e n hb hx;exact⟨sl,(hs.2 b (bf (bd (aF e) (I.ok.cab x c x8 hc)))).trans e1⟩
  ·obtain⟨o',e1⟩:=I.base.there b o e hx;exact⟨o',(hs.2 b (bf (bd (aF e) (I.ok.cab x c x8 hc)))).trans e1⟩
  ·by_cases hj:j=i
   ·subst hj;rw [hi] at e1; cases e1;rw [fj hiσ] at e2;cases e2;exact⟨u,r,.inr ⟨.inl hk,c,hc,k7⟩⟩
   ·rw [dD (dG hj)] at e2;obtain⟨u',r',q⟩:=hl j y v' e1 e2 e3;refine⟨u',r',?_⟩;rcases q with q | ⟨k,c',e,z'⟩
    ·exact .inl q
    ·refine .inr ⟨k,c',e,z'.sameBut hs ?_⟩;rintro rfl;exact hj (zfP hN e1 (I.ok.inj _ _ _ e hc ▸ hi))
  ·by_cases mh:c'=c
   ·subst mh; exact⟨_,k7⟩
   ·obtain⟨w2,z2⟩:=I.cell y c' e;exact⟨w2,z2.sameBut hs mh⟩
  ·obtain⟨e,n,ne,nf,d⟩:=I.pin p hp;refine⟨(hs.2 p.1 ?_).trans e,n,ne,nf,d⟩;intro q;rw [q,hoc] at e;have q':oc=p.2:=aM e;exact d w' (by rw [← q']; exact BW)
theorem zdO {M:Model} {A:Around} {E:Value→Shared→Prop} {i:Nat} {x:Str} {v:V} {u:Value} {Q:Unit→Shared→Prop} (I:Inv X kP σ H s) (hN:X.N.Nodup) (hi:X.N[i]? = some x) (hx:Loc X.env.scope x) (r:RelV v u)
  (h:∀ s',Inv X kP (σ.set i (some v)) H s'→Q () s') (hf:X.fn x=true∨X.env.scope.names.lookup x=some .local:=by first | exact .inl rfl | exact .inr rfl | assumption):wpAny M A (storeName X.env x u) Q E s :=
 zeG I hN hi hx r (fun s' I' _=>h s' I') hf
theorem Inv.call' {s':Shared} {ch:List Addr} (I:Inv X kP σ H s) (ho:s'.os=s.os) (u:Un (frs X.stack) ch H H' s.heap s'.heap) (hok:HOk X.prog X.w H' s'.heap) (hg:AllBare s'.gens)
  (qE:∀ b∈ch,(b∈X.ex∨X.s₀.heap.objs.size≤b)∧b≠X.env.locals∧(∀ x c,X.env.cells.lookup x=some c→c≠b)∧∀ p∈X.pn++kP,p.1≠b):Inv X kP σ H' s':=by
 obtain⟨h',g',d',t',o'⟩:=s';have e:o'=s.os:=ho;subst e;exact I.call (g':=g') (t':=t') (d':=d') u hok hg qE
end
abbrev XK:=Value→Option Addr→Hp→Prop
abbrev St:=List (Option V)
abbrev VK:=V→Hp→Prop
abbrev TE:=St→Hp→VK→Prop
abbrev TT:=St→Hp→(Bool→Hp→Prop)→Prop
abbrev TA:=St→Hp→(List V→Hp→Prop)→Prop
structure Ends where
 nx:St→Hp→Prop
 rt:VK
 bk:St→Hp→Prop:=fun _ _=>False
 ct:St→Hp→Prop:=fun _ _=>False
abbrev TS:=Ends→St→Hp→Prop
def EP (X:Cx) (kP:List (Addr×Obj)) (σ:St) (Q:VK) (u:Value) (s':Shared):Prop:=∃ v H',Inv X kP σ H' s'∧RelV v u∧Q v H'
def TP (X:Cx) (kP:List (Addr×Obj)) (σ:St) (Q:Bool→Hp→Prop) (b:Bool) (s':Shared):Prop:=∃ H',Inv X kP σ H' s'∧Q b H'
def AP (X:Cx) (kP:List (Addr×Obj)) (σ:St) (Q:List V→Hp→Prop) (us:List Value) (s':Shared):Prop:=∃ vs H',Inv X kP σ H' s'∧zF vs us∧Q vs H'
def SP (X:Cx) (kP:List (Addr×Obj)) (D:Ends) (f:Flow) (s':Shared):Prop :=
 match f with
 | .next=>∃ σ' H',Inv X kP σ' H' s'∧D.nx σ' H'
 | .brk=>∃ σ' H',Inv X kP σ' H' s'∧D.bk σ' H'
 | .cont=>∃ σ' H',Inv X kP σ' H' s'∧D.ct σ' H'
 | .ret u=>∃ v σ' H',Inv X kP σ' H' s'∧RelV v u∧D.rt v H'
def PE (X:Cx) (e:Expr) (t:TE):Prop :=
 ∀ (kP:List (Addr×Obj)) (s:Shared) (σ:St) (H:Hp) (Q:VK),Inv X kP σ H s→t σ H Q→wpAny (model X.prog X.w) X.A (eval e X.env) (EP X kP σ Q) X.xe s
def PT (X:Cx) (e:Expr) (t:TT):Prop :=
 ∀ (kP:List (Addr×Obj)) (s:Shared) (σ:St) (H:Hp) (Q:Bool→Hp→Prop),Inv X kP σ H s→t σ H Q→wpAny (model X.prog X.w) X.A (isTrue e X.env (eval e X.env)) (TP X kP σ Q) X.xe s
def PW (X:Cx) (e:Expr) (t:TT):Prop :=
 ∀ (whole:Sem Value) (kP:List (Addr×Obj)) (s:Shared) (σ:St) (H:Hp) (Q:Bool→Hp→Prop),Inv X kP σ H s→t σ H Q→wpAny (model X.prog X.w) X.A (isTrue e X.env whole) (TP X kP σ Q) X.xe s
theorem PW.pt {X:Cx} {e:Expr} {t:TT} (h:PW X e t):PT X e t:=h _
def PA (X:Cx) (es:List Expr) (t:TA):Prop :=
 ∀ (pos:Pos) (kP:List (Addr×Obj)) (s:Shared) (σ:St) (H:Hp) (Q:List V→Hp→Prop),Inv X kP σ H s→t σ H Q→wpAny (model X.prog X.w) X.A (spliced (backTo pos (starEach es X.env))) (AP X kP σ Q) X.xe s
def PS (X:Cx) (st:Stmt) (t:TS):Prop :=
 ∀ (kP:List (Addr×Obj)) (s:Shared) (σ:St) (H:Hp) (D:Ends),Inv X kP σ H s→t D σ H→wpAny (model X.prog X.w) X.A (exec st X.env) (SP X kP D) X.xe s
def PSs (X:Cx) (st:List Stmt) (t:TS):Prop :=
 ∀ (kP:List (Addr×Obj)) (s:Shared) (σ:St) (H:Hp) (D:Ends),Inv X kP σ H s→t D σ H→wpAny (model X.prog X.w) X.A (execs st X.env) (SP X kP D) X.xe s
theorem thn {α:Type} {t:Sem α} {Q Q':α→Shared→Prop} {M:Model} {A:Around} {E:Value→Shared→Prop} {s:Shared} (h:wpAny M A t Q E s) (hQ:∀ a s,Q a s→Q' a s):wpAny M A t Q' E s:=cE h hQ fun _ _ x=>x
section
variable {X:Cx}
def znz (i:Nat):TE:=fun σ H Q=>∃ v,σ[i]? = some (some v)∧Q v H
def tC (v:V):TE:=fun _ H Q=>Q v H
theorem zmv {i:Nat} {x:Str} {pos:Pos} (hN:X.N[i]? = some x) (hv:Vis X.env.scope x) (hd:(x == ("__debug__" : Str))=false:=by decide) (qF:(x == ("__classdict__" : Str))=false:=by decide):PE X (.Name x pos) (znz i):=by
 intro kP s σ H Q I h;obtain⟨v,e,h⟩:=h;obtain⟨m,hn,hl⟩:=I.loc;obtain⟨u,r,l⟩:=hl i x v hN e hv;have fin:EP X kP σ Q u s:=⟨v,H,I,r,h⟩;rcases l with ⟨hk,hm⟩ | ⟨hk,c,hc,n6⟩
 ·exact kb (iU I.ok.kind hk hn hm fin) hd
 ·rcases hk with hk | hk
  ·exact kb (je I.ok.kind hk hc n6 fin) hd
  ·exact kb (wpAny_loadName_free I.ok.kind hk hc n6 fin qF) hd
theorem zh {i j pos}:PE X (.Constant (.int i) j pos) (tC (.int i)):=fun _ _ _ H _ I h=>wpAny_Constant_int ⟨.int i,H,I.tok _,⟨_,rfl⟩,h⟩
theorem zde {b j pos}:PE X (.Constant (.bool b) j pos) (tC (.bl b)):=fun _ _ _ H _ I h=>Constant_bool ⟨.bl b,H,I,rfl,h⟩
theorem zbC {j pos}:PE X (.Constant .none j pos) (tC .non):=fun _ _ _ H _ I h=>Constant_none ⟨.non,H,I,rfl,h⟩
def Gl (X:Cx) (x:Str):Prop:=X.env.kindOf x=some .globalImplicit
theorem zk1 {E:Value→Shared→Prop} {kP:List (Addr×Obj)} {s:Shared} {σ:St} {H:Hp} {x:Str} {u:Value} {pos:Pos} {Q:Value→Shared→Prop} (I:Inv X kP σ H s) (hg:Gl X x) (hm:X.mg x=some u) (h:Q u s)
  (hd:(x == ("__debug__" : Str))=false:=by decide):wpAny (model X.prog X.w) X.A (eval (.Name x pos) X.env) Q E s :=
 gg I.ok.kind hg (Calls.loadGlobal_global (by rw [I.ok.glob]; exact I.mod.glob.keeps I.bk) hm h) hd
theorem zbD {E:Value→Shared→Prop} {kP:List (Addr×Obj)} {s:Shared} {σ:St} {H:Hp} {x:Str} {u:Value} {pos:Pos} {Q:Value→Shared→Prop} (I:Inv X kP σ H s) (hg:Gl X x) (hm:X.mg x=none) (hv:bootBuiltins x=some u) (h:Q u s)
  (hn:x≠"__name__":=by decide) (hd:(x == ("__debug__" : Str))=false:=by decide):wpAny (model X.prog X.w) X.A (eval (.Name x pos) X.env) Q E s:=by
 obtain⟨mb,h1,h2⟩:=I.mod.blt;exact gg I.ok.kind hg (Calls.loadGlobal_builtin (by rw [I.ok.glob]; exact I.mod.glob.keeps I.bk) hm (by rw [I.ok.blt]; exact h1.keeps I.bk) ((h2 x hn).trans hv) h) hd
variable {a b:Expr} {ta tb:TE} {pos:Pos}
variable {tA AZ:TT} {rest:List Expr}
def zoj (t u:TT):TT:=fun σ H Q=>t σ H fun c H1=>if c=true then u σ H1 Q else Q false H1
def tOr (t u:TT):TT:=fun σ H Q=>t σ H fun c H1=>if c=true then Q true H1 else u σ H1 Q
def zok (t:TT):TT:=fun σ H Q=>t σ H fun c H1=>Q (!c) H1
theorem zk2 (ha:PT X a tA):PW X (.BoolOp .And [a] pos) tA:=by
 intro wh kP s σ H Q I h;refine isTrue_and (thn (ha kP s σ H Q I h) fun c s1 e=>?_);cases c with
 | true=>exact isTrue_and_nil e
 | false=>exact e
theorem zfd (ha:PT X a tA):PW X (.BoolOp .Or [a] pos) tA:=by
 intro wh kP s σ H Q I h;refine isTrue_or (thn (ha kP s σ H Q I h) fun c s1 e=>?_);cases c with
 | false=>exact isTrue_or_nil e
 | true=>exact e
theorem zmw (ha:PT X a tA) (hb:PW X (.BoolOp .And (b :: rest) pos) AZ):PW X (.BoolOp .And (a :: b :: rest) pos) (zoj tA AZ):=by
 intro wh kP s σ H Q I h;refine isTrue_and (thn (ha kP s σ H _ I h) fun c s1 ⟨H1,I1,q1⟩=>?_);cases c with
 | true=>exact hb wh kP s1 σ H1 Q I1 q1
 | false=>exact⟨H1,I1,q1⟩
theorem zhv (ha:PT X a tA) (hb:PW X (.BoolOp .Or (b :: rest) pos) AZ):PW X (.BoolOp .Or (a :: b :: rest) pos) (tOr tA AZ):=by
 intro wh kP s σ H Q I h;refine isTrue_or (thn (ha kP s σ H _ I h) fun c s1 ⟨H1,I1,q1⟩=>?_);cases c with
 | true=>exact⟨H1,I1,q1⟩
 | false=>exact hb wh kP s1 σ H1 Q I1 q1
theorem zmx (ha:PT X a tA):PT X (.UnaryOp .Not a pos) (zok tA):=by
 intro kP s σ H Q I h;exact isTrue_not (ha kP s σ H (fun c H1=>Q (!c) H1) I h)
def tIf (t:TT) (ta tb:TE):TE:=fun σ H Q=>t σ H fun c H1=>if c=true then ta σ H1 Q else tb σ H1 Q
theorem zdP {c:Expr} (hc:PT X c tA) (ha:PE X a ta) (hb:PE X b tb):PE X (.IfExp c a b pos) (tIf tA ta tb):=by
 intro kP s σ H Q I h;refine wpAny_IfExp (thn (hc kP s σ H _ I h) fun d s1 ⟨H1,I1,q1⟩=>?_);cases d with
 | true=>exact ha kP s1 σ H1 Q I1 q1
 | false=>exact hb kP s1 σ H1 Q I1 q1
end
def kS (K:ag) (H:Hp) (a:Addr) (xs:List V):Prop :=
 Rd H a (.lst xs) ∨
  ∃ (o:Obj) (kR:Array Value) (n:Nat),K.lookup a=some o∧o.cls = .type "list"∧o.dict=none∧o.data = .seq kR n∧kR.size≤sizeLine∧zF xs kR.toList
def k6 (K:ag) (H:Hp) (a:Addr) (xs:List V):Prop :=
 Rd H a (.tup xs) ∨
  ∃ (o:Obj) (kR:Array Value) (n:Nat),K.lookup a=some o∧o.cls = .type "tuple"∧o.data = .seq kR n∧kR.size≤sizeLine∧zF xs kR.toList
def zol:Value→Option V
 | .none=>some .non
 | .bool b=>some (.bl b)
 | .int i _=>some (.int i)
 | .str x _=>some (.str x)
 | .bytes b _=>some (.byt b)
 | .float b _=>some (.flt b)
 | .ref a=>some (.ref a)
 | .type n=>some (.ty n)
 | _=>none
theorem RelV.abs {x:V} {u:Value} (r:RelV x u):zol u=some x:=by
 cases x with
 | non=>cases r; rfl
 | bl _=>cases r; rfl
 | int _=>obtain⟨t,rfl⟩:=r; rfl
 | str _=>obtain⟨t,rfl⟩:=r; rfl
 | byt _=>obtain⟨t,rfl⟩:=r; rfl
 | flt _=>obtain⟨t,rfl⟩:=r; rfl
 | ref _=>cases r; rfl
 | ty _=>cases r; rfl
theorem RelV.inj {x y:V} {u:Value} (r:RelV x u) (q:RelV y u):x=y:=aM (r.abs.symm.trans q.abs)
theorem zF.inj:∀ {xs ys:List V} {us:List Value},zF xs us→zF ys us→xs=ys
 | _,_,_,.nil,.nil=>rfl
 | _,_,_,.cons r t,.cons r' t'=>by rw [r.inj r',zF.inj t t']
section
variable {X:Cx} {kP:List (Addr×Obj)} {σ:St} {H:Hp} {s:Shared} {a:Addr} {xs ys:List V}
theorem kS.of {K:ag} (h:H a=some (.lst xs)):kS K H a xs:=.inl (.inl h)
theorem k6.of {K:ag} (h:H a=some (.tup xs)):k6 K H a xs:=.inl (.inl h)
theorem Inv.list (I:Inv X kP σ H s) (h:kS X.K H a xs):∃ kR:List Value,zF xs kR∧PlainL s.heap a kR.toArray∧xs.length≤sizeLine:=by
 rcases h with h | ⟨o,kR,n,hk,hc,hd,hs,hz,r⟩
 ·obtain⟨z,kR,n,r,e⟩:=h.ok I.hok;exact⟨kR,r,⟨_,n,e,rfl,rfl,rfl⟩,z⟩
 ·refine⟨kR.toList,r,⟨o,n,I.kIn a o hk,hc,hd,by simpa using hs⟩,?_⟩;have e:=r.length;simp only [bp] at e;lia
theorem Inv.tuple (I:Inv X kP σ H s) (h:k6 X.K H a xs):∃ kR:List Value,zF xs kR∧IsTup s.heap a kR.toArray∧xs.length≤sizeLine:=by
 rcases h with h | ⟨o,kR,n,hk,hc,hs,hz,r⟩
 ·obtain⟨z,kR,r,p⟩:=h.ok I.hok;exact⟨kR,r,p,z⟩
 ·refine⟨kR.toList,r,⟨o,I.kIn a o hk,hc,n,by simpa using hs⟩,?_⟩;have e:=r.length;simp only [bp] at e;lia
theorem Inv.list_inj (I:Inv X kP σ H s) (h:kS X.K H a xs) (h':kS X.K H a ys):xs=ys:=by
 obtain⟨kR,r,⟨o,n,e,_,_,d⟩,_⟩:=I.list h;obtain⟨its',r',⟨o',n',e',_,_,d'⟩,_⟩:=I.list h';rw [e] at e'; cases e';rw [d] at d';injection d' with d1 _
 have:kR=its':=by simpa using congrArg kK d1
 subst this;exact r.inj r'
theorem Inv.tuple_inj (I:Inv X kP σ H s) (h:k6 X.K H a xs) (h':k6 X.K H a ys):xs=ys:=by
 obtain⟨kR,r,⟨o,e,_,n,d⟩,_⟩:=I.tuple h;obtain⟨its',r',⟨o',e',_,n',d'⟩,_⟩:=I.tuple h';rw [e] at e'; cases e';rw [d] at d';injection d' with d1 _
 have:kR=its':=by simpa using congrArg kK d1
 subst this;exact r.inj r'
end
abbrev Cx.wish (X:Cx) (E:Value→Shared→Prop):Cx:={ X with xe:=E }
abbrev Cx.nox (X:Cx):Cx:=X.wish fun _ _=>False
theorem Cx.Ok.wish {X:Cx} (ok:X.Ok) (E:Value→Shared→Prop):(X.wish E).Ok :=
 ⟨ok.mod,ok.kind,ok.glob,ok.blt,ok.above,ok.inj,ok.has,ok.cab,ok.hd,ok.frames,ok.stk,ok.exf,ok.bs,ok.bsz,ok.noex,ok.exfs,ok.funs,ok.frf⟩
theorem Cx.Ok.unwish {X:Cx} {E:Value→Shared→Prop} (ok:(X.wish E).Ok):X.Ok :=
 ⟨ok.mod,ok.kind,ok.glob,ok.blt,ok.above,ok.inj,ok.has,ok.cab,ok.hd,ok.frames,ok.stk,ok.exf,ok.bs,ok.bsz,ok.noex,ok.exfs,ok.funs,ok.frf⟩
section
variable {X:Cx} {kP:List (Addr×Obj)} {σ:St} {H:Hp} {s:Shared} {E:Value→Shared→Prop}
theorem Inv.wish (I:Inv X kP σ H s) (E:Value→Shared→Prop):Inv (X.wish E) kP σ H s:=⟨I.ok.wish E,I.os,I.bare,I.base,I.loc,I.cell,I.free,I.freeC,I.pin,I.hok,I.len⟩
theorem Inv.unwish (I:Inv (X.wish E) kP σ H s):Inv X kP σ H s:=⟨I.ok.unwish,I.os,I.bare,I.base,I.loc,I.cell,I.free,I.freeC,I.pin,I.hok,I.len⟩
theorem SP.unwish {D:Ends} {f:Flow} {s':Shared} (h:SP (X.wish E) kP D f s'):SP X kP D f s':=by
 cases f with
 | next=>obtain⟨σ',H',I,q⟩:=h; exact⟨σ',H',I.unwish,q⟩
 | brk=>obtain⟨σ',H',I,q⟩:=h; exact⟨σ',H',I.unwish,q⟩
 | cont=>obtain⟨σ',H',I,q⟩:=h; exact⟨σ',H',I.unwish,q⟩
 | ret u=>obtain⟨v,σ',H',I,r,q⟩:=h; exact⟨v,σ',H',I.unwish,r,q⟩
theorem PSs.nox {st:List Stmt} {t:TS} (h:PSs X.nox st t):PSs X st t:=fun kP s σ H D I hw =>
 cE (h kP s σ H D (I.wish _) hw) (fun _ _ q=>q.unwish) fun _ _ z=>dE z
end
section
variable {X:Cx} {st:Stmt} {rest:List Stmt} {t u:TS} {e:Expr} {te:TE} {pos:Pos}
def znA:TS:=fun D σ H=>D.nx σ H
def zay (t u:TS):TS:=fun D σ H=>t { D with nx:=u D } σ H
theorem zau:PSs X [] znA:=fun _ _ σ H _ I h=>fB ⟨σ,H,I,h⟩
theorem zf (h1:PS X st t) (h2:PSs X rest u):PSs X (st :: rest) (zay t u):=by
 intro kP s σ H D I h;refine wpAny_execs_cons (thn (h1 kP s σ H { D with nx:=u D } I h) fun f s1 q=>?_);cases f with
 | next =>
  obtain⟨σ',H',I',q⟩:=q;exact h2 kP s1 σ' H' D I' q
 | ret v=>exact q
 | brk=>exact q
 | cont=>exact q
theorem zo (h1:PS X st t):PSs X [st] t:=by
 intro kP s σ H D I h;refine wpAny_execs_cons (thn (h1 kP s σ H D I h) fun f s1 q=>?_);cases f with
 | next=>exact fB q
 | ret v=>exact q
 | brk=>exact q
 | cont=>exact q
theorem Inv.quiet {kP:List (Addr×Obj)} {σ:St} {H:Hp} {s:Shared} (I:Inv X kP σ H s):interactive X.env=false:=by simp [interactive,I.ok.kind]
def znB (te:TE):TS:=fun D σ H=>te σ H fun _ H1=>D.nx σ H1
theorem zbP (he:PE X e te) (hs:swapsWith e none pos.line X.env=pure false:=by rfl):PS X (.Expr e pos) (znB te):=by
 intro kP s σ H D I h;exact wpAny_Expr_any (thn (he kP s σ H _ I h) fun v s1 ⟨x,H1,I1,r1,q1⟩=>⟨σ,H1,I1,q1⟩) I.quiet hs
def zom (te:TE):TS:=fun D σ H=>te σ H D.rt
theorem zM (he:PE X e te):PS X (.Return (some e) pos) (zom te):=by
 intro kP s σ H D I h;exact wpAny_Return_some (thn (he kP s σ H _ I h) fun v s1 ⟨x,H1,I1,r1,q1⟩=>⟨x,σ,H1,I1,r1,q1⟩)
def zon (c:TT) (t u:TS):TS:=fun D σ H=>c σ H fun b H1=>if b=true then t D σ H1 else u D σ H1
theorem zbj {c:Expr} {a b:List Stmt} {tc:TT} (hc:PT X c tc) (ha:PSs X a t) (hb:PSs X b u):PS X (.If c a b pos) (zon tc t u):=by
 intro kP s σ H D I h;refine wpAny_If (thn (hc kP s σ H _ I h) fun d s1 ⟨H1,I1,q1⟩=>?_);cases d with
 | true=>exact ha kP s1 σ H1 D I1 q1
 | false=>exact hb kP s1 σ H1 D I1 q1
def zmy:TS:=fun _ _ _=>False
theorem zix {sts:List Stmt}:PSs X sts zmy:=fun _ _ _ _ _ _ h=>h.elim
end
abbrev TG:=V→St→Hp→(St→Hp→Prop)→Prop
abbrev TGs:=List V→St→Hp→(St→Hp→Prop)→Prop
def PG (X:Cx) (target:Expr) (t:TG):Prop :=
 ∀ (kP:List (Addr×Obj)) (s:Shared) (σ:St) (H:Hp) (v:V) (u:Value) (Q:St→Hp→Prop),Inv X kP σ H s→RelV v u→t v σ H Q →
  wpAny (model X.prog X.w) X.A (assign target X.env u) (fun _ s'=>∃ σ' H',Inv X kP σ' H' s'∧Q σ' H') X.xe s
def PGs (X:Cx) (ts:List Expr) (t:TGs):Prop :=
 ∀ (kP:List (Addr×Obj)) (s:Shared) (σ:St) (H:Hp) (vs:List V) (us:List Value) (Q:St→Hp→Prop),Inv X kP σ H s→zF vs us→t vs σ H Q →
  wpAny (model X.prog X.w) X.A (assignInOrder ((assignEach ts X.env).map (·.2)) us) (fun _ s'=>∃ σ' H',Inv X kP σ' H' s'∧Q σ' H') X.xe s
abbrev zmz:=V→V→V→Hp→(Hp→Prop)→Prop
def znC (X:Cx) (t:zmz):Prop :=
 ∀ (kP:List (Addr×Obj)) (s:Shared) (σ:St) (H:Hp) (o i v:V) (ov iv u:Value) (Q:Hp→Prop),Inv X kP σ H s→RelV o ov→RelV i iv→RelV v u→t o i v H Q →
  wpAny (model X.prog X.w) X.A (setItem ov iv u) (fun _ s'=>∃ H',Inv X kP σ H' s'∧Q H') X.xe s
abbrev TIp:=V→V→Hp→VK→Prop
def PIp (X:Cx) (op:Operator) (t:TIp):Prop :=
 ∀ (kP:List (Addr×Obj)) (s:Shared) (σ:St) (H:Hp) (x y:V) (v u:Value) (Q:VK),Inv X kP σ H s→RelV x v→RelV y u→t x y H Q →
  wpAny (model X.prog X.w) X.A (inplaceOp op v u) (EP X kP σ Q) X.xe s
section
variable {X:Cx} {pos:Pos}
def za1 (i:Nat):TG:=fun v σ H Q=>Q (σ.set i (some v)) H
theorem zi {i:Nat} {x:Str} (hN:X.N.Nodup) (hi:X.N[i]? = some x) (hx:Loc X.env.scope x) (hf:X.fn x=true∨X.env.scope.names.lookup x=some .local:=by first | exact .inl rfl | exact .inr rfl | assumption):PG X (.Name x pos) (za1 i):=by
 intro kP s σ H v u Q I r h;exact wpAny_assign_Name (zdO I hN hi hx r (fun s' I'=>⟨_,H,I',h⟩) hf)
def ziy:TGs:=fun vs σ H Q=>vs = []∧Q σ H
def zcu (t:TG) (u:TGs):TGs:=fun vs σ H Q=>∃ v r,vs=v :: r∧t v σ H fun σ' H'=>u r σ' H' Q
theorem zY:PGs X [] ziy:=by
 intro kP s σ H vs us Q I r h;obtain⟨e,h⟩:=h;subst e;cases r;exact assignInOrder_nil ⟨σ,H,I,h⟩
theorem zm {e:Expr} {es:List Expr} {t:TG} {u:TGs} (h1:PG X e t) (h2:PGs X es u)
  (hs:(assignEach (e :: es) X.env).map (·.2)=assign e X.env :: (assignEach es X.env).map (·.2):=by rfl):PGs X (e :: es) (zcu t u):=by
 intro kP s σ H vs us Q I r h;obtain⟨v,vr,e1,h⟩:=h;subst e1;cases r with
 | cons r rr =>
  rw [hs];refine assignInOrder_cons (thn (h1 kP s σ H _ _ _ I r h) fun _ s1 ⟨σ1,H1,I1,q1⟩=>?_);exact h2 kP s1 σ1 H1 _ _ Q I1 rr q1
def zgM (K:ag) (n:Nat) (t:TGs):TG:=fun v σ H Q=>∃ a xs,v = .ref a∧k6 K H a xs∧xs.length=n∧t xs σ H Q
theorem za2 {es:List Expr} {k:Nat} {t:TGs} {n:Nat} (hc:X.calm=true) (h:PGs X es t)
  (hn:(assignEach es X.env).length=n:=by rfl) (o8:(assignEach es X.env).findIdx? (·.1)=none:=by rfl):PG X (.Tuple es k pos) (zgM X.K n t):=by
 intro kP s σ H v u Q I r hw;obtain⟨a,xs,e1,hq,hl,hw⟩:=hw;subst e1;cases r;obtain⟨kR,rv,ht,hz⟩:=I.tuple hq;refine assign_Tuple_tuple (I.ok.hd hc) ht (by simp [hn,← hl,rv.length]) o8 fun h' hx=>?_
 have I1:Inv X kP σ H { s with heap:=h' }:=I.kept (t':=s.toks) fun b o e=>hx b o (bf (aF e)) e
 exact h kP _ σ H xs _ Q I1 (by simpa using rv) hw
def zoo (to ti:TE) (t:zmz):TG:=fun v σ H Q=>to σ H fun o H1=>ti σ H1 fun i H2=>t o i v H2 fun H3=>Q σ H3
theorem zmA {o i:Expr} {to ti:TE} {t:zmz} (ho:PE X o to) (hi:PE X i ti) (hs:znC X t)
  (ha:∀ v,assign (.Subscript o i pos) X.env v=(do
   let ov ← holding [v] (eval o X.env)
   let iv ← holding [v,ov] (eval i X.env)
   standAt pos
   holding [v,ov,iv] (setItem ov iv v)
   release [v,ov,iv] []):=by intro _; rfl):PG X (.Subscript o i pos) (zoo to ti t):=by
 intro kP s σ H v u Q I r h;rw [ha];refine ae (bP (thn (ho kP s σ H _ I h) fun ov s1 ⟨x,H1,I1,r1,q1⟩=>?_));refine ae (bP (thn (hi kP s1 σ H1 _ I1 q1) fun iv s2 ⟨y,H2,I2,r2,q2⟩=>?_));refine ae (eA (ae (bP (thn (hs kP s2 σ H2 x y v ov iv u _ I2 r1 r2 r q2) fun _ s3 ⟨H3,I3,q3⟩=>?_))));exact wpAny_release ⟨σ,H3,I3,q3⟩
def zgN (te:TE) (g:TG):TS:=fun D σ H=>te σ H fun x H1=>g x σ H1 D.nx
theorem zb7 {tg e:Expr} {te:TE} {g:TG} (he:PE X e te) (hg:PG X tg g) (hs:swapsWithSole [tg] e pos.line X.env=pure false:=by rfl) (hw:swappedStores [tg] e X.env=pure none:=by rfl)
  (h1:(assignEach [tg] X.env).map (·.2) = [assign tg X.env]:=by rfl):PS X (.Assign [tg] e pos) (zgN te g):=by
 intro kP s σ H D I h;refine wpAny_Assign_stores (thn (he kP s σ H _ I h) fun v s1 ⟨x,H1,I1,r1,q1⟩=>?_) hs hw;rw [h1];exact thn (hg kP s1 σ H1 x v _ I1 r1 q1) fun _ s2 q=>q
theorem zr {i:Nat} {x:Str} {e:Expr} {te:TE} {pos':Pos} (hN:X.N.Nodup) (hi:X.N[i]? = some x) (hx:Loc X.env.scope x) (he:PE X e te) (hs:swapsWith e (some (.Name x pos')) pos.line X.env=pure false:=by rfl) (hf:X.fn x=true∨X.env.scope.names.lookup x=some .local:=by first | exact .inl rfl | exact .inr rfl | assumption) :
  PS X (.Assign [.Name x pos'] e pos) (zgN te (za1 i)):=by
 intro kP s σ H D I h;refine wpAny_Assign_Name (thn (he kP s σ H _ I h) fun v s1 ⟨y,H1,I1,r1,q1⟩=>?_) hs;exact zdO I1 hN hi hx r1 (fun s2 I2=>⟨_,H1,I2,q1⟩) hf
def zop (i:Nat) (te:TE) (ti:TIp):TS:=fun D σ H=>∃ x,σ[i]? = some (some x)∧te σ H fun y H1=>ti x y H1 fun z H2=>D.nx (σ.set i (some z)) H2
theorem zjj {i:Nat} {x:Str} {e:Expr} {te:TE} {op:Operator} {ti:TIp} {pos':Pos} (hN:X.N.Nodup) (hi:X.N[i]? = some x) (hx:Loc X.env.scope x) (he:PE X e te) (ho:PIp X op ti) (hf:X.fn x=true∨X.env.scope.names.lookup x=some .local:=by first | exact .inl rfl | exact .inr rfl | assumption) :
  PS X (.AugAssign (.Name x pos') op e pos) (zop i te ti):=by
 intro kP s σ H D I h;obtain⟨v,e1,h⟩:=h;obtain⟨m,hn,hl⟩:=I.loc;have vis:Vis X.env.scope x:=by rcases hx with k | k; exact .inl k; exact .inr (.inl k)
 obtain⟨u,r,l⟩:=hl i x v hi e1 vis;refine wpAny_AugAssign_Name ?_;have go:wpAny (model X.prog X.w) X.A (eval e X.env) (fun w s₂=>wpAny (model X.prog X.w) X.A (inplaceOp op u w) (fun r s₃=>wpAny (model X.prog X.w) X.A (storeName X.env x r) (fun _=>SP X kP D .next) X.xe s₃) X.xe s₂) X.xe s:=by
  refine thn (he kP s σ H _ I h) fun w s1 ⟨y,H1,I1,r1,q1⟩=>?_
  refine thn (ho kP s1 σ H1 v y u w _ I1 r r1 q1) fun z s2 ⟨zv,H2,I2,r2,q2⟩=>?_
  exact zdO I2 hN hi hx r2 (fun s3 I3=>⟨_,H2,I3,q2⟩) hf
 rcases l with ⟨hk,hm⟩ | ⟨hk,c,hc,n6⟩
 ·exact iU I.ok.kind hk hn hm go
 ·rcases hk with hk | hk
  ·exact je I.ok.kind hk hc n6 go
  ·rcases hx with k | k
   ·have:X.env.scope.names.lookup x=some .free:=hk;rw [k] at this; cases this
   ·have:X.env.scope.names.lookup x=some .free:=hk;rw [k] at this; cases this
def zjk (c:TT) (tb:TS):TS:=fun D σ H=>∃ W:Nat→St→Hp→Prop,(∃ m,W m σ H)∧∀ m σ H,W m σ H →
 c σ H fun b H1=>if b=true then ∃ N:St→Hp→Prop,(∀ σ' H',N σ' H'→∃ m',m' < m∧W m' σ' H')∧tb { D with nx:=N,ct:=N,bk:=D.nx } σ H1 else D.nx σ H1
theorem zfQ {c:Expr} {body:List Stmt} {tc:TT} {tb:TS} (hp:PassesOwn (model X.prog X.w) X.A X.env X.xe) (hc:PT X c tc) (hb:PSs X body tb):PS X (.While c body [] pos) (zjk tc tb):=by
 intro kP s σ H D I h;obtain⟨W,⟨m0,w0⟩,turn⟩:=h;refine wpAny_While (codeAny_whileLoop (fun n s'=>∃ σ' H',Inv X kP σ' H' s'∧W n σ' H') ?_ m0 ⟨σ,H,I,w0⟩);rintro n s1 ⟨σ1,H1,I1,w1⟩;refine dw hp (thn (hc kP s1 σ1 H1 _ I1 (turn n σ1 H1 w1)) fun b s2 ⟨H2,I2,q2⟩=>?_);cases b with
 | true =>
  obtain⟨N,hN,q2⟩:=q2;rw [if_pos rfl];refine dw hp (thn (hb kP s2 σ1 H2 _ I2 q2) fun f s3 q3=>?_);cases f with
  | next =>
   obtain⟨σ3,H3,I3,n3⟩:=q3;obtain⟨m',hm,w3⟩:=hN σ3 H3 n3;exact⟨m',hm,σ3,H3,I3,w3⟩
  | cont =>
   obtain⟨σ3,H3,I3,n3⟩:=q3;obtain⟨m',hm,w3⟩:=hN σ3 H3 n3;exact⟨m',hm,σ3,H3,I3,w3⟩
  | brk=>exact q3
  | ret v=>exact q3
 | false =>
  rw [if_neg aL];exact fB ⟨σ1,H2,I2,q2⟩
end
structure It where
 go:Nat→Hp→Prop
 yld:Nat→Hp→V→Hp→Prop
 stop:Nat→Hp→Prop
def zb8 (X:Cx) (kP:List (Addr×Obj)) (H:Hp) (b:Addr):Prop :=
 H b=none∧b≠X.env.locals∧b∉X.fs∧(b∈X.ex∨X.s₀.heap.objs.size≤b)∧(∀ x c,X.env.cells.lookup x=some c→c≠b)∧∀ p∈X.pn++kP,p.1≠b
theorem Inv.fpOk {X:Cx} {kP:List (Addr×Obj)} {σ:St} {H H':Hp} {s:Shared} {b:Addr} (I:Inv X kP σ H s) (hb:s.heap.objs.size≤b) (hn:H' b=none):zb8 X kP H' b:=by
 refine⟨hn,eJ (bd I.lt hb),I.nofs hb,.inr (aU I.sz hb),fun x c e z=>?_,fun p hp z=>?_⟩
 ·obtain⟨v,q⟩:=I.cell x c e;exact absurd (bd q.lt (by rw [z]; exact hb)) (ci _)
 ·exact absurd (bd (aF (I.pin p hp).1) (by rw [z]; exact hb)) (ci _)
structure Turn (P:Program) (w:World) (K:ag) (tg:Expr) (J:It) (fp:List Addr) (it:Addr) (tn:Nat→Heap→Prop):Prop where
 mem:it∈fp
 obj:∀ i h,tn i h→∀ b∈fp,∃ o,h.get? b=some o∧∀ v,o.data≠.cell v
 keep:∀ i h h',tn i h→(∀ b∈fp,∀ o,h.get? b=some o→h'.get? b=some o)→tn i h'
 item:∀ (X:Cx),X.prog=P→X.w=w→X.K=K→X.calm=true→∀ (i:Nat) (kP:List (Addr×Obj)) (s:Shared) (σ:St) (H:Hp) (E:Value→Shared→Prop),Inv X kP σ H s→(∀ b∈fp,zb8 X kP H b)→tn i s.heap→J.go i H →
  wpAny (model P w) X.A (pyNext (.ref it)) (fun r s1=>∃ u,r=some u ∧
   wpAny (model P w) X.A (letOwnedTupleGo tg (.ref it) u) (fun _ s2=>∃ x H',Inv X kP σ H' s2∧RelV x u∧J.yld i H x H'∧tn (i+1) s2.heap∧∀ b∈fp,H' b=none) E s1) E s
 done:∀ (X:Cx),X.prog=P→X.w=w→X.K=K→X.calm=true→∀ (i:Nat) (kP:List (Addr×Obj)) (s:Shared) (σ:St) (H:Hp) (E:Value→Shared→Prop),Inv X kP σ H s→(∀ b∈fp,zb8 X kP H b)→tn i s.heap→J.stop i H →
  wpAny (model P w) X.A (pyNext (.ref it)) (fun r s1=>r=none∧Inv X kP σ H s1) E s
 self:∀ (A:Around) (i:Nat) (s:Shared) (Q:Value→Shared→Prop) (E:Value→Shared→Prop),tn i s.heap→Q (.ref it) s→wpAny (model P w) A (pyIter (.ref it)) Q E s
abbrev TI:=St→Hp→(It→Hp→Prop)→Prop
def PIE (X:Cx) (kP:List (Addr×Obj)) (σ:St) (tg:Expr) (R:It→Hp→Prop) (wd:Value) (s2:Shared):Prop :=
 ∃ (it:Addr) (fp:List Addr) (tn:Nat→Heap→Prop) (J:It) (H':Hp),wd = .ref it∧Inv X kP σ H' s2∧Turn X.prog X.w X.K tg J fp it tn∧tn 0 s2.heap∧(∀ b∈fp,zb8 X kP H' b)∧R J H'
def PI (X:Cx) (tg iter:Expr) (wi:TI):Prop :=
 ∀ (kP:List (Addr×Obj)) (s:Shared) (σ:St) (H:Hp) (R:It→Hp→Prop),Inv X kP σ H s→wi σ H R →
  wpAny (model X.prog X.w) X.A (eval iter X.env) (fun v s1=>wpAny (model X.prog X.w) X.A (pyIter v) (PIE X kP σ tg R) X.xe s1) X.xe s
theorem zfR {M:Model} {A:Around} {E:Value→Shared→Prop} {s:Shared} {tg:Expr} {it:Addr} {u:Value} {o:Obj} {n:String} {vs:Array Value} {Q:Unit→Shared→Prop} (ho:s.heap.get? it=some o) (hc:o.cls = .type n) (hd:o.data = .fields vs)
  (hn:["enumerate","zip","dict_itemiterator","dict_reverseitemiterator","odict_iterator","itertools.zip_longest","itertools.pairwise"].contains n=false) (hQ:Q () s):wpAny M A (letOwnedTupleGo tg (.ref it) u) Q E s:=by
 unfold letOwnedTupleGo;cases tg <;> first
  | exact ai hQ
  | (cases u <;> first
    | exact ai hQ
    | (refine ae (wpAny_load ho ?_)
       rw [hc,hd];show wpAny M A (if (["enumerate","zip","dict_itemiterator","dict_reverseitemiterator","odict_iterator","itertools.zip_longest","itertools.pairwise"].contains n && vs[0]? == some (rawInt _))=true then _ else _) Q E s;rw [if_neg (by intro h; rw [hn,Bool.false_and] at h; cases h)];exact ai hQ))
def Itl (K:ag) (a:Addr):It :=
 ⟨fun i H=>∃ xs x,kS K H a xs∧xs[i]? = some x,fun i H x H'=>H'=H∧∀ xs,kS K H a xs→xs[i]? = some x,fun i H=>∃ xs,kS K H a xs∧xs.length≤i⟩
def Itt (K:ag) (a:Addr):It :=
 ⟨fun i H=>∃ xs x,k6 K H a xs∧xs[i]? = some x,fun i H x H'=>H'=H∧∀ xs,k6 K H a xs→xs[i]? = some x,fun i H=>∃ xs,k6 K H a xs∧xs.length≤i⟩
def Itr (lo:Int) (n:Nat):It:=⟨fun i _=>i < n,fun i H x H'=>H'=H∧x = .int (lo+i),fun i _=>n≤i⟩
theorem zeH {P:Program} {w:World} {K:ag} {tg:Expr} (a it:Addr):Turn P w K tg (Itl K a) [it] it (fun i h=>h.IsListIter it a i) where
 mem:=by simp
 obj:=fun i h st b hb=>by
  have e:b=it:=by simpa using hb
  subst e;obtain⟨o,e,c,d⟩:=st;exact⟨o,e,fun v z=>by rw [d] at z; cases z⟩
 keep:=fun i h h' st k=>st.at fun o e=>k it #[M] o e
 item:=by
  intro X hP hw hK hc i kP s σ H E I hf st hg;subst hP hw hK;obtain⟨xs,x,hq,hx⟩:=hg;obtain⟨kR,rv,p,hz⟩:=I.list hq;obtain⟨u,hu,ru⟩:=rv.get hx;obtain⟨f0,f1,f2,f3,f4,f5⟩:=hf it #[M];refine wpAny_pyNext_list_item st p.isList (x:=u) (by simpa using hu) fun h' kX sb=>?_
  have I1:Inv X kP σ H { s with heap:=h' }:=I.turned (t':=s.toks) (fun b o hb e=>(sb.2 b hb).trans e) f0 f1 f3 f4 f5;obtain⟨o,e,c,d⟩:=id kX;exact⟨u,rfl,zfR (s:={ s with heap:=h' }) e c d #[D] ⟨x,H,I1,ru,⟨rfl,fun ys hy=>by rw [I.list_inj hy hq]; exact hx⟩,kX,fun b hb=>(hf b hb).1⟩⟩
 done:=by
  intro X hP hw hK hc i kP s σ H E I hf st hg;subst hP hw hK;obtain⟨xs,hq,hx⟩:=hg;obtain⟨kR,rv,p,hz⟩:=I.list hq;obtain⟨f0,f1,f2,f3,f4,f5⟩:=hf it #[M];have hl:=rv.length;exact wpAny_pyNext_list_end (I.ok.hd hc) st p.isList (by simp; lia) fun h' eb=>⟨rfl,I.turned (t':=s.toks) (fun b o hb e=>eb b o hb e) f0 f1 f3 f4 f5⟩
 self:=fun _ _ _ _ _ st h=>wpAny_pyIter_listiter st h
theorem zdQ {P:Program} {w:World} {K:ag} {tg:Expr} (a it:Addr):Turn P w K tg (Itt K a) [it] it (fun i h=>h.IsTupleIter it a i) where
 mem:=by simp
 obj:=fun i h st b hb=>by
  have e:b=it:=by simpa using hb
  subst e;obtain⟨o,e,c,d⟩:=st;exact⟨o,e,fun v z=>by rw [d] at z; cases z⟩
 keep:=fun i h h' st k=>st.at fun o e=>k it #[M] o e
 item:=by
  intro X hP hw hK hc i kP s σ H E I hf st hg;subst hP hw hK;obtain⟨xs,x,hq,hx⟩:=hg;obtain⟨kR,rv,p,hz⟩:=I.tuple hq;obtain⟨u,hu,ru⟩:=rv.get hx;obtain⟨f0,f1,f2,f3,f4,f5⟩:=hf it #[M];refine wpAny_pyNext_tuple_item st (show s.heap.IsTuple a kR.toArray from p) (x:=u) (by simpa using hu) fun h' kX sb=>?_
  have I1:Inv X kP σ H { s with heap:=h' }:=I.turned (t':=s.toks) (fun b o hb e=>(sb.2 b hb).trans e) f0 f1 f3 f4 f5;obtain⟨o,e,c,d⟩:=id kX;exact⟨u,rfl,zfR (s:={ s with heap:=h' }) e c d #[D] ⟨x,H,I1,ru,⟨rfl,fun ys hy=>by rw [I.tuple_inj hy hq]; exact hx⟩,kX,fun b hb=>(hf b hb).1⟩⟩
 done:=by
  intro X hP hw hK hc i kP s σ H E I hf st hg;subst hP hw hK;obtain⟨xs,hq,hx⟩:=hg;obtain⟨kR,rv,p,hz⟩:=I.tuple hq;obtain⟨f0,f1,f2,f3,f4,f5⟩:=hf it #[M];have hl:=rv.length;exact wpAny_pyNext_tuple_end (I.ok.hd hc) st (show s.heap.IsTuple a kR.toArray from p) (by simp; lia) fun h' eb=>⟨rfl,I.turned (t':=s.toks) (fun b o hb e=>eb b o hb e) f0 f1 f3 f4 f5⟩
 self:=fun _ _ _ _ _ st h=>wpAny_pyIter_tupleiter st h
theorem zgO {P:Program} {w:World} {K:ag} {tg:Expr} (it:Addr) (lo:Int) (n:Nat):Turn P w K tg (Itr lo n) [it] it (fun i h=>IsRangeIter h it (lo+(i:Nat)*1) ((n:Int) - (i:Nat)) 1) where
 mem:=by simp
 obj:=fun i h st b hb=>by
  have e:b=it:=by simpa using hb
  subst e;exact⟨_,st,fun v z=>by
   have z':jQ _=Data.cell v:=z;cases z'⟩
 keep:=fun i h h' st k=>k it #[M] _ st
 item:=by
  intro X hP hw hK hc i kP s σ H E I hf st hg;subst hP hw hK;obtain⟨f0,f1,f2,f3,f4,f5⟩:=hf it #[M];have W:=Walks.range (prog:=X.prog) (w:=X.w) (I.ok.hd hc) it lo 1 n;refine W.item i s _ _ hg st fun v h' tk hv kX kk=>?_
  obtain⟨t,rfl⟩:=hv;have I1:Inv X kP σ H { s with heap:=h',toks:=tk }:=I.turned (fun b o hb e=>kk b o (by simpa using hb) e) f0 f1 f3 f4 f5;refine⟨_,rfl,zfR (s:={ s with heap:=h',toks:=tk }) (n:="range_iterator") kX rfl rfl #[D] ⟨.int (lo+i),H,I1,⟨t,?_⟩,⟨rfl,rfl⟩,kX,fun b hb=>(hf b hb).1⟩⟩;rw [jR]
 done:=by
  intro X hP hw hK hc i kP s σ H E I hf st hg;subst hP hw hK;obtain⟨f0,f1,f2,f3,f4,f5⟩:=hf it #[M];exact wpAny_pyNext_range_end (I.ok.hd hc) st (by have:n≤i:=hg; lia) fun h' eb=>⟨rfl,I.turned (t':=s.toks) (fun b o hb e=>eb b o hb e) f0 f1 f3 f4 f5⟩
 self:=fun _ _ _ _ _ st h=>wpAny_pyIter_rangeiter st h
section
variable {X:Cx} {tg:Expr}
def znD (K:ag) (tl:TE):TI:=fun σ H R=>tl σ H fun x H1=>∃ a,x = .ref a∧(∃ xs,kS K H1 a xs)∧R (Itl K a) H1
def znE (K:ag) (tl:TE):TI:=fun σ H R=>tl σ H fun x H1=>∃ a,x = .ref a∧(∃ xs,k6 K H1 a xs)∧R (Itt K a) H1
theorem z0 {l:Expr} {tl:TE} (hl:PE X l tl):PI X tg l (znD X.K tl):=by
 intro kP s σ H R I h;refine thn (hl kP s σ H _ I h) fun v s1 ⟨x,H1,I1,r1,q1⟩=>?_
 obtain⟨a,e,⟨xs,hq⟩,q⟩:=q1;subst e;cases r1;obtain⟨kR,rv,p,hz⟩:=I1.list hq;refine gu p.isList ?_;refine⟨s1.heap.objs.size,[s1.heap.objs.size],_,_,H1,rfl,I1.kept (t':=s1.toks) fun b o e=>ah _ e,zeH a _,⟨_,aG _ rfl,rfl,rfl⟩,fun b hb=>?_,q⟩;have e:b=s1.heap.objs.size:=by simpa using hb
 subst e;exact I1.fpOk (af _) (I1.hok.fresh (af _))
theorem zmB {l:Expr} {tl:TE} (hl:PE X l tl):PI X tg l (znE X.K tl):=by
 intro kP s σ H R I h;refine thn (hl kP s σ H _ I h) fun v s1 ⟨x,H1,I1,r1,q1⟩=>?_
 obtain⟨a,e,⟨xs,hq⟩,q⟩:=q1;subst e;cases r1;obtain⟨kR,rv,p,hz⟩:=I1.tuple hq;refine eK (show s1.heap.IsTuple a kR.toArray from p) ?_;refine⟨s1.heap.objs.size,[s1.heap.objs.size],_,_,H1,rfl,I1.kept (t':=s1.toks) fun b o e=>ah _ e,zdQ a _,⟨_,aG _ rfl,rfl,rfl⟩,fun b hb=>?_,q⟩;have e:b=s1.heap.objs.size:=by simpa using hb
 subst e;exact I1.fpOk (af _) (I1.hok.fresh (af _))
theorem zfS {kP:List (Addr×Obj)} {σ:St} {H:Hp} {s:Shared} {R:It→Hp→Prop} {E:Value→Shared→Prop} {lo hi:Int} {t u v:Tok} {tk:Nat} (I:Inv X kP σ H s) (h1:-(2 ^ 62)≤lo) (h2:lo < 2 ^ 62) (h3:-(2 ^ 62)≤hi) (h4:hi < 2 ^ 62)
  (q:R (Itr lo (hi - lo).toNat) H):wpAny (model X.prog X.w) X.A (pyIter (.ref s.heap.objs.size)) (PIE X kP σ tg R) E { s with heap:=s.heap.push { cls:=.type "range",data:=.fields #[.int lo t,.int hi u,.int 1 v] },toks:=tk }:=by
 refine wpAny_pyIter_range (IsRange.new ..) (small_one h1 h2 h3 h4) ?_;have I1:Inv X kP σ H { s with heap:=s.heap.push { cls:=.type "range",data:=.fields #[.int lo t,.int hi u,.int 1 v] },toks:=tk }:=I.kept fun b o e=>ah _ e
 refine⟨(s.heap.push { cls:=.type "range",data:=.fields #[.int lo t,.int hi u,.int 1 v] }).objs.size,[(s.heap.push { cls:=.type "range",data:=.fields #[.int lo t,.int hi u,.int 1 v] }).objs.size],_,_,H,rfl,
  I1.kept (t':=tk) fun b o e=>ah _ e,zgO _ lo (hi - lo).toNat,?_,fun b hb=>?_,q⟩
 ·have e1:lo+((0:Nat):Int)*1=lo:=by simp
  have e2:(((hi - lo).toNat:Nat):Int) - ((0:Nat):Int)=Builtin.Range.rangeSize lo hi 1:=by rw [rangeSize_one]; split <;> lia
  show IsRangeIter _ _ (lo+((0:Nat):Int)*1) ((((hi - lo).toNat:Nat):Int) - ((0:Nat):Int)) 1;rw [e1,e2];exact aG _ rfl
 ·have e:b=(s.heap.push { cls:=.type "range",data:=.fields #[.int lo t,.int hi u,.int 1 v] }).objs.size:=by simpa using hb
  subst e;exact I1.fpOk (af _) (I1.hok.fresh (af _))
def znF (ta:TA):TI:=fun σ H R=>ta σ H fun vs H1=>∃ j:Int,vs = [.int j]∧-(2 ^ 62)≤j∧j < 2 ^ 62∧R (Itr 0 j.toNat) H1
def znG (ta:TA):TI:=fun σ H R=>ta σ H fun vs H1=>∃ i j:Int,vs = [.int i,.int j]∧(-(2 ^ 62)≤i∧i < 2 ^ 62∧-(2 ^ 62)≤j∧j < 2 ^ 62)∧R (Itr i (j - i).toNat) H1
theorem zbp {a:Expr} {ta:TA} {p pos:Pos} (hg:Gl X "range") (hm:X.mg "range" = none) (ha:PA X [a] ta) (hs:starEach [a] X.env = [(false,eval a X.env)]:=by rfl):PI X tg (.Call (.Name "range" p) [a] [] pos) (znF ta):=by
 intro kP s σ H R I h;refine Call_ (zbD I hg hm iV (bv (thn (ha pos kP s σ H _ I h) fun us s1 ⟨vs,H1,I1,r1,q1⟩=>?_) hs rfl));obtain⟨j,e,q1,q2,q⟩:=q1;subst e;cases r1 with
 | cons r rr =>
  cases rr;obtain⟨t,rfl⟩:=r;exact call_range_1 (zfS I1 #[O] #[O] q1 q2 (by simpa using q))
theorem ziz {a b:Expr} {ta:TA} {p pos:Pos} (hg:Gl X "range") (hm:X.mg "range" = none) (ha:PA X [a,b] ta) (hs:starEach [a,b] X.env = [(false,eval a X.env),(false,eval b X.env)]:=by rfl) (m9:starEach [b] X.env = [(false,eval b X.env)]:=by rfl) :
  PI X tg (.Call (.Name "range" p) [a,b] [] pos) (znG ta):=by
 intro kP s σ H R I h;refine Call_ (zbD I hg hm iV (bv (thn (ha pos kP s σ H _ I h) fun us s1 ⟨vs,H1,I1,r1,q1⟩=>?_) (by rw [hs,m9]) (by rw [m9]; rfl)));obtain⟨i,j,e,⟨q1,q2,q3,q4⟩,q⟩:=q1;subst e;cases r1 with
 | cons r rr =>
  cases rr with
  | cons r' rr =>
   cases rr;obtain⟨t,rfl⟩:=r;obtain⟨t',rfl⟩:=r';exact call_range_2 (zfS I1 q1 q2 q3 q4 q)
def zoq (wi:TI) (g:TG) (tb:TS):TS:=fun D σ H=>wi σ H fun J H1=>∃ W:Nat→Nat→St→Hp→Prop,(∃ m,W 0 m σ H1)∧∀ i m σ H,W i m σ H →
 (J.stop i H∧D.nx σ H)∨(J.go i H∧∃ N:St→Hp→Prop,(∀ σ' H',N σ' H'→∃ m',m' < m∧W (i+1) m' σ' H')∧∀ x H',J.yld i H x H'→g x σ H' fun σ2 H2=>tb { D with nx:=N,ct:=N,bk:=D.nx } σ2 H2)
def zb9 (fp:List Addr) (h:Heap):List (Addr×Obj):=fp.filterMap fun b=>(h.get? b).map fun o=>(b,o)
theorem zbQ {fp:List Addr} {h:Heap} {b:Addr} {o:Obj} (hb:b∈fp) (e:h.get? b=some o):(b,o)∈zb9 fp h:=jn.mpr ⟨b,hb,by rw [e]; rfl⟩
theorem zeI {fp:List Addr} {h:Heap} {p:Addr×Obj} (hp:p∈zb9 fp h):p.1∈fp∧h.get? p.1=some p.2:=by
 obtain⟨b,hb,e⟩:=jn.mp hp;cases q:h.get? b with
 | none=>rw [q] at e; cases e
 | some o =>
  rw [q] at e;have e':(b,o)=p:=aM e;subst e';exact⟨hb,q⟩
theorem Inv.pinned {kP:List (Addr×Obj)} {σ:St} {H:Hp} {s:Shared} {fp:List Addr} (I:Inv X kP σ H s) (hf:∀ b∈fp,zb8 X kP H b) (ho:∀ b∈fp,∃ o,s.heap.get? b=some o∧∀ v,o.data≠.cell v):Inv X (kP++zb9 fp s.heap) σ H s :=
 I.pins_of fun p hp=>(aK.mp hp).elim (fun z=>I.pin p (aH _ z)) fun z=>by
  obtain⟨hb,e⟩:=zeI z;obtain⟨f0,f1,f2,_⟩:=hf p.1 hb;obtain⟨o,e',d⟩:=ho p.1 hb;rw [e] at e'; cases e';exact⟨e,f0,f1,f2,d⟩
theorem Inv.unpinned {kP pl:List (Addr×Obj)} {σ:St} {H:Hp} {s:Shared} (I:Inv X (kP++pl) σ H s):Inv X kP σ H s:=I.pins_of fun p hp=>I.pin p (aH _ (aP _ hp))
theorem zaP {iter:Expr} {body:List Stmt} {wi:TI} {g:TG} {tb:TS} {pos:Pos} (hp:PassesOwn (model X.prog X.w) X.A X.env X.xe) (hc:X.calm=true) (hi:PI X tg iter wi) (hg:PG X tg g) (hb:PSs X body tb)
  (hs:∀ x,foldedSetIterable iter X.env x=pure x:=by intro _; rfl):PS X (.For tg iter body [] pos) (zoq wi g tb):=by
 intro kP s σ H D I h;refine wpAny_For (thn (hi kP s σ H _ I h) fun v s1 h1=>thn h1 fun wd s2 h2=>?_) hs;obtain⟨it,fp,tn,J,H2,e,I2,T,lT,f2,W,⟨m0,w0⟩,turn⟩:=h2;subst e;have we:∀ {H':Hp},(∀ b∈fp,H' b=none)→∀ b∈fp,zb8 X kP H' b:=fun hn b hb=>⟨hn b hb,(f2 b hb).2⟩
 refine codeAny_forLoop_any (fun n s'=>∃ i σ' H',Inv X kP σ' H' s'∧tn i s'.heap∧(∀ b∈fp,H' b=none)∧W i n σ' H') ?_ m0 ⟨0,σ,H2,I2,lT,fun b hb=>(f2 b hb).1,w0⟩;rintro n s3 ⟨i,σ3,H3,I3,A0,fr3,w3⟩;rcases turn i n σ3 H3 w3 with ⟨stop,qn⟩ | ⟨go,N,hN,step⟩
 ·refine dw hp (thn (T.done X rfl rfl rfl hc i kP s3 σ3 H3 X.xe I3 (we fr3) A0 stop) fun r s4 ⟨hr,I4⟩=>?_);subst hr;exact fB ⟨σ3,H3,I4,qn⟩
 ·refine dw hp (thn (T.item X rfl rfl rfl hc i kP s3 σ3 H3 X.xe I3 (we fr3) A0 go) fun r s4 ⟨u,hr,h4⟩=>?_);subst hr;refine dw hp (thn h4 fun _ s5 ⟨x,H5,I5,r5,y5,xy,fr5⟩=>?_);have I5':=I5.pinned (we fr5) (T.obj _ _ xy);refine dw hp (thn (hg _ s5 σ3 H5 x u _ I5' r5 (step x H5 y5)) fun _ s6 ⟨σ6,H6,I6,q6⟩=>?_);refine dw hp (thn (hb _ s6 σ6 H6 _ I6 q6) fun f s7 q7=>?_);have again:∀ {σ7:St} {H7:Hp},Inv X (kP++zb9 fp s5.heap) σ7 H7 s7→N σ7 H7→∃ m,m < n∧∃ i σ' H',Inv X kP σ' H' s7∧tn i s7.heap∧(∀ b∈fp,H' b=none)∧W i m σ' H':=fun {σ7 H7} I7 n7=>by
   obtain⟨m',hm,w7⟩:=hN σ7 H7 n7;refine⟨m',hm,i+1,σ7,H7,I7.unpinned,T.keep _ _ _ xy fun b hb o e=>(I7.pin (b,o) (aH _ (aH _ (zbQ hb e)))).1,fun b hb=>?_,w7⟩;obtain⟨o,e,d⟩:=T.obj _ _ xy b hb;exact (I7.pin (b,o) (aH _ (aH _ (zbQ hb e)))).2.1
  cases f with
  | next=>obtain⟨σ7,H7,I7,n7⟩:=q7; exact again I7 n7
  | cont=>obtain⟨σ7,H7,I7,n7⟩:=q7; exact again I7 n7
  | brk=>obtain⟨σ7,H7,I7,q7⟩:=q7; exact⟨σ7,H7,I7.unpinned,q7⟩
  | ret v=>obtain⟨x7,σ7,H7,I7,r7,q7⟩:=q7; exact⟨x7,σ7,H7,I7.unpinned,r7,q7⟩
end
theorem zjl {K:ag} {a:Addr} {xs:List V} {g:TG} {tb:TS} {D:Ends} {σ:St} {H:Hp} (Pv:Nat→St→Hp→Prop) (h0:Pv 0 σ H) (hl:∀ i σ H,i≤xs.length→Pv i σ H→kS K H a xs)
  (hs:∀ i x σ H,xs[i]? = some x→Pv i σ H→g x σ H fun σ2 H2=>tb { D with nx:=Pv (i+1),ct:=Pv (i+1),bk:=D.nx } σ2 H2) (hd:∀ σ H,Pv xs.length σ H→D.nx σ H) :
  ∃ W:Nat→Nat→St→Hp→Prop,(∃ m,W 0 m σ H)∧∀ i m σ H,W i m σ H →
   ((Itl K a).stop i H∧D.nx σ H)∨((Itl K a).go i H∧∃ N:St→Hp→Prop,(∀ σ' H',N σ' H'→∃ m',m' < m∧W (i+1) m' σ' H')∧∀ x H',(Itl K a).yld i H x H'→g x σ H' fun σ2 H2=>tb { D with nx:=N,ct:=N,bk:=D.nx } σ2 H2):=by
 refine⟨fun i m σ H=>m=xs.length - i∧i≤xs.length∧Pv i σ H,⟨xs.length,#[M],bh _,h0⟩,?_⟩;rintro i m σ H ⟨rfl,hi,p⟩;have q:=hl i σ H hi p;by_cases lF:i < xs.length
 ·refine .inr ⟨⟨xs,xs[i],q,by simp [lF]⟩,Pv (i+1),fun σ' H' p'=>⟨xs.length - (i+1),#[O],rfl,lF,p'⟩,fun x H' y=>?_⟩;obtain⟨e,y⟩:=y;subst e;exact hs i x σ _ (y xs q) p
 ·have e:i=xs.length:=by lia
  subst e;exact .inl ⟨⟨xs,q,af _⟩,hd σ H p⟩
theorem zk3 {K:ag} {a:Addr} {xs:List V} {g:TG} {tb:TS} {D:Ends} {σ:St} {H:Hp} (Pv:Nat→St→Hp→Prop) (h0:Pv 0 σ H) (hl:∀ i σ H,i≤xs.length→Pv i σ H→k6 K H a xs)
  (hs:∀ i x σ H,xs[i]? = some x→Pv i σ H→g x σ H fun σ2 H2=>tb { D with nx:=Pv (i+1),ct:=Pv (i+1),bk:=D.nx } σ2 H2) (hd:∀ σ H,Pv xs.length σ H→D.nx σ H) :
  ∃ W:Nat→Nat→St→Hp→Prop,(∃ m,W 0 m σ H)∧∀ i m σ H,W i m σ H →
   ((Itt K a).stop i H∧D.nx σ H)∨((Itt K a).go i H∧∃ N:St→Hp→Prop,(∀ σ' H',N σ' H'→∃ m',m' < m∧W (i+1) m' σ' H')∧∀ x H',(Itt K a).yld i H x H'→g x σ H' fun σ2 H2=>tb { D with nx:=N,ct:=N,bk:=D.nx } σ2 H2):=by
 refine⟨fun i m σ H=>m=xs.length - i∧i≤xs.length∧Pv i σ H,⟨xs.length,#[M],bh _,h0⟩,?_⟩;rintro i m σ H ⟨rfl,hi,p⟩;have q:=hl i σ H hi p;by_cases lF:i < xs.length
 ·refine .inr ⟨⟨xs,xs[i],q,by simp [lF]⟩,Pv (i+1),fun σ' H' p'=>⟨xs.length - (i+1),#[O],rfl,lF,p'⟩,fun x H' y=>?_⟩;obtain⟨e,y⟩:=y;subst e;exact hs i x σ _ (y xs q) p
 ·have e:i=xs.length:=by lia
  subst e;exact .inl ⟨⟨xs,q,af _⟩,hd σ H p⟩
theorem ziA {lo:Int} {n:Nat} {g:TG} {tb:TS} {D:Ends} {σ:St} {H:Hp} (Pv:Nat→St→Hp→Prop) (h0:Pv 0 σ H)
  (hs:∀ i σ H,i < n→Pv i σ H→g (.int (lo+i)) σ H fun σ2 H2=>tb { D with nx:=Pv (i+1),ct:=Pv (i+1),bk:=D.nx } σ2 H2) (hd:∀ σ H,Pv n σ H→D.nx σ H) :
  ∃ W:Nat→Nat→St→Hp→Prop,(∃ m,W 0 m σ H)∧∀ i m σ H,W i m σ H →
   ((Itr lo n).stop i H∧D.nx σ H)∨((Itr lo n).go i H∧∃ N:St→Hp→Prop,(∀ σ' H',N σ' H'→∃ m',m' < m∧W (i+1) m' σ' H')∧∀ x H',(Itr lo n).yld i H x H'→g x σ H' fun σ2 H2=>tb { D with nx:=N,ct:=N,bk:=D.nx } σ2 H2):=by
 refine⟨fun i m σ H=>m=n - i∧i≤n∧Pv i σ H,⟨n,#[M],bh _,h0⟩,?_⟩;rintro i m σ H ⟨rfl,hi,p⟩;by_cases lF:i < n
 ·refine .inr ⟨lF,Pv (i+1),fun σ' H' p'=>⟨n - (i+1),#[O],rfl,lF,p'⟩,fun x H' y=>?_⟩;obtain⟨e,y⟩:=y;subst e y;exact hs i σ _ lF p
 ·have e:i=n:=by lia
  subst e;exact .inl ⟨af _,hd σ H p⟩
theorem zjm {c:TT} {tb:TS} {D:Ends} {σ:St} {H:Hp} (Pv:St→Hp→Prop) (μ:St→Hp→Nat) (h0:Pv σ H)
  (hs:∀ σ H,Pv σ H→c σ H fun b H1=>if b=true then tb { D with nx:=fun σ' H'=>Pv σ' H'∧μ σ' H' < μ σ H,ct:=fun σ' H'=>Pv σ' H'∧μ σ' H' < μ σ H,bk:=D.nx } σ H1 else D.nx σ H1)
  (mono:∀ σ H Q Q',(∀ b H1,Q b H1→Q' b H1)→c σ H Q→c σ H Q'):zjk c tb D σ H:=by
 refine⟨fun m σ H=>m=μ σ H∧Pv σ H,⟨_,rfl,h0⟩,?_⟩;rintro m σ H ⟨rfl,p⟩;refine mono σ H _ _ (fun b H1 q=>?_) (hs σ H p);cases b with
 | true=>exact⟨_,fun σ' H' ⟨p',l⟩=>⟨_,l,rfl,p'⟩,q⟩
 | false=>exact q
abbrev R2:=V→V→Hp→VK→Prop
def OpR (X:Cx) (f:Value→Value→Sem Value) (r:R2):Prop :=
 ∀ (kP:List (Addr×Obj)) (s:Shared) (σ:St) (H:Hp) (x y:V) (v u:Value) (Q:VK),Inv X kP σ H s→RelV x v→RelV y u→r x y H Q →
  wpAny (model X.prog X.w) X.A (f v u) (EP X kP σ Q) X.xe s
def UnR (X:Cx) (f:Value→Sem Value) (r:V→Hp→VK→Prop):Prop :=
 ∀ (kP:List (Addr×Obj)) (s:Shared) (σ:St) (H:Hp) (x:V) (v:Value) (Q:VK),Inv X kP σ H s→RelV x v→r x H Q →
  wpAny (model X.prog X.w) X.A (f v) (EP X kP σ Q) X.xe s
def zca (X:Cx) (f:Value) (r:List V→Hp→VK→Prop):Prop :=
 ∀ (kP:List (Addr×Obj)) (s:Shared) (σ:St) (H:Hp) (xs:List V) (us:List Value) (Q:VK),Inv X kP σ H s→zF xs us→r xs H Q →
  wpAny (model X.prog X.w) X.A (call f us) (EP X kP σ Q) X.xe s
def zor (X:Cx) (r:V→Hp→(Bool→Hp→Prop)→Prop):Prop :=
 ∀ (kP:List (Addr×Obj)) (s:Shared) (σ:St) (H:Hp) (x:V) (v:Value) (Q:Bool→Hp→Prop),Inv X kP σ H s→RelV x v→r x H Q →
  wpAny (model X.prog X.w) X.A (truthy v) (TP X kP σ Q) X.xe s
def tOp (r:R2) (ta tb:TE):TE:=fun σ H Q=>ta σ H fun x H1=>tb σ H1 fun y H2=>r x y H2 Q
def tUn (r:V→Hp→VK→Prop) (ta:TE):TE:=fun σ H Q=>ta σ H fun x H1=>r x H1 Q
def rI (C:Int→Int→Prop) (g:Int→Int→V):R2:=fun x y H Q=>∃ i j,x = .int i∧y = .int j∧C i j∧Q (g i j) H
def rI0 (g:Int→Int→V):R2:=fun x y H Q=>∃ i j,x = .int i∧y = .int j∧Q (g i j) H
def rU (g:Int→V):V→Hp→VK→Prop:=fun x H Q=>∃ i,x = .int i∧Q (g i) H
section
variable {X:Cx} {a b c:Expr} {ta tb tc:TE} {pos:Pos}
theorem znH (ha:PE X a ta) (hb:PE X b tb) {kP:List (Addr×Obj)} {s:Shared} {σ:St} {H:Hp} {R:V→V→Hp→Prop} (I:Inv X kP σ H s)
  (h:ta σ H fun x H1=>tb σ H1 fun y H2=>R x y H2) {Q:Value→Shared→Prop} {f:Value→Value→Sem Value}
  (hf:∀ v u s2 x y H2,Inv X kP σ H2 s2→RelV x v→RelV y u→R x y H2→wpAny (model X.prog X.w) X.A (f v u) Q X.xe s2) :
  wpAny (model X.prog X.w) X.A (eval a X.env) (fun v s₁=>wpAny (model X.prog X.w) X.A (eval b X.env) (fun u s₂=>wpAny (model X.prog X.w) X.A (f v u) Q X.xe s₂) X.xe s₁) X.xe s:=by
 refine thn (ha kP s σ H _ I h) fun v s1 ⟨x,H1,I1,r1,q1⟩=>?_
 refine thn (hb kP s1 σ H1 _ I1 q1) fun u s2 ⟨y,H2,I2,r2,q2⟩=>?_
 exact hf v u s2 x y H2 I2 r1 r2 q2
theorem zl {op:Operator} {r:R2} (ho:OpR X (binaryOp op) r) (ha:PE X a ta) (hb:PE X b tb):PE X (.BinOp a op b pos) (tOp r ta tb):=by
 intro kP s σ H Q I h;exact wpAny_BinOp (znH ha hb I h fun v u s2 x y H2 I2 rx ry q=>ho kP s2 σ H2 x y v u Q I2 rx ry q)
theorem zhw {op:UnaryOp} {r:V→Hp→VK→Prop} (ho:UnR X (unaryOp op) r) (ha:PE X a ta):PE X (.UnaryOp op a pos) (tUn r ta):=by
 intro kP s σ H Q I h;exact UnaryOp_ (thn (ha kP s σ H _ I h) fun v s1 ⟨x,H1,I1,r1,q1⟩=>ho kP s1 σ H1 x v Q I1 r1 q1)
theorem opI {f:Value→Value→Sem Value} {C:Int→Int→Prop} {g:Int→Int→Int}
  (rule:∀ (i j:Int) (t u:Tok) (s:Shared) (Q:Value→Shared→Prop) (E:Value→Shared→Prop),C i j→Q (.int (g i j) s.toks) { s with toks:=s.toks+1 }→wpAny (model X.prog X.w) X.A (f (.int i t) (.int j u)) Q E s) :
  OpR X f (rI C fun i j=>.int (g i j)):=by
 intro kP s σ H x y v u Q I rx ry h;obtain⟨i,j,rfl,rfl,hc,q⟩:=h;obtain⟨t,rfl⟩:=rx;obtain⟨t',rfl⟩:=ry;exact rule i j t t' s _ _ hc ⟨.int (g i j),H,I.tok _,⟨_,rfl⟩,q⟩
theorem zmC {f:Value→Value→Sem Value} {g:Int→Int→Int}
  (rule:∀ (i j:Int) (t u:Tok) (s:Shared) (Q:Value→Shared→Prop) (E:Value→Shared→Prop),Q (.int (g i j) s.toks) { s with toks:=s.toks+1 }→wpAny (model X.prog X.w) X.A (f (.int i t) (.int j u)) Q E s) :
  OpR X f (rI0 fun i j=>.int (g i j)):=by
 intro kP s σ H x y v u Q I rx ry h;obtain⟨i,j,rfl,rfl,q⟩:=h;obtain⟨t,rfl⟩:=rx;obtain⟨t',rfl⟩:=ry;exact rule i j t t' s _ _ ⟨.int (g i j),H,I.tok _,⟨_,rfl⟩,q⟩
theorem zmD {f:Value→Value→Sem Value} {g:Int→Int→Bool}
  (rule:∀ (i j:Int) (t u:Tok) (s:Shared) (Q:Value→Shared→Prop) (E:Value→Shared→Prop),Q (.bool (g i j)) s→wpAny (model X.prog X.w) X.A (f (.int i t) (.int j u)) Q E s) :
  OpR X f (rI0 fun i j=>.bl (g i j)):=by
 intro kP s σ H x y v u Q I rx ry h;obtain⟨i,j,rfl,rfl,q⟩:=h;obtain⟨t,rfl⟩:=rx;obtain⟨t',rfl⟩:=ry;exact rule i j t t' s _ _ ⟨.bl (g i j),H,I,rfl,q⟩
def znI (i j:Int):Prop:=0 < j∧j < 1073741824
def zos (i j:Int):Prop:=0≤j∧j≤1000000∧i.natAbs < 2 ^ 64
def zmE (i j:Int):Prop:=(-(2 ^ 64) < i∧i < 2 ^ 64)∨(-(2 ^ 64) < j∧j < 2 ^ 64)
theorem zmE.ok {i j:Int} (h:zmE i j):IntMulOk i j:=by
 rcases h with ⟨h1,h2⟩ | ⟨h1,h2⟩
 ·exact .of_left (intBits_le_64 h1 h2)
 ·exact .of_right (intBits_le_64 h1 h2)
theorem z8:OpR X (binaryOp .Add) (rI0 fun i j=>.int (i+j)):=zmC fun _ _ _ _ _ _ _ q=>add_int q
theorem zc2:OpR X (binaryOp .Sub) (rI0 fun i j=>.int (i - j)):=zmC fun _ _ _ _ _ _ _ q=>sub_int q
theorem zan:OpR X (binaryOp .Mult) (rI zmE fun i j=>.int (i*j)):=opI fun _ _ _ _ _ _ _ hc q=>mul_int q hc.ok
theorem zdt:OpR X (binaryOp .FloorDiv) (rI znI fun i j=>.int (i / j)):=opI fun i j _ _ _ _ _ hc q=>by
 have h1:(0:Int) < j:=hc.1;have h2:j < 1073741824:=hc.2;exact floordiv_int #[O] (by rw [gh i #[O]]; exact q) (.inl (iD #[O]))
theorem zJ:OpR X (binaryOp .Mod) (rI (fun _ j=>0 < j) fun i j=>.int (i % j)):=opI fun i j _ _ _ _ _ hc q=>by
 have h1:(0:Int) < j:=hc;exact mod_int' #[O] (by rw [Int.fmod_eq_emod_of_nonneg i #[O]]; exact q)
theorem zmF:OpR X (binaryOp .Pow) (rI zos fun i j=>.int (i ^ j.toNat)):=opI fun _ _ _ _ _ _ _ hc q=>pow_int_small hc.1 hc.2.1 hc.2.2 q
theorem zk4:OpR X (inplaceOp .Add) (rI0 fun i j=>.int (i+j)):=zmC fun _ _ _ _ _ _ _ q=>iadd_int q
theorem zjn:OpR X (inplaceOp .FloorDiv) (rI znI fun i j=>.int (i / j)):=opI fun i j _ _ _ _ _ hc q=>by
 have h1:(0:Int) < j:=hc.1;have h2:j < 1073741824:=hc.2;exact ifloordiv_int #[O] (by rw [gh i #[O]]; exact q) (.inl (iD #[O]))
theorem unI {f:Value→Sem Value} {g:Int→Int}
  (rule:∀ (i:Int) (t:Tok) (s:Shared) (Q:Value→Shared→Prop) (E:Value→Shared→Prop),Q (.int (g i) s.toks) { s with toks:=s.toks+1 }→wpAny (model X.prog X.w) X.A (f (.int i t)) Q E s) :
  UnR X f (rU fun i=>.int (g i)):=by
 intro kP s σ H x v Q I rx h;obtain⟨i,rfl,q⟩:=h;obtain⟨t,rfl⟩:=rx;exact rule i t s _ _ ⟨.int (g i),H,I.tok _,⟨_,rfl⟩,q⟩
theorem zfe:UnR X (unaryOp .USub) (rU fun i=>.int (-i)):=unI fun _ _ _ _ _ q=>neg_int q
end
def zmG:V→V→Bool
 | .non,.non=>true | .non,.int _=>true | .int _,.non=>true | .non,.bl _=>true | .bl _,.non=>true | .non,.str _=>true | .str _,.non=>true
 | .int _,.int _=>true | .bl _,.bl _=>true | .str _,.str _=>true | .byt _,.byt _=>true
 | .int _,.str _=>true | .str _,.int _=>true | .bl _,.str _=>true | .str _,.bl _=>true
 | _,_=>false
def rEq:R2:=fun x y H Q=>zmG x y=true∧Q (.bl (decide (x=y))) H
def rNe:R2:=fun x y H Q=>zmG x y=true∧Q (.bl (!decide (x=y))) H
theorem zhx {i j:Int}:decide (V.int i=V.int j)=(i == j):=by
 rw [cf];simp
theorem zjo {i j:Bool}:decide (V.bl i=V.bl j)=(i == j):=by
 rw [cf];simp
theorem zhy {i j:Str}:decide (V.str i=V.str j)=(i == j):=by
 rw [cf];simp
theorem zhz {i j:Array UInt8}:decide (V.byt i=V.byt j)=(i.toList == j.toList):=by
 rw [cf];cases i;cases j;simp
section
variable {X:Cx} {a b c:Expr} {ta tb tc:TE} {pos:Pos}
theorem zV {kP:List (Addr×Obj)} {σ:St} {H:Hp} {s:Shared} {Q:VK} {k k':Bool} (I:Inv X kP σ H s) (q:Q (.bl k) H) (e:k=k'):EP X kP σ Q (.bool k') s:=by
 subst e;exact⟨.bl k,H,I,rfl,q⟩
theorem zeJ:OpR X (compareOp .Eq) rEq:=by
 intro kP s σ H x y v u Q I rx ry h;obtain⟨hs,q⟩:=h;cases x with
 | non =>
  cases rx;cases y with
  | non=>cases ry; exact PySem.EqNone.eq_none_none (zV I q #[M])
  | bl j=>cases ry; exact PySem.EqNone.eq_none_bool (zV I q #[M])
  | int j=>obtain⟨t',rfl⟩:=ry; exact PySem.EqNone.eq_none_int (zV I q #[M])
  | str j=>obtain⟨t',rfl⟩:=ry; exact PySem.EqNone.eq_none_str (zV I q #[M])
  | _=>exact absurd (show false=true from hs) aL
 | bl i =>
  cases rx;cases y with
  | non=>cases ry; exact PySem.EqNone.eq_bool_none (zV I q #[M])
  | bl j=>cases ry; exact eq_bool (zV I q zjo)
  | str j=>obtain⟨t',rfl⟩:=ry; exact PySem.EqMixed.eq_bool_str (zV I q #[M])
  | _=>exact absurd (show false=true from hs) aL
 | int i =>
  obtain⟨t,rfl⟩:=rx;cases y with
  | non=>cases ry; exact PySem.EqNone.eq_int_none (zV I q #[M])
  | int j=>obtain⟨t',rfl⟩:=ry; exact eq_int (zV I q zhx)
  | str j=>obtain⟨t',rfl⟩:=ry; exact PySem.EqMixed.eq_int_str (zV I q #[M])
  | _=>exact absurd (show false=true from hs) aL
 | str i =>
  obtain⟨t,rfl⟩:=rx;cases y with
  | non=>cases ry; exact PySem.EqNone.eq_str_none (zV I q #[M])
  | bl j=>cases ry; exact PySem.EqMixed.eq_str_bool (zV I q #[M])
  | int j=>obtain⟨t',rfl⟩:=ry; exact PySem.EqMixed.eq_str_int (zV I q #[M])
  | str j=>obtain⟨t',rfl⟩:=ry; exact eq_str (zV I q zhy)
  | _=>exact absurd (show false=true from hs) aL
 | byt i =>
  obtain⟨t,rfl⟩:=rx;cases y with
  | byt j=>obtain⟨t',rfl⟩:=ry; exact PySem.W.eq_bytes (zV I q zhz)
  | _=>exact absurd (show false=true from hs) aL
 | _=>cases y <;> exact absurd (show false=true from hs) aL
theorem zhA:OpR X (compareOp .NotEq) rNe:=by
 intro kP s σ H x y v u Q I rx ry h;obtain⟨hs,q⟩:=h;cases x with
 | non =>
  cases rx;cases y with
  | non=>cases ry; exact PySem.EqNone.ne_none_none (zV I q #[M])
  | bl j=>cases ry; exact PySem.EqNone.ne_none_bool (zV I q #[M])
  | int j=>obtain⟨t',rfl⟩:=ry; exact PySem.EqNone.ne_none_int (zV I q #[M])
  | str j=>obtain⟨t',rfl⟩:=ry; exact PySem.EqNone.ne_none_str (zV I q #[M])
  | _=>exact absurd (show false=true from hs) aL
 | bl i =>
  cases rx;cases y with
  | non=>cases ry; exact PySem.EqNone.ne_bool_none (zV I q #[M])
  | bl j=>cases ry; exact ne_bool (zV I q (congrArg not zjo))
  | str j=>obtain⟨t',rfl⟩:=ry; exact PySem.EqMixed.ne_bool_str (zV I q #[M])
  | _=>exact absurd (show false=true from hs) aL
 | int i =>
  obtain⟨t,rfl⟩:=rx;cases y with
  | non=>cases ry; exact PySem.EqNone.ne_int_none (zV I q #[M])
  | int j=>obtain⟨t',rfl⟩:=ry; exact ne_int (zV I q (congrArg not zhx))
  | str j=>obtain⟨t',rfl⟩:=ry; exact PySem.EqMixed.ne_int_str (zV I q #[M])
  | _=>exact absurd (show false=true from hs) aL
 | str i =>
  obtain⟨t,rfl⟩:=rx;cases y with
  | non=>cases ry; exact PySem.EqNone.ne_str_none (zV I q #[M])
  | bl j=>cases ry; exact PySem.EqMixed.ne_str_bool (zV I q #[M])
  | int j=>obtain⟨t',rfl⟩:=ry; exact PySem.EqMixed.ne_str_int (zV I q #[M])
  | str j=>obtain⟨t',rfl⟩:=ry; exact ne_str (zV I q (congrArg not zhy))
  | _=>exact absurd (show false=true from hs) aL
 | byt i =>
  obtain⟨t,rfl⟩:=rx;cases y with
  | byt j=>obtain⟨t',rfl⟩:=ry; exact PySem.W.ne_bytes (zV I q (congrArg not zhz))
  | _=>exact absurd (show false=true from hs) aL
 | _=>cases y <;> exact absurd (show false=true from hs) aL
theorem zjp:OpR X (compareOp .Lt) (rI0 fun i j=>.bl (decide (i < j))):=zmD fun _ _ _ _ _ _ _ q=>lt_int q
theorem zhB:OpR X (compareOp .Gt) (rI0 fun i j=>.bl (decide (j < i))):=zmD fun _ _ _ _ _ _ _ q=>gt_int q
theorem zmd:OpR X (compareOp .GtE) (rI0 fun i j=>.bl (decide (j≤i))):=zmD fun _ _ _ _ _ _ _ q=>ge_int q
theorem zgP:OpR X (compareOp .Is) (fun x y H Q=>y = .non∧Q (.bl (decide (x = .non))) H):=by
 intro kP s σ H x y v u Q I rx ry h;obtain⟨rfl,q⟩:=h;cases ry;refine is_none_gen (zV I q ?_);cases x <;> first
  | (cases rx; rfl)
  | (obtain⟨t,rfl⟩:=rx; rfl)
theorem zk5:OpR X (compareOp .IsNot) (fun x y H Q=>y = .non∧Q (.bl (!decide (x = .non))) H):=by
 intro kP s σ H x y v u Q I rx ry h;obtain⟨rfl,q⟩:=h;cases ry;refine isnot_none_gen (zV I q ?_);cases x <;> first
  | (cases rx; rfl)
  | (obtain⟨t,rfl⟩:=rx; rfl)
theorem zag (b:Expr) {op:CmpOp} (h:op≠.In:=by decide) (h2:op≠.NotIn:=by decide):behindInMarks op b=false:=by
 have e1:(op == CmpOp.In)=false:=by cases op <;> first | rfl | exact absurd rfl h
 have e2:(op == CmpOp.NotIn)=false:=by cases op <;> first | rfl | exact absurd rfl h2
 cases b <;> simp [behindInMarks,e1,e2]
def znJ (t:TE):TT:=fun σ H Q=>t σ H fun x H'=>∃ k,x = .bl k∧Q k H'
theorem zK {op:CmpOp} {r:R2} (ho:OpR X (compareOp op) r) (ha:PE X a ta) (hb:PE X b tb) (hm:behindInMarks op b=false):PT X (.Compare a [op] [b] pos) (znJ (tOp r ta tb)):=by
 intro kP s σ H Q I h;refine wpAny_isTrue_Compare1 (thn (ha kP s σ H _ I h) fun v s1 ⟨x,H1,I1,r1,q1⟩=>thn (hb kP s1 σ H1 _ I1 q1) fun u s2 ⟨y,H2,I2,r2,q2⟩ =>
  thn (ho kP s2 σ H2 x y v u _ I2 r1 r2 q2) fun c s3 ⟨z,H3,I3,r3,k,e,q3⟩=>?_) hm
 subst e;cases r3;exact wpAny_truthy_bool ⟨H3,I3,q3⟩
def znK (K:ag) (x:V) (H:Hp) (k:Bool):Prop :=
 match x with
 | .non=>k=false
 | .bl b=>k=b
 | .int i=>k=(i != 0)
 | .str y=>y.length≤sizeLine∧k=((y.length:Int) != 0)
 | .byt y=>y.size≤sizeLine∧k=((y.size:Int) != 0)
 | .ref p=>(∃ xs,kS K H p xs∧k = !xs.isEmpty)∨(∃ xs,k6 K H p xs∧k = !xs.isEmpty)∨∃ kZ,H p=some (.dK kZ)∧k = !kZ.isEmpty
 | _=>False
theorem zgQ {κ:Type} {kZ:List (κ×V)} {vs:List (κ×Value)} (r:KV kZ vs):(!vs.isEmpty) = !kZ.isEmpty:=by
 cases r <;> rfl
theorem zdR {xs:List V} {kR:List Value} (r:zF xs kR):(!kR.toArray.isEmpty) = !xs.isEmpty:=by
 cases r <;> simp
theorem zdS:(sizeLine:Nat) < 2 ^ 63:=by rw [bi]; decide
theorem zmH:zor X (fun x H Q=>∃ k,znK X.K x H k∧Q k H):=by
 intro kP s σ H x v Q I rx h;obtain⟨k,e,q⟩:=h;have hl:=zdS;have hs:sizeLine=16777216:=bi;cases x with
 | non =>
  cases rx;have e':k=false:=e;subst e';exact truthy_none ⟨H,I,q⟩
 | bl b =>
  cases rx;have e':k=b:=e;subst e';exact wpAny_truthy_bool ⟨H,I,q⟩
 | int i =>
  obtain⟨t,rfl⟩:=rx;have e':k=(i != 0):=e;subst e';exact PySem.P.truthy_int ⟨H,I,q⟩
 | str y =>
  obtain⟨t,rfl⟩:=rx;obtain⟨hy,e'⟩:y.length≤sizeLine∧k=((y.length:Int) != 0):=e;subst e';exact PySem.P.truthy_str #[O] ⟨H,I.tok _,q⟩
 | byt y =>
  obtain⟨t,rfl⟩:=rx;obtain⟨hy,e'⟩:y.size≤sizeLine∧k=((y.size:Int) != 0):=e;subst e';exact PySem.W.truthy_bytes #[O] ⟨H,I.tok _,q⟩
 | ref p =>
  cases rx;have e':(∃ xs,kS X.K H p xs∧k = !xs.isEmpty)∨(∃ xs,k6 X.K H p xs∧k = !xs.isEmpty)∨∃ kZ,H p=some (.dK kZ)∧k = !kZ.isEmpty:=e;rcases e' with ⟨xs,hx,e'⟩ | ⟨xs,hx,e'⟩ | ⟨kZ,hx,e'⟩
  ·subst e';obtain⟨kR,r,pl,hz⟩:=I.list hx;have kY:=r.length;exact wpAny_truthy_list pl.isList (by simp only [am]; lia) ⟨H,I.tok _,by rw [zdR r]; exact q⟩
  ·subst e';obtain⟨kR,r,pl,hz⟩:=I.tuple hx;have kY:=r.length;exact truthy_tuple pl (by simp only [am]; lia) ⟨H,I.tok _,by rw [zdR r]; exact q⟩
  ·subst e';obtain⟨hz,hS,vs,r,m⟩:kZ.length≤sizeLine∧(p == sysModules)=false∧∃ vs,KV kZ vs∧s.heap.DictOf (zaD X.prog X.w) p vs:=I.hok p _ hx;have kY:kZ.length=vs.length:=gf r;exact wpAny_truthy_dict hS m #[O] ⟨H,I.tok _,by rw [zgQ r]; exact q⟩
 | _=>exact (show False from e).elim
theorem zjq (ha:PE X a ta) (he:∀ whole,isTrue a X.env whole=(do let v ← whole; standAt a.pos; holding [v] (truthy v))) :
  PT X a (fun σ H Q=>ta σ H fun x H'=>∃ k,znK X.K x H' k∧Q k H'):=by
 intro kP s σ H Q I h;exact isTrue_plain (thn (ha kP s σ H _ I h) fun v s1 ⟨x,H1,I1,r1,q1⟩=>zmH kP s1 σ H1 x v Q I1 r1 q1) (he _)
theorem vals1 {x:V} {us:List Value} (r:zF [x] us):∃ u,us = [u]∧RelV x u:=by
 cases r with
 | cons r1 r2=>cases r2; exact⟨_,rfl,r1⟩
theorem vals2 {x y:V} {us:List Value} (r:zF [x,y] us):∃ u w',us = [u,w']∧RelV x u∧RelV y w':=by
 cases r with
 | cons r1 r2 =>
  cases r2 with
  | cons r3 r4=>cases r4; exact⟨_,_,rfl,r1,r3⟩
theorem zeK (hc:X.calm=true):zca X (.builtin "min") (fun xs H Q=>∃ i j,xs = [.int i,.int j]∧Q (.int (if j < i then j else i)) H):=by
 intro kP s σ H xs us Q I r h;obtain⟨i,j,rfl,q⟩:=h;obtain⟨u,w',rfl,⟨t,rfl⟩,⟨t',rfl⟩⟩:=vals2 r;refine min_two_ints (I.ok.hd hc) fun h' tk k=>⟨_,H,I.kept k,?_,q⟩
 by_cases hj:j < i
 ·rw [if_pos hj,if_pos hj]; exact⟨_,rfl⟩
 ·rw [if_neg hj,if_neg hj]; exact⟨_,rfl⟩
end
structure Room (k:Nat) (A:Around):Prop where
 hd:A.handled=none
 dp:A.depth+3*k+5 < recursionLimit
 un:A.units+16*k+200 < cLine
theorem Room.mono {j k:Nat} {A:Around} (r:Room k A) (h:j≤k):Room j A:=⟨r.hd,by have:=r.dp; lia,by have:=r.un; lia⟩
theorem Room.deeper {k:Nat} {A:Around} (r:Room (k+1) A) (env:Env):Room k (A.deeper env) :=
 ⟨r.hd,by have:=r.dp; show A.depth+1+3*k+5 < _; lia,by have:=r.un; show A.units+3+16*k+200 < _; lia⟩
theorem Room.depth {k:Nat} {A:Around} (r:Room k A):A.depth < recursionLimit:=by have:=r.dp; lia
theorem Room.units {k:Nat} {A:Around} (r:Room k A):A.units+64 < cLine:=by have:=r.un; lia
def zot:TA:=fun _ H Q=>Q [] H
def zme (ta:TE) (tr:TA):TA:=fun σ H Q=>ta σ H fun x H1=>tr σ H1 fun xs H2=>Q (x :: xs) H2
section
variable {X:Cx} {e:Expr} {es:List Expr} {te:TE} {t:TA} {pos:Pos}
theorem zg:PA X [] zot:=fun _ _ _ _ H Q I h=>jG ⟨[],H,I,.nil,h⟩
theorem zc (ha:PE X e te) (hr:PA X es t) (hs:starEach (e :: es) X.env=(false,eval e X.env) :: starEach es X.env:=by rfl):PA X (e :: es) (zme te t):=by
 intro pos kP s σ H Q I h;rw [hs];show wpAny _ _ (spliced ((false,eval e X.env) :: backTo pos (starEach es X.env))) _ _ s;refine jo (thn (ha kP s σ H _ I h) fun u s1 ⟨x,H1,I1,r1,q1⟩=>?_);exact thn (hr pos kP s1 σ H1 _ I1 q1) fun us s2 ⟨xs,H2,I2,r2,q2⟩=>⟨x :: xs,H2,I2,.cons r1 r2,q2⟩
theorem ya {X:Cx} {e:Expr} {te:TE} (a:PE X e te) (b:starEach [e] X.env=(false,eval e X.env) :: starEach [] X.env):PA X [e] (zme te zot):=zc a zg b
def zou (t:TA):TE:=fun σ H Q=>t σ H fun xs H1=>xs.length≤sizeLine∧∀ p,H1 p=none→Q (.ref p) (kW H1 p (.tup xs))
def zk6 (t:TA):TE:=fun σ H Q=>t σ H fun xs H1=>xs.length≤sizeLine∧∀ p,H1 p=none→Q (.ref p) (kW H1 p (.lst xs))
theorem zaH {x1} (h:PA X es t):PE X (.Tuple es x1 pos) (zou t):=by
 intro kP s σ H Q I hq;refine wpAny_Tuple_spliced (thn (h pos kP s σ H _ I hq) fun us s1 ⟨xs,H1,I1,r,z,q⟩=>⟨by rw [← r.length]; exact z,?_⟩);have hf:H1 s1.heap.objs.size=none:=I1.hok.fresh (af _);refine⟨.ref s1.heap.objs.size,kW H1 s1.heap.objs.size (.tup xs),I1.laid (t':=s1.toks) (fun b u e=>ah _ e) (af _) ?_,rfl,q _ hf⟩;exact⟨z,us,r,⟨_,aG _ rfl,rfl,_,rfl⟩⟩
theorem zac (h:PA X es t):PE X (.List es pos) (zk6 t):=by
 intro kP s σ H Q I hq;refine wpAny_List_spliced (thn (h pos kP s σ H _ I hq) fun us s1 ⟨xs,H1,I1,r,z,q⟩=>⟨by rw [← r.length]; exact z,?_⟩);have hf:H1 s1.heap.objs.size=none:=I1.hok.fresh (af _);refine⟨.ref s1.heap.objs.size,kW H1 s1.heap.objs.size (.lst xs),I1.laid (t':=s1.toks) (fun b u e=>ah _ e) (af _) ?_,rfl,q _ hf⟩;exact⟨z,us,0,r,aG _ rfl⟩
end
abbrev Sp:=List V→Hp→VK→XK→Prop
abbrev CXT:=List Env→Hp→Shared→XK→Value→Shared→Prop
structure Env0 (P:Program) (w:World) (K:ag) (mg:Str→Option Value) (base:Heap) (A:Around) (outer:List Env) (s:Shared) (H:Hp):Prop where
 frames:A.frames=some outer
 mod:Mod K mg base
 bs:∀ b o,base.get? b=some o→s.heap.get? b=some o∧H b=none
 bsz:base.objs.size≤s.heap.objs.size
 funs:s.heap.FunFrames base outer
 frf:∀ b∈frs outer,H b=none
 hok:HOk P w H s.heap
 bare:AllBare s.gens
def CE (outer:List Env) (P:Program) (w:World) (H:Hp) (s:Shared) (Q:VK) (u:Value) (s':Shared):Prop :=
 ∃ v H',s'.os=s.os∧AllBare s'.gens∧Un (frs outer) [] H H' s.heap s'.heap∧HOk P w H' s'.heap∧RelV v u∧Q v H'
def CR (CX:CXT) (outer:List Env) (P:Program) (w:World) (H:Hp) (s:Shared) (Q:VK) (E:XK) (r:Result) (s':Shared):Prop :=
 match r with
 | .ok (.ret u)=>CE outer P w H s Q u s'
 | .ok _=>False
 | .error e=>CX outer H s E e s'
structure FnOk (P:Program) (w:World) (K:ag) (mg:Str→Option Value) (base:Heap) (CX:CXT) (k:Nat) (f:Addr) (fd:FuncData) (ps:List Str) (sp:Sp):Prop where
 len:∀ vs H Q E,sp vs H Q E→vs.length=ps.length
 run:∀ (A:Around) (outer:List Env) (s:Shared) (H:Hp) (args:Args) (us:List Value) (vs:List V) (Q:VK) (E:XK),Room k A→Env0 P w K mg base A outer s H→BindsTo s fd args (ps.zip us)→zF vs us→sp vs H Q E →
  codeAny (model P w) A (.call (.ref f) args) (CR CX outer P w H s Q E) s
section
variable {X:Cx} {kP:List (Addr×Obj)} {σ:St} {H:Hp} {s s':Shared}
theorem Inv.env0 (I:Inv X kP σ H s):Env0 X.prog X.w X.K X.mg X.base X.A X.stack s H :=
 ⟨I.ok.frames,I.ok.mod,I.bs,aU I.ok.bsz I.sz,I.stack,I.stkFree,I.hok,I.bare⟩
theorem Inv.after {Q:VK} {u:Value} (I:Inv X kP σ H s) (h:CE X.stack X.prog X.w H s Q u s'):EP X kP σ Q u s':=by
 obtain⟨v,H',os,bare,un,hok,r,q⟩:=h;obtain⟨hh,g,d,t,os'⟩:=s';obtain rfl:os'=s.os:=os;exact⟨v,H',I.call (h':=hh) (g':=g) (d':=d) (t':=t) (ch:=[]) un hok bare (fun b z=>absurd z #[M]),r,q⟩
end
def znL (sp:Sp) (vI:List V) (E:XK) (t:TA):TE:=fun σ H Q=>t σ H fun vs H1=>sp (vs++vI) H1 Q E
def Binds (K:ag) (fd:FuncData) (ps:List Str) (ds:List Value):Prop :=
 ∀ (s:Shared) (us:List Value),K.In s.heap→(us++ds).length=ps.length→BindsTo s fd ⟨us,[]⟩ (ps.zip (us++ds))
theorem Binds.all {K:ag} {fd:FuncData} {ps:List Str} (h:∀ us:List Value,us.length=ps.length→bindArgs fd ⟨us,[]⟩=pure (ps.zip us)):Binds K fd ps []:=fun s us _ hl=>by
 rw [bI] at hl ⊢;exact .of_eq (h us hl)
def zgR (CX:CXT) (X:Cx) (E:XK):Prop:=∀ (kP:List (Addr×Obj)) (σ:St) (H:Hp) (s:Shared) (e:Value) (s':Shared),Inv X kP σ H s→CX X.stack H s E e s'→X.xe e s'
section
variable {X:Cx} {CX:CXT} {k:Nat} {f C:Addr} {fd:FuncData} {ps:List Str} {sp:Sp} {vI:List V} {ds:List Value} {E:XK} {x m:Str} {p pos apos:Pos} {e o:Expr} {es:List Expr} {ta:TE} {t:TA}
theorem zmI {kP:List (Addr×Obj)} {σ:St} {H:Hp} {s:Shared} {Q:VK} {us:List Value} {vs:List V} (F:FnOk X.prog X.w X.K X.mg X.base CX k f fd ps sp) (hr:Room k X.A) (hb:Binds X.K fd ps ds) (hd:zF vI ds) (hx:zgR CX X E)
  (I:Inv X kP σ H s) (r:zF vs us) (h:sp (vs++vI) H Q E):wpAny (model X.prog X.w) X.A (call (.ref f) us) (EP X kP σ Q) X.xe s:=by
 have r2:zF (vs++vI) (us++ds):=r.append hd;have hl:(us++ds).length=ps.length:=by rw [← r2.length]; exact F.len _ _ _ _ h
 refine wpAny_call (jp (F.run X.A X.stack s H ⟨us,[]⟩ (us++ds) (vs++vI) Q E hr I.env0 (hb s us I.kIn hl) r2 h) fun r s' hq=>?_);cases r with
 | error e=>exact hx kP σ H s e s' I hq
 | ok fl =>
  cases fl with
  | ret u=>exact I.after hq
  | next=>exact dE hq
  | brk=>exact dE hq
  | cont=>exact dE hq
theorem zw (F:FnOk X.prog X.w X.K X.mg X.base CX k f fd ps sp) (hr:Room k X.A) (hg:Gl X x) (hm:X.mg x=some (.ref f)) (hk:eV X.K (.ref f)=true) (hb:Binds X.K fd ps ds) (hd:zF vI ds) (hx:zgR CX X E)
  (ha:PA X (e :: es) t) (x9:(x == ("__debug__" : Str))=false:=by decide) (he:starEach (e :: es) X.env=(false,eval e X.env) :: starEach es X.env:=by rfl) (mq:(backTo pos (starEach es X.env)).any (·.1)=false:=by rfl) :
  PE X (.Call (.Name x p) (e :: es) [] pos) (znL sp vI E t):=by
 intro kP s σ H Q I h;refine f8 (zk1 I hg hm ?_ x9);refine PySem.W.callWith_K (h₀:=X.base) I.ok.mod.kin hk (thn (ha pos kP s σ H _ I h) fun us s1 ⟨vs,H1,I1,r,q⟩=>⟨I1.kIn,?_⟩) he mq;exact zmI F hr hb hd hx I1 r q
end
structure FnScope (N P:List Str) (sc:Scope):Prop where
 kind:sc.kind = .function
 co:sc.isCoroutine=false
 gen:sc.isGenerator=false
 nd:N.Nodup
 pre:N.take P.length=P
 par:∀ x∈P,sc.names.lookup x=some .local∨sc.names.lookup x=some .cell
 nofree:∀ y∈sc.names,y.2≠.free
theorem zeL {kindOf:Str→Option NameKind} {x:Str}:∀ {binds:List (Str×Value)} {m:Str→Option Value},(∀ v,(x,v)∉binds)→bindL kindOf binds m x=m x
 | [],_,_=>rfl
 | (n,v) :: r,m,h=>by
  unfold bindL;rw [zeL fun w hw=>h w (aj _ hw)];split
  ·have:x≠n:=by rintro rfl; exact h v az
   simp [this]
  ·rfl
theorem zeM {kindOf:Str→Option NameKind} {x:Str}:∀ {binds:List (Str×Value)} {m:Str→Option Value},(∀ v,(x,v)∉binds)→bindC kindOf binds m x=m x
 | [],_,_=>rfl
 | (n,v) :: r,m,h=>by
  unfold bindC;rw [zeM fun w hw=>h w (aj _ hw)];split
  ·rfl
  ·have:x≠n:=by rintro rfl; exact h v az
   simp [this]
theorem zeN {kindOf:Str→Option NameKind} {x:Str} {v:Value}:∀ {P:List Str} {vs:List Value} {i:Nat} {m:Str→Option Value},P.Nodup→P[i]? = some x→vs[i]? = some v→kindOf x=some .local →
  bindL kindOf (P.zip vs) m x=some v
 | [],_,_,_,_,h,_,_=>by simp at h
 | _ :: _,[],_,_,_,_,h,_=>by simp at h
 | p :: P,w :: vs,0,m,nd,h1,h2,hk=>by
  simp at h1 h2; subst h1; subst h2;show bindL kindOf ((p,w) :: P.zip vs) m p=_;unfold bindL;rw [zeL fun v hv=>(cS.mp nd).1 (il hv).1,if_pos hk];simp
 | p :: P,w :: vs,i+1,m,nd,h1,h2,hk=>by
  show bindL kindOf ((p,w) :: P.zip vs) m x=_;unfold bindL;exact zeN (i:=i) (cS.mp nd).2 (by simpa using h1) (by simpa using h2) hk
theorem zeO {kindOf:Str→Option NameKind} {x:Str} {v:Value}:∀ {P:List Str} {vs:List Value} {i:Nat} {m:Str→Option Value},P.Nodup→P[i]? = some x→vs[i]? = some v→kindOf x≠some .local →
  bindC kindOf (P.zip vs) m x=some v
 | [],_,_,_,_,h,_,_=>by simp at h
 | _ :: _,[],_,_,_,_,h,_=>by simp at h
 | p :: P,w :: vs,0,m,nd,h1,h2,hk=>by
  simp at h1 h2; subst h1; subst h2;show bindC kindOf ((p,w) :: P.zip vs) m p=_;unfold bindC;rw [zeM fun v hv=>(cS.mp nd).1 (il hv).1,if_neg hk];simp
 | p :: P,w :: vs,i+1,m,nd,h1,h2,hk=>by
  show bindC kindOf ((p,w) :: P.zip vs) m x=_;unfold bindC;exact zeO (i:=i) (cS.mp nd).2 (by simpa using h1) (by simpa using h2) hk
def start (N:List Str) (vs:List V):St:=vs.map some++aw (N.length - vs.length) none
def ziB (CX:CXT) (P:Program) (w:World) (K:ag) (mg:Str→Option Value) (base:Heap) (N:List Str) (qual:Str) (scope:Scope) (f:Addr) (cd:Value) (A:Around) (outer:List Env) (s:Shared) (H:Hp) (E:XK):Cx where
 prog:=P
 w:=w
 K:=K
 mg:=mg
 base:=base
 A:=A.deeper (envOfC qual scope s.heap.objs.size f cd)
 N:=N
 s₀:=s
 H₀:=H
 env:=envOfC qual scope s.heap.objs.size f cd
 outer:=outer
 stack:=envOfC qual scope s.heap.objs.size f cd :: outer
 ex:=[]
 calm:=true
 fn:=fun _=>true
 pn:=[]
 xe:=fun e s'=>wpAny (model P w) (A.deeper (envOfC qual scope s.heap.objs.size f cd)) (leaving (envOfC qual scope s.heap.objs.size f cd) e) (fun _ yb=>CX outer H s E e yb) (fun e' yb=>CX outer H s E e' yb) s'
theorem zfT {sc:Scope} {n:Nat} {x:Str} (h:sc.names.lookup x=some .cell):∃ c,(cellsFrom n sc.names []).lookup x=some c:=by
 have q:=iE sc.names n [] (.inl h);exact Option.isSome_iff_exists.mp q
theorem ziC {CX:CXT} {P:Program} {w:World} {K:ag} {mg:Str→Option Value} {base:Heap} {N ps:List Str} {qual:Str} {scope:Scope} {f:Addr} {cd:Value} {A:Around} {outer:List Env} {s s1:Shared} {H:Hp} {E:XK} {us:List Value} {vs:List V}
  (S:FnScope N ps scope) (hd:A.handled=none) (e0:Env0 P w K mg base A outer s H) (hl:vs.length=ps.length) (r:zF vs us)
  (x:InCallC s s.heap.objs.size (bindL (envOfC qual scope s.heap.objs.size f cd).kindOf (ps.zip us) fun _=>none) (cellsFrom (s.heap.objs.size+1) scope.names []) (bindC (envOfC qual scope s.heap.objs.size f cd).kindOf (ps.zip us) fun _=>none) s1) :
  Inv (ziB CX P w K mg base N qual scope f cd A outer s H E) [] (start N vs) H s1:=by
 have mq:ps.length≤N.length:=by have:=congrArg dY S.pre; rw [aI] at this; lia
 obtain⟨h1,tk,rfl,hk⟩:=x.done;have wm:∀ b:Addr,b∉(ziB CX P w K mg base N qual scope f cd A outer s H E).ex:=fun b z=>absurd (show b∈([]:List Addr) from z) #[M]
 refine⟨⟨e0.mod,S.kind,rfl,rfl,af _,fun y z c h1 h2=>?_,fun y hy=>?_,fun y c _ h=>?_,fun _=>hd,Around.frames_deeper e0.frames,.inr ⟨rfl,rfl⟩,fun b z=>absurd z (wm b),e0.bs,e0.bsz,fun b _ _=>wm b,fun b z=>absurd z (wm b),e0.funs,e0.frf⟩,
  rfl,e0.bare,Un.kept hk,⟨_,x.toInCall.ns,fun i y v h1 h2 h3=>?_⟩,fun y c h=>⟨_,x.cell y c h⟩,e0.hok.fresh (af _),fun y c h=>?_,fun p hp=>absurd (show p∈([]:List (Addr×Obj)) from hp) #[M],e0.hok.kept hk,?_⟩
 ·exact name_of_addr x.apart (dN h1) (dN h2)
 ·have hy:scope.names.lookup y=some .cell∨scope.names.lookup y=some .free:=hy;rcases hy with hy | hy
  ·exact zfT hy
  ·exact absurd rfl (S.nofree _ (dN hy))
 ·exact gQ (x.above y c (dN h))
 ·have hi:i < vs.length:=by
   unfold start at h2;by_cases hi:i < vs.length
   ·exact hi
   ·rw [bD (by simpa using hi)] at h2;rw [df] at h2;split at h2 <;> cases h2
  have ha:vs[i]? = some v:=by
   unfold start at h2;rw [bG (by simpa using hi),ak] at h2;cases e:vs[i]? with
   | none=>rw [e] at h2; cases h2
   | some a=>rw [e] at h2; cases h2; rfl
  obtain⟨u,hu,rv⟩:=r.get ha;have hp:ps[i]? = some y:=by
   rw [← S.pre,cv #[O]]; exact h1
  have ndP:ps.Nodup:=by rw [← S.pre]; exact S.nd.sublist (cj _ _)
  refine⟨u,rv,?_⟩;rcases S.par y (aE hp) with k | k
  ·exact .inl ⟨k,zeN ndP hp hu k⟩
  ·obtain⟨c,e⟩:=zfT (n:=s.heap.objs.size+1) k;refine .inr ⟨.inl k,c,e,?_⟩;have q:=x.cell y c e;rw [zeO ndP hp hu (by show scope.names.lookup y≠_; rw [k]; decide)] at q;exact q
 ·exact e0.hok.fresh (gQ (x.above y c (dN h)))
 ·unfold start;show _=N.length;rw [ao,ab,aT];lia
theorem znM {CX:CXT} {P:Program} {w:World} {K:ag} {mg:Str→Option Value} {base:Heap} {k:Nat} {f:Addr} {name qual:Str} {params:Arguments} {body:List Stmt} {scope:Scope} {dV kV doc pm lP ct oc:Value} {an od:Option Addr}
  {vJ:Array (Option Value)} {N ps:List Str} {sp:Sp} (lk:K.lookup f=some ⟨oc,od,.func (cT name qual params body scope dV kV doc pm an lP ct),vJ⟩) (qF:eW K lP qual=true) (S:FnScope N ps scope)
  (len:∀ vs H Q E,sp vs H Q E→vs.length=ps.length)
  (tf:∀ (A:Around) (outer:List Env) (s:Shared) (H:Hp) (vs:List V) (Q:VK) (E:XK),Room k (A.deeper (envOfC qual scope s.heap.objs.size f lP))→sp vs H Q E →
   ∃ t,PSs (ziB CX P w K mg base N qual scope f lP A outer s H E) body t∧t { nx:=fun _ H'=>Q .non H',rt:=Q } (start N vs) H) :
  FnOk P w K mg base CX (k+1) f (cT name qual params body scope dV kV doc pm an lP ct) ps sp:=by
 refine⟨len,fun A outer s H args us vs Q E hr e0 hb r uC=>?_⟩;have hl:=len _ _ _ _ uC;have KX:K.In s.heap:=e0.mod.kin.keeps fun b o e=>(e0.bs b o e).1
 have lim:s.heap.NoLimit:=e0.mod.nolimit.keeps fun b o e=>(e0.bs b o e).1
 have oz:∀ y∈ps.zip us,scope.names.lookup y.1=some .local∨(scope.names.lookup y.1=some .cell∧((cellsFrom (s.heap.objs.size+1) scope.names []).lookup y.1).isSome=true):=fun ⟨n,v⟩ hy=>by
  rcases S.par n (il hy).1 with q | q
  ·exact .inl q
  ·exact .inr ⟨q,iE _ _ _ (.inl q)⟩
 refine codeAny_call_function hr.depth (KX _ _ lk) rfl S.co S.gen rfl (PySem.W.codeRec_of KX qF) (hb _ _ _ _ ?_);refine wpAny_newFunctionEnv_cells S.kind oz fun env he s1 x=>?_
 subst he;refine⟨lim.keeps x.toInCall.keep,codeAny_func ?_⟩;obtain⟨t,ht,hq⟩:=tf A outer s H vs Q E (hr.deeper _) uC;have I:Inv (ziB CX P w K mg base N qual scope f lP A outer s H E) [] (start N vs) H s1:=ziC S hr.hd e0 hl r x;refine cE (ht [] s1 (start N vs) H _ I hq) (fun fl s' hs=>?_) fun e s' hs=>hs
 have fin:∀ {σ':St} {H':Hp} {v:V} {u:Value},Inv (ziB CX P w K mg base N qual scope f lP A outer s H E) [] σ' H' s'→RelV v u→Q v H'→CE outer P w H s Q u s' :=
  fun {σ' H' v u} J rv q=>⟨v,H',J.os,J.bare,J.base,J.hok,rv,q⟩
 cases fl with
 | ret u =>
  obtain⟨v,σ',H',J,rv,q⟩:=hs;exact fin J rv q
 | next =>
  obtain⟨σ',H',J,q⟩:=hs;exact fin (v:=V.non) (u:=dq) J rfl q
 | brk =>
  obtain⟨_,_,_,q⟩:=hs;exact dE q
 | cont =>
  obtain⟨_,_,_,q⟩:=hs;exact dE q
section
variable {X:Cx} {x:Str} {p pos:Pos} {e:Expr} {es:List Expr} {t:TA} {id T:String} {r:List V→Hp→VK→Prop}
def tCB (r:List V→Hp→VK→Prop) (t:TA):TE:=fun σ H Q=>t σ H fun vs H1=>r vs H1 Q
theorem zQ (hc:zca X (.builtin id) r) (hg:Gl X x) (hm:X.mg x=none) (hv:bootBuiltins x=some (.builtin id)) (ha:PA X (e :: es) t) (hn:x≠"__name__":=by decide) (x9:(x == ("__debug__" : Str))=false:=by decide)
  (he:starEach (e :: es) X.env=(false,eval e X.env) :: starEach es X.env:=by rfl) (mq:(backTo pos (starEach es X.env)).any (·.1)=false:=by rfl):PE X (.Call (.Name x p) (e :: es) [] pos) (tCB r t):=by
 intro kP s σ H Q I h;refine f8 (zbD I hg hm hv ?_ hn x9);exact PyProof.Rows.callWith_builtin1 (thn (ha pos kP s σ H _ I h) fun us s1 ⟨vs,H1,I1,r1,q1⟩=>hc kP s1 σ H1 vs us Q I1 r1 q1) he mq
theorem zaL (hc:zca X (.type T) r) (hg:Gl X x) (hm:X.mg x=none) (hv:bootBuiltins x=some (.type T)) (ha:PA X (e :: es) t) (hn:x≠"__name__":=by decide) (x9:(x == ("__debug__" : Str))=false:=by decide)
  (he:starEach (e :: es) X.env=(false,eval e X.env) :: starEach es X.env:=by rfl) (mq:(backTo pos (starEach es X.env)).any (·.1)=false:=by rfl):PE X (.Call (.Name x p) (e :: es) [] pos) (tCB r t):=by
 intro kP s σ H Q I h;refine f8 (zbD I hg hm hv ?_ hn x9);exact bv (thn (ha pos kP s σ H _ I h) fun us s1 ⟨vs,H1,I1,r1,q1⟩=>hc kP s1 σ H1 vs us Q I1 r1 q1) he mq
end
end L2
namespace HT
open PySem PyProof.Rows
def lexLt:List Int→List Int→Bool
 | [],[]=>false
 | [],_ :: _=>true
 | _ :: _,[]=>false
 | x :: xs,y :: ys=>if x=y then lexLt xs ys else decide (x < y)
theorem lexLt_cons (x y:Int) (xs ys:List Int):lexLt (x :: xs) (y :: ys)=if x=y then lexLt xs ys else decide (x < y):=rfl
theorem zeu:lexLt [] []=false:=rfl
theorem zdT (y:Int) (ys:List Int):lexLt [] (y :: ys)=true:=rfl
theorem zdU (x:Int) (xs:List Int):lexLt (x :: xs) []=false:=rfl
theorem zjr (A:Around) (s:Shared) (a:Int) (t:Tok) (c:Int) (u:Tok):∃ e,iW A s (.int a t) (.int c u) e∧(e=true↔a=c) :=
 ⟨(a == c),jq a t c u,#[M]⟩
theorem zjs (A:Around) (s:Shared) (a:Int) (t:Tok) (c:Int) (u:Tok) (prog:Program) (w:World) (E:Value→Shared→Prop) (Q:Value→Shared→Prop) (h:Q (.bool (decide (a < c))) s) :
  wpAny (model prog w) A (richCompare .Lt (.int a t) (.int c u)) Q E s :=
 (PyProof.Rows.lt_int h:wpAny (model prog w) A (compareOp .Lt (.int a t) (.int c u)) Q E s)
section
open PySem.SeqAt
open PySem.AutoSeq1 (wpAny_loadPart')
open PySem.MeetsSeq PySem.MeetsSeq2 PySem.MeetsSeq3
theorem zew (l b:Addr) (items mi:Array Value) (n n2:Nat) (dd vK:Option Addr) (sl vL:Array (Option Value)) (ns ms:List Int) (hi:IntsAre items.toList ns) (hj:IntsAre mi.toList ms) :
  Meets (Builtin.«tuple.__lt__» ⟨[.ref l,.ref b],[]⟩)
   (fun _ R s=>s.heap.get? l=some { cls:=.type "tuple",dict:=dd,data:=.seq items n,slots:=sl }∧s.heap.get? b=some { cls:=.type "tuple",dict:=vK,data:=.seq mi n2,slots:=vL } ∧
    R (.ok (.ret (.bool (lexLt ns ms)))) s) :=
 .of_wp fun prog w A R s h=>by
  obtain⟨hp,g,d,tk,os⟩:=s; obtain⟨hl,hb,h⟩:=h;have f2:=dL;have z1:items.size=ns.length:=by rw [← hi.length]; simp
  have z2:mi.size=ms.length:=by rw [← hj.length]; simp
  wp_walk using bX hl,bX hb,wpAny_forIn_list _ (fun rest b s'=>b.1=none∧s'=⟨hp,g,d,tk,os⟩∧∃ (vs ws:List Value) (vM qJ:List Int),rest=vs.zip ws ∧
   IntsAre vs vM∧IntsAre ws qJ∧vM.length+mi.size=qJ.length+items.size∧R (.ok (.ret (.bool (lexLt vM qJ)))) ⟨hp,g,d,tk,os⟩) _
  case turn =>
   rintro⟨y,x⟩ rest b s' ⟨uO,rfl,vs,ws,vM,qJ,hz,yc,A8,kY,hR⟩;cases yc with
   | nil=>rw [gv] at hz; cases hz
   | cons a t BX =>
    cases A8 with
    | nil=>rw [List.zip_nil_right] at hz; cases hz
    | cons c u BY =>
     rw [eL] at hz;injection hz with hyx yd
     injection hyx with hy hx
     subst hy hx;rw [lexLt_cons] at hR;simp only [bK] at kY;obtain⟨e,he,ye⟩:=zjr A.in1 ⟨hp,g,d,tk,os⟩ a t c u;refine ae (he prog w _ _ ?_);cases e with
     | true =>
      rw [if_pos (ye.mp rfl)] at hR
      wp_walk
      exact⟨rfl,rfl,_,_,_,_,yd,BX,BY,#[O],hR⟩
     | false =>
      rw [if_neg (fun q=>absurd (ye.mpr q) aL)] at hR;have hri:=zjs A.in1 ⟨hp,g,d,tk,os⟩ a t c u prog w
      wp_walk using hri
      exact⟨_,rfl,by simpa using hR⟩
  case fin =>
   rintro⟨b1,b2⟩ s' ⟨uO,rfl,vs,ws,vM,qJ,hz,yc,A8,kY,hR⟩;simp only at uO;subst uO;have hv:lexLt vM qJ=decide (items.size < mi.size):=by
    cases yc with
    | nil =>
     cases A8 with
     | nil =>
      simp only [dR] at kY;rw [zeu];exact (decide_eq_false #[O]).symm
     | cons c u hw =>
      simp only [dR,bK] at kY;rw [zdT];exact (decide_eq_true #[O]).symm
    | cons a t hv =>
     cases A8 with
     | nil =>
      simp only [dR,bK] at kY;rw [zdU];exact (decide_eq_false #[O]).symm
     | cons c u hw =>
      rw [eL] at hz;cases hz
   rw [hv] at hR
   wp_walk
   exact⟨_,rfl,by simpa [Builtin.Tuple.tupleCompareSizes] using hR⟩
  case h =>
   exact⟨rfl,rfl,items.toList,mi.toList,ns,ms,rfl,hi,hj,#[O],h⟩
end
section
variable {prog:Program} {w:World} {A:Around} {E:Value→Shared→Prop} {s:Shared}
theorem lt_tupInts {l b:Addr} {items mi:Array Value} {ns ms:List Int} {Q:Value→Shared→Prop} (hl:IsTup s.heap l items) (hb:IsTup s.heap b mi) (hi:IntsAre items.toList ns) (hj:IntsAre mi.toList ms)
  (hu:A.units < cLine) (h:Q (.bool (lexLt ns ms)) s):wpAny (model prog w) A (compareOp .Lt (.ref l) (.ref b)) Q E s:=by
 obtain⟨⟨cls,dd,data,sl⟩,ho,hc,n,hd⟩:=id hl;obtain⟨⟨yf,vK,data2,vL⟩,pN,uD,n2,hd2⟩:=id hb;simp only at hc hd uD hd2;subst hc hd uD hd2;exact richCompare_meets_room (op:=.Lt) ⟨_,ho,rfl⟩ ⟨_,pN,rfl⟩ PySem.F.slot_tuple_lt PySem.F.entry_tuple_lt (PySem.F.args_tuple_lt_2 _ _) (zew l b items mi n n2 dd vK sl vL ns ms hi hj)
  ⟨ho,pN,show j9 (lexLt ns ms)≠iX∧Q (.bool (lexLt ns ms)) s from ⟨(fun x=>nomatch x),h⟩⟩ hu
theorem cat_tup {t b:Addr} {vs ws:List Value} {Q:Value→Shared→Prop} (ht:IsTup s.heap t vs.toArray) (hb:IsTup s.heap b ws.toArray) (hv:vs≠[])
  (h1:ws = []→Q (.ref t) s) (h2:ws≠[]→Q (.ref s.heap.objs.size) { s with heap:=s.heap.push { cls:=.type "tuple",data:=.seq (vs++ws).toArray } })
  (hsz:vs.length+ws.length≤sizeLine):wpAny (model prog w) A (binaryOp .Add (.ref t) (.ref b)) Q E s:=by
 obtain⟨⟨cls,dd,data,sl⟩,ho,hc,n,hd⟩:=id ht;obtain⟨⟨yf,vK,data2,vL⟩,pN,uD,n2,hd2⟩:=id hb;simp only at hc hd uD hd2;subst hc hd uD hd2;have e:vs.toArray++ws.toArray=(vs++ws).toArray:=by simp
 by_cases hw:ws = []
 ·exact jr ⟨_,ho,rfl⟩ ⟨_,pN,rfl⟩ gR i7 fk eZ (eM _ _)
   (tuple_addW1 t b vs.toArray ws.toArray n n2 dd vK sl vL (by simpa using hv) (by simp [hw])) ⟨ho,pN,h1 hw⟩
 ·refine jr ⟨_,ho,rfl⟩ ⟨_,pN,rfl⟩ gR i7 fk eZ (eM _ _)
   (tuple_addW2 t b vs.toArray ws.toArray n n2 dd vK sl vL (by simpa using hv) (by simpa using hw) (by rw [am,am]; exact hsz)) ⟨ho,pN,?_⟩
  rw [e];exact h2 hw
def sIx (n d:Nat):Option Int→Nat
 | none=>d
 | some v=>if v < 0 then (v+(n:Int)).toNat else min v.toNat n
theorem sIx_none (n d:Nat):sIx n d none=d:=rfl
theorem sIx_nat (n d k:Nat):sIx n d (some (k:Int))=min k n:=by
 show (if (k:Int) < 0 then ((k:Int)+(n:Int)).toNat else min (k:Int).toNat n)=min k n;rw [if_neg #[O],bz]
theorem zmJ (n d:Nat) (hd:d≤n) (o:Option Int):sIx n d o≤n:=by
 cases o with
 | none=>exact hd
 | some v =>
  show (if v < 0 then (v+(n:Int)).toNat else min v.toNat n)≤n;by_cases hv:v < 0
  ·rw [if_pos hv]; lia
  ·rw [if_neg hv]; exact Nat.min_le_right _ _
theorem zhC (v:Int) (n d:Nat):(if v < 0 then max (v+(n:Int)) 0 else min v (n:Int))=((sIx n d (some v):Nat):Int):=by
 show (if v < 0 then max (v+(n:Int)) 0 else min v (n:Int))=(((if v < 0 then (v+(n:Int)).toNat else min v.toNat n):Nat):Int);by_cases hv:v < 0
 ·simp only [if_pos hv]; lia
 ·simp only [if_neg hv]; lia
theorem zgS (lo hi:Option Int) (n:Nat):cm lo hi 1 (n:Int)=(((sIx n 0 lo:Nat):Int),((sIx n n hi:Nat):Int)):=by
 have h1:¬ ((1:Int) < 0):=by lia
 unfold cm;simp only [h1,if_false];refine kL ?_ ?_
 ·cases lo with
  | none=>rfl
  | some v=>exact zhC v n 0
 ·cases hi with
  | none=>rfl
  | some v=>exact zhC v n n
theorem zgT (i j:Nat):bN (i:Int) (j:Int) 1=j - i:=by
 unfold bN;have h1:(1:Int) > 0:=by lia
 simp only [h1,if_true,Int.ediv_one];split <;> lia
theorem zdV {v:Value} {o:Option Int} {Q:Option Int→Shared→Prop} (p:IsPart v o) (h:Q o s):wpAny (model prog w) A (Builtin.Slice.slicePartIndex v) Q E s:=by
 cases p with
 | none=>exact fR h
 | int i t=>exact slicePart_int h
theorem zbI {sl:Addr} {vl vu:Value} {lo hi:Option Int} {n:Nat} {Q:Int×Int×Nat→Shared→Prop} (hs:s.heap.IsSliceOf sl vl vu .none) (pl:IsPart vl lo) (pu:IsPart vu hi)
  (h:Q (((sIx n 0 lo:Nat):Int),1,sIx n n hi - sIx n 0 lo) s):wpAny (model prog w) A (eB (.ref sl) (pure (n:Int))) Q E s:=by
 obtain⟨os,qG,xA,uP⟩:=id hs;unfold eB gI;refine ae (ae (bb qG uP (x:=vl) rfl (ae (bb qG uP (x:=vu) rfl (ae (bb qG uP (x:=.none) rfl (ai ?_)))))));refine ae (fR ?_);show wpAny _ _ (if ((1:Int) == 0)=true then _ else _) _ _ s;rw [if_neg #[D]];refine ae (zdV pl (ae (zdV pu (ae (ai ?_)))));show wpAny _ _ (match cm lo hi 1 (n:Int) with | (lo,hi)=>pure (lo,(1:Int),bN lo hi 1)) _ _ s;rw [zgS lo hi n];show wpAny _ _ (pure (((sIx n 0 lo:Nat):Int),(1:Int),bN ((sIx n 0 lo:Nat):Int) ((sIx n n hi:Nat):Int) 1)) _ _ s;rw [zgT];exact ai h
theorem zjt (xs:Array Value) (i k:Nat):((aR k).filterMap fun (m:Nat)=>xs[((i:Int)+(m:Int)*1).toNat]?).toArray=((xs.toList.drop i).take k).toArray:=by
 have e:(fun (m:Nat)=>xs[((i:Int)+(m:Int)*1).toNat]?)=fun m=>xs[i+m]?:=by
  funext m;have:((i:Int)+(m:Int)*1).toNat=i+m:=by lia
  rw [this]
 rw [e];have:=pick_run xs i k;rw [eN] at this;have e2:((fun x=>xs[x]?) ∘ fun x=>i+x)=fun m=>xs[i+m]?:=rfl
 rw [e2] at this;rw [this]
theorem getItem_tuple_cut {t sl:Addr} {items:Array Value} {vl vu:Value} {lo hi:Option Int} {Q:Value→Shared→Prop} (ht:IsTup s.heap t items) (hs:s.heap.IsSliceOf sl vl vu .none) (pl:IsPart vl lo) (pu:IsPart vu hi)
  (hw:¬ (sIx items.size 0 lo=0∧sIx items.size items.size hi=items.size))
  (h:Q (.ref s.heap.objs.size) { s with heap:=s.heap.push { cls:=.type "tuple",data:=.seq ((items.toList.drop (sIx items.size 0 lo)).take (sIx items.size items.size hi - sIx items.size 0 lo)).toArray } })
  (hsz:items.size≤sizeLine):wpAny (model prog w) A (getItem (.ref t) (.ref sl)) Q E s:=by
 have oA:sizeOk (.seq ((items.toList.drop (sIx items.size 0 lo)).take (sIx items.size items.size hi - sIx items.size 0 lo)).toArray):=by
  show ((items.toList.drop (sIx items.size 0 lo)).take (sIx items.size items.size hi - sIx items.size 0 lo)).toArray.size≤sizeLine;rw [am,aI,bQ,bp];lia
 have hj:sIx items.size items.size hi≤items.size:=zmJ _ _ (af _) hi;obtain⟨os,qG,xA,uP⟩:=id hs;have yg:s.TypeIs (.ref sl) "slice":=⟨os,qG,xA⟩;unfold getItem
 try with_reducible refine bP ?_
 first | refine ae (ai ?_) | skip
 refine ae (gw ht.typeIs #[D] ?_);refine ae (ba (name:=bL "__getitem__") ht.typeIs bU
  (be bU ht.typeIs fO ?_ (f9 _ _)))
 show wpAny _ _ (eC (.ref t) >>= _) _ _ s;refine ae (i8 ht ?_);refine ae (gS yg ?_);rw [if_pos #[D]];refine ae (zbI hs pl pu ?_);have BZ:¬ ((((sIx items.size 0 lo:Nat):Int) == 0 && (1:Int) == 1 && (sIx items.size items.size hi - sIx items.size 0 lo) == items.size)=true):=by
  intro q;rw [cM,cM] at q;have q1:((sIx items.size 0 lo:Nat):Int)=0:=eq_of_beq q.1.1;have q2:sIx items.size items.size hi - sIx items.size 0 lo=items.size:=eq_of_beq q.2;exact hw ⟨#[O],#[O]⟩
 show wpAny _ _ (if (((sIx items.size 0 lo:Nat):Int) == 0 && (1:Int) == 1 && (sIx items.size items.size hi - sIx items.size 0 lo) == items.size)=true then _ else _) _ _ s;rw [if_neg BZ,zjt]
 first
  | exact ae (m:=cw _) (bu (ai ⟨_,rfl,ai h⟩) oA)
  | exact ae (m:=cw _) (bu (ae (ai (ai ⟨_,rfl,ai h⟩))) oA)
  | exact ae (ae (m:=cw _) (bu (ai (ai ⟨_,rfl,ai h⟩)) oA))
  | exact ae (ae (m:=cw _) (bu (ai ⟨_,rfl,ai h⟩) oA))
end
end HT
namespace L2
open PySem PySem.Spec PyProof.Rows
abbrev TO:=St→Hp→(Option Int→Hp→Prop)→Prop
def PO (X:Cx) (e:Option Expr) (t:TO):Prop :=
 ∀ (kP:List (Addr×Obj)) (s:Shared) (σ:St) (H:Hp) (Q:Option Int→Hp→Prop),Inv X kP σ H s→t σ H Q →
  wpAny (model X.prog X.w) X.A (evalPart e X.env) (fun u s'=>∃ o H',Inv X kP σ H' s'∧IsPart u o∧Q o H') X.xe s
def zk7:TO:=fun _ H Q=>Q none H
def znN (t:TE):TO:=fun σ H Q=>t σ H fun x H1=>∃ i,x = .int i∧Q (some i) H1
theorem intsAre_of {ns:List Int}:∀ {us:List Value},zF (ns.map V.int) us→IntsAre us ns:=by
 induction ns with
 | nil=>intro us r; rw [eP] at r; cases r; exact .nil
 | cons n ns ih =>
  intro us r;rw [aS] at r;cases r with
  | cons r1 r2 =>
   obtain⟨t,e⟩:=r1;subst e;exact .cons n t (ih r2)
section
variable {X:Cx} {e:Expr} {te:TE} {lo hi:Option Expr} {tl th:TO} {pos p2:Pos}
theorem zbl:PO X none zk7:=by
 intro kP s σ H Q I h;rw [i9];exact ai ⟨none,H,I,.none,h⟩
theorem za3 (h:PE X e te):PO X (some e) (znN te):=by
 intro kP s σ H Q I hw;rw [evalPart_some];refine thn (h kP s σ H _ I hw) fun u s1 ⟨x,H1,I1,r1,q1⟩=>?_
 obtain⟨i,rfl,q⟩:=q1;obtain⟨t,rfl⟩:=r1;exact⟨some i,H1,I1,.int i t,q⟩
def SlR (X:Cx) (r:V→Option Int→Option Int→Hp→VK→Prop):Prop :=
 ∀ (kP:List (Addr×Obj)) (s:Shared) (σ:St) (H:Hp) (x:V) (v vl vu:Value) (lo hi:Option Int) (sl:Addr) (Q:VK),Inv X kP σ H s→RelV x v→s.heap.IsSliceOf sl vl vu .none→IsPart vl lo→IsPart vu hi→r x lo hi H Q →
  ∃ T id,typeLookup (.type T) "__getitem__" = pure (some (.builtin id))∧s.TypeIs v T∧wpAny (model X.prog X.w) X.A (getItem v (.ref sl)) (EP X kP σ Q) X.xe s
def tSl (r:V→Option Int→Option Int→Hp→VK→Prop) (te:TE) (tl th:TO):TE:=fun σ H Q=>te σ H fun x H1=>tl σ H1 fun l H2=>th σ H2 fun u H3=>r x l u H3 Q
theorem zaR {r:V→Option Int→Option Int→Hp→VK→Prop} (hr:SlR X r) (he:PE X e te) (hl:PO X lo tl) (hu:PO X hi th):PE X (.Subscript e (.Slice lo hi none p2) pos) (tSl r te tl th):=by
 intro kP s σ H Q I h;refine kc (thn (he kP s σ H _ I h) fun v s1 ⟨x,H1,I1,r1,q1⟩=>?_);refine wpAny_Slice (thn (hl kP s1 σ H1 _ I1 q1) fun vl s2 ⟨l,H2,I2,pl,q2⟩=>thn (hu kP s2 σ H2 _ I2 q2) fun vu s3 ⟨u,H3,I3,pu,q3⟩=>?_);rw [i9];refine ai ?_;have I4:Inv X kP σ H3 { s3 with heap:=s3.heap.push { cls:=.type "slice",data:=.fields #[vl,vu,.none] } }:=I3.kept (t':=s3.toks) fun b ob q=>ah _ q
 obtain⟨T,id,hT,ht,hg⟩:=hr kP { s3 with heap:=s3.heap.push { cls:=.type "slice",data:=.fields #[vl,vu,.none] } } σ H3 x v vl vu l u s3.heap.objs.size Q I4 r1 (jt ..) pl pu q3;show wpAny (model X.prog X.w) X.A (subscriptTail e (.Slice lo hi none p2) v (.ref s3.heap.objs.size)) (EP X kP σ Q) X.xe { s3 with heap:=s3.heap.push { cls:=.type "slice",data:=.fields #[vl,vu,.none] } };exact tail_any (ops:=[.ref s3.heap.objs.size,v]) ht hT hg (by with_unfolding_all rfl)
def zba (xs:List V) (lo hi:Option Int):List V:=(xs.drop (HT.sIx xs.length 0 lo)).take (HT.sIx xs.length xs.length hi - HT.sIx xs.length 0 lo)
theorem zdf (xs:List V) (lo hi:Option Int):(zba xs lo hi).length≤xs.length:=by
 unfold zba;rw [aI,bQ];lia
def zov (K:ag):V→Option Int→Option Int→Hp→VK→Prop:=fun x lo hi H Q=>∃ a xs,x = .ref a∧k6 K H a xs ∧
 ¬ (HT.sIx xs.length 0 lo=0∧HT.sIx xs.length xs.length hi=xs.length)∧∀ p,H p=none→Q (.ref p) (kW H p (.tup (zba xs lo hi)))
theorem zju:SlR X (zov X.K):=by
 intro kP s σ H x v vl vu lo hi sl Q I rx hs pl pu h;obtain⟨a,xs,rfl,hx,hw,q⟩:=h;cases rx;obtain⟨kR,r,ht,hz⟩:=I.tuple hx;have kY:kR.toArray.size=xs.length:=by rw [am]; exact r.length.symm
 refine⟨"tuple",_,PyProof.Rows.slot_tuple_getitem.lookup,ht.typeIs,?_⟩;refine HT.getItem_tuple_cut ht hs pl pu (by rw [kY]; exact hw) ?_ (by rw [kY]; exact hz);rw [kY];refine⟨.ref s.heap.objs.size,_,I.laid (t':=s.toks) (o:=.tup (zba xs lo hi)) (fun b ob q=>ah _ q) (af _) ?_,rfl,q _ (I.hok.fresh (af _))⟩;exact⟨aU (zdf xs lo hi) hz,_,(r.drop (HT.sIx xs.length 0 lo)).take (HT.sIx xs.length xs.length hi - HT.sIx xs.length 0 lo),f' _ _⟩
def znO (K:ag):R2:=fun x y H Q=>∃ a b xs ys,x = .ref a∧y = .ref b∧k6 K H a xs∧k6 K H b ys∧xs≠[]∧xs.length+ys.length≤sizeLine ∧
 (ys = []→Q (.ref a) H)∧(ys≠[]→∀ p,H p=none→Q (.ref p) (kW H p (.tup (xs++ys))))
theorem zF.nil_iff {xs:List V} {us:List Value} (r:zF xs us):us = []↔xs = []:=by
 cases r with
 | nil=>simp
 | cons _ _=>simp
theorem zk8:OpR X (binaryOp .Add) (znO X.K):=by
 intro kP s σ H x y v u Q I rx ry h;obtain⟨a,b,xs,ys,rfl,rfl,ha,hb,hx,hz,q1,q2⟩:=h;cases rx;cases ry;obtain⟨kR,r1,p1,_⟩:=I.tuple ha;obtain⟨me,r2,p2,_⟩:=I.tuple hb;refine HT.cat_tup p1 p2 (fun z=>hx (r1.nil_iff.mp z)) (fun z=>⟨.ref a,H,I,rfl,q1 (r2.nil_iff.mp z)⟩) (fun z=>?_) (by rw [← r1.length,← r2.length]; exact hz);refine⟨.ref s.heap.objs.size,_,I.laid (t':=s.toks) (o:=.tup (xs++ys)) (fun b ob q=>ah _ q) (af _) ?_,rfl,q2 (fun w=>z (r2.nil_iff.mpr w)) _ (I.hok.fresh (af _))⟩;exact⟨by rw [ao]; exact hz,_,r1.append r2,f' _ _⟩
end
def ixN (n:Nat) (i:Int):Option Nat:=if 0≤i then (if i < n then some i.toNat else none) else if -(n:Int)≤i then some (i+n).toNat else none
def atI {α:Type} (xs:List α) (i:Int):Option α:=(ixN xs.length i).bind fun j=>xs[j]?
theorem zhD {n:Nat} {i:Int} {j:Nat} (h:ixN n i=some j):seqIndex? i n=some j∧j < n∧-(n:Int)≤i∧i < n:=by
 unfold ixN at h;by_cases h0:0≤i
 ·rw [if_pos h0] at h;by_cases h1:i < n
  ·rw [if_pos h1] at h;have e:i.toNat=j:=aM h;exact⟨by rw [fZ h0 h1,e],#[O],#[O],h1⟩
  ·rw [if_neg h1] at h; cases h
 ·rw [if_neg h0] at h;by_cases h1:-(n:Int)≤i
  ·rw [if_pos h1] at h;have e:(i+n).toNat=j:=aM h;exact⟨by rw [ju #[O] h1,e],#[O],h1,#[O]⟩
  ·rw [if_neg h1] at h; cases h
theorem zhE {α:Type} {xs:List α} {i:Int} {v:α} (h:atI xs i=some v):∃ j,seqIndex? i xs.length=some j∧xs[j]? = some v∧j < xs.length∧-(xs.length:Int)≤i∧i < xs.length:=by
 unfold atI at h;cases e:ixN xs.length i with
 | none=>rw [e] at h; cases h
 | some j =>
  rw [e] at h;obtain⟨h1,h2,h3,h4⟩:=zhD e;exact⟨j,h1,h,h2,h3,h4⟩
theorem zbm {α:Type} {xs:List α} {j:Nat} {v:α} (h:xs[j]? = some v):atI xs (j:Int)=some v:=by
 have hj:j < xs.length:=(aA.mp h).1;have e:ixN xs.length (j:Int)=some j:=by
  unfold ixN;rw [if_pos #[O],if_pos #[O]]; simp
 unfold atI; rw [e]; exact h
def zk9 (b:Expr):Prop:=∀ o i,subscripted b false o i=operate [o,i] (getItem o i)
def IxR (X:Cx) (r:R2):Prop :=
 ∀ (value slice:Expr) (kP:List (Addr×Obj)) (s:Shared) (σ:St) (H:Hp) (x y:V) (v u:Value) (Q:VK),Inv X kP σ H s→RelV x v→RelV y u→r x y H Q →
  subscripted slice false v u=operate [v,u] (getItem v u)→wpAny (model X.prog X.w) X.A (subscriptTail value slice v u) (EP X kP σ Q) X.xe s
def MtR (X:Cx) (id:String) (r:V→List V→Hp→VK→Prop):Prop :=
 ∀ (kP:List (Addr×Obj)) (s:Shared) (σ:St) (H:Hp) (x:V) (xs:List V) (v:Value) (us:List Value) (Q:VK),Inv X kP σ H s→RelV x v→zF xs us→r x xs H Q →
  wpAny (model X.prog X.w) X.A (call (.builtin id) (v :: us)) (EP X kP σ Q) X.xe s
section
variable {X:Cx} {a b:Expr} {ta tb:TE} {pos:Pos}
theorem zL {r:R2} (hr:IxR X r) (ha:PE X a ta) (hb:PE X b tb) (hs:zk9 b):PE X (.Subscript a b pos) (tOp r ta tb):=by
 intro kP s σ H Q I h;exact kc (znH ha hb I h fun v u s2 x y H2 I2 rx ry q=>hr a b kP s2 σ H2 x y v u Q I2 rx ry q (hs _ _))
def znP (K:ag):R2:=fun x y H Q=>∃ p xs i v,x = .ref p∧y = .int i∧kS K H p xs∧atI xs i=some v∧Q v H
def znQ (K:ag):R2:=fun x y H Q=>∃ p xs i v,x = .ref p∧y = .int i∧k6 K H p xs∧atI xs i=some v∧Q v H
theorem zG:IxR X (znP X.K):=by
 intro value slice kP s σ H x y v u Q I rx ry h hs;obtain⟨p,xs,i,z,rfl,rfl,hq,he,q⟩:=h;cases rx;obtain⟨t,rfl⟩:=ry;obtain⟨kR,r,pl,hz⟩:=I.list hq;obtain⟨j,h1,h2,h3,h4,h5⟩:=zhE he;obtain⟨w,ew,xB⟩:=r.get h2;have hl:=r.length;have hn:=zdS;have fin:EP X kP σ Q w s:=⟨z,H,I,xB,q⟩;by_cases h0:0≤i
 ·have hj:i.toNat=j:=by
   rw [fZ h0 h5] at h1;exact aM h1
  exact item_listR pl.isList h0 #[O] (by rw [hj]; simpa using ew) fin hs
 ·have hj:(i+(kR.toArray.size:Int)).toNat=j:=by
   rw [ju #[O] h4] at h1;rw [am,← hl];exact aM h1
  exact iF (x:=w) pl.isList.typeIs slot_list_getitem.lookup
   (wpAny_getItem_list_neg (Q:=fun r s'=>r=w∧EP X kP σ Q r s') pl.isList #[O] (by rw [am] <;> lia) #[O] (by rw [hj]; simpa using ew) ⟨rfl,fin⟩) hs
theorem zbb:IxR X (znQ X.K):=by
 intro value slice kP s σ H x y v u Q I rx ry h hs;obtain⟨p,xs,i,z,rfl,rfl,hq,he,q⟩:=h;cases rx;obtain⟨t,rfl⟩:=ry;obtain⟨kR,r,pl,hz⟩:=I.tuple hq;obtain⟨j,h1,h2,h3,h4,h5⟩:=zhE he;obtain⟨w,ew,xB⟩:=r.get h2;have hl:=r.length;have hn:=zdS;have fin:EP X kP σ Q w s:=⟨z,H,I,xB,q⟩;exact iF (x:=w) pl.typeIs slot_tuple_getitem.lookup
  (getItem_tuple (j:=j) (Q:=fun r s'=>r=w∧EP X kP σ Q r s') pl #[O] #[O] (by rw [am,← hl]; exact h1) (by simpa using ew) ⟨rfl,fin⟩) hs
theorem zgU (kR:List Value) (n j:Nat) (u:Value):cU (·.setIfInBounds j u) { cls:=.type "list",data:=.seq kR.toArray n } = { cls:=.type "list",data:=.seq (kR.set j u).toArray n }:=by
 simp [cU]
theorem Inv.lst {kP:List (Addr×Obj)} {σ:St} {H:Hp} {s:Shared} {p:Addr} {xs:List V} (I:Inv X kP σ H s) (h:H p=some (.lst xs)) :
  ∃ (kR:List Value) (n:Nat),zF xs kR∧s.heap.get? p=some { cls:=.type "list",data:=.seq kR.toArray n }∧xs.length≤sizeLine:=by
 obtain⟨z,kR,n,r,e⟩:=I.hok p _ h;exact⟨kR,n,r,e,z⟩
theorem Inv.lstUpd {kP:List (Addr×Obj)} {σ:St} {H:Hp} {s:Shared} {p:Addr} {xs ys:List V} {kR its':List Value} {n n':Nat} {f:Obj→Obj} (I:Inv X kP σ H s) (h:H p=some (.lst xs))
  (ho:s.heap.get? p=some { cls:=.type "list",data:=.seq kR.toArray n }) (hf:f { cls:=.type "list",data:=.seq kR.toArray n } = { cls:=.type "list",data:=.seq its'.toArray n' }) (r:zF ys its') (hz:ys.length≤sizeLine) (t:Nat) :
  Inv X kP σ (kW H p (.lst ys)) { s with heap:=s.heap.update p f,toks:=t }:=by
 have e:(s.heap.update p f).get? p=some { cls:=.type "list",data:=.seq its'.toArray n' }:=by
  rw [dz f ho (by rw [hf] <;> rfl),hf]
 refine I.write (x:=p) (e:=p) (by rw [h]; trivial) (.inl rfl) (fun b u hb q=>(fm _ _ (dG hb)).trans q) ⟨_,e⟩ ?_;exact⟨hz,its',n',r,e⟩
def znR:V→V→V→Hp→(Hp→Prop)→Prop:=fun o i v H Q=>∃ p xs k j,o = .ref p∧i = .int k∧H p=some (.lst xs)∧ixN xs.length k=some j∧Q (kW H p (.lst (xs.set j v)))
theorem set_list:znC X znR:=by
 intro kP s σ H o i v ov iv u Q I ro ri rv h;obtain⟨p,xs,k,j,rfl,rfl,hp,hj,q⟩:=h;cases ro;obtain⟨t,rfl⟩:=ri;obtain⟨kR,n,r,ho,hz⟩:=I.lst hp;obtain⟨h1,h2,h3,h4⟩:=zhD hj;have hl:=r.length;have hn:=zdS;have I':Inv X kP σ (kW H p (.lst (xs.set j v))) { s with heap:=s.heap.update p (cU (·.setIfInBounds j u)) } :=
  I.lstUpd hp ho (zgU kR n j u) (r.set rv j) (by rw [im]; exact hz) s.toks
 by_cases h0:0≤k
 ·have hk:k.toNat=j:=by
   rw [fZ h0 h4] at h1;exact aM h1
  exact PySem.W.ki_setAt ho h0 #[O] (by rw [am,← hl]; exact h4) (by rw [hk]; exact⟨_,I',q⟩)
 ·have hk:(k+(kR.toArray.size:Int)).toNat=j:=by
   rw [ju #[O] h3] at h1;rw [am,← hl];exact aM h1
  exact PySem.W.ki_setBack ho #[O] (by rw [am,← hl]; exact h3) #[O] (by rw [hk]; exact⟨_,I',q⟩)
theorem zff (lo hi:Option Int) (n:Nat):(sliceBounds lo hi none n).1=((HT.sIx n 0 lo:Nat):Int)∧(sliceBounds lo hi none n).2.1=((HT.sIx n n hi:Nat):Int)∧(sliceBounds lo hi none n).2.2=1:=by
 refine⟨?_,?_,rfl⟩
 ·cases lo with
  | none=>simp [sliceBounds,HT.sIx]
  | some i =>
   simp only [sliceBounds,HT.sIx,jW,show (1:Int) > 0 by decide,if_true];by_cases h:i < 0
   ·simp only [h,if_true] <;> lia
   ·simp only [h,if_false] <;> lia
 ·cases hi with
  | none=>simp [sliceBounds,HT.sIx]
  | some i =>
   simp only [sliceBounds,HT.sIx,jW,show (1:Int) > 0 by decide,if_true];by_cases h:i < 0
   ·simp only [h,if_true] <;> lia
   ·simp only [h,if_false] <;> lia
theorem zex (kR:List Value) (lo hi:Option Int):slicePick kR.toArray lo hi none=((kR.drop (HT.sIx kR.length 0 lo)).take (HT.sIx kR.length kR.length hi - HT.sIx kR.length 0 lo)).toArray:=by
 obtain⟨h1,h2,h3⟩:=zff lo hi kR.toArray.size;unfold slicePick;rw [h1,h2,h3];simp only [sliceRange_one,pick_run,am] <;> rfl
def znS (K:ag):V→Option Int→Option Int→Hp→VK→Prop:=fun x lo hi H Q=>∃ a xs,x = .ref a∧kS K H a xs∧∀ p,H p=none→Q (.ref p) (kW H p (.lst (zba xs lo hi)))
theorem zbR:SlR X (znS X.K):=by
 intro kP s σ H x v vl vu lo hi sl Q I rx hs pl pu h;obtain⟨a,xs,rfl,hx,q⟩:=h;cases rx;obtain⟨kR,r,ht,hz⟩:=I.list hx;have kY:=r.length;refine⟨"list",_,slot_list_getitem.lookup,ht.isList.typeIs,?_⟩;refine gT ht.isList hs pl pu .none #[M] ?_ (by rw [am] <;> lia);rw [zex,← kY];refine⟨.ref s.heap.objs.size,_,I.laid (t':=s.toks) (o:=.lst (zba xs lo hi)) (fun b ob q=>ah _ q) (af _) ?_,rfl,q _ (I.hok.fresh (af _))⟩;exact⟨aU (zdf xs lo hi) hz,_,0,(r.drop (HT.sIx xs.length 0 lo)).take (HT.sIx xs.length xs.length hi - HT.sIx xs.length 0 lo),aG _ rfl⟩
def zcv:V→Bool
 | .non=>true
 | .bl _=>true
 | .int _=>true
 | .str _=>true
 | _=>false
def eqV:V→V→Bool
 | .non,.non=>true
 | .bl a,.bl b=>a == b
 | .bl a,.int b=>(if a then 1 else 0) == b
 | .int a,.bl b=>a == (if b then 1 else 0)
 | .int a,.int b=>a == b
 | .str a,.str b=>a == b
 | _,_=>false
theorem zjv {A:Around} {s:Shared} {y x:V} {u v:Value} (ry:RelV y u) (rx:RelV x v) (fy:zcv y=true) (fx:zcv x=true):iW A s u v (eqV y x):=by
 cases y with
 | non =>
  cases ry;cases x with
  | non=>cases rx; exact kd _
  | bl b=>cases rx; exact SeqAt.EqAt.none_bool b
  | int b=>obtain⟨t,rfl⟩:=rx; exact SeqAt.EqAt.none_int b t
  | str b=>obtain⟨t,rfl⟩:=rx; exact SeqAt.EqAt.none_str b t
  | _=>exact absurd (show false=true from fx) aL
 | bl a =>
  cases ry;cases x with
  | non=>cases rx; exact SeqAt.EqAt.bool_none a
  | bl b=>cases rx; exact SeqAt.EqAt.bool_bool a b
  | int b=>obtain⟨t,rfl⟩:=rx; exact SeqAt.EqAt.bool_int a b t
  | str b=>obtain⟨t,rfl⟩:=rx; exact SeqAt.EqAt.bool_str a b t
  | _=>exact absurd (show false=true from fx) aL
 | int a =>
  obtain⟨t',rfl⟩:=ry;cases x with
  | non=>cases rx; exact SeqAt.EqAt.int_none a t'
  | bl b=>cases rx; exact SeqAt.EqAt.int_bool a t' b
  | int b=>obtain⟨t,rfl⟩:=rx; exact jq a t' b t
  | str b=>obtain⟨t,rfl⟩:=rx; exact jl a t' b t
  | _=>exact absurd (show false=true from fx) aL
 | str a =>
  obtain⟨t',rfl⟩:=ry;cases x with
  | non=>cases rx; exact SeqAt.EqAt.str_none a t'
  | bl b=>cases rx; exact SeqAt.EqAt.str_bool a t' b
  | int b=>obtain⟨t,rfl⟩:=rx; exact jm a t' b t
  | str b=>obtain⟨t,rfl⟩:=rx; exact SeqAt.EqAt.str_str a t' b t
  | _=>exact absurd (show false=true from fx) aL
 | _=>exact absurd (show false=true from fy) aL
def eqU (x:V) (u:Value):Bool:=match u with
 | .none=>eqV .non x
 | .bool b=>eqV (.bl b) x
 | .int i _=>eqV (.int i) x
 | .str z _=>eqV (.str z) x
 | _=>false
theorem zjw {x y:V} {u:Value} (r:RelV y u) (f:zcv y=true):eqU x u=eqV y x:=by
 cases y with
 | non=>cases r; rfl
 | bl b=>cases r; rfl
 | int i=>obtain⟨t,rfl⟩:=r; rfl
 | str z=>obtain⟨t,rfl⟩:=r; rfl
 | _=>exact absurd (show false=true from f) aL
theorem zfg {x:V}:∀ {xs:List V} {us:List Value},zF xs us→xs.all zcv=true→us.any (eqU x)=xs.any fun y=>eqV y x
 | _,_,.nil,_=>rfl
 | y :: xs,u :: us,.cons r t,f=>by
  rw [gi,cM] at f;rw [eD,eD,zjw r f.1,zfg t f.2]
theorem zdW {A:Around} {s:Shared} {x:V} {v:Value} (rx:RelV x v) (fx:zcv x=true):∀ {xs:List V} {us:List Value},zF xs us→xs.all zcv=true→∀ u∈us,iW A s u v (eqU x u)
 | _,_,.nil,_=>fun u hu=>by cases hu
 | y :: xs,u :: us,.cons r t,f=>fun u' hu=>by
  rw [gi,cM] at f;rcases aC.mp hu with rfl | hu
  ·rw [zjw r f.1]; exact zjv r rx f.1 fx
  ·exact zdW rx fx t f.2 u' hu
def inV (x:V) (xs:List V):Bool:=xs.any fun y=>eqV y x
def rIn (K:ag) (neg:Bool):R2:=fun x y H Q=>∃ p xs,y = .ref p∧(kS K H p xs∨k6 K H p xs)∧zcv x=true∧xs.all zcv=true∧Q (.bl (if neg then !inV x xs else inV x xs)) H
theorem ziD:OpR X (compareOp .In) (rIn X.K false):=by
 intro kP s σ H x y v u Q I rx ry h;obtain⟨p,xs,rfl,hq,fx,fs,q⟩:=h;cases ry;rcases hq with hq | hq
 ·obtain⟨kR,r,pl,hz⟩:=I.list hq;refine SeqAt.in_listAt (eqU x) pl.isList (fun w hw=>zdW rx fx r fs w (by simpa using hw)) ⟨.bl _,H,I,rfl,?_⟩;rw [show kR.toArray.any (eqU x)=kR.any (eqU x) by simp,zfg r fs];exact q
 ·obtain⟨kR,r,pl,hz⟩:=I.tuple hq;refine SeqAt.in_tupleAt (eqU x) pl (fun w hw=>zdW rx fx r fs w (by simpa using hw)) ⟨.bl _,H,I,rfl,?_⟩;rw [show kR.toArray.any (eqU x)=kR.any (eqU x) by simp,zfg r fs];exact q
theorem zO:zca X (.builtin "len") (fun xs H Q=>∃ p ys,xs = [.ref p]∧(kS X.K H p ys∨k6 X.K H p ys)∧Q (.int ys.length) H):=by
 intro kP s σ H xs us Q I r h;obtain⟨p,ys,rfl,hq,q⟩:=h;obtain⟨u,rfl,rx⟩:=vals1 r;cases rx;have hn:=zdS;rcases hq with hq | hq
 ·obtain⟨kR,r',pl,hz⟩:=I.list hq;have kY:=r'.length;exact Calls.call_len_list pl.isList (by simp only [am] <;> lia) ⟨.int ys.length,H,I.tok _,⟨s.toks+1,by rw [am,kY]⟩,q⟩
 ·obtain⟨kR,r',pl,hz⟩:=I.tuple hq;have kY:=r'.length;exact len_tuple pl (by simp only [am] <;> lia) ⟨.int ys.length,H,I.tok _,⟨s.toks+1,by rw [am,kY]⟩,q⟩
theorem zaS:zca X (.type "tuple") (fun xs H Q=>∃ p ys,xs = [.ref p]∧((kS X.K H p ys∧∀ l,H l=none→Q (.ref l) (kW H l (.tup ys)))∨(k6 X.K H p ys∧Q (.ref p) H))):=by
 intro kP s σ H xs us Q I r h;obtain⟨p,ys,rfl,h⟩:=h;obtain⟨u,rfl,rx⟩:=vals1 r;cases rx;rcases h with ⟨hq,q⟩ | ⟨hq,q⟩
 ·obtain⟨kR,r',pl,hz⟩:=I.list hq;have kY:=r'.length;refine call_tuple_list pl.isList (fun h' kp=>?_) (by simp only [am] <;> lia);have I1:Inv X kP σ H { s with heap:=h' }:=I.kept (t':=s.toks) kp;have I2:Inv X kP σ (kW H h'.objs.size (.tup ys)) { s with heap:=h'.push { cls:=.type "tuple",data:=.seq kR.toArray } } :=
   I1.laid (t':=s.toks) (fun b o e=>ah _ e) (af _) (show zaz X.prog X.w _ _ _ (.tup ys) from ⟨hz,kR,r',f' _ _⟩)
  exact⟨.ref h'.objs.size,_,I2,rfl,q _ (I1.hok.fresh (af _))⟩
 ·obtain⟨kR,r',pl,hz⟩:=I.tuple hq;exact call_tuple_same pl ⟨.ref p,H,I,rfl,q⟩
def tyV (K:ag) (T:String) (x:V) (H:Hp):Prop:=match x with
 | .str _=>T = "str"
 | .int _=>T = "int"
 | .ref p=>(T = "list"∧∃ xs,kS K H p xs)∨(T = "tuple"∧∃ o,K.lookup p=some o∧o.cls = .type "tuple"∧o.dict=none) ∨
   (T = "dict"∧((∃ kZ,H p=some (.dK kZ))∨∃ kZ,H p=some (.dT kZ)))∨(T = "set"∧∃ S n,H p=some (.set S n))
 | _=>False
theorem zmK {kP:List (Addr×Obj)} {σ:St} {H:Hp} {s:Shared} {T:String} {x:V} {v:Value} (I:Inv X kP σ H s) (r:RelV x v) (ty:tyV X.K T x H) :
  s.TypeIs v T∧∀ a,v = .ref a→∃ ob,s.heap.get? a=some ob∧ob.dict=none:=by
 cases x with
 | str z =>
  obtain⟨t,rfl⟩:=r;cases (show T = "str" from ty);exact⟨typeIs_str s z t,fun _ e=>nomatch e⟩
 | int i =>
  obtain⟨t,rfl⟩:=r;cases (show T = "int" from ty);exact⟨gJ s i t,fun _ e=>nomatch e⟩
 | ref p =>
  cases r;rcases ty with ⟨rfl,xs,hq⟩ | ⟨rfl,o,hk,hc,hd⟩ | ⟨rfl,hk⟩ | ⟨rfl,S,n,hk⟩
  ·obtain⟨kR,_,pl,_⟩:=I.list hq;refine⟨pl.isList.typeIs,fun a e=>?_⟩;cases e;obtain⟨o,n,e,c,hd,_⟩:=pl;exact⟨o,e,hd⟩
  ·refine⟨⟨o,I.kIn p o hk,hc⟩,fun a e=>?_⟩;cases e;exact⟨o,I.kIn _ o hk,hd⟩
  ·have z:∃ o,s.heap.get? p=some o∧o.ExactDict:=by
    rcases hk with ⟨kZ,hk⟩ | ⟨kZ,hk⟩
    ·obtain⟨_,_,_,_,o,_,_,e,ex,_⟩:=I.hok p _ hk;exact⟨o,e,ex⟩
    ·obtain⟨_,_,_,_,o,_,_,e,ex,_⟩:=I.hok p _ hk;exact⟨o,e,ex⟩
   obtain⟨o,e,ex⟩:=z;refine⟨⟨o,e,ex.1⟩,fun a e2=>?_⟩;cases e2;exact⟨o,e,ex.2.1⟩
  ·obtain⟨o,_,_,_,e,ex,_⟩:=I.hok p _ hk;refine⟨⟨o,e,ex.1⟩,fun a e2=>?_⟩;cases e2;exact⟨o,e,ex.2.1⟩
 | _=>exact dE ty
def tBM (K:ag) (T:String) (r:V→List V→Hp→VK→Prop) (to:TE) (t:TA):TE:=fun σ H Q=>to σ H fun x H1=>tyV K T x H1∧t σ H1 fun xs H2=>r x xs H2 Q
variable {o e:Expr} {es:List Expr} {to:TE} {t:TA} {name:Str} {apos nE:Pos} {T id:String} {r:V→List V→Hp→VK→Prop}
theorem zdg (pa:PlainAttrs T) (slot:Slot T name id) (B0:typeOf (.builtin id)=pure (.type "method_descriptor")) (hm:MtR X id r) (ho:PE X o to) (ha:PA X (e :: es) t)
  (tj:attributeBase o name X.env (eval o X.env)=eval o X.env:=by rfl)
  (wo:((backTo nE (starEach (e :: es) X.env)).all (fun x=>!x.1) && (backToKw nE (keywordEach [] X.env)).all (fun x=>x.1.isSome)
   && decide ((e :: es).length+([]:List Keyword).length+(if ([]:List Keyword).isEmpty then 0 else 1) < 30))=true:=by rfl)
  (tq:(apos.endLine == nE.line)=true:=by rfl) (hs:starEach (e :: es) X.env=(false,eval e X.env) :: starEach es X.env:=by rfl) (qK:(backTo nE (starEach es X.env)).any (·.1)=false:=by rfl) :
  PE X (.Call (.Attribute o name apos) (e :: es) [] nE) (tBM X.K T r to t):=by
 intro kP s σ H Q I h;refine wpAny_Call_method_late tj wo tq rfl (thn (ho kP s σ H _ I h) fun v s1 ⟨x,H1,I1,r1,ty,q1⟩=>?_);obtain⟨h1,h2⟩:=zmK I1 r1 ty;refine⟨T,id,pa,slot,B0,h1,h2,?_⟩;have hA:=ha nE kP s1 σ H1 _ I1 q1;rw [hs] at hA ⊢;refine Calls.callWith_builtin (by show (false || (backTo nE (starEach es X.env)).any (·.1))=false; rw [qK] <;> rfl) (Calls.evalArgs_plain ?_);exact thn hA fun us s2 ⟨vs,H2,I2,r2,q2⟩=>hm kP s2 σ H2 x vs v us Q I2 r1 r2 q2
end
def MtM (X:Cx) (id:String) (r:V→List V→Hp→VK→Prop):Prop :=
 ∀ (kP:List (Addr×Obj)) (s:Shared) (σ:St) (H:Hp) (x:V) (xs:List V) (v:Value) (us:List Value) (Q:VK),Inv X kP σ H s→RelV x v→zF xs us→r x xs H Q →
  wpAny (model X.prog X.w) X.A (call (.builtin id) (v :: us)) (EP X kP σ Q) X.xe s
theorem zF.one:∀ {x:V} {us:List Value},zF [x] us→∃ u,us = [u]∧RelV x u
 | _,_,.cons r .nil=>⟨_,rfl,r⟩
theorem zF.eraseIdx:∀ {xs:List V} {us:List Value} (i:Nat),zF xs us→zF (xs.eraseIdx i) (us.eraseIdx i)
 | _,_,_,.nil=>.nil
 | _,_,0,.cons _ t=>t
 | _,_,i+1,.cons r t=>.cons r (zF.eraseIdx i t)
theorem zF.reverse {xs:List V} {us:List Value} (h:zF xs us):zF xs.reverse us.reverse:=by
 induction h with
 | nil=>exact .nil
 | cons r t ih=>rw [ff,ff]; exact zF.append ih (.cons r .nil)
theorem zF.rep {xs:List V} {us:List Value} (h:zF xs us):∀ k:Nat,zF (aw k xs).flatten (aw k us).flatten
 | 0=>.nil
 | k+1=>by
  rw [bS,bS,dB,dB];exact zF.append h (zF.rep h k)
theorem zeP {α:Type}:∀ (l:List α) (i:Nat),(l.eraseIdx i).length≤l.length
 | [],_=>af _
 | _ :: _,0=>f7 _
 | _ :: r,i+1=>jX (zeP r i)
theorem foldl_rep (kR:List Value):∀ (k:Nat) (acc:List Value),
  fC (fun x1 x2=>x1++x2) acc.toArray (aw k kR.toArray)=(acc++(aw k kR).flatten).toArray
 | 0,acc=>by simp
 | k+1,acc=>by
  have e:acc.toArray++kR.toArray=(acc++kR).toArray:=by simp
  have e2:(acc++kR)++(aw k kR).flatten=acc++(aw (k+1) kR).flatten:=by
   rw [bS,dB,bj]
  rw [← e2,← foldl_rep kR k (acc++kR),← e,bS,io]
section
variable {X:Cx} {kP:List (Addr×Obj)} {σ:St} {H:Hp} {s:Shared} {l b:Addr} {xs ys zs:List V}
theorem Inv.lset {kR its':List Value} {n:Nat} {f:Array Value→Array Value} {t':Nat} (I:Inv X kP σ H s) (hH:H l=some (.lst xs))
  (e:s.heap.get? l=some { cls:=.type "list",data:=.seq kR.toArray n }) (hf:f kR.toArray=its'.toArray) (hv:zF ys its') (hz:ys.length≤sizeLine) :
  Inv X kP σ (kW H l (.lst ys)) { s with heap:=s.heap.update l (cU f),toks:=t' }:=by
 have q:=jY e f;rw [hf] at q;refine I.write (x:=l) (e:=l) (by rw [hH]; exact trivial) (.inl rfl) (fun b' u hb hu=>(fm s.heap (cU f) (dG hb)).trans hu) ⟨_,q⟩ ?_;exact⟨hz,its',_,hv,q⟩
theorem Inv.lnew {kR:List Value} {t':Nat} (I:Inv X kP σ H s) (hv:zF ys kR) (hz:ys.length≤sizeLine) :
  Inv X kP σ (kW H s.heap.objs.size (.lst ys)) { s with heap:=s.heap.push { cls:=.type "list",data:=.seq kR.toArray },toks:=t' } :=
 I.laid (fun _ _ q=>ah _ q) (af _) ⟨hz,kR,0,hv,aG _ rfl⟩
theorem Inv.fresh (I:Inv X kP σ H s):H s.heap.objs.size=none:=I.hok.fresh (af _)
theorem Inv.lstM (I:Inv X kP σ H s) (hH:H l=some (.lst xs)):xs.length≤sizeLine∧∃ (kR:List Value) (n:Nat),zF xs kR∧xs.length=kR.length∧s.heap.get? l=some { cls:=.type "list",data:=.seq kR.toArray n }:=by
 obtain⟨z,kR,n,r,e⟩:=I.hok l _ hH;exact⟨z,kR,n,r,r.length,e⟩
theorem zjx {n:Nat} (h:n≤sizeLine):eQ n=false:=by
 unfold eQ;exact decide_eq_false #[O]
end
section
variable {X:Cx}
def zla:V→List V→Hp→VK→Prop:=fun x vs H Q=>∃ l xs y,x = .ref l∧vs = [y]∧H l=some (.lst xs)∧xs.length < sizeLine∧Q .non (kW H l (.lst (xs++[y])))
theorem zbc:MtM X "list.append" zla:=by
 intro kP s σ H x vs v us Q I rx rv h;obtain⟨l,xs,y,rfl,rfl,hH,hz,q⟩:=h;cases rx;obtain⟨u,rfl,ru⟩:=rv.one;obtain⟨z,kR,n,r,hl,e⟩:=I.lstM hH;refine dS jv ⟨_,e,rfl⟩ jf (iY _ _) (jH l kR.toArray n u (by rw [am]; lia)) ⟨e,?_⟩;refine⟨.non,_,I.lset (its':=kR++[u]) hH e #[M] (r.append (.cons ru .nil)) ?_,rfl,q⟩;rw [ao,d7];lia
def zmL:V→List V→Hp→VK→Prop:=fun x vs H Q=>∃ l xs i k y,x = .ref l∧vs = [.int i]∧H l=some (.lst xs)∧-(2 ^ 63)≤i∧i < 2 ^ 63∧seqIndex? i xs.length=some k∧xs[k]? = some y∧Q y (kW H l (.lst (xs.eraseIdx k)))
theorem zjy:MtM X "list.pop" zmL:=by
 intro kP s σ H x vs v us Q I rx rv h;obtain⟨l,xs,i,k,y,rfl,rfl,hH,h1,h2,hk,hy,q⟩:=h;cases rx;obtain⟨u,rfl,ru⟩:=rv.one;obtain⟨t,rfl⟩:=ru;obtain⟨z,kR,n,r,hl,e⟩:=I.lstM hH;obtain⟨w,hw,xB⟩:=r.get hy;refine dS F.slot_list_pop ⟨_,e,rfl⟩ F.entry_list_pop (F.args_list_pop_2 _ _)
  (MeetsSeq.list_pop_at l kR.toArray n i t k w (fitsIndex_both h1 h2) (by rw [am,← hl]; exact hk) (by rw [← bn]; exact hw) (by rw [am]; lia)) ⟨e,?_⟩
 refine⟨y,_,I.lset (its':=kR.eraseIdx k) hH e ?_ (r.eraseIdx k) ?_,xB,q⟩
 ·show kR.toArray.eraseIdxIfInBounds k=(kR.eraseIdx k).toArray;rw [List.eraseIdxIfInBounds_toArray]
 ·have:=zeP xs k;lia
def zow:R2:=fun x y H Q=>∃ l b xs zs,x = .ref l∧y = .ref b∧H l=some (.lst xs)∧H b=some (.lst zs)∧xs.length+zs.length≤sizeLine∧∀ p,H p=none→Q (.ref p) (kW H p (.lst (xs++zs)))
theorem zbS:OpR X (binaryOp .Add) zow:=by
 intro kP s σ H x y v u Q I rx ry h;obtain⟨l,b,xs,zs,rfl,rfl,hH,hB,hz,q⟩:=h;cases rx;cases ry;obtain⟨z,kR,n,r,hl,e⟩:=I.lstM hH;obtain⟨z2,me,n2,r2,qL,e2⟩:=I.lstM hB;refine PySem.P.add_list e e2 ?_ (by rw [am,am]; lia);have ea:kR.toArray++me.toArray=(kR++me).toArray:=by simp
 rw [ea];exact⟨.ref _,_,I.lnew (t':=s.toks) (r.append r2) (by rw [ao]; lia),rfl,q _ I.fresh⟩
def zox:R2:=fun x y H Q=>∃ l k xs,x = .ref l∧y = .int k∧H l=some (.lst xs)∧-(2 ^ 63)≤k∧k < 2 ^ 63∧xs.length*k.toNat≤sizeLine ∧
 ∀ p,H p=none→Q (.ref p) (kW H p (.lst (aw k.toNat xs).flatten))
theorem len_rep {α:Type} (xs:List α) (k:Nat):(aw k xs).flatten.length=k*xs.length:=by
 induction k with
 | zero=>simp
 | succ k ih=>rw [bS,dB,ao,ih,Nat.succ_mul,Nat.add_comm]
theorem zgV:OpR X (binaryOp .Mult) zox:=by
 intro kP s σ H x y v u Q I rx ry h;obtain⟨l,k,xs,rfl,rfl,hH,h1,h2,hz,q⟩:=h;cases rx;obtain⟨t,rfl⟩:=ry;obtain⟨z,kR,n,r,hl,e⟩:=I.lstM hH;have kY:kR.toArray.size*k.toNat≤sizeLine:=by rw [am,← hl]; exact hz
 have B1:¬ kR.toArray.size*k.toNat > (2 ^ 63 - 1) / 8:=by
  have:(sizeLine:Nat)≤(2 ^ 63 - 1) / 8:=by decide
  lia
 have B2:¬ (!Builtin.List.listFitsIndex k)=true:=by
  rw [fitsIndex_both h1 h2];exact aL
 have yh:¬ eQ (kR.toArray.size*k.toNat)=true:=by
  rw [zjx kY];exact aL
 have uQ:fC (fun x1 x2=>x1++x2) #[] (aw (if kR.toArray.isEmpty=true then 0 else k.toNat) kR.toArray)=(aw k.toNat kR).flatten.toArray:=by
  have f0:∀ m:Nat,fC (fun x1 x2=>x1++x2) #[] (aw m kR.toArray)=(aw m kR).flatten.toArray:=fun m=>by
   have:=foldl_rep kR m [];rw [ip] at this;exact this
  rw [f0];cases kR with
  | nil=>simp
  | cons a r'=>rw [if_neg #[M]]
 refine gK (T:="list") (U:="int") #[D] ⟨_,e,rfl⟩ (fun s'=>gJ s' k t) noFill_list_mul F.fills_int_mul fE repeat_list F.slot_int_index.lookup
  (dS fE (gJ s k t) jZ (jI _ _) (int___rmul___int_list k t l kR.toArray n)
   ⟨e,rfl,⟨_,e,rfl⟩,dS F.slot_list_mul ⟨_,e,rfl⟩ F.entry_list_mul (F.args_list_mul_2 _ _) (AutoListH.list___mul___list_int_3 l kR.toArray n k t B2 B1 yh) ⟨e,?_⟩⟩)
 rw [uQ];exact⟨.ref _,_,I.lnew (t':=s.toks) (r.rep k.toNat) (by rw [len_rep,jw]; exact hz),rfl,q _ I.fresh⟩
end
end L2
namespace Att
open PySem PySem.W PySem.Calls PyProof.Rows
theorem zdo {P:Params} {h:Heap}:∀ (ns:List Int) (vs:List Value),WellAll P h vs (ns.map WData.int)→IntsAre vs ns:=by
 intro ns;induction ns with
 | nil =>
  intro vs w;rw [eP] at w;cases w;exact .nil
 | cons n ns ih =>
  intro vs w;rw [aS] at w;cases w with
  | cons a b =>
   cases a;exact .cons _ _ (ih _ b)
theorem ziE {l:OpenLaw} {n:Nat} (hn:l.most=some n) {P:Params} {h:Heap} {args:List WData} {vals:List Value}
  (uR:l.row.toRowW.claim.pre args=true) (tw:WellAll P h vals args) :
  ∃ a vs ns,vals = [aO a]∧args = [WData.list (ns.map WData.int)]∧h.get? a=some { cls:=.type "list",data:=.seq vs.toArray }∧IntsAre vs ns∧ns.length≤n:=by
 have hsh:WShape.hasAll [] args [.list .int]=true:=(pre_splitW uR).1;have hc:l.pre.holds [] { args:=args }=true:=(pre_splitW uR).2;obtain⟨d,r,rfl,h1,h2⟩:=hasAllW_cons hsh;obtain rfl:=hasAllW_nil h2;obtain⟨xs,rfl,h3⟩:=hasW_list h1;obtain⟨ns,rfl⟩:=items_int h3;have kY:ns.length≤n:=by
  unfold OpenLaw.pre at hc;have h4:(WTm.not (.lt (.lit (.int (n:Int))) (.len (.arg 0)))).holds [] { args:=[.list (ns.map .int)] }=true:=by
   have h4:=(holds_andW hc).1;rw [hn] at h4;exact h4
  have h5:=condW_of h4 (w_not (w_lt w_lit (w_len_list (w_arg rfl))));rw [ab] at h5;refine gU fun q=>?_
  have q':(n:Int) < ((ns.length:Nat):Int):=by lia
  first
   | (rw [decide_eq_true q'] at h5; exact absurd h5 #[D])
   | (simp at h5; lia)
 cases tw with
 | cons w1 w2 =>
  cases w2;cases w1 with
  | list ho nF=>exact⟨_,_,ns,rfl,rfl,ho,zdo ns _ nF,kY⟩
theorem ziF (l:OpenLaw) (args:List WData):l.row.toRowW.claim.post args (.bool true) args=true :=
 postW_of (r:=l.row.toRowW) (X:=(true == true))
  (show WShape.has [] (.bool true) .bool=true by first | rfl | decide | simp [WShape.has,WShape.arms,WShape.armsAll])
  (show (WTm.eq .res (.lit (.bool true))).value [] { args:=args,res:=some (.bool true),after:=args }=some (.bool (true == true)) from w_eq_bool (w_res rfl) w_lit) rfl
theorem attach_call {l:OpenLaw} {n:Nat} {q:Program} {loose:List Str} {XP:(Str→Option Value)→Heap→Prop} {YP:World→Heap→Prop} {d:DefRec}
  (hn:l.most=some n) (yi:d.params.defaults = [])
  (call:∀ (w:World) (s₀ s₁:Shared) (mg mb:Str→Option Value) (fa:Addr) (o:Obj) (pm cd doc:Value) (a:Addr) (vs:List Value) (ns:List Int),
   Ground q loose [] XP w s₀ mg mb s₁.heap→YP w s₁.heap →
   s₁.heap.get? fa=some o→o.data = .func (docDef d.name d.params d.body d.scope pm cd doc)→s₁.heap.CodeRec cd d.name→mg d.name=some (.ref fa) →
   s₁.heap.get? a=some { cls:=.type "list",data:=.seq vs.toArray }→IntsAre vs ns→ns.length≤n→s₁.gens = #[] →
   codeAny (model l.prog w) callerA (.call (.ref fa) ⟨[.ref a],[]⟩) (fun r s'=>r = .ok (.ret (.bool true))∧OldK s₁.heap s'.heap∧s'.os=s₁.os∧AllBare s'.gens) s₁) :
  WalkO q loose XP YP l.row.toRowW d [] (fun f vs=>kf f vs):=by
 intro w s₀ s₁ mg mb G Y fa o pm cd doc dV kV ho hd qF hD rS hg args vals as uR hlay hrd tw ph;obtain rfl:dV = .none:=Dflts.none hD yi;obtain rfl:kV = .none:=Dflts.noKw hD;obtain⟨a,vs,ns,rfl,rfl,wq,hints,kY⟩:=ziE hn uR tw;refine enter_call (jp (call w s₀ s₁ mg mb fa o pm cd doc a vs ns G Y ho (fd_plain hd) qF rS wq hints kY hg) fun r s' hq=>?_);obtain⟨rfl,h2,h3,h4⟩:=hq;exact⟨.inl ⟨.bool true,.bool true,[],rfl,fun _=>rfl,.bool true,ziF l _,fun _=>⟨gz,fun _ hm=>(nomatch hm)⟩⟩,h2,h3,h4⟩
end Att
namespace L2
open PySem PySem.Spec PyProof.Rows
theorem zeQ:∀ {vs:List Value} {ns:List Int},IntsAre vs ns→zF (ns.map V.int) vs
 | _,_,.nil=>.nil
 | _,_,.cons n t h=>.cons ⟨t,rfl⟩ (zeQ h)
def zmM (H:Hp):Prop:=∀ b,H b=none∨∃ o xs,H b=some (.frz o (.lst xs))
theorem zjz {P:Program} {w:World} {K:ag} {mg mb:Str→Option Value} {CX:CXT} {k:Nat} {fa a:Addr} {fd:FuncData} {x:Str} {sp:Sp} {s₁:Shared} {vs:List Value} {ns:List Int}
  (KX:K.In s₁.heap) (xC:s₁.heap.Ns mainGlobals mg) (hb:s₁.heap.Ns builtinsNs mb) (hbb:∀ x:Str,x≠"__name__"→mb x=bootBuiltins x) (B3:s₁.heap.NoLimit) (hg:s₁.gens = #[])
  (ha:s₁.heap.get? a=some { cls:=.type "list",data:=.seq vs.toArray }) (hi:IntsAre vs ns) (hl:ns.length≤sizeLine) (hr:Room k callerA)
  (F:∀ base:Heap,K.In base→base.Ns mainGlobals mg→FnOk P w K mg base CX k fa fd [x] sp) (yj:∀ (s:Shared) (u:Value),BindsTo s fd ⟨[u],[]⟩ [(x,u)])
  (uC:∀ H:Hp,zmM H→kS K H a (ns.map V.int)→sp [.ref a] H (fun v _=>v = .bl true) fun _ _ _=>False)
  (B4:∀ H e s',CX [] H s₁ (fun _ _ _=>False) e s'→False) :
  codeAny (model P w) callerA (.call (.ref fa) ⟨[.ref a],[]⟩) (fun r s'=>r = .ok (.ret (.bool true))∧OldK s₁.heap s'.heap∧s'.os=s₁.os∧AllBare s'.gens) s₁:=by
 have rv:=zeQ hi;have B5:=hi.length;have core:∀ H:Hp,zmM H→kS K H a (ns.map V.int)→HOk P w H s₁.heap→(∀ b,H b≠none→b=a)→(H a≠none→K.lookup a=none) →
   codeAny (model P w) callerA (.call (.ref fa) ⟨[.ref a],[]⟩) (fun r s'=>r = .ok (.ret (.bool true))∧OldK s₁.heap s'.heap∧s'.os=s₁.os∧AllBare s'.gens) s₁:=by
  intro H hO hS hok hA hK;have rF:∀ {b:Addr} {o:Obj},s₁.heap.get? b=some o→H b=none→(zfc s₁.heap H).get? b=some o:=fun e n=>zji e n
  have wm:∀ {b:Addr} {o:Obj} {es:Array DictEntry} {ep:Nat},s₁.heap.get? b=some o→o.data = .dict es ep→H b=none:=fun {b o es ep} e d=>by
   cases q:H b with
   | none=>rfl
   | some u =>
    have e':b=a:=hA b (by rw [q]; simp);subst e';rw [ha] at e; cases e;have d':kM vs.toArray _=Data.dict es ep:=d;cases d'
  have A9:∀ {b:Addr} {m:Str→Option Value},s₁.heap.Ns b m→(zfc s₁.heap H).Ns b m:=fun {b m} ⟨o,es,ep,e,d,r⟩=>⟨o,es,ep,rF e (wm e d),d,r⟩
  have hKb:K.In (zfc s₁.heap H):=fun b o e=>rF (KX b o e) (by
   cases q:H b with
   | none=>rfl
   | some u =>
    have e':b=a:=hA b (by rw [q]; simp);subst e';rw [hK (by rw [q]; simp)] at e; cases e)
  have hM:Mod K mg (zfc s₁.heap H):=⟨hKb,A9 xC,⟨mb,A9 hb,hbb⟩,let ⟨mc,h1,h2⟩:=B3; ⟨mc,A9 h1,h2⟩⟩;have e0:Env0 P w K mg (zfc s₁.heap H) callerA [] s₁ H:=⟨rfl,hM,fun b o e=>zk0 e,Nat.le_of_eq (ziw _ _),trivial,fun b hb=>absurd (show b∈([]:List Addr) from hb) #[M],hok,.of_eq hg⟩;refine jp ((F _ hKb (A9 xC)).run callerA [] s₁ H ⟨[.ref a],[]⟩ [.ref a] [.ref a] _ _ hr e0 (yj s₁ (.ref a)) (.cons rfl .nil) (uC H hO hS)) fun r s' h=>?_
  cases r with
  | error e=>exact (B4 H e s' h).elim
  | ok fl =>
   cases fl with
   | next=>exact dE h
   | brk=>exact dE h
   | cont=>exact dE h
   | ret u =>
    obtain⟨v,H',os,bare,un,B6,r',q⟩:=h;have q':v = .bl true:=q;subst q';obtain rfl:u=j9 true:=r';refine⟨rfl,OldK.of_keep fun b o e=>?_,os,bare⟩;cases q:H b with
    | none=>exact un.keep b o e q (by intro z; exact absurd (show b∈([]:List Addr) from z) #[M]) #[M]
    | some u =>
     rcases hO b with z | ⟨ob,xs,z⟩
     ·rw [q] at z; cases z
     ·have z2:=un.frzs b ob _ z;obtain⟨e1,_⟩:=hok b _ z;obtain⟨e2,_⟩:=B6 b _ z2;rw [e] at e1; cases e1;exact e2
 cases hk:K.lookup a with
 | some o =>
  have e:=KX a o hk;rw [ha] at e;cases e;refine core (fun _=>none) (fun _=>.inl rfl) (.inr ⟨_,vs.toArray,_,hk,rfl,rfl,rfl,by rw [am,B5]; exact hl,by simpa using rv⟩) (fun b u z=>by have z':(none:Option HO)=some u:=z; cases z') (fun b z=>absurd rfl z) fun z=>absurd rfl z
 | none =>
  refine core (fun b=>if b=a then some (.frz { cls:=.type "list",data:=.seq vs.toArray } (.lst (ns.map V.int))) else none) (fun b=>?_) (.inl (.inr ⟨{ cls:=.type "list",data:=.seq vs.toArray },if_pos rfl⟩)) (fun b u z=>?_) (fun b z=>?_) fun _=>hk
  ·by_cases hb:b=a
   ·exact .inr ⟨_,_,if_pos hb⟩
   ·exact .inl (if_neg hb)
  ·by_cases hb:b=a
   ·have z':=(if_pos hb).symm.trans z;cases z';subst hb;exact⟨ha,by rw [ab]; exact hl,vs,_,rv,ha⟩
   ·have z':=(if_neg hb).symm.trans z;cases z'
  ·by_cases hb:b=a
   ·exact hb
   ·exact absurd (if_neg hb) z
theorem zlb {l:iq} {n k:Nat} {q:Program} {loose:List Str} {XP:(Str→Option Value)→Heap→Prop} {YP:World→Heap→Prop} {d:DefRec} {K:Params→ag} {CX:World→CXT} {sp:World→Sp} {x:Str}
  (hn:l.most=some n) (pF:n≤sizeLine) (yi:d.params.defaults = []) (hr:Room k callerA)
  (hY:∀ (w:World) (h:Heap),YP w h→(K w.params).In h)
  (F:∀ (w:World) (mg:Str→Option Value) (fa:Addr) (h:Heap),(K w.params).In h→h.Ns mainGlobals mg→mg d.name=some (.ref fa) →
   ∃ fd:FuncData,(∀ (s:Shared) (u:Value),BindsTo s fd ⟨[u],[]⟩ [(x,u)]) ∧
    ∀ base:Heap,(K w.params).In base→base.Ns mainGlobals mg→FnOk l.prog w (K w.params) mg base (CX w) k fa fd [x] (sp w))
  (uC:∀ (w:World) (H:Hp) (a:Addr) (ns:List Int),ns.length≤n→zmM H→kS (K w.params) H a (ns.map V.int)→sp w [.ref a] H (fun v _=>v = .bl true) fun _ _ _=>False)
  (B4:∀ (w:World) (H:Hp) (s:Shared) (e:Value) (s':Shared),CX w [] H s (fun _ _ _=>False) e s'→False) :
  kF q loose XP YP l.row.toRowW d [] (fun f vs=>kf f vs):=by
 refine Att.attach_call hn yi fun w s₀ s₁ mg mb fa o pm cd doc a vs ns G Y ho hd qF rS wq hints kY hg=>?_
 have KX:=hY w _ Y;obtain⟨fd,hb,hF⟩:=F w mg fa _ KX G.T.g rS;exact zjz KX G.T.g G.T.b G.T.builtins G.T.nolimit hg wq hints (aU kY pF) hr hF hb (fun H hO hS=>uC w H a ns kY hO hS) fun H e s'=>B4 w H s₁ e s'
def zby (s:Stmt):Arguments:=match s with
 | .FunctionDef _ a _ _ _ _ _ _ _ _=>a
 | _=>{ posonlyargs:=[],args:=[],vararg:=none,kwonlyargs:=[],kw_defaults:=[],kwarg:=none,defaults:=[] }
def zbn (s:Stmt):List Stmt:=match s with
 | .FunctionDef _ _ b _ _ _ _ _ _ _=>b
 | _=>[]
def zj (s:Stmt):Scope:=match s with
 | .FunctionDef _ _ _ _ _ _ sc _ _ _=>sc
 | _=>{ kind:=.function,names:=[],isGenerator:=false,isCoroutine:=false }
abbrev CX0:CXT:=fun _ _ _ _ _ _=>False
abbrev E0:XK:=fun _ _ _=>False
theorem zR {X:Cx}:zgR CX0 X E0:=fun _ _ _ _ _ _ _ h=>h.elim
structure Fun (K:ag) (x qual:Str) (st:Stmt) (f:Addr) (fd:FuncData):Prop where
 ex:∃ (oc:Value) (od:Option Addr) (kV doc pm:Value) (an:Option Addr) (lP ct:Value) (vJ:Array (Option Value)),
  fd=cT x qual (zby st) (zbn st) (zj st) .none kV doc pm an lP ct∧K.lookup f=some ⟨oc,od,.func fd,vJ⟩∧eW K lP qual=true
 kp:eV K (.ref f)=true
section
variable {P:Program} {w:World} {K:ag} {mg:Str→Option Value} {base:Heap}
theorem Fun.ok {x qual:Str} {st:Stmt} {f:Addr} {fd:FuncData} {N ps:List Str} {k:Nat} {sp:Sp} (F:Fun K x qual st f fd) (S:FnScope N ps (zj st)) (len:∀ vs H Q E,sp vs H Q E→vs.length=ps.length)
  (tf:∀ (lP:Value) (A:Around) (outer:List Env) (s:Shared) (H:Hp) (vs:List V) (Q:VK) (E:XK),Room k (A.deeper (envOfC qual (zj st) s.heap.objs.size f lP))→sp vs H Q E →
   ∃ t,PSs (ziB CX0 P w K mg base N qual (zj st) f lP A outer s H E).nox (zbn st) t∧t { nx:=fun _ H'=>Q .non H',rt:=Q } (start N vs) H):FnOk P w K mg base CX0 (k+1) f fd ps sp:=by
 obtain⟨oc,od,kV,doc,pm,an,lP,ct,vJ,rfl,lk,qF⟩:=F.ex;refine znM lk qF S len fun A outer s H vs Q E hr uC=>?_
 obtain⟨t,h,q⟩:=tf lP A outer s H vs Q E hr uC;exact⟨t,h.nox,q⟩
theorem Fun.binds {x qual:Str} {st:Stmt} {f:Addr} {fd:FuncData} {ps:List Str} (F:Fun K x qual st f fd)
  (h:∀ (kV doc pm:Value) (an:Option Addr) (lP ct:Value) (us:List Value),us.length=ps.length→bindArgs (cT x qual (zby st) (zbn st) (zj st) .none kV doc pm an lP ct) ⟨us,[]⟩=pure (ps.zip us)):Binds K fd ps []:=by
 obtain⟨oc,od,kV,doc,pm,an,lP,ct,vJ,rfl,lk,qF⟩:=F.ex;exact .all (h kV doc pm an lP ct)
theorem zjA {x qual:Str} {st:Stmt} {f:Addr} {oc:Value} {od an:Option Addr} {vJ:Array (Option Value)} {kV doc pm lP ct:Value} (l:K.lookup f=some ⟨oc,od,.func (cT x qual (zby st) (zbn st) (zj st) .none kV doc pm an lP ct),vJ⟩)
  (c:eW K lP qual=true) (k:eV K (.ref f)=true):Fun K x qual st f (cT x qual (zby st) (zbn st) (zj st) .none kV doc pm an lP ct):=⟨⟨oc,od,kV,doc,pm,an,lP,ct,vJ,rfl,l,c⟩,k⟩
end
theorem zjB {A B:Prop} (h:B):if false=true then A else B:=by
 rw [if_neg aL];exact h
theorem zoy {A B:Prop} (h:A):if true=true then A else B:=by
 rw [if_pos rfl];exact h
theorem zaX {c A B:Prop} [Decidable c] (h1:c→A) (h2:¬ c→B):if c then A else B:=by
 by_cases h:c
 ·rw [if_pos h];exact h1 h
 ·rw [if_neg h];exact h2 h
def zy (H H':Hp):Prop:=∀ b o,H b=some o→H' b=some o
theorem zy.trans {H H1 H2:Hp} (a:zy H H1) (b:zy H1 H2):zy H H2:=fun c o h=>b c o (a c o h)
theorem zy.free {H H':Hp} (e:zy H H') {l:Addr} (h:H' l=kO):H l=kO:=by
 cases q:H l with
 | none=>rfl
 | some o =>
  rw [e l o q] at h;cases h
theorem zy.seq {K:ag} {H H':Hp} {a:Addr} {xs:List V} (e:zy H H') (h:kS K H a xs):kS K H' a xs:=by
 rcases h with (h | ⟨o,h⟩) | h
 ·exact .inl (.inl (e _ _ h))
 ·exact .inl (.inr ⟨o,e _ _ h⟩)
 ·exact .inr h
end L2
section
namespace L2
open PySem
abbrev Ends.n (D:Ends) (N:St→Hp→Prop):Ends:={ D with nx:=N }
section
variable {r1 r2 r3 r4 r5 r6 r7 r8 r9 r10 r11 r12 r13 r14 r15:TS} {D:Ends} {σ:St} {H:Hp}
theorem znT (h:let N2:=r2 D; r1 (D.n N2) σ H):(zay r1 r2) D σ H:=h
theorem zjC (h:let N3:=r3 D; let N2:=r2 (D.n N3); r1 (D.n N2) σ H):(zay r1 (zay r2 r3)) D σ H:=h
theorem zlc (h:let N4:=r4 D; let N3:=r3 (D.n N4); let N2:=r2 (D.n N3); r1 (D.n N2) σ H):(zay r1 (zay r2 (zay r3 r4))) D σ H:=h
theorem znU (h:let N5:=r5 D; let N4:=r4 (D.n N5); let N3:=r3 (D.n N4); let N2:=r2 (D.n N3); r1 (D.n N2) σ H):(zay r1 (zay r2 (zay r3 (zay r4 r5)))) D σ H:=h
theorem zoz (h:let N6:=r6 D; let N5:=r5 (D.n N6); let N4:=r4 (D.n N5); let N3:=r3 (D.n N4); let N2:=r2 (D.n N3); r1 (D.n N2) σ H):(zay r1 (zay r2 (zay r3 (zay r4 (zay r5 r6))))) D σ H:=h
theorem zmN (h:let N7:=r7 D; let N6:=r6 (D.n N7); let N5:=r5 (D.n N6); let N4:=r4 (D.n N5); let N3:=r3 (D.n N4); let N2:=r2 (D.n N3); r1 (D.n N2) σ H):(zay r1 (zay r2 (zay r3 (zay r4 (zay r5 (zay r6 r7)))))) D σ H:=h
theorem znV (h:let N8:=r8 D; let N7:=r7 (D.n N8); let N6:=r6 (D.n N7); let N5:=r5 (D.n N6); let N4:=r4 (D.n N5); let N3:=r3 (D.n N4); let N2:=r2 (D.n N3); r1 (D.n N2) σ H):(zay r1 (zay r2 (zay r3 (zay r4 (zay r5 (zay r6 (zay r7 r8))))))) D σ H:=h
theorem znW (h:let N10:=r10 D; let N9:=r9 (D.n N10); let N8:=r8 (D.n N9); let N7:=r7 (D.n N8); let N6:=r6 (D.n N7); let N5:=r5 (D.n N6); let N4:=r4 (D.n N5); let N3:=r3 (D.n N4); let N2:=r2 (D.n N3); r1 (D.n N2) σ H):(zay r1 (zay r2 (zay r3 (zay r4 (zay r5 (zay r6 (zay r7 (zay r8 (zay r9 r10))))))))) D σ H:=h
theorem zbi {X0:Cx} {B:List PySem.Stmt} (h:let X:=X0; ∃ t,PSs X B t∧t D σ H):∃ t,PSs X0 B t∧t D σ H:=h
end
end L2
end
section
namespace L2
open PySem PySem.Spec PyProof.Rows
def zai (cs:List (Str×Addr)):List (Str×NameKind)→List (Str×Addr)→List (Str×Addr)
 | [],acc=>acc
 | (n,k) :: r,acc=>if k == .free then zai cs r ((n,(cs.lookup n).getD 0) :: acc) else zai cs r acc
theorem zcw {scope:Scope} {env:Env} (h:∀ y∈scope.names,y.2 = .free→∃ c,env.cells.lookup y.1=some c) :
  closureFor scope env=pure (zai env.cells scope.names []):=by
 have go:∀ (names:List (Str×NameKind)) (acc:List (Str×Addr)),(∀ y∈names,y.2 = .free→∃ c,env.cells.lookup y.1=some c) →
   (forIn names acc (fun (x:Str×NameKind) (cs:List (Str×Addr))=>(if (x.2 == bW)=true then do
    let a ← cellOf env x.1
    pure (cn ((x.1,a) :: cs)) else pure (cn cs):Sem (ForInStep (List (Str×Addr))))))=(pure (zai env.cells names acc):Sem _):=by
  intro names;induction names with
  | nil=>intro acc _; rfl
  | cons y r ih =>
   intro acc hy;obtain⟨n,k⟩:=y;rw [dU];cases hk:(k == bW) with
   | true =>
    obtain⟨c,hc⟩:=hy (n,k) az (by simpa using hk);have n6:cellOf env n=pure c:=by
     unfold cellOf;have k7:env.cells.lookup n=some c:=hc;rw [k7]
    simp only [hk,if_true,n6];have e:=ih ((n,c) :: acc) fun y wt=>hy y (aj _ wt)
    have k7:env.cells.lookup n=some c:=hc;simp only [zai,hk,if_true,k7,j0];exact e
   | false =>
    simp only [hk,bm,if_false];have e:=ih acc fun y wt=>hy y (aj _ wt)
    simp only [zai,hk,bm,if_false];exact e
 have e:=go scope.names [] h;unfold closureFor;show (forIn scope.names [] _ >>= fun cs=>pure cs)=_
 first
  | (rw [e]; rfl)
  | (simp only []; rw [e]; rfl)
  | (have e':=e; simp at e' ⊢; exact e')
theorem zbE {cs:List (Str×Addr)}:∀ (names:List (Str×NameKind)) (acc:List (Str×Addr)),
  (∀ y∈names,y.2 = .free→∃ c,cs.lookup y.1=some c)→(∀ x c,acc.lookup x=some c→cs.lookup x=some c) →
  ∀ x c,(zai cs names acc).lookup x=some c→cs.lookup x=some c
 | [],acc,_,h,x,c,e=>h x c e
 | (n,k) :: r,acc,hy,h,x,c,e=>by
  have hr:∀ y∈r,y.2 = .free→∃ c,cs.lookup y.1=some c:=fun y wt=>hy y (aj _ wt)
  unfold zai at e;cases hk:(k == bW) with
  | false =>
   rw [hk] at e;exact zbE r acc hr h x c e
  | true =>
   rw [hk] at e;obtain⟨d,hd⟩:=hy (n,k) az (by simpa using hk);have xv:cs.lookup n=some d:=hd;refine zbE r _ hr (fun x c e'=>?_) x c e;rw [xv,j0,bq] at e';cases hx:(x == n) with
   | true =>
    rw [hx] at e';have:x=n:=by simpa using hx
    subst this;rw [xv];exact e'
   | false =>
    rw [hx] at e';exact h x c e'
theorem zbT {cs:List (Str×Addr)}:∀ (names:List (Str×NameKind)) (acc:List (Str×Addr)) (x:Str),
  ((∃ c,acc.lookup x=some c)∨(x,bW)∈names)→∃ c,(zai cs names acc).lookup x=some c
 | [],acc,x,h=>by
  rcases h with h | h
  ·exact h
  ·cases h
 | (n,k) :: r,acc,x,h=>by
  unfold zai;cases hk:(k == bW) with
  | false =>
   refine zbT r acc x ?_;rcases h with h | h
   ·exact .inl h
   ·rcases aC.mp h with h | h
    ·cases h;exact absurd hk #[D]
    ·exact .inr h
  | true =>
   refine zbT r _ x ?_;cases hx:(x == n) with
   | true=>exact .inl ⟨_,by rw [bq,hx]⟩
   | false =>
    rcases h with ⟨c,h⟩ | h
    ·exact .inl ⟨c,by rw [bq,hx]; exact h⟩
    ·rcases aC.mp h with h | h
     ·cases h;simp at hx
     ·exact .inr h
theorem lookup_mem {α:Type}:∀ {l:List (Str×α)} {x:Str} {k:α},l.lookup x=some k→(x,k)∈l
 | [],x,k,h=>by simp at h
 | (n,j) :: r,x,k,h=>by
  rw [bq] at h;cases hx:(x == n) with
  | true =>
   rw [hx] at h;have:x=n:=by simpa using hx
   subst this;cases h;exact az
  | false =>
   rw [hx] at h;exact aj _ (lookup_mem h)
theorem zbk {env:Env}:∀ {names:List (Str×NameKind)} {x:Str},names.lookup x=some .free →
  (names.map fun (n,k)=>if (k == bW && env.scope.kind == .function && env.kindOf n == some .cell) then (n,cJ) else (n,k)).lookup x=some .cell ∨
  (names.map fun (n,k)=>if (k == bW && env.scope.kind == .function && env.kindOf n == some .cell) then (n,cJ) else (n,k)).lookup x=some .free
 | [],_,h=>by simp at h
 | (n,k) :: r,x,h=>by
  have ih:=@zbk env r x;simp only [aS];cases hx:x == n with
  | true =>
   simp only [bq,hx] at h; cases h;by_cases hc:(bW == bW && env.scope.kind == .function && env.kindOf n == some .cell)=true
   ·rw [if_pos hc]; left; simp only [bq,hx]
   ·rw [if_neg hc]; right; simp only [bq,hx]
  | false =>
   simp only [bq,hx] at h; rcases jx ((k == bW && env.scope.kind == .function && env.kindOf n == some .cell)=true) with hc | hc
   ·exact (by rw [if_pos hc]; simp only [bq,hx]; exact ih h)
   ·exact (by rw [if_neg hc]; simp only [bq,hx]; exact ih h)
theorem zcF {env:Env}:∀ {names:List (Str×NameKind)} {x:Str},
  ((names.map fun (n,k)=>if (k == bW && env.scope.kind == .function && env.kindOf n == some .cell) then (n,cJ) else (n,k)).lookup x=some .cell ∨
  (names.map fun (n,k)=>if (k == bW && env.scope.kind == .function && env.kindOf n == some .cell) then (n,cJ) else (n,k)).lookup x=some .free) →
  names.lookup x=some .free∨names.lookup x=some .cell
 | [],_,h=>by simp at h
 | (n,k) :: r,x,h=>by
  have ih:=@zcF env r x;simp only [aS] at h;cases hx:x == n with
  | true =>
   rcases jx ((k == bW && env.scope.kind == .function && env.kindOf n == some .cell)=true) with hc | hc
   ·have hk:k = .free:=by
     simp only [cM] at hc; simpa using hc.1.1
    subst hk;exact .inl (by simp only [bq,hx])
   ·rw [if_neg hc] at h;simp only [bq,hx] at h ⊢;rcases h with h | h
    ·exact .inr h
    ·exact .inl h
  | false =>
   rcases jx ((k == bW && env.scope.kind == .function && env.kindOf n == some .cell)=true) with hc | hc
   ·rw [if_pos hc] at h;simp only [bq,hx] at h ⊢;exact ih h
   ·rw [if_neg hc] at h;simp only [bq,hx] at h ⊢;exact ih h
theorem zfh:∀ (names:List (Str×NameKind)) (n:Nat) (acc:List (Str×Addr)) (x:Str),(x,cJ)∉names→(cellsFrom n names acc).lookup x=acc.lookup x
 | [],_,_,_,_=>rfl
 | (y,k) :: r,n,acc,x,h=>by
  have hr:(x,cJ)∉r:=fun z=>h (aj _ z)
  unfold cellsFrom;split
  ·rename_i hk
   have uE:k = .cell:=by simpa using hk
   rw [zfh r _ _ x hr,bq];cases hx:(x == y) with
   | true =>
    have:x=y:=by simpa using hx
    subst this;subst uE;exact absurd az h
   | false=>rfl
  ·exact zfh r _ _ x hr
theorem zfi:∀ (names:List (Str×NameKind)) (n:Nat) (acc:List (Str×Addr)) (x:Str),(x,cJ)∈names→∃ c,(cellsFrom n names acc).lookup x=some c∧n≤c
 | (y,k) :: r,n,acc,x,h=>by
  by_cases hr:(x,cJ)∈r
  ·unfold cellsFrom;split
   ·obtain⟨c,e,l⟩:=zfi r (n+1) ((y,n) :: acc) x hr;exact⟨c,e,#[O]⟩
   ·exact zfi r n acc x hr
  ·rcases aC.mp h with e | e
   ·cases e;unfold cellsFrom;rw [if_pos #[D],zfh r _ _ _ hr,bq,beq_self_eq_true];exact⟨n,rfl,af _⟩
   ·exact absurd e hr
structure CO (h:Heap) (lo:Nat) (old cs:List (Str×Addr)):Prop where
 each:∀ x c,cs.lookup x=some c→(h.IsCell c none∧lo≤c)∨(old.lookup x=some c∧c < lo)
 inj:∀ x y c,cs.lookup x=some c→cs.lookup y=some c→x=y
theorem zjD {lo:Nat} {old:List (Str×Addr)}:∀ (names:List (Str×NameKind)) (h:Heap) (acc:List (Str×Addr)),CO h lo old acc→lo≤h.objs.size→CO (pushCells h names) lo old (cellsFrom h.objs.size names acc)
 | [],_,_,a,_=>a
 | (y,k) :: r,h,acc,a,hl=>by
  unfold pushCells cellsFrom;split
  ·have lt:∀ x c,acc.lookup x=some c→c < h.objs.size:=fun x c e=>(a.each x c e).elim (fun z=>z.1.lt) fun z=>bd z.2 hl
   have key:∀ x c,List.lookup x ((y,h.objs.size) :: acc)=some c→(x=y∧c=h.objs.size)∨acc.lookup x=some c:=fun x c e=>by
    rw [bq] at e;cases hx:(x == y) with
    | true =>
     rw [hx] at e;exact .inl ⟨by simpa using hx,(aM e).symm⟩
    | false =>
     rw [hx] at e;exact .inr e
   have:=zjD (lo:=lo) (old:=old) r (h.push { cls:=.type "cell",data:=.cell none }) ((y,h.objs.size) :: acc) ⟨fun x c e=>?_,fun x z c e1 e2=>?_⟩ (by rw [bA]; lia)
   ·rw [bA] at this;exact this
   ·rcases key x c e with ⟨_,rfl⟩ | e
    ·exact .inl ⟨⟨_,aG _ rfl,rfl⟩,hl⟩
    ·rcases a.each x c e with z | z
     ·exact .inl ⟨z.1.keeps fun b o e=>ah _ e,z.2⟩
     ·exact .inr z
   ·rcases key x c e1 with ⟨p1,q1⟩ | f1 <;> rcases key z c e2 with ⟨p2,q2⟩ | f2
    ·exact p1.trans p2.symm
    ·exact absurd (lt _ _ f2) (by rw [q1]; exact ci _)
    ·exact absurd (lt _ _ f1) (by rw [q2]; exact ci _)
    ·exact a.inj x z c f1 f2
  ·exact zjD r h acc a hl
theorem ziG {M:Model} {A:Around} {E:Value→Shared→Prop} {s:Shared} {scope:Scope} {globals:Addr} {closure:List (Str×Addr)} {qual:Str} {env:Env} {Q:Env→Shared→Prop}
  (h:Q (newEnv scope s.heap.objs.size globals (cellsFrom (s.heap.objs.size+1) scope.names closure) qual none .none (some env) builtinsNs) { s with heap:=pushCells (s.heap.push { cls:=.type "dict",data:=.dict #[] }) scope.names }) :
  wpAny M A (newFunctionEnv scope globals closure [] qual none .none (some env)) Q E s:=by
 (simp only [newFunctionEnv,jy,if_true])
 (refine ae (wpAny_alloc ?_))
 (refine ae (wpAny_layCells _ (fun name kind cells=>by cases hkc:kind == cJ <;> simp [hkc]) _ _ _ _ ?_))
 rw [show ({ s with heap:=s.heap.push { cls:=.type "dict",data:=.dict #[] } }:Shared).heap.objs.size=s.heap.objs.size+1 from bA ..]
 (exact ae (ai (ai h)))
abbrev zI (X:Cx) (N':List Str) (scope:Scope) (s₃:Shared) (H₃:Hp) (ex:List Addr) (kP:List (Addr×Obj)):Cx :=
 { X with N:=N',s₀:=s₃,H₀:=H₃,env:=compEnvC scope (cellsFrom (s₃.heap.objs.size+1) scope.names (zai X.env.cells scope.names [])) s₃.heap.objs.size X.env,outer:=X.stack,stack:=X.stack,ex:=ex,fn:=fun x=>scope.names.lookup x == some .cell,pn:=X.pn++kP,xe:=fun _ _=>False }
def zgW (ifs:List Expr) (env:Env):Sem Bool :=
 forIn ifs true fun c r=>if r=true then do let ok ← isTrue c env (eval c env); pure (cn ok) else pure (cn r)
def zcG (X:Cx) (ifs:List Expr) (t:TT):Prop :=
 ∀ (kP:List (Addr×Obj)) (s:Shared) (σ:St) (H:Hp) (Q:Bool→Hp→Prop),Inv X kP σ H s→t σ H Q→wpAny (model X.prog X.w) X.A (zgW ifs X.env) (TP X kP σ Q) X.xe s
def zmO:TT:=fun _ H Q=>Q true H
theorem zN {X:Cx}:zcG X [] zmO:=fun _ _ _ H _ I h=>ai ⟨H,I,h⟩
theorem zcH {X:Cx} {c:Expr} {t:TT} (h:PT X c t):zcG X [c] t:=by
 intro kP s σ H Q I hw;unfold zgW;rw [dU];simp only [if_true];exact ae (ae (thn (h kP s σ H _ I hw) fun b s1 q=>ai (ai q)))
structure CompSc (X:Cx) (N':List Str) (ix:List (Option Nat)) (scope:Scope):Prop where
 kind:scope.kind = .function
 cells:∀ y∈scope.names,y.2 = .cell→scope.names.lookup y.1=some .cell
 names:∀ y∈scope.names,y.2 = .local→scope.names.lookup y.1=some .local
 free:∀ y∈scope.names,y.2 = .free→X.env.kindOf y.1=some .cell∨X.env.kindOf y.1=some .free
 len:N'.length=ix.length
 cap:∀ j i:Nat,ix[j]? = some (some i)→∃ x,N'[j]? = some x∧X.N[i]? = some x∧scope.names.lookup x=some .free
def zhF (xD:Scope) (oN N':List Str) (ix:List (Option Nat)) (scope:Scope):Bool :=
 (scope.kind == .function) && (scope.names.all fun y=>y.2 != .cell || scope.names.lookup y.1 == some .cell) && (scope.names.all fun y=>y.2 != .local || scope.names.lookup y.1 == some .local) &&
 (scope.names.all fun y=>y.2 != .free || (xD.names.lookup y.1 == some .cell || xD.names.lookup y.1 == some .free)) && (N'.length == ix.length) &&
 ((aR ix.length).all fun j=>match ix[j]? with
  | some (some i)=>(match N'[j]? with
   | some x=>oN[i]? == some x && scope.names.lookup x == some .free
   | none=>false)
  | _=>true)
theorem CompSc.of {X:Cx} {N':List Str} {ix:List (Option Nat)} {scope:Scope} (xD:Scope) (oN:List Str) (h1:X.env.scope=xD) (h2:X.N=oN) (hb:zhF xD oN N' ix scope=true):CompSc X N' ix scope:=by
 unfold zhF at hb;simp only [cM,dj] at hb;obtain⟨⟨⟨⟨⟨a,b⟩,c⟩,d⟩,e⟩,f⟩:=hb;refine⟨?_,fun y hy hl=>?_,fun y hy hl=>?_,fun y hy hf=>?_,by simpa using e,fun j i hj=>?_⟩
 ·revert a
  cases scope.kind <;> first | (intro _; rfl) | (intro h; exact absurd h #[D])
 ·have:=b y hy;rw [hl] at this;simpa using this
 ·have:=c y hy;rw [hl] at this;simpa using this
 ·have:=d y hy;rw [hf] at this;have e1:X.env.kindOf y.1=xD.names.lookup y.1:=by rw [← h1]; rfl
  rw [e1];simpa using this
 ·have lF:j < ix.length:=(aA.mp hj).1;have:=f j (bx.mpr lF);rw [hj] at this;cases hN:N'[j]? with
  | none =>
   rw [hN] at this;simp at this
  | some x =>
   rw [hN] at this;refine⟨x,rfl,?_⟩;rw [h2];simpa using this
def zcI (ix:List (Option Nat)) (σ:St):St:=ix.map fun o=>match o with
 | none=>none
 | some i=>(σ[i]?).join
theorem Inv.track {X:Cx} {kP:List (Addr×Obj)} {σ:St} {H:Hp} {s:Shared} {D:Addr} {o:HO} (I:Inv X kP σ H s) (hn:H D=none) (hs:X.s₀.heap.objs.size≤D) (hL:X.env.locals≠D)
  (hC:∀ x c,X.env.cells.lookup x=some c→c≠D) (hp:∀ p∈X.pn++kP,p.1≠D) (ok:zaz X.prog X.w (kW H D o) s.heap D o):Inv X kP σ (kW H D o) s:=by
 have ne:∀ b u,H b=some u→b≠D:=fun b u e=>zH e hn
 refine⟨I.ok,I.os,I.bare,⟨I.base.keep,I.base.slot,fun b u e n hx=>?_,I.base.there,fun b xs e=>?_,fun b u xs e=>?_,fun b ps e=>?_⟩,I.loc,I.cell,?_,fun x c e=>?_,fun p qg=>?_,fun b u e=>?_,I.len⟩
 ·have:b≠D:=bf (bd (aF e) hs);rw [zq this];exact I.base.free b u e n hx
 ·have:=I.base.tups b xs e;rw [zq (ne b _ this)];exact this
 ·have:=I.base.frzs b u xs e;rw [zq (ne b _ this)];exact this
 ·obtain⟨more,q⟩:=I.base.tbls b ps e;exact⟨more,by rw [zq (ne b _ q)]; exact q⟩
 ·rw [zq hL];exact I.free
 ·rw [zq (hC x c e)];exact I.freeC x c e
 ·obtain⟨a1,a2,a3⟩:=I.pin p qg;exact⟨a1,by rw [zq (hp p qg)]; exact a2,a3⟩
 ·by_cases hb:b=D
  ·subst hb;rw [zd] at e;cases e;exact ok
  ·rw [zq hb] at e;exact (I.hok b u e).stay (fun c v _ q=>q) (fun c q=>by rw [zq (ne c _ q)]; exact q) fun c xs q=>by rw [zq (ne c _ q)]; exact q
def cGo (g:TG) (ts:TT) (te:TE) (σ0:St) (J:It) (Q:VK) (H1:Hp):Prop :=
 ∃ W:Nat→Nat→List V→Hp→Prop,(∃ m,W 0 m [] H1)∧∀ i m ys H,W i m ys H →
  (J.stop i H∧∀ D,H D=none→Q (.ref D) (kW H D (.lst ys))) ∨
  (J.go i H∧∃ N:List V→Hp→Prop,(∀ qh H',N qh H'→∃ m',m' < m∧W (i+1) m' qh H')∧∀ x H',J.yld i H x H'→g x σ0 H' fun σ2 H2=>ts σ2 H2 fun b H3 =>
   if b=true then te σ2 H3 fun y H4=>ys.length < sizeLine∧N (ys++[y]) H4 else N ys H3)
def zmf (ix:List (Option Nat)) (wi:TI) (g:TG) (ts:TT) (te:TE):TE:=fun σ H Q=>wi σ H fun J H1=>cGo g ts te (zcI ix σ) J Q H1
theorem zfj {J:It} {n:Nat} {g:TG} {ts:TT} {te:TE} {σ0:St} {Q:VK} {H:Hp} (Pv:Nat→List V→Hp→Prop) (h0:Pv 0 [] H) (uS:∀ i ys H,i < n→Pv i ys H→J.go i H) (o8:∀ ys H,Pv n ys H→J.stop n H)
  (hs:∀ i x ys H H',i < n→Pv i ys H→J.yld i H x H'→g x σ0 H' fun σ2 H2=>ts σ2 H2 fun b H3=>if b=true then te σ2 H3 fun y H4=>ys.length < sizeLine∧Pv (i+1) (ys++[y]) H4 else Pv (i+1) ys H3)
  (hd:∀ ys H D,Pv n ys H→H D=none→Q (.ref D) (kW H D (.lst ys))):cGo g ts te σ0 J Q H:=by
 refine⟨fun i m ys H=>m=n - i∧i≤n∧Pv i ys H,⟨n,#[M],bh _,h0⟩,?_⟩;rintro i m ys H ⟨rfl,hi,p⟩;by_cases lF:i < n
 ·exact .inr ⟨uS i ys H lF p,Pv (i+1),fun qh H' p'=>⟨n - (i+1),#[O],rfl,lF,p'⟩,fun x H' y=>hs i x ys H H' lF p y⟩
 ·have e:i=n:=by lia
  subst e;exact .inl ⟨o8 ys H p,fun D hD=>hd ys H D p hD⟩
theorem zmP {J:It} {n:Nat} {g:TG} {tb:TS} {D:Ends} {σ:St} {H:Hp} (Pv:Nat→St→Hp→Prop) (h0:Pv 0 σ H) (uS:∀ i σ H,i < n→Pv i σ H→J.go i H) (o8:∀ σ H,Pv n σ H→J.stop n H)
  (hs:∀ i x σ H H',i < n→Pv i σ H→J.yld i H x H'→g x σ H' fun σ2 H2=>tb { D with nx:=Pv (i+1),ct:=Pv (i+1),bk:=D.nx } σ2 H2) (hd:∀ σ H,Pv n σ H→D.nx σ H) :
  ∃ W:Nat→Nat→St→Hp→Prop,(∃ m,W 0 m σ H)∧∀ i m σ H,W i m σ H →
   (J.stop i H∧D.nx σ H)∨(J.go i H∧∃ N:St→Hp→Prop,(∀ σ' H',N σ' H'→∃ m',m' < m∧W (i+1) m' σ' H')∧∀ x H',J.yld i H x H'→g x σ H' fun σ2 H2=>tb { D with nx:=N,ct:=N,bk:=D.nx } σ2 H2):=by
 refine⟨fun i m σ H=>m=n - i∧i≤n∧Pv i σ H,⟨n,#[M],bh _,h0⟩,?_⟩;rintro i m σ H ⟨rfl,hi,p⟩;by_cases lF:i < n
 ·exact .inr ⟨uS i σ H lF p,Pv (i+1),fun σ' H' p'=>⟨n - (i+1),#[O],rfl,lF,p'⟩,fun x H' y=>hs i x σ H H' lF p y⟩
 ·have e:i=n:=by lia
  subst e;exact .inl ⟨o8 σ H p,hd σ H p⟩
end L2
end
section
namespace L2
open PySem
abbrev Lp (J:It) (g:TG) (tb:TS) (D:Ends) (σ:St) (H:Hp):Prop:=∃ W:Nat→Nat→St→Hp→Prop,(∃ m,W 0 m σ H)∧∀ i m σ H,W i m σ H→(J.stop i H∧D.nx σ H)∨(J.go i H∧∃ N:St→Hp→Prop,(∀ σ' H',N σ' H'→∃ m',m' < m∧W (i+1) m' σ' H')∧∀ x H',J.yld i H x H'→g x σ H' fun σ2 H2=>tb { D with nx:=N,ct:=N,bk:=D.nx } σ2 H2)
abbrev Ends.l (D:Ends) (Pv:Nat→St→Hp→Prop) (i:Nat):Ends:={ D with nx:=Pv (i+1),ct:=Pv (i+1),bk:=D.nx }
section
variable {g:TG} {tb:TS} {D:Ends} {σ:St} {H:Hp} (Pv:Nat→St→Hp→Prop) {n:Nat} {K:ag} {a:Addr} {xs:List V}
theorem zdu {J:It} (h0:Pv 0 σ H) (uS:∀ i σ H,i < n→Pv i σ H→J.go i H) (o8:∀ σ H,Pv n σ H→J.stop n H) (hs:let N:=D.l Pv; let T:=tb; ∀ i x σ H H',i < n→Pv i σ H→J.yld i H x H'→g x σ H' (T (N i))) (hd:∀ σ H,Pv n σ H→D.nx σ H):Lp J g tb D σ H:=zmP Pv h0 uS o8 hs hd
theorem zaC (h0:Pv 0 σ H) (hl:∀ i σ H,i≤xs.length→Pv i σ H→kS K H a xs) (hs:let N:=D.l Pv; let T:=tb; ∀ i x σ H,xs[i]? = some x→Pv i σ H→g x σ H (T (N i))) (hd:∀ σ H,Pv xs.length σ H→D.nx σ H):Lp (Itl K a) g tb D σ H:=zjl Pv h0 hl hs hd
theorem zjE (h0:Pv 0 σ H) (hl:∀ i σ H,i≤xs.length→Pv i σ H→k6 K H a xs) (hs:let N:=D.l Pv; let T:=tb; ∀ i x σ H,xs[i]? = some x→Pv i σ H→g x σ H (T (N i))) (hd:∀ σ H,Pv xs.length σ H→D.nx σ H):Lp (Itt K a) g tb D σ H:=zk3 Pv h0 hl hs hd
theorem zcB {lo:Int} (h0:Pv 0 σ H) (hs:let N:=D.l Pv; let T:=tb; ∀ i σ H,i < n→Pv i σ H→g (.int (lo+i)) σ H (T (N i))) (hd:∀ σ H,Pv n σ H→D.nx σ H):Lp (Itr lo n) g tb D σ H:=ziA Pv h0 hs hd
end
theorem z9 {J:It} {n:Nat} {g:TG} {ts:TT} {te:TE} {σ0:St} {Q:VK} {H:Hp} (Pv:Nat→List V→Hp→Prop) (h0:Pv 0 [] H) (uS:∀ i ys H,i < n→Pv i ys H→J.go i H) (o8:∀ ys H,Pv n ys H→J.stop n H)
  (hs:let S:=σ0; let T:=ts; let E:=te; ∀ i x ys H H',i < n→Pv i ys H→J.yld i H x H'→g x S H' fun σ2 H2=>T σ2 H2 fun b H3=>if b=true then E σ2 H3 fun y H4=>ys.length < sizeLine∧Pv (i+1) (ys++[y]) H4 else Pv (i+1) ys H3)
  (hd:∀ ys H D,Pv n ys H→H D=none→Q (.ref D) (kW H D (.lst ys))):cGo g ts te σ0 J Q H:=zfj Pv h0 uS o8 hs hd
end L2
end
section
namespace L2
end L2
end
section
namespace L2
open PySem PySem.Spec PyProof.Rows
abbrev TM:=List V→St→Hp→(List V→Hp→Prop)→Prop
abbrev zdp (kR:List Value) (nn:Nat):Obj:={ cls:=.type "list",data:=.seq kR.toArray nn }
structure AccAt (Y:Cx) (kP:List (Addr×Obj)) (H:Hp) (s:Shared) (D:Addr) (ys:List V) (kR:List Value) (nn:Nat):Prop where
 fp:zb8 Y kP H D
 here:s.heap.get? D=some (zdp kR nn)
 vals:zF ys kR
 len:ys.length≤sizeLine
def zfk (js:List Nat) (σ:St):Prop:=∀ j∈js,∀ v,σ[j]?≠some (some v)
def Kp (js:List Nat) (σ σ2:St):Prop:=σ2.length=σ.length∧∀ j,j∉js→σ2[j]? = σ[j]?
theorem Kp.refl {js:List Nat} {σ:St}:Kp js σ σ:=⟨rfl,fun _ _=>rfl⟩
theorem Kp.set {js:List Nat} {σ σ2:St} {i:Nat} {v:Option V} (hi:i∈js) (h:Kp js σ σ2):Kp js σ (σ2.set i v):=by
 refine⟨by rw [im]; exact h.1,fun j hj=>?_⟩;rw [dD (fun z=>hj (by rw [← z]; exact hi))];exact h.2 j hj
def GS (js:List Nat) (g:TG):Prop:=∀ (σ σ1:St) (x:V) (H:Hp) (Q:St→Hp→Prop),Kp js σ σ1→g x σ1 H Q→g x σ1 H fun σ2 H2=>Kp js σ σ2∧Q σ2 H2
def GSs (js:List Nat) (g:TGs):Prop:=∀ (σ σ1:St) (xs:List V) (H:Hp) (Q:St→Hp→Prop),Kp js σ σ1→g xs σ1 H Q→g xs σ1 H fun σ2 H2=>Kp js σ σ2∧Q σ2 H2
theorem zdv {js:List Nat} {i:Nat} (hi:i∈js):GS js (za1 i):=fun σ σ1 x H Q hw h=>⟨hw.set hi,h⟩
theorem zhG {js:List Nat}:GSs js ziy:=fun σ σ1 xs H Q hw h=>⟨h.1,hw,h.2⟩
theorem zdX {js:List Nat} {i:Nat} {u:TGs} (hi:i∈js) (h2:GSs js u):GSs js (zcu (za1 i) u):=fun σ σ1 xs H Q hw h=>by
 obtain⟨v,r,e,h⟩:=h;exact⟨v,r,e,h2 σ _ r H Q (hw.set hi) h⟩
theorem zjF {js:List Nat} {K:ag} {n:Nat} {t:TGs} (h:GSs js t):GS js (zgM K n t):=fun σ σ1 x H Q hw hg=>by
 obtain⟨a,xs,e,hq,hl,hg⟩:=hg;exact⟨a,xs,e,hq,hl,h σ σ1 xs H Q hw hg⟩
theorem Inv.fewer {X:Cx} {kP n5:List (Addr×Obj)} {σ:St} {H:Hp} {s:Shared} (I:Inv X kP σ H s) (h:∀ p∈n5,p∈kP):Inv X n5 σ H s :=
 I.pins_of fun p hp=>I.pin p (aH _ (h p hp))
section
variable {Y:Cx} {kP:List (Addr×Obj)} {σ:St} {H:Hp} {s:Shared} {D:Addr} {ys:List V} {kR:List Value} {nn:Nat}
theorem AccAt.pin (a:AccAt Y kP H s D ys kR nn) (I:Inv Y kP σ H s):Inv Y (kP++[(D,zdp kR nn)]) σ H s :=
 I.pins_of fun p hp=>by
  rcases (aK.mp hp) with hp | hp
  ·exact I.pin p (aH _ hp)
  ·obtain rfl:p=(D,zdp kR nn):=by simpa using hp
   obtain⟨a0,a1,a2,_⟩:=a.fp;exact⟨a.here,a0,a1,a2,fun v z=>by cases z⟩
theorem AccAt.back {n5:List (Addr×Obj)} {σ':St} {H':Hp} {s':Shared} (a:AccAt Y kP H s D ys kR nn) (I:Inv Y n5 σ' H' s') (hm:(D,zdp kR nn)∈n5):AccAt Y kP H' s' D ys kR nn:=by
 have p:=I.pin (D,zdp kR nn) (aH _ hm);exact⟨⟨p.2.1,a.fp.2⟩,p.1,a.vals,a.len⟩
end
def PM (Y:Cx) (D:Addr) (js:List Nat) (mk:Sem Fin→Sem Fin) (tm:TM):Prop :=
 ∀ (last:Sem Fin) (kP:List (Addr×Obj)) (s:Shared) (σ:St) (H:Hp) (ys:List V) (kR:List Value) (nn:Nat) (Q:List V→Hp→Prop) (Φ:Fin→Shared→Prop),Inv Y kP σ H s→AccAt Y kP H s D ys kR nn→zfk js σ→tm ys σ H Q →
  (∀ (s':Shared) (qh:List V) (its':List Value) (wu:Nat) (H':Hp),Inv Y kP σ H' s'→AccAt Y kP H' s' D qh its' wu→Q qh H'→wpAny (model Y.prog Y.w) Y.A last Φ (fun _ _=>False) s') →
  wpAny (model Y.prog Y.w) Y.A (mk last) Φ (fun _ _=>False) s
def zeR (elt:Expr) (acc:Value) (env:Env) (last:Sem Fin):Sem Fin:=(eval elt env >>= fun x=>call (.builtin "list.append") [acc,x] >>= fun _=>pure ()) >>= fun _=>last
def zhH (e iter:Expr) (d:Nat) (acc:Value) (env:Env) (last:Sem Fin):Sem Fin :=
 eval iter env >>= fun x=>standAt iter.pos >>= fun _=>foldedSetIterable iter env x >>= fun x=>holding [x] (pyIter x) >>= fun wd=>runOwn (.compStart e d wd acc env) env >>= fun _=>last
def zhI (te:TE):TM:=fun ys σ H Q=>te σ H fun y H4=>ys.length < sizeLine∧Q (ys++[y]) H4
def cIn (g:TG) (ts:TT) (tm:TM) (σ:St) (J:It) (Q:List V→Hp→Prop) (ys:List V) (H1:Hp):Prop :=
 ∃ W:Nat→Nat→List V→Hp→Prop,(∃ m,W 0 m ys H1)∧∀ i m ys H,W i m ys H →
  (J.stop i H∧Q ys H) ∨
  (J.go i H∧∃ N:List V→Hp→Prop,(∀ qh H',N qh H'→∃ m',m' < m∧W (i+1) m' qh H')∧∀ x H',J.yld i H x H'→g x σ H' fun σ2 H2=>ts σ2 H2 fun b H3 =>
   if b=true then tm ys σ2 H3 N else N ys H3)
def zhJ (wi:TI) (g:TG) (ts:TT) (tm:TM):TM:=fun ys σ H Q=>wi σ H fun J H1=>cIn g ts tm σ J Q ys H1
def zfl (ix:List (Option Nat)) (wi:TI) (g:TG) (ts:TT) (tm:TM):TE:=fun σ H Q=>wi σ H fun J H1=>cIn g ts tm (zcI ix σ) J (fun ys H'=>∀ D,H' D=none→Q (.ref D) (kW H' D (.lst ys))) [] H1
theorem thx {α:Type} {X:Cx} {m:Sem α} {P Q:α→Shared→Prop} {E:Value→Shared→Prop} {s:Shared} (hx:X.xe=fun _ _=>False) (h:wpAny (model X.prog X.w) X.A m P X.xe s) (k:∀ a s',P a s'→Q a s'):wpAny (model X.prog X.w) X.A m Q E s :=
 cE h k fun _ _ z=>by rw [hx] at z; exact z.elim
theorem zgX {Y:Cx} {D:Addr} {elt:Expr} {te:TE} (hx:Y.xe=fun _ _=>False) (he:PE Y elt te):PM Y D [] (zeR elt (.ref D) Y.env) (zhI te):=by
 intro last kP s σ H ys kR nn Q Φ I a no h k;unfold zeR;refine ae (ae (thx hx (he (kP++[(D,zdp kR nn)]) s σ H _ (a.pin I) h) fun yv s1 ⟨y,H1,I1,r1,hz,q1⟩=>ae ?_));have a1:=a.back I1 (aH _ az);have J1:Inv Y kP σ H1 s1:=I1.fewer fun p hp=>aP _ hp
 have rG:=a1.vals.length;refine dS jv ⟨_,a1.here,rfl⟩ jf (iY _ _) (jH D kR.toArray nn yv (by rw [am]; lia)) ⟨a1.here,?_⟩;refine ai ?_;have q:=jY a1.here (·.push yv);have k10:∀ b o,b≠D→s1.heap.get? b=some o→(s1.heap.update D (cU (·.push yv))).get? b=some o:=fun b o hb e=>(fm s1.heap (cU (·.push yv)) (dG hb)).trans e
 obtain⟨b0,b1,b2,b3,b4,b5⟩:=a1.fp;have I11:Inv Y kP σ H1 { s1 with heap:=s1.heap.update D (cU (·.push yv)) }:=J1.turned (t':=s1.toks) k10 b0 b1 b3 b4 b5;have e1:kR.toArray.push yv=(kR++[yv]).toArray:=by simp
 rw [e1] at q;refine k _ (ys++[y]) (kR++[yv]) _ H1 I11 ⟨a1.fp,q,a1.vals.append (.cons r1 .nil),?_⟩ q1;rw [ao,d7];lia
section
variable {Y:Cx} {D:Addr} {js js':List Nat} {elt:Expr} {gens:List Comprehension} {scope:Scope} {pos:Pos} {d:Nat} {tg:Expr} {ifs:List Expr} {p:Pos} {mk:Sem Fin→Sem Fin} {g:TG} {ts:TT} {tm:TM}
def zbU (tg:Expr) (ifs:List Expr) (p:Pos) (mk:Sem Fin→Sem Fin) (c:Code) (it:Value) (env:Env):Sem Fin :=
 standAt p >>= fun _=>pyNext it >>= fun r=>match r with
  | none=>pure (.done .next)
  | some v=>letOwnedTupleGo tg it v >>= fun _=>assign tg env v >>= fun _=>zgW ifs env >>= fun ok=>if ok=true then mk (again c) else again c
theorem zhK (hc:Y.calm=true) (hx:Y.xe=fun _ _=>False) (tz:GS js g) (nG:∀ j∈js,j∉js') (hg:PG Y tg g) (ht:zcG Y ifs ts) (hm:PM Y D js' mk tm)
  (nA:∀ it,compTurn (.ListComp elt gens scope pos) d it (.ref D) Y.env=zbU tg ifs p mk (.compLoop (.ListComp elt gens scope pos) d it (.ref D) Y.env) it Y.env)
  {kP:List (Addr×Obj)} {σ:St} {H2:Hp} {s2:Shared} {it:Addr} {fp:List Addr} {tn:Nat→Heap→Prop} {J:It} {Q:List V→Hp→Prop} {R:Result→Shared→Prop} {ys:List V} {kR:List Value} {nn:Nat}
  (I2:Inv Y kP σ H2 s2) (a2:AccAt Y kP H2 s2 D ys kR nn) (no:zfk (js++js') σ) (T:Turn Y.prog Y.w Y.K tg J fp it tn) (lT:tn 0 s2.heap) (f2:∀ b∈fp,zb8 Y kP H2 b) (fD:∀ b∈fp,b≠D) (q:cIn g ts tm σ J Q ys H2)
  (hR:∀ (s':Shared) (qh:List V) (its':List Value) (wu:Nat) (H':Hp),Inv Y kP σ H' s'→AccAt Y kP H' s' D qh its' wu→Q qh H'→R (.ok .next) s') :
  codeAny (model Y.prog Y.w) Y.A (.compLoop (.ListComp elt gens scope pos) d (.ref it) (.ref D) Y.env) R s2:=by
 obtain⟨W,⟨m0,w0⟩,turn⟩:=q;have xE:∀ {H':Hp} {kR:List Value} {nn:Nat},(∀ b∈fp,H' b=none)→∀ b∈fp,zb8 Y (kP++[(D,zdp kR nn)]) H' b:=fun {H' kR nn} hn b hb=>by
  obtain⟨_,a1,a2,a3,a4,a5⟩:=f2 b hb;refine⟨hn b hb,a1,a2,a3,a4,fun p hp=>?_⟩;rcases (aK.mp hp) with hp | hp
  ·exact a5 p (aP _ hp)
  ·rcases (aK.mp hp) with hp | hp
   ·exact a5 p (aH _ hp)
   ·obtain rfl:p=(D,zdp kR nn):=by simpa using hp
    exact (fD b hb).symm
 refine codeAny_loop rfl (fun n s'=>∃ i ys H' kR nn,Inv Y kP σ H' s'∧tn i s'.heap∧(∀ b∈fp,H' b=none)∧AccAt Y kP H' s' D ys kR nn∧W i n ys H') ?_ m0
  ⟨0,ys,H2,kR,nn,I2,lT,fun b hb=>(f2 b hb).1,a2,w0⟩
 rintro n s5 ⟨i,ys,H5,kR,nn,I5,xy,fr5,a5,w5⟩;show wpAny _ Y.A ((compTurn (.ListComp elt gens scope pos) d (.ref it) (.ref D) Y.env).onRaise (fun x=>do noteFrame x Y.env; theTreesLotGoes x)) _ _ s5;refine wpAny_noted ?_;rw [nA];unfold zbU;have I5p:=a5.pin I5
 (refine ae (eA (ae ?_)))
 rcases turn i n ys H5 w5 with ⟨stop,qn⟩ | ⟨go,N,hN,step⟩
 ·refine cE (T.done Y rfl rfl rfl hc i _ s5 _ H5 (fun _ _=>False) I5p (xE fr5) xy stop) (fun r s6 ⟨hr,I6⟩=>?_) fun _ _ z=>z.elim
  subst hr;exact ai (hR s6 ys kR nn H5 (I6.fewer fun p hp=>aP _ hp) (a5.back I6 (aH _ az)) qn)
 ·refine cE (T.item Y rfl rfl rfl hc i _ s5 _ H5 (fun _ _=>False) I5p (xE fr5) xy go) (fun r s6 ⟨u,hr,h6⟩=>?_) fun _ _ z=>z.elim
  subst hr;refine ae (cE h6 (fun _ s7 ⟨x,H7,I7,r7,y7,B7,fr7⟩=>?_) fun _ _ z=>z.elim);have I7':=I7.pinned (xE fr7) (T.obj _ _ B7);refine ae (thx hx (hg _ s7 _ H7 x u _ I7' r7 (tz σ σ x H7 _ Kp.refl (step x H7 y7))) fun _ s8 ⟨σ8,H8,I8,kp,q8⟩=>?_);refine ae (thx hx (ht _ s8 σ8 H8 _ I8 q8) fun ok s9 ⟨H9,I9,q9⟩=>?_);have mD:(D,zdp kR nn)∈(kP++[(D,zdp kR nn)])++zb9 fp s7.heap:=aP _ (aH _ az);have a9:=a5.back I9 mD;have K9:Inv Y (kP++zb9 fp s7.heap) σ8 H9 s9:=I9.fewer fun p hp=>(aK.mp hp).elim (fun z=>aP _ (aP _ z)) fun z=>aH _ z
  have wk:∀ (j:Nat) v,σ[j]? = some (some v)→σ8[j]? = some (some v):=fun j v e=>by
   have hj:j∉js:=fun z=>no j (aP _ z) v e
   rw [kp.2 j hj];exact e
  have back:∀ {H':Hp} {s':Shared},Inv Y (kP++zb9 fp s7.heap) σ8 H' s'→Inv Y kP σ H' s'∧tn (i+1) s'.heap∧∀ b∈fp,H' b=none:=fun {H' s'} I'=>by
   refine⟨(I'.fewer fun p hp=>aP _ hp).weak kp.1.symm wk,T.keep _ _ _ B7 fun b hb o e=>(I'.pin (b,o) (aH _ (aH _ (zbQ hb e)))).1,fun b hb=>?_⟩;obtain⟨o,e,d⟩:=T.obj _ _ B7 b hb;exact (I'.pin (b,o) (aH _ (aH _ (zbQ hb e)))).2.1
  cases ok with
  | false =>
   rw [if_neg aL] at q9 ⊢;obtain⟨m',B8,w9⟩:=hN _ _ q9;obtain⟨b1,b2,b3⟩:=back K9;exact ai ⟨rfl,m',B8,i+1,ys,H9,kR,nn,b1,b2,b3,a9,w9⟩
  | true =>
   rw [if_pos rfl] at q9 ⊢;have a9':AccAt Y (kP++zb9 fp s7.heap) H9 s9 D ys kR nn:=by
    obtain⟨b0,b1,b2,b3,b4,b5⟩:=a9.fp;refine⟨⟨b0,b1,b2,b3,b4,fun p hp=>?_⟩,a9.here,a9.vals,a9.len⟩;rcases (aK.mp hp) with hp | hp
    ·exact b5 p (aP _ hp)
    ·rcases (aK.mp hp) with hp | hp
     ·exact b5 p (aH _ hp)
     ·exact fD _ (zeI hp).1
   have no':zfk js' σ8:=fun j hj v e=>by
    have oB:j∉js:=fun z=>nG j z hj
    rw [kp.2 j oB] at e;exact no j (aH _ hj) v e
   refine cE (hm (again _) _ s9 σ8 H9 ys kR nn N (fun fin s'=>match fin with | .done f=>R (.ok f) s' | .again c'=>c'=_∧∃ m,m < n∧_) K9 a9' no' q9 fun s' qh its' wu H' I' a' n'=>?_) (fun _ _ z=>z) fun _ _ z=>z.elim
   obtain⟨m',B8,w'⟩:=hN _ _ n';obtain⟨b1,b2,b3⟩:=back I';obtain⟨c0,c1,c2,c3,c4,c5⟩:=a'.fp;refine ai ⟨rfl,m',B8,i+1,qh,H',its',wu,b1,b2,b3,⟨⟨c0,c1,c2,c3,c4,fun p hp=>?_⟩,a'.here,a'.vals,a'.len⟩,w'⟩;rcases (aK.mp hp) with hp | hp
   ·exact c5 p (aP _ hp)
   ·exact c5 p (aH _ (aP _ hp))
theorem zfU {prog:Program} {w:World} {A:Around} {R:Result→Shared→Prop} {s:Shared} {iter:Expr} {it acc:Value} {env:Env} (hd:gens[d]? = some ⟨tg,iter,ifs,0⟩)
  (h0:codeAny (model prog w) A (.compLoop (.ListComp elt gens scope pos) d it acc env) R s)
  (h:wpAny (model prog w) A (pyIter it) (fun B9 s'=>codeAny (model prog w) A (.compLoop (.ListComp elt gens scope pos) d B9 acc env) R s') (fun _ _=>False) s) :
  codeAny (model prog w) A (.compStart (.ListComp elt gens scope pos) d it acc env) R s:=by
 refine codeAny_of_tree ?_;show wpAny _ _ ((compStart (.ListComp elt gens scope pos) d it acc env).onRaise (fun x=>do noteFrame x env; standAt theWindowsPlace)) _ _ s;refine wpAny_notedAt ?_;unfold compStart;have e1:(clausesOf (.ListComp elt gens scope pos))[d]? = some ⟨tg,iter,ifs,0⟩:=hd;rw [e1]
 (show wpAny _ _ (ask >>= _) _ _ s)
 (refine ae (wpAny_askSetting (wpAny_ite ?_)))
 split
 ·first
   | (exact ae (ai (ai ⟨rfl,h0⟩)))
   | (exact ai ⟨rfl,h0⟩)
 ·first
   | exact ae (cg (ae (eA (ae (cE h (fun B9 s' h'=>ai (And.intro rfl h')) fun _ _ x=>x.elim)))))
   | (refine ae (cg ?_); show wpAny _ _ (standAt iter.pos >>= _) _ _ s; exact ae (eA (ae (cE h (fun B9 s' h'=>ai (And.intro rfl h')) fun _ _ x=>x.elim))))
theorem zmQ {iter:Expr} {wi:TI} (hc:Y.calm=true) (hx:Y.xe=fun _ _=>False) (tz:GS js g) (nG:∀ j∈js,j∉js') (hi:PI Y tg iter wi) (hg:PG Y tg g) (ht:zcG Y ifs ts) (hm:PM Y D js' mk tm) (hd:gens[d]? = some ⟨tg,iter,ifs,0⟩)
  (nA:∀ it,compTurn (.ListComp elt gens scope pos) d it (.ref D) Y.env=zbU tg ifs p mk (.compLoop (.ListComp elt gens scope pos) d it (.ref D) Y.env) it Y.env)
  (hs:∀ x,foldedSetIterable iter Y.env x=pure x:=by intro _; rfl) :
  PM Y D (js++js') (zhH (.ListComp elt gens scope pos) iter d (.ref D) Y.env) (zhJ wi g ts tm):=by
 intro last kP s σ H ys kR nn Q Φ I a no h k;unfold zhH;refine ae (thx hx (hi (kP++[(D,zdp kR nn)]) s σ H _ (a.pin I) h) fun v s1 h1=>ae (eA (ae ?_)));rw [hs v];refine ai (ae (bP (thx hx h1 fun wd s2 h2=>?_)));obtain⟨it,fp,tn,J,H2,e,I2,T,lT,f2,q⟩:=h2;subst e;have a2:=a.back I2 (aH _ az);have J2:Inv Y kP σ H2 s2:=I2.fewer fun p hp=>aP _ hp
 have B':∀ b∈fp,zb8 Y kP H2 b:=fun b hb=>by
  obtain⟨c0,c1,c2,c3,c4,c5⟩:=f2 b hb;refine⟨c0,c1,c2,c3,c4,fun p hp=>?_⟩;rcases (aK.mp hp) with hp | hp
  ·exact c5 p (aP _ hp)
  ·exact c5 p (aH _ (aP _ hp))
 have fD:∀ b∈fp,b≠D:=fun b hb=>((f2 b hb).2.2.2.2.2 (D,zdp kR nn) (aH _ (aH _ az))).symm
 have loop:codeAny (model Y.prog Y.w) Y.A (.compLoop (.ListComp elt gens scope pos) d (.ref it) (.ref D) Y.env) (fun r s'=>match r with | .ok f=>wpAny (model Y.prog Y.w) Y.A last Φ (fun _ _=>False) s' | .error e=>cameBackBy (model Y.prog Y.w) Y.A Y.env (fun _ _=>False) e s') s2 :=
  zhK hc hx tz nG hg ht hm nA J2 a2 no T lT B' fD q fun s' qh its' wu H' I' a' q'=>k s' qh its' wu H' I' a' q'
 exact ae (wpAny_runOwn (zfU hd loop (T.self _ 0 _ _ _ lT loop)))
end
section
variable {X:Cx} {elt tg iter:Expr} {ifs:List Expr} {gs:List Comprehension} {scope:Scope} {pos:Pos} {N':List Str} {ix:List (Option Nat)} {js js':List Nat} {g:TG} {ts:TT} {tm:TM} {mk:Addr→Env→Sem Fin→Sem Fin}
theorem zdh {kP:List (Addr×Obj)} {σ:St} {H2:Hp} {s2:Shared} {it:Addr} {fp:List Addr} {tn:Nat→Heap→Prop} {J:It} {Q:VK} {E:Value→Shared→Prop} {RR:Value→Addr→Result→Shared→Prop}
  (SC:CompSc X N' ix scope) (hc:X.calm=true) (tz:GS js g) (nG:∀ j∈js,j∉js') (tB:∀ j∈js++js',ix[j]? = some none)
  (hg:∀ s₃ H₃ ex kP,PG (zI X N' scope s₃ H₃ ex kP) tg g) (ht:∀ s₃ H₃ ex kP,zcG (zI X N' scope s₃ H₃ ex kP) ifs ts) (hm:∀ s₃ H₃ ex kP D,PM (zI X N' scope s₃ H₃ ex kP) D js' (mk D (zI X N' scope s₃ H₃ ex kP).env) tm)
  (nA:∀ it D env,compTurn (.ListComp elt (⟨tg,iter,ifs,0⟩ :: gs) scope pos) 0 it (.ref D) env=zbU tg ifs iter.pos (mk D env) (.compLoop (.ListComp elt (⟨tg,iter,ifs,0⟩ :: gs) scope pos) 0 it (.ref D) env) it env)
  (I2:Inv X kP σ H2 s2) (T:Turn X.prog X.w X.K tg J fp it tn) (lT:tn 0 s2.heap) (f2:∀ b∈fp,zb8 X kP H2 b) (q:cIn g ts tm (zcI ix σ) J (fun ys H'=>∀ D,H' D=none→Q (.ref D) (kW H' D (.lst ys))) [] H2)
  (hRR:∀ (D C:Addr) (s':Shared) (ys:List V) (H':Hp) (m:Str→Option Value),Inv X kP σ (kW H' D (.lst ys)) s'→zb8 X kP (kW H' D (.lst ys)) C→s'.heap.Ns C m→Q (.ref D) (kW H' D (.lst ys))→RR (.ref D) C (.ok .next) s') :
  wpAny (model X.prog X.w) X.A (newList []) (fun acc s₃=>wpAny (model X.prog X.w) X.A (newFunctionEnv scope X.env.globals (zai X.env.cells scope.names []) [] X.env.qual none .none (some X.env)) (fun yk s₄ =>
   codeAny (model X.prog X.w) X.A (.compStart (.ListComp elt (⟨tg,iter,ifs,0⟩ :: gs) scope pos) 0 (.ref it) acc { yk with scope:=relabel scope X.env }) (RR acc yk.locals) s₄) E s₃) E s2:=by
 have yl:∀ y∈scope.names,y.2 = .free→∃ c,X.env.cells.lookup y.1=some c:=fun y hy hf=>I2.ok.has y.1 (SC.free y hy hf)
 have qH:∀ x c,(zai X.env.cells scope.names []).lookup x=some c→X.env.cells.lookup x=some c:=zbE scope.names [] yl (fun x c e=>by simp at e);refine bu (ziG ?_);have I3:Inv X kP σ H2 { s2 with heap:=s2.heap.push { cls:=.type "list",dict:=none,data:=.seq ([]:List Value).toArray } }:=I2.kept (t':=s2.toks) fun b o e=>ah _ e
 have Ca:(s2.heap.push { cls:=.type "list",dict:=none,data:=.seq ([]:List Value).toArray }).get? s2.heap.objs.size=some { cls:=.type "list",dict:=none,data:=.seq ([]:List Value).toArray }:=aG _ rfl;have ym:tn 0 (s2.heap.push { cls:=.type "list",dict:=none,data:=.seq ([]:List Value).toArray }):=T.keep _ _ _ lT fun b hb o e=>ah _ e
 have yn:(s2.heap.push { cls:=.type "list",dict:=none,data:=.seq ([]:List Value).toArray }).objs.size=s2.heap.objs.size+1:=bA _ _;generalize hh3:s2.heap.push { cls:=.type "list",dict:=none,data:=.seq ([]:List Value).toArray }=h3 at *;have Cb:=T.obj _ _ lT;have vN:∀ b∈fp,b < s2.heap.objs.size:=fun b hb=>by obtain⟨o,e,_⟩:=Cb b hb; exact aF e
 have stk:∀ b∈frs X.stack,b=X.env.locals∨b∈X.fs:=fun b hb=>aC.mp (I2.stkSub b hb)
 have yo:zb8 X kP H2 s2.heap.objs.size:=I2.fpOk (af _) I2.fresh;have rT:∀ b∈s2.heap.objs.size :: fp,zb8 X kP H2 b:=fun b hb=>by
  rcases (aC.mp hb) with e | hb
  ·rw [e]; exact yo
  ·exact f2 b hb
 have wx:∀ b∈s2.heap.objs.size :: fp,b < h3.objs.size:=fun b hb=>by
  rw [yn];rcases (aC.mp hb) with e | hb; · rw [e]; exact j1 _
  ·exact dC (vN b hb)
 have vO:∀ b∈s2.heap.objs.size :: fp,b∉frs X.stack:=fun b hb z=>by
  obtain⟨_,a1,a2,_⟩:=rT b hb;rcases stk b z with e | e
  ·exact a1 e
  ·exact a2 e
 have hns₁:(pushCells (h3.push { cls:=.type "dict",data:=.dict #[] }) scope.names).Ns h3.objs.size (fun _=>none):=(Heap.Ns.new h3 (.type "dict")).keeps (pushCells_keeps _ _);have old:∀ b o,h3.get? b=some o→(pushCells (h3.push { cls:=.type "dict",data:=.dict #[] }) scope.names).get? b=some o:=fun b o e=>pushCells_keeps _ _ b o (ah _ e)
 have Cc:∀ x c,X.env.cells.lookup x=some c→c < h3.objs.size:=fun x c e=>by
  obtain⟨v,q⟩:=I3.cell x c e;exact q.lt
 have co:CO (pushCells (h3.push { cls:=.type "dict",data:=.dict #[] }) scope.names) (h3.objs.size+1) (zai X.env.cells scope.names []) (cellsFrom (h3.objs.size+1) scope.names (zai X.env.cells scope.names [])):=by
  have:=zjD (lo:=h3.objs.size+1) (old:=zai X.env.cells scope.names []) scope.names (h3.push { cls:=.type "dict",data:=.dict #[] }) (zai X.env.cells scope.names [])
   ⟨fun x c e=>.inr ⟨e,dC (Cc x c (qH x c e))⟩,fun x y c e1 e2=>I2.ok.inj x y c (qH x c e1) (qH y c e2)⟩ (by rw [bA]; exact af _)
  rw [bA] at this;exact this
 generalize pushCells (h3.push { cls:=.type "dict",data:=.dict #[] }) scope.names=h₁ at hns₁ old co ⊢;have Cd:∀ {x c},(cellsFrom (h3.objs.size+1) scope.names (zai X.env.cells scope.names [])).lookup x=some c→(h₁.IsCell c none∧h3.objs.size+1≤c)∨X.env.cells.lookup x=some c:=fun {x c} e=>(co.each x c e).elim .inl fun z=>.inr (qH x c z.1)
 have cfr:∀ x,scope.names.lookup x=some .free→(cellsFrom (h3.objs.size+1) scope.names (zai X.env.cells scope.names [])).lookup x=(zai X.env.cells scope.names []).lookup x:=fun x hx=>zfh _ _ _ _ fun z=>by
  have:=SC.cells _ z rfl;rw [hx] at this;cases this
 let s3:Shared:={ s2 with heap:=h3 }
 let Y:Cx:=zI X N' scope s3 H2 (s2.heap.objs.size :: fp) kP
 have sN:Inv X kP σ H2 s3:=I3;have okY:Y.Ok:=by
  refine⟨I2.ok.mod,SC.kind,I2.ok.glob,I2.ok.blt,af _,co.inj,fun x hx=>?_,fun x c z e=>?_,I2.ok.hd,I2.ok.frames,.inl rfl,fun b hb=>?_,fun b o e=>sN.bs b o e,?_,fun b o e hb=>?_,vO,sN.stack,sN.stkFree⟩
  ·have tD:=zcF (env:=X.env) (names:=scope.names) (x:=x) hx;rcases tD with tD | tD
   ·obtain⟨c,e⟩:=zbT (cs:=X.env.cells) scope.names [] x (.inr (lookup_mem tD));exact⟨c,(cfr x tD).trans e⟩
   ·obtain⟨c,e,_⟩:=zfi scope.names (h3.objs.size+1) (zai X.env.cells scope.names []) x (lookup_mem tD);exact⟨c,e⟩
  ·obtain⟨c',e',l'⟩:=zfi scope.names (h3.objs.size+1) (zai X.env.cells scope.names []) x (lookup_mem (by have z':(scope.names.lookup x == some cJ)=true:=z; simpa using z'));have e2:(cellsFrom (h3.objs.size+1) scope.names (zai X.env.cells scope.names [])).lookup x=some c:=e;rw [e'] at e2;cases e2;exact gA l'
  ·refine⟨bf (wx b hb),fun x c e=>(Cd e).elim (fun z y=>?_) fun z=>(rT b hb).2.2.2.2.1 x c z⟩;subst y;exact ci _ (bd (wx _ hb) (gA z.2))
  ·exact aU I2.ok.bsz sN.sz
  ·obtain⟨_,_,_,a3,_⟩:=rT b hb;rcases a3 with z | z
   ·exact I2.ok.noex b o e z
   ·have:=(I2.ok.bs b o e).1;exact absurd (bd (aF this) z) (ci _)
 have Ce:Inv Y [] (zcI ix σ) H2 { s3 with heap:=h₁ }:=by
  refine⟨okY,rfl,I2.bare,Un.kept old,⟨_,hns₁,fun j x v e1 e2 e3=>?_⟩,fun x c e=>?_,sN.fresh,fun x c e=>(Cd e).elim (fun z=>sN.hok.fresh (gA z.2)) fun z=>I2.freeC x c z,fun p hp=>?_,sN.hok.kept old,?_⟩
  ·unfold zcI at e2;rw [ak] at e2;cases hj:ix[j]? with
   | none=>rw [hj] at e2; simp at e2
   | some oi =>
    rw [hj] at e2;cases oi with
    | none=>simp at e2
    | some i =>
     obtain⟨y,h1,h2,Ba⟩:=SC.cap j i hj;have hxy:y=x:=by
      have e1':N'[j]? = some x:=e1;rw [h1] at e1';exact aM e1'
     subst hxy;have yp:(σ[i]?).join=some v:=by simpa using e2
     have Cf:σ[i]? = some (some v):=by
      cases hs:σ[i]? with
      | none=>rw [hs] at yp; simp at yp
      | some w=>rw [hs] at yp; simp at yp; rw [yp]
     obtain⟨m,hn,hl⟩:=sN.loc;have hk:=SC.free (y,.free) (lookup_mem Ba) rfl;have Ci:Vis X.env.scope y:=hk.elim (fun z=>.inr (.inl z)) fun z=>.inr (.inr z)
     obtain⟨u,r,l⟩:=hl i y v h2 Cf Ci;refine⟨u,r,.inr ⟨zbk Ba,?_⟩⟩;obtain⟨c,mh⟩:=zbT (cs:=X.env.cells) scope.names [] y (.inr (lookup_mem Ba));refine⟨c,(cfr y Ba).trans mh,?_⟩;rcases l with ⟨uE,_⟩ | ⟨_,c',k7,n6⟩
     ·rcases hk with hk | hk
      ·have qi:X.env.kindOf y=some .cell:=hk;rw [qi] at uE; cases uE
      ·have qi:X.env.kindOf y=some .free:=hk;rw [qi] at uE; cases uE
     ·have:=qH y c mh;rw [k7] at this;cases this;obtain⟨o,ho,hd⟩:=n6;exact⟨o,old _ _ ho,hd⟩
  ·rcases Cd e with z | z
   ·exact⟨_,z.1⟩
   ·obtain⟨v,o,ho,hd⟩:=sN.cell x c z;exact⟨v,o,old _ _ ho,hd⟩
  ·have qg:p∈X.pn++kP:=by
    have:p∈(X.pn++kP)++([]:List (Addr×Obj)):=hp;simpa using this
   obtain⟨a1,a2,a3,a4,a5⟩:=sN.pin p qg;exact⟨old _ _ a1,a2,bf (aF a1),fun z=>(stk _ z).elim a3 a4,a5⟩
  ·unfold zcI;rw [ab];exact SC.len.symm
 have xE:∀ {H':Hp},(∀ b∈s2.heap.objs.size :: fp,H' b=none)→∀ b∈s2.heap.objs.size :: fp,zb8 Y [] H' b:=fun {H'} hn b hb=>by
  obtain⟨_,a1,a2,a3,a4,a5⟩:=rT b hb;refine⟨hn b hb,bf (wx b hb),vO b hb,.inl hb,(okY.exf b hb).2,fun p hp=>?_⟩;have:p∈(X.pn++kP)++([]:List (Addr×Obj)):=hp;exact a5 p (by simpa using this)
 have nn2:∀ b∈s2.heap.objs.size :: fp,H2 b=none:=fun b hb=>(rT b hb).1
 have wm:zfk (js++js') (zcI ix σ):=fun j hj v e=>by
  unfold zcI at e;rw [ak,tB j hj] at e;simp at e
 have loop:∀ s₅:Shared,s₅ = { s2 with heap:=h₁ } →
   codeAny (model X.prog X.w) X.A (.compLoop (.ListComp elt (⟨tg,iter,ifs,0⟩ :: gs) scope pos) 0 (.ref it) (.ref s2.heap.objs.size) (compEnvC scope (cellsFrom (h3.objs.size+1) scope.names (zai X.env.cells scope.names [])) h3.objs.size X.env)) (RR (.ref s2.heap.objs.size) h3.objs.size) s₅:=by
  rintro s₅ rfl;refine zhK (Y:=Y) (kP:=[]) (σ:=zcI ix σ) (kR:=[]) (nn:=0) hc rfl tz nG (hg s3 H2 _ kP) (ht s3 H2 _ kP) (hm s3 H2 _ kP s2.heap.objs.size) (fun it=>nA it _ _) Ce ⟨xE nn2 _ az,old _ _ Ca,.nil,bh _⟩ wm T (T.keep _ _ _ ym fun b hb o e=>old b o e)
   (fun b hb=>xE nn2 b (aj _ hb)) (fun b hb=>bf (vN b hb)) q fun s6 ys kR nn H5 I6 a6 qn=>?_
  have dn5:H5 s2.heap.objs.size=none:=a6.fp.1;have I7:Inv X kP σ H5 s6:=by
   refine sN.call' (s':=s6) (ch:=s2.heap.objs.size :: fp) I6.os I6.base I6.hok I6.bare fun b hb=>?_
   obtain⟨_,a1,a2,a3,a4,a5⟩:=rT b hb;exact⟨a3,a1,a4,a5⟩
  have I8:Inv X kP σ (kW H5 s2.heap.objs.size (.lst ys)) s6:=by
   obtain⟨_,a1,a2,a3,a4,a5⟩:=yo;exact I7.track dn5 I2.sz (dG a1) a4 a5 ⟨a6.len,kR,nn,a6.vals,a6.here⟩
  obtain⟨mm,Bb,_⟩:=I6.loc;have dne:h3.objs.size≠s2.heap.objs.size:=by rw [yn]; exact gV _
  refine hRR _ _ s6 ys H5 mm I8 (sN.fpOk (H':=kW H5 s2.heap.objs.size (.lst ys)) (af _) ?_) Bb (qn _ dn5);show kW H5 s2.heap.objs.size (.lst ys) h3.objs.size=none;rw [zq dne];exact I6.free
 exact zfU rfl (loop _ rfl) (T.self _ 0 _ _ _ (T.keep _ _ _ ym fun b hb o e=>old b o e) (loop _ rfl))
theorem zfV {wi:TI} (SC:CompSc X N' ix scope) (hc:X.calm=true) (tz:GS js g) (nG:∀ j∈js,j∉js') (tB:∀ j∈js++js',ix[j]? = some none) (hi:PI X tg iter wi)
  (hg:∀ s₃ H₃ ex kP,PG (zI X N' scope s₃ H₃ ex kP) tg g) (ht:∀ s₃ H₃ ex kP,zcG (zI X N' scope s₃ H₃ ex kP) ifs ts) (hm:∀ s₃ H₃ ex kP D,PM (zI X N' scope s₃ H₃ ex kP) D js' (mk D (zI X N' scope s₃ H₃ ex kP).env) tm)
  (nA:∀ it D env,compTurn (.ListComp elt (⟨tg,iter,ifs,0⟩ :: gs) scope pos) 0 it (.ref D) env=zbU tg ifs iter.pos (mk D env) (.compLoop (.ListComp elt (⟨tg,iter,ifs,0⟩ :: gs) scope pos) 0 it (.ref D) env) it env)
  (hs:∀ x,foldedSetIterable iter X.env x=pure x:=by intro _; rfl):PE X (.ListComp elt (⟨tg,iter,ifs,0⟩ :: gs) scope pos) (zfl ix wi g ts tm):=by
 intro kP s σ H Q I h;rw [eval_ListComp];have yl:∀ y∈scope.names,y.2 = .free→∃ c,X.env.cells.lookup y.1=some c:=fun y hy hf=>I.ok.has y.1 (SC.free y hy hf)
 refine gW (use:=none) rfl hs (zcw yl) SC.kind SC.names (thn (hi kP s σ H _ I h) fun v s1 h1=>thn h1 fun wd s2 h2=>?_);obtain⟨it,fp,tn,J,H2,e,I2,T,lT,f2,q⟩:=h2;subst e;refine zdh (RR:=fun acc C=>compPost (model X.prog X.w) X.A X.xe none (EP X kP σ Q) acc C) SC hc tz nG tB hg ht hm nA I2 T lT f2 q ?_;intro D C s' ys H' m I' Cj hm q';refine⟨m,hm,fun uF m8=>⟨.ref D,_,?_,rfl,q'⟩⟩;obtain⟨f0,f1,B',f3,f4,f5⟩:=Cj;exact I'.turned (t':=s'.toks) (fun b o hb e=>m8.extBut b o hb e) f0 f1 f3 f4 f5
theorem zdi {wi:TI} {i:Nat} {x:Str} {pos' oC:Pos} (hN:X.N.Nodup) (yq:X.N[i]? = some x) (hx:Loc X.env.scope x) (SC:CompSc X N' ix scope) (hc:X.calm=true) (tz:GS js g) (nG:∀ j∈js,j∉js') (tB:∀ j∈js++js',ix[j]? = some none) (hi:PI X tg iter wi)
  (hg:∀ s₃ H₃ ex kP,PG (zI X N' scope s₃ H₃ ex kP) tg g) (ht:∀ s₃ H₃ ex kP,zcG (zI X N' scope s₃ H₃ ex kP) ifs ts) (hm:∀ s₃ H₃ ex kP D,PM (zI X N' scope s₃ H₃ ex kP) D js' (mk D (zI X N' scope s₃ H₃ ex kP).env) tm)
  (nA:∀ it D env,compTurn (.ListComp elt (⟨tg,iter,ifs,0⟩ :: gs) scope pos) 0 it (.ref D) env=zbU tg ifs iter.pos (mk D env) (.compLoop (.ListComp elt (⟨tg,iter,ifs,0⟩ :: gs) scope pos) 0 it (.ref D) env) it env)
  (yr:swapsWith (.ListComp elt (⟨tg,iter,ifs,0⟩ :: gs) scope pos) (some (.Name x pos')) oC.line X.env=pure true:=by rfl)
  (hs:∀ x,foldedSetIterable iter X.env x=pure x:=by intro _; rfl) (hf:X.fn x=true∨X.env.scope.names.lookup x=some .local:=by first | exact .inl rfl | exact .inr rfl | assumption) :
  PS X (.Assign [.Name x pos'] (.ListComp elt (⟨tg,iter,ifs,0⟩ :: gs) scope pos) oC) (zgN (zfl ix wi g ts tm) (za1 i)):=by
 intro kP s σ H D I h;have yl:∀ y∈scope.names,y.2 = .free→∃ c,X.env.cells.lookup y.1=some c:=fun y hy hf=>I.ok.has y.1 (SC.free y hy hf)
 rw [exec_Assign_Name_used _ _ _ _ yr]; refine ae (eA (ae ?_));show wpAny _ X.A (do let _ ← comprehension (.ListComp elt (⟨tg,iter,ifs,0⟩ :: gs) scope pos) scope X.env _ (newList []) false (eval iter X.env) (some (assign (.Name x pos') X.env))) _ _ s;refine ae (cE (gW (use:=some (assign (.Name x pos') X.env)) (Q:=fun _ s'=>SP X kP D .next s') rfl hs (zcw yl) SC.kind SC.names
  (thn (hi kP s σ H _ I h) fun v s1 h1=>thn h1 fun wd s2 h2=>?_)) (fun _ s' hq=>ai (ai hq)) fun _ _ e=>e)
 obtain⟨it,fp,tn,J,H2,e,I2,T,lT,f2,q⟩:=h2;subst e;refine zdh (Q:=fun x H1=>za1 i x σ H1 D.nx) (RR:=fun acc C=>compPost (model X.prog X.w) X.A X.xe (some (assign (.Name x pos') X.env)) (fun _ s'=>SP X kP D .next s') acc C) SC hc tz nG tB hg ht hm nA I2 T lT f2 q ?_;intro Da C s' ys H' m I' Cj hm q';show wpAny _ X.A (assign (.Name x pos') X.env (.ref Da)) _ _ _;refine wpAny_assign_Name (zeG I' hN yq hx (show RelV (.ref Da) (.ref Da) from rfl) (fun yb I'' ⟨a,lX,ha⟩=>?_) hf);obtain⟨f0,f1,B',f3,f4,f5⟩:=Cj;have hCa:C≠a:=by
  rcases ha with e | e
  ·rw [e]; exact f1
  ·exact dG (f4 x a e)
 refine⟨m,hm.sameBut lX hCa,fun h₃ hs₃=>⟨_,_,?_,q'⟩⟩;exact I''.turned (t':=yb.toks) (fun b o hb e=>hs₃.extBut b o hb e) f0 f1 f3 f4 f5
end
theorem zjG {elt t1 i1 t2 i2:Expr} {f1 f2:List Expr} {scope:Scope} {pos:Pos} (it:Value) (D:Addr) (env:Env):compTurn (.ListComp elt [⟨t1,i1,f1,0⟩,⟨t2,i2,f2,0⟩] scope pos) 0 it (.ref D) env =
  zbU t1 f1 i1.pos (zhH (.ListComp elt [⟨t1,i1,f1,0⟩,⟨t2,i2,f2,0⟩] scope pos) i2 1 (.ref D) env) (.compLoop (.ListComp elt [⟨t1,i1,f1,0⟩,⟨t2,i2,f2,0⟩] scope pos) 0 it (.ref D) env) it env:=by rfl
theorem zmR {elt t1 i1 t2 i2:Expr} {f1 f2:List Expr} {scope:Scope} {pos:Pos} (it:Value) (D:Addr) (env:Env):compTurn (.ListComp elt [⟨t1,i1,f1,0⟩,⟨t2,i2,f2,0⟩] scope pos) 1 it (.ref D) env =
  zbU t2 f2 i2.pos (zeR elt (.ref D) env) (.compLoop (.ListComp elt [⟨t1,i1,f1,0⟩,⟨t2,i2,f2,0⟩] scope pos) 1 it (.ref D) env) it env:=by rfl
def zc3 (ix:List (Option Nat)):List Nat:=(aR ix.length).filter fun j=>ix[j]? == some none
theorem zbV {ix:List (Option Nat)} {i:Nat}:i∈zc3 ix↔ix[i]? = some none:=by
 unfold zc3;rw [ck,bx,beq_iff_eq];exact⟨fun h=>h.2,fun h=>⟨(aA.mp h).1,h⟩⟩
def GK (ix:List (Option Nat)) (g:TG):Prop:=GS (zc3 ix) g
def GKs (ix:List (Option Nat)) (g:TGs):Prop:=GSs (zc3 ix) g
theorem zaM {ix:List (Option Nat)} {i:Nat} (hi:ix[i]? = some none):GK ix (za1 i):=zdv (zbV.2 hi)
theorem za4 {ix:List (Option Nat)}:GKs ix ziy:=zhG
theorem zW {ix:List (Option Nat)} {i:Nat} {u:TGs} (hi:ix[i]? = some none) (h2:GKs ix u):GKs ix (zcu (za1 i) u):=zdX (zbV.2 hi) h2
theorem zbs {ix:List (Option Nat)} {K:ag} {n:Nat} {t:TGs} (h:GKs ix t):GK ix (zgM K n t):=zjF h
theorem ziH {ix:List (Option Nat)} {g:TG} {u:TGs} (h1:GK ix g) (h2:GKs ix u) (mono:∀ (x:V) (σ:St) (H:Hp) (Q Q':St→Hp→Prop),(∀ σ' H',Q σ' H'→Q' σ' H')→g x σ H Q→g x σ H Q'):GKs ix (zcu g u):=fun σ σ1 xs H Q hw h=>by
 obtain⟨v,r,e,h⟩:=h;refine⟨v,r,e,mono v σ1 H _ _ (fun σ' H' q=>?_) (h1 σ σ1 v H _ hw h)⟩;exact h2 σ σ' r H' Q q.1 q.2
theorem zmg {elt t1 i1:Expr} {f1:List Expr} {scope:Scope} {pos:Pos} (it:Value) (D:Addr) (env:Env):compTurn (.ListComp elt [⟨t1,i1,f1,0⟩] scope pos) 0 it (.ref D) env =
  zbU t1 f1 i1.pos (zeR elt (.ref D) env) (.compLoop (.ListComp elt [⟨t1,i1,f1,0⟩] scope pos) 0 it (.ref D) env) it env:=by rfl
section
variable {X:Cx} {elt tg iter:Expr} {ifs:List Expr} {scope:Scope} {pos:Pos} {N':List Str} {ix:List (Option Nat)} {g:TG} {ts:TT} {te:TE}
theorem zaj {wi:TI} (SC:CompSc X N' ix scope) (hc:X.calm=true) (hk:GK ix g) (hi:PI X tg iter wi)
  (hg:∀ s₃ H₃ ex kP,PG (zI X N' scope s₃ H₃ ex kP) tg g) (ht:∀ s₃ H₃ ex kP,zcG (zI X N' scope s₃ H₃ ex kP) ifs ts) (he:∀ s₃ H₃ ex kP,PE (zI X N' scope s₃ H₃ ex kP) elt te)
  (hs:∀ x,foldedSetIterable iter X.env x=pure x:=by intro _; rfl):PE X (.ListComp elt [⟨tg,iter,ifs,0⟩] scope pos) (zmf ix wi g ts te) :=
 zfV (mk:=fun D env=>zeR elt (.ref D) env) (js:=zc3 ix) (js':=[]) SC hc hk (fun _ _ h=>nomatch h) (fun j h=>zbV.1 (by simpa using h)) hi hg ht (fun s₃ H₃ ex kP D=>zgX rfl (he s₃ H₃ ex kP)) (fun _ _ _=>zmg _ _ _) hs
theorem zbW {wi:TI} {i:Nat} {x:Str} {pos' oC:Pos} (hN:X.N.Nodup) (yq:X.N[i]? = some x) (hx:Loc X.env.scope x) (SC:CompSc X N' ix scope) (hc:X.calm=true) (hk:GK ix g) (hi:PI X tg iter wi)
  (hg:∀ s₃ H₃ ex kP,PG (zI X N' scope s₃ H₃ ex kP) tg g) (ht:∀ s₃ H₃ ex kP,zcG (zI X N' scope s₃ H₃ ex kP) ifs ts) (he:∀ s₃ H₃ ex kP,PE (zI X N' scope s₃ H₃ ex kP) elt te)
  (yr:swapsWith (.ListComp elt [⟨tg,iter,ifs,0⟩] scope pos) (some (.Name x pos')) oC.line X.env=pure true:=by rfl)
  (hs:∀ x,foldedSetIterable iter X.env x=pure x:=by intro _; rfl) (hf:X.fn x=true∨X.env.scope.names.lookup x=some .local:=by first | exact .inl rfl | exact .inr rfl | assumption) :
  PS X (.Assign [.Name x pos'] (.ListComp elt [⟨tg,iter,ifs,0⟩] scope pos) oC) (zgN (zmf ix wi g ts te) (za1 i)) :=
 zdi (mk:=fun D env=>zeR elt (.ref D) env) (js:=zc3 ix) (js':=[]) hN yq hx SC hc hk (fun _ _ h=>nomatch h) (fun j h=>zbV.1 (by simpa using h)) hi hg ht (fun s₃ H₃ ex kP D=>zgX rfl (he s₃ H₃ ex kP)) (fun _ _ _=>zmg _ _ _) yr hs hf
end
section
variable {X:Cx} {kP:List (Addr×Obj)} {σ:St} {H:Hp} {s:Shared} {h':Heap}
theorem Inv.turnedL {t':Nat} {ch:List Addr} (I:Inv X kP σ H s) (k:∀ b o,b∉ch→s.heap.get? b=some o→h'.get? b=some o) (hf:∀ b∈ch,zb8 X kP H b)
  (th:∀ b∈ch,∃ o,h'.get? b=some o):Inv X kP σ H { s with heap:=h',toks:=t' }:=by
 have rD:∀ b u,H b=some u→b∉ch:=fun b u e z=>by rw [(hf b z).1] at e; cases e
 refine I.step (g':=s.gens) (d':=s.drawn) (ch:=ch) (fun b hb=>?_) (fun b o _ _ hc e _=>k b o hc e) (fun b o _ _ hc e _=>⟨o.slots,k b o hc e⟩) (fun _ _ _ _ n=>n)
  (fun b o hc e=>⟨o,k b o hc e⟩) (fun _ _ e=>e) (fun _ _ _ e=>e) (fun b ps e=>⟨#[],by rw [e]; simp⟩) (fun m hm=>?_) (fun b u e=>?_) I.bare
 ·obtain⟨_,a1,_,a3,a4,a5⟩:=hf b hb;exact⟨a3,a1,a4,a5⟩
 ·obtain⟨o,es,ep,ho,r⟩:=hm;exact⟨o,es,ep,k _ o (fun z=>(hf _ z).2.1 rfl) ho,r⟩
 ·refine (I.hok b u e).stay (fun c v hc q=>k c v ?_ q) (fun _ q=>q) fun _ _ q=>q
  rcases hc with z | z
  ·rw [z]; exact rD b u e
  ·exact rD c _ z
theorem Inv.turnedNew {t':Nat} {ch:List Addr} {T:Addr} {o:HO} (I:Inv X kP σ H s) (k:∀ b o,b∉ch→s.heap.get? b=some o→h'.get? b=some o) (hf:∀ b∈ch,zb8 X kP H b)
  (th:∀ b∈ch,∃ o,h'.get? b=some o) (hT:s.heap.objs.size≤T) (ok:zaz X.prog X.w (kW H T o) h' T o):Inv X kP σ (kW H T o) { s with heap:=h',toks:=t' }:=by
 have I1:Inv X kP σ H { s with heap:=h',toks:=t' }:=I.turnedL k hf th;have hn:H T=none:=I.hok.fresh hT;obtain⟨_,a1,a2,a3,a4,a5⟩:=I.fpOk (H':=H) hT hn;exact I1.track hn (aU I.sz hT) (dG a1) a4 a5 ok
end
def zmS (Sq:Hp→Addr→List V→Prop) (a:Addr):It :=
 ⟨fun i H=>∃ xs x,Sq H a xs∧xs[i]? = some x,fun i H x H'=>∃ T v,H T=none∧x = .ref T∧H'=kW H T (.tup [.int i,v])∧∀ xs,Sq H a xs→xs[i]? = some v,fun i H=>∃ xs,Sq H a xs∧xs.length≤i⟩
theorem zbt {h:Heap} {T:Addr} {a b:Value} (e:h.get? T=some { cls:=.type "tuple",data:=.seq #[a,b] }):IsTup h T ([a,b]:List Value).toArray:=⟨_,e,rfl,_,rfl⟩
theorem zaI:2≤sizeLine:=by rw [bi]; decide
theorem zgY {P:Program} {w:World} {K:ag} {es:List Expr} {k:Nat} {pos:Pos} (a it e:Addr) (hei:e≠it):Turn P w K (.Tuple es k pos) (zmS (kS K) a) [e,it] e (fun i h=>(∃ old,IsEnum h e it i old)∧h.IsListIter it a i) where
 mem:=by simp
 obj:=fun i h st b hb=>by
  obtain⟨⟨old,he⟩,o,ho,hc,hd⟩:=st;rcases aC.mp hb with z | z
  ·subst z;exact⟨_,he,fun v z=>by cases z⟩
  ·have z:b=it:=by simpa using z
   subst z;exact⟨o,ho,fun v z=>by rw [hd] at z; cases z⟩
 keep:=fun i h h' st kk=>⟨st.1.imp fun old he=>kk e #[M] _ he,st.2.at fun o eo=>kk it #[M] o eo⟩
 item:=by
  intro X hP hw hK hc i kP s σ H E I hf st hg;subst hP hw hK;obtain⟨xs,x,hq,hx⟩:=hg;obtain⟨⟨old,he⟩,hit⟩:=st;obtain⟨kR,rv,p,hz⟩:=I.list hq;obtain⟨u,hu,ru⟩:=rv.get hx;have tE:e < s.heap.objs.size:=aF he;have hits:it < s.heap.objs.size:=by obtain⟨o,ho,_⟩:=hit; exact aF ho
  refine wpAny_pyNext_enum_item he hit p.isList (x:=u) (by simpa using hu) hei fun h' uB qM hT hsz kk=>?_
  have k1:∀ b o,b∉[e,it]→s.heap.get? b=some o→h'.get? b=some o:=fun b o hb eo=>kk b o (fun z=>hb (by simp [z])) (fun z=>hb (by simp [z])) eo
  have wy:∀ b∈[e,it],∃ o,h'.get? b=some o:=fun b hb=>by
   rcases aC.mp hb with z | z
   ·subst z; exact⟨_,uB⟩
   ·have z:b=it:=by simpa using z
    subst z;obtain⟨o,eo,_⟩:=qM;exact⟨o,eo⟩
  have I1:Inv X kP σ (kW H s.heap.objs.size (.tup [.int i,x])) { s with heap:=h',toks:=s.toks+1 } :=
   I.turnedNew k1 hf wy (af _) ⟨zaI,_,.cons ⟨s.toks,rfl⟩ (.cons ru .nil),zbt hT⟩
  refine⟨_,rfl,gj uB fun uF qO m8=>?_⟩;have fr:∀ b∈[e,it],kW H s.heap.objs.size (.tup [.int i,x]) b=none:=fun b hb=>by
   have lF:b < s.heap.objs.size:=by
    rcases aC.mp hb with z | z
    ·subst z; exact tE
    ·have z:b=it:=by simpa using z
     subst z; exact hits
   rw [zq (bf lF)];exact (hf b hb).1
  have I2:Inv X kP σ (kW H s.heap.objs.size (.tup [.int i,x])) { s with heap:=uF,toks:=s.toks+1 } :=
   Inv.turnedL (s:={ s with heap:=h',toks:=s.toks+1 }) (ch:=[e]) (t':=s.toks+1) I1 (fun b o hb eo=>m8.extBut b o (by simpa using hb) eo) (fun b hb=>by
    have z:b=e:=by simpa using hb
    subst z;exact⟨fr b #[M],(hf b #[M]).2⟩) (fun b hb=>by
    have z:b=e:=by simpa using hb
    subst z;exact⟨_,qO⟩)
  refine⟨.ref s.heap.objs.size,_,I2,rfl,⟨_,x,I.fresh,rfl,rfl,fun ys hy=>by rw [I.list_inj hy hq]; exact hx⟩,⟨⟨_,by simpa using qO⟩,qM.extBut m8.extBut (dG hei)⟩,fr⟩
 done:=by
  intro X hP hw hK hc i kP s σ H E I hf st hg;subst hP hw hK;obtain⟨xs,hq,hx⟩:=hg;obtain⟨⟨old,he⟩,hit⟩:=st;obtain⟨kR,rv,p,hz⟩:=I.list hq;have hl:=rv.length;obtain⟨f0,f1,f2,f3,f4,f5⟩:=hf it #[M];exact wpAny_pyNext_enum_end (I.ok.hd hc) he hit p.isList (by simp; lia) fun h' eb=>⟨rfl,I.turned (t':=s.toks) (fun b o hb e=>eb b o hb e) f0 f1 f3 f4 f5⟩
 self:=fun _ _ _ _ _ st h=>by
  obtain⟨⟨old,he⟩,_⟩:=st;exact fg he h
def iEn (Sq:Hp→Addr→List V→Prop) (ta:TA):TI:=fun σ H R=>ta σ H fun vs H1=>∃ a xs,vs = [.ref a]∧Sq H1 a xs∧R (zmS Sq a) H1
theorem zfW {X:Cx} {es:List Expr} {k:Nat} {nH p pos:Pos} {a:Expr} {ta:TA} (hg:Gl X "enumerate") (hm:X.mg "enumerate" = none) (ha:PA X [a] ta) (hs:starEach [a] X.env = [(false,eval a X.env)]:=by rfl) :
  PI X (.Tuple es k nH) (.Call (.Name "enumerate" p) [a] [] pos) (iEn (kS X.K) ta):=by
 intro kP s σ H R I h;refine Call_ (zbD I hg hm boot_enumerate (bv (thn (ha pos kP s σ H _ I h) fun us s1 ⟨vs,H1,I1,r1,q1⟩=>?_) hs rfl));obtain⟨l,xs,e,hq,q⟩:=q1;subst e;cases r1 with
 | cons r rr =>
  cases rr;cases r;obtain⟨kR,rv,pl,hz⟩:=I1.list hq;refine call_enumerate_list pl.isList fun h' he hi hsz kk=>?_
  have I2:Inv X kP σ H1 { s1 with heap:=h' }:=I1.kept (t':=s1.toks) kk;refine fg he ?_; refine⟨_,[s1.heap.objs.size+1,s1.heap.objs.size],_,zmS (kS X.K) l,H1,rfl,I2,zgY l s1.heap.objs.size (s1.heap.objs.size+1) (gV _),⟨⟨_,he⟩,hi⟩,fun b hb=>?_,q⟩;have hle:s1.heap.objs.size≤b:=by
   rcases aC.mp hb with z | z
   ·rw [z]; exact f7 _
   ·have z:b=s1.heap.objs.size:=by simpa using z
    rw [z]; exact af _
  exact I1.fpOk hle (I1.hok.fresh hle)
def ziI (pG pH:Hp→Addr→List V→Prop) (a b:Addr):It :=
 ⟨fun i H=>∃ xs ys x y,pG H a xs∧pH H b ys∧xs[i]? = some x∧ys[i]? = some y,
  fun i H x H'=>∃ T u v,H T=none∧x = .ref T∧H'=kW H T (.tup [u,v])∧(∀ xs,pG H a xs→xs[i]? = some u)∧∀ ys,pH H b ys→ys[i]? = some v,
  fun i H=>∃ xs ys,pG H a xs∧pH H b ys∧(xs.length≤i∨ys.length≤i)⟩
theorem ziJ {P:Program} {w:World} {K:ag} {es:List Expr} {k:Nat} {pos:Pos} (a b:Addr) (n:Nat) (ha:a < n) (hb:b < n):Turn P w K (.Tuple es k pos) (ziI (kS K) (kS K) a b) [n+4,n+2,n+3,n,n+1] (n+4)
  (fun i h=>IsZip h (n+4) (n+2) (n+3) .none∧IsPair h (n+2) (.ref n) (.ref (n+1))∧(∃ u v,IsPair h (n+3) u v)∧h.IsListIter n a i∧h.IsListIter (n+1) b i) where
 mem:=by simp
 obj:=fun i h st c hc=>by
  obtain⟨h1,h2,⟨u,v,h3⟩,⟨o4,e4,_,d4⟩,⟨o5,e5,_,d5⟩⟩:=st;simp only [aC,aX,or_false] at hc;rcases hc with z | z | z | z | z <;> subst z
  ·exact⟨_,h1,fun v z=>by cases z⟩
  ·exact⟨_,h2,fun v z=>by cases z⟩
  ·exact⟨_,h3,fun v z=>by cases z⟩
  ·exact⟨_,e4,fun v z=>by rw [d4] at z; cases z⟩
  ·exact⟨_,e5,fun v z=>by rw [d5] at z; cases z⟩
 keep:=fun i h h' st kk=>by
  obtain⟨h1,h2,⟨u,v,h3⟩,h4,h5⟩:=st;exact⟨kk _ #[M] _ h1,kk _ #[M] _ h2,⟨u,v,kk _ #[M] _ h3⟩,h4.at fun o eo=>kk _ #[M] o eo,h5.at fun o eo=>kk _ #[M] o eo⟩
 item:=by
  intro X hP hw hK hc i kP s σ H E I hf st hg;subst hP hw hK;obtain⟨xs,ys,x,y,pj,nI,hx,hy⟩:=hg;obtain⟨h1,h2,⟨u0,v0,h3⟩,h4,h5⟩:=st;obtain⟨mf,rH,p1,qj⟩:=I.list pj;obtain⟨me,rV,p2,uT⟩:=I.list nI;obtain⟨u,hu,ru⟩:=rH.get hx;obtain⟨v,hv,rv⟩:=rV.get hy;have hzs:n+4 < s.heap.objs.size:=aF h1;refine wpAny_pyNext_zip_item (cV ha hb) h1 h2 h3 h4 h5 p1.isList p2.isList (x:=u) (y:=v) (by simpa using hu) (by simpa using hv) fun h' a1 a2 a3 a4 a5 a6 kk=>?_
  have k1:∀ c o,c∉[n+4,n+3,n,n+1]→s.heap.get? c=some o→h'.get? c=some o:=fun c o k7 eo =>
   kk c o (fun z=>k7 (by simp [z])) (fun z=>k7 (by simp [z])) (fun z=>k7 (by simp [z])) (fun z=>k7 (by simp [z])) eo
  have sub:∀ c∈[n+4,n+3,n,n+1],c∈[n+4,n+2,n+3,n,n+1]:=fun c k7=>by
   simp only [aC,aX,or_false] at k7 ⊢;rcases k7 with z | z | z | z <;> subst z <;> simp
  have wy:∀ c∈[n+4,n+3,n,n+1],∃ o,h'.get? c=some o:=fun c k7=>by
   simp only [aC,aX,or_false] at k7;rcases k7 with z | z | z | z <;> subst z
   ·exact⟨_,a1⟩
   ·exact⟨_,a2⟩
   ·obtain⟨o,e,_⟩:=a3; exact⟨o,e⟩
   ·obtain⟨o,e,_⟩:=a4; exact⟨o,e⟩
  have I1:Inv X kP σ (kW H s.heap.objs.size (.tup [x,y])) { s with heap:=h' } :=
   I.turnedNew (t':=s.toks) k1 (fun c k7=>hf c (sub c k7)) wy (af _) ⟨zaI,_,.cons ru (.cons rv .nil),zbt a5⟩
  refine⟨_,rfl,wpAny_letOwnedTupleGo_zip a1 fun uF tF m8=>?_⟩;have fr:∀ c∈[n+4,n+2,n+3,n,n+1],kW H s.heap.objs.size (.tup [x,y]) c=none:=fun c k7=>by
   have lF:c < s.heap.objs.size:=by
    simp only [aC,aX,or_false] at k7;rcases k7 with z | z | z | z | z <;> subst z <;> lia
   rw [zq (bf lF)];exact (hf c k7).1
  have I2:Inv X kP σ (kW H s.heap.objs.size (.tup [x,y])) { s with heap:=uF } :=
   Inv.turnedL (s:={ s with heap:=h' }) (ch:=[n+4]) (t':=s.toks) I1 (fun c o k7 eo=>m8.extBut c o (by simpa using k7) eo) (fun c k7=>by
    have z:c=n+4:=by simpa using k7
    subst z;exact⟨fr _ #[M],(hf _ #[M]).2⟩) (fun c k7=>by
    have z:c=n+4:=by simpa using k7
    subst z;exact⟨_,tF⟩)
  refine⟨.ref s.heap.objs.size,_,I2,rfl,⟨_,x,y,I.fresh,rfl,rfl,fun zs hz=>by rw [I.list_inj hz pj]; exact hx,fun zs hz=>by rw [I.list_inj hz nI]; exact hy⟩,
   ⟨tF,m8.extBut _ _ (cV ha hb).TIz (kk _ _ (cV ha hb).TIz (cV ha hb).TITO (cV ha hb).TIi1 (cV ha hb).TIi2 h2),⟨_,_,m8.extBut _ _ (cV ha hb).TOz a2⟩,a3.extBut m8.extBut (cV ha hb).i1z,a4.extBut m8.extBut (cV ha hb).i2z⟩,fr⟩
 done:=by
  intro X hP hw hK hc i kP s σ H E I hf st hg;subst hP hw hK;obtain⟨xs,ys,pj,nI,hx⟩:=hg;obtain⟨h1,h2,⟨u0,v0,h3⟩,h4,h5⟩:=st;obtain⟨mf,rH,p1,qj⟩:=I.list pj;obtain⟨me,rV,p2,uT⟩:=I.list nI;have qk:=rH.length;have qL:=rV.length;refine wpAny_pyNext_zip_end (I.ok.hd hc) (cV ha hb) h1 h2 h3 h4 h5 p1.isList p2.isList ?_ fun h' kk=>⟨rfl,?_⟩
  ·rcases hx with z | z
   ·exact .inl (by simp; lia)
   ·exact .inr (by simp; lia)
  ·have hth:∀ c∈[n+4,n+3,n,n+1],c∈[n+4,n+2,n+3,n,n+1]:=fun c k7=>by
    simp only [aC,aX,or_false] at k7 ⊢;rcases k7 with z | z | z | z <;> subst z <;> simp
   refine I.step (g':=s.gens) (d':=s.drawn) (t':=s.toks) (ch:=[n+4,n+3,n,n+1]) (fun c k7=>?_) (fun c o _ _ mh e _=>kk c o (fun z=>mh (by simp [z])) (fun z=>mh (by simp [z])) (fun z=>mh (by simp [z])) (fun z=>mh (by simp [z])) e)
    (fun c o _ _ mh e _=>⟨o.slots,kk c o (fun z=>mh (by simp [z])) (fun z=>mh (by simp [z])) (fun z=>mh (by simp [z])) (fun z=>mh (by simp [z])) e⟩) (fun _ _ _ _ n=>n)
    (fun c o mh e=>⟨o,kk c o (fun z=>mh (by simp [z])) (fun z=>mh (by simp [z])) (fun z=>mh (by simp [z])) (fun z=>mh (by simp [z])) e⟩) (fun _ _ e=>e) (fun _ _ _ e=>e) (fun c ps e=>⟨#[],by rw [e]; simp⟩) (fun m hm=>?_) (fun c u e=>?_) I.bare
   ·obtain⟨_,a1,_,a3,a4,a5⟩:=hf c (hth c k7);exact⟨a3,a1,a4,a5⟩
   ·obtain⟨o,uM,ep,ho,r⟩:=hm;have ne:∀ c∈[n+4,n+2,n+3,n,n+1],X.env.locals≠c:=fun c k7=>dG (hf c k7).2.1
    exact⟨o,uM,ep,kk _ o (ne _ #[M]) (ne _ #[M]) (ne _ #[M]) (ne _ #[M]) ho,r⟩
   ·have rD:∀ d u',H d=some u'→∀ c∈[n+4,n+2,n+3,n,n+1],d≠c:=fun d u' e' c k7 z=>by rw [z,(hf c k7).1] at e'; cases e'
    refine (I.hok c u e).stay (fun d v' hd q=>kk d v' ?_ ?_ ?_ ?_ q) (fun _ q=>q) fun _ _ q=>q
    all_goals
     rcases hd with z | z
     ·rw [z]; exact rD c u e _ #[M]
     ·exact rD d _ z _ #[M]
 self:=fun _ _ _ _ _ st h=>fu st.1 h
def iZp (pG pH:Hp→Addr→List V→Prop) (ta:TA):TI:=fun σ H R=>ta σ H fun vs H1=>∃ a b xs ys,vs = [.ref a,.ref b]∧pG H1 a xs∧pH H1 b ys∧R (ziI pG pH a b) H1
theorem zdw {X:Cx} {es:List Expr} {k:Nat} {nH p pos:Pos} {a b:Expr} {ta:TA} (hg:Gl X "zip") (hm:X.mg "zip" = none) (ha:PA X [a,b] ta) (hs:starEach [a,b] X.env = [(false,eval a X.env),(false,eval b X.env)]:=by rfl) (m9:starEach [b] X.env = [(false,eval b X.env)]:=by rfl) :
  PI X (.Tuple es k nH) (.Call (.Name "zip" p) [a,b] [] pos) (iZp (kS X.K) (kS X.K) ta):=by
 intro kP s σ H R I h;refine Call_ (zbD I hg hm boot_zip (bv (thn (ha pos kP s σ H _ I h) fun us s1 ⟨vs,H1,I1,r1,q1⟩=>?_) (by rw [hs,m9]) (by rw [m9]; rfl)));obtain⟨l1,l2,xs,ys,e,pj,nI,q⟩:=q1;subst e;cases r1 with
 | cons r rr =>
  cases rr with
  | cons r' rr =>
   cases rr;cases r;cases r';obtain⟨mf,rH,vP,qj⟩:=I1.list pj;obtain⟨me,rV,wz,uT⟩:=I1.list nI;have pO:l1 < s1.heap.objs.size:=by obtain⟨_,_,e,_⟩:=vP; exact aF e
   have pP:l2 < s1.heap.objs.size:=by obtain⟨_,_,e,_⟩:=wz; exact aF e
   refine call_zip_2 vP.isList wz.isList fun h' b1 b2 b3 b4 b5 b6 kk=>?_
   have I2:Inv X kP σ H1 { s1 with heap:=h' }:=I1.kept (t':=s1.toks) kk;refine fu b1 ?_;refine⟨_,_,_,ziI (kS X.K) (kS X.K) l1 l2,H1,rfl,I2,ziJ l1 l2 s1.heap.objs.size pO pP,⟨b1,b2,⟨_,_,b3⟩,b4,b5⟩,fun c hc=>?_,q⟩;have hle:s1.heap.objs.size≤c:=by
    simp only [aC,aX,or_false] at hc;rcases hc with z | z | z | z | z <;> subst z <;> lia
   exact I1.fpOk hle (I1.hok.fresh hle)
def zfX (Sq:Hp→Addr→List V→Prop) (a:Addr) (n:Nat):It :=
 ⟨fun i H=>i < n∧∃ xs,Sq H a xs∧xs.length=n,fun i H x H'=>H'=H∧∀ xs,Sq H a xs→xs[n - 1 - i]? = some x,fun i H=>n≤i⟩
theorem ziK {P:Program} {w:World} {K:ag} {tg:Expr} (a it:Addr) (n:Nat):Turn P w K tg (zfX (kS K) a n) [it] it (fun i h=>i≤n∧h.IsRevIter it a ((n:Int) - 1 - (i:Int))) where
 mem:=by simp
 obj:=fun i h st b hb=>by
  have z:b=it:=by simpa using hb
  subst z;obtain⟨_,o,e,c,d⟩:=st;exact⟨o,e,fun v z=>by rw [d] at z; cases z⟩
 keep:=fun i h h' st k=>⟨st.1,st.2.at fun o e=>k it #[M] o e⟩
 item:=by
  intro X hP hw hK hc i kP s σ H E I hf st hg;subst hP hw hK;obtain⟨og,xs,hq,hl⟩:=hg;obtain⟨kR,rv,p,hz⟩:=I.list hq;have kY:=rv.length;obtain⟨x,hx⟩:∃ x,xs[n - 1 - i]? = some x:=⟨xs[n - 1 - i]'#[O],#[M]⟩;obtain⟨u,hu,ru⟩:=rv.get hx;obtain⟨f0,f1,f2,f3,f4,f5⟩:=hf it #[M];have e:(n:Int) - 1 - (i:Int)=((n - 1 - i:Nat):Int):=by lia
  have hit:=st.2;rw [e] at hit;refine wpAny_pyNext_rev_item hit p.isList (x:=u) (by simpa using hu) fun h' kX sb=>?_
  have I1:Inv X kP σ H { s with heap:=h' }:=I.turned (t':=s.toks) (fun b o hb e=>(sb.2 b hb).trans e) f0 f1 f3 f4 f5;have e2:((n - 1 - i:Nat):Int) - 1=(n:Int) - 1 - ((i+1:Nat):Int):=by lia
  rw [e2] at kX;obtain⟨o,eo,c,d⟩:=id kX;exact⟨u,rfl,zfR (s:={ s with heap:=h' }) eo c d #[D] ⟨x,H,I1,ru,⟨rfl,fun ys hy=>by rw [I.list_inj hy hq]; exact hx⟩,⟨og,kX⟩,fun b hb=>(hf b hb).1⟩⟩
 done:=by
  intro X hP hw hK hc i kP s σ H E I hf st hg;subst hP hw hK;obtain⟨f0,f1,f2,f3,f4,f5⟩:=hf it #[M];have og:n≤i:=hg;have e:(n:Int) - 1 - (i:Int) = -1:=by have:=st.1; lia
  have hit:=st.2;rw [e] at hit;exact wpAny_pyNext_rev_end (I.ok.hd hc) hit fun h' eb=>⟨rfl,I.turned (t':=s.toks) (fun b o hb e=>eb b o hb e) f0 f1 f3 f4 f5⟩
 self:=fun _ _ _ _ _ st h=>iZ st.2 h
end L2
end
section
namespace PySem
namespace F
theorem zeS:Manifest.owners.lookup (String.ofList ['d','e','s','r','e','v','e','r'].reverse)=some Manifest.sig_reversed:=by kernel_rfl
theorem slot_rvd_next:Slot "reversed" "__next__" "reversed.__next__" :=
 .of (owner:="reversed") (n:="__next__") (by rw [fF,d8]; kernel_rfl) #[N] #[N] #[N] (by first | exact .inl #[N] | exact .inr #[N]) (by rw [fS]; kernel_rfl)
theorem entry_rvd_next:entryFor table "reversed.__next__" = some Builtin.«reversed.__next__»:=entryFor_of_tree (by kernel_rfl)
theorem args_rvd_next_1 (a:Value):argsOk "reversed.__next__" ⟨[a],[]⟩:=by
 unfold argsOk; rw [signature?_of (id:="reversed.__next__") (n:=['_','_','t','x','e','n','_','_']) (o:=['d','e','s','r','e','v','e','r']) (by kernel_rfl) zeS]; kernel_rfl
theorem slot_rvd_iter:Slot "reversed" "__iter__" "reversed.__iter__" :=
 .of (owner:="reversed") (n:="__iter__") (by rw [fF,d8]; kernel_rfl) #[N] #[N] #[N] (by first | exact .inl #[N] | exact .inr #[N]) (by rw [fS]; kernel_rfl)
theorem args_rvd_iter_1 (a:Value):argsOk "reversed.__iter__" ⟨[a],[]⟩:=by
 unfold argsOk; rw [signature?_of (id:="reversed.__iter__") (n:=['_','_','r','e','t','i','_','_']) (o:=['d','e','s','r','e','v','e','r']) (by kernel_rfl) zeS]; kernel_rfl
theorem entry_rvd_iter:entryFor table "reversed.__iter__" = some Builtin.«dict_keyiterator.__iter__»:=entryFor_alias (id':="dict_keyiterator.__iter__") (by kernel_rfl) (by first | rfl | decide +kernel | (unfold String.splitOn; simp +decide [String.splitOnAux])) #[N] (by kernel_rfl)
theorem zey:Slot "reversed" "__init__" "object.__init__":=.of (owner:="object") (n:="__init__") (by rw [fF,d8]; kernel_rfl) #[N] #[N] #[N] (by first | exact .inl #[N] | exact .inr #[N]) (by rw [fS]; kernel_rfl)
theorem called_rvd:TypeCalled "reversed" "reversed.__new__" "object.__init__" :=
 ⟨#[N],#[N],⟨_,_,mro_reversed⟩,made_reversed,#[N],by rw [fS]; kernel_rfl,zey⟩
theorem noRev_tuple:typeLookup (.type "tuple") "__reversed__" = pure none:=by rw [fF,d8]; kernel_rfl
end F
def zfm (l:Addr) (i:Int):Obj:={ cls:=.type "reversed",data:=.fields #[.ref l,rawInt i] }
def Heap.IsRvd (h:Heap) (a l:Addr) (i:Int):Prop:=∃ o,h.get? a=some o∧o.cls = .type "reversed"∧o.data = .fields #[.ref l,rawInt i]
theorem Heap.IsRvd.typeIs {s:Shared} {a l:Addr} {i:Int} (x:s.heap.IsRvd a l i):s.TypeIs (.ref a) "reversed":=let ⟨o,ho,hc,_⟩:=x; ⟨o,ho,hc⟩
theorem Heap.IsRvd.at {h h':Heap} {a l:Addr} {i:Int} (x:h.IsRvd a l i) (e:∀ o,h.get? a=some o→h'.get? a=some o):h'.IsRvd a l i:=let ⟨o,ho,r⟩:=x; ⟨o,e _ ho,r⟩
open PyProof.Rows in
theorem zez (l:Addr) (items:Array Value) :
  Meets (Builtin.«reversed.__new__» ⟨[.type "reversed",.ref l],[]⟩) (fun _ R s=>IsTup s.heap l items∧(items.size:Int) < 2 ^ 63 ∧
   R (.ok (.ret (.ref s.heap.objs.size))) { s with heap:=s.heap.push (zfm l ((items.size:Int) - 1)),toks:=s.toks+1+1 }) :=
 .of_wp fun prog w A R s h=>by
  obtain⟨hl,hsz,h⟩:=h;unfold Builtin.«reversed.__new__»; refine ae (dZ (newClass_reversed _) ?_)
  try dsimp only
  iterate 2 refine ae (dZ (a:=()) (by first | rfl | kernel_rfl) ?_)
  try dsimp only
  refine ae (ir hl.typeIs F.noRev_tuple ?_)
  try dsimp only
  refine ae (ae (m:=isInstance (.ref l) (.type "dict")) (ek hl.typeIs F.sub_tuple_dict ?_));simp only [bm,if_false]; refine ae (m:=specialOf (.ref l) "__getitem__") (ir hl.typeIs slot_tuple_getitem.lookup ?_);refine ai ?_
  try dsimp only
  try simp only [Bool.not_true,bm,if_false]
  refine ae (len_tuple hl hsz ?_);refine ae (m:=asInt? _) (dZ (a:=some (items.size:Int)) rfl ?_)
  try dsimp only
  refine ae (m:=ku _ _) ?_;show wpAny _ _ (newObj (.type "reversed") (.fields #[.ref l,rawInt ((items.size:Int) - 1)]) none) _ _ _;refine bu ?_;exact ai ⟨_,rfl,h⟩
section
variable {prog:Program} {w:World} {A:Around} {E:Value→Shared→Prop} {s:Shared}
open PyProof.Rows
theorem zdY {l:Addr} {items:Array Value} {Q:Value→Shared→Prop} (hl:IsTup s.heap l items) (hsz:(items.size:Int) < 2 ^ 63)
  (h:Q (.ref s.heap.objs.size) { s with heap:=s.heap.push (zfm l ((items.size:Int) - 1)),toks:=s.toks+1+1 }):wpAny (model prog w) A (call (.type "reversed") [.ref l]) Q E s:=by
 refine jz F.called_rvd #[D] (F.typeCall_reversed_1 _) (F.newCall_reversed_1 _) (fun obj=>i0 obj _) F.entry_reversed_new (zez l items) ⟨hl,hsz,?_⟩; exact⟨⟨_,aG _ rfl,rfl⟩,h⟩
theorem zb6 {it l:Addr} {i:Nat} {items:Array Value} {x:Value} {Q:Option Value→Shared→Prop} (hit:s.heap.IsRvd it l (i:Int)) (hl:IsTup s.heap l items) (hx:items[i]? = some x) (hi:(i:Int) < 2 ^ 62)
  (hQ:∀ h',h'.IsRvd it l ((i:Int) - 1)→bg it s.heap h'→Q (some x) { s with heap:=h',toks:=s.toks+1 }):wpAny (model prog w) A (pyNext (.ref it)) Q E s:=by
 obtain⟨o,ho,hc,hd⟩:=id hit; unfold pyNext;refine ae (cK (ba (name:=bL "__next__") hit.typeIs F.slot_rvd_next
  (be F.slot_rvd_next hit.typeIs F.entry_rvd_next ?_ (F.args_rvd_next_1 _))))
 unfold Builtin.«reversed.__next__»;refine ae (dZ (a:=(aO it,[])) rfl ?_); try dsimp only
 refine ae (bb ho hd (x:=.ref l) rfl ?_); refine ae (bb ho hd (x:=rawInt (i:Int)) rfl ?_);show wpAny _ _ (if (i:Int) < 0 then _ else _) _ _ s; rw [if_neg #[O]];refine ae (ir hl.typeIs slot_tuple_getitem.lookup ?_)
 try simp only [Option.isNone_some,bm,if_false]
 refine ae (wpAny_mkInt ?_); have lF:i < items.size:=by
  obtain⟨h1,_⟩:=cL.mp hx;exact h1
 refine ae (cK (getItem_tuple (j:=i) hl #[O] #[O] (by rw [fZ #[O] #[O]]; simp) hx ?_))
 try dsimp only
 refine ae (bb (s:={ s with toks:=s.toks+1 }) ho hd (x:=rawInt (i:Int)) rfl ?_);show wpAny _ _ (setField (.ref it) 1 (rawInt ((i:Int) - 1)) >>= _) _ _ _;refine ae (dH (s:={ s with toks:=s.toks+1 }) ho hd #[M] (ai ⟨x,rfl,ai (hQ _ ?_ (cI ..))⟩));exact⟨_,dz _ ho (d9 (cP hd _)),(gB ..).trans hc,by rw [cP hd]; simp⟩
theorem zcb {it l:Addr} {Q:Option Value→Shared→Prop} (hh:A.handled=none) (hit:s.heap.IsRvd it l (-1)) (hQ:∀ h',jS it s.heap h'→Q none { s with heap:=h' }):wpAny (model prog w) A (pyNext (.ref it)) Q E s:=by
 obtain⟨o,ho,hc,hd⟩:=id hit; unfold pyNext;refine ae (cK (ba (name:=bL "__next__") hit.typeIs F.slot_rvd_next
  (be F.slot_rvd_next hit.typeIs F.entry_rvd_next ?_ (F.args_rvd_next_1 _))))
 unfold Builtin.«reversed.__next__»;refine ae (dZ (a:=(aO it,[])) rfl ?_); try dsimp only
 refine ae (bb ho hd (x:=.ref l) rfl ?_); refine ae (bb ho hd (x:=rawInt (-1)) rfl ?_);show wpAny _ _ (if (-1:Int) < 0 then _ else _) _ _ s; rw [if_pos #[D]];refine ae (cg ?_);refine ae (ae (m:=setField (.ref it) 1 (rawInt (-1))) (dH ho hd #[M] ?_));have hd2:=cP hd (·.setIfInBounds 1 (rawInt (-1)));have pN:=dz (gk (·.setIfInBounds 1 (rawInt (-1)))) ho (d9 hd2);refine dH pN hd2 #[M] ?_
 try dsimp only
 refine ae ?_; show wpAny _ _ (newExc (.type "StopIteration") [] >>= _) _ _ _;refine ae ?_;simp only [newExc,newTuple];refine ae (bu ?_ (by size_fits)); refine ae (m:=firstArgMember _ _) (dZ (a:=dq) (by first | rfl | (simp only [firstArgMember]; rfl)) ?_);refine bu ?_ (by size_fits); simp only [raiseNew];refine ae (ja ?_); first | rw [show A.in1.handled=none from hh] | rw [hh]
 refine ae (ai (jT ?_)); refine ae (ek (T:="StopIteration") (b:=true) ⟨_,aG _ rfl,rfl⟩ fT ?_);exact ai (hQ _ ((((cI ..).extBut.trans (cI ..).extBut).push _).push _))
theorem zbJ {it l:Addr} {i:Int} {Q:Value→Shared→Prop} (hit:s.heap.IsRvd it l i) (h:Q (.ref it) s):wpAny (model prog w) A (pyIter (.ref it)) Q E s:=by
 refine gC hit.typeIs F.slot_rvd_iter (be F.slot_rvd_iter hit.typeIs F.entry_rvd_iter ?_ (F.args_rvd_iter_1 _));show wpAny _ _ (ret (.ref it)) _ _ s; exact ai ⟨_,rfl,"reversed",_,hit.typeIs,F.slot_rvd_next.lookup,h⟩
end
section
variable {prog:Program} {w:World} {A:Around} {E:Value→Shared→Prop} {s:Shared}
theorem zfY {it t:Addr} {i:Nat} {items:Array Value} {x:Value} {Q:Value→Shared→Prop} (hit:s.heap.IsTupleIter it t i) (ht:s.heap.IsTuple t items) (hx:items[i]? = some x)
  (hQ:∀ h',h'.IsTupleIter it t (i+1)→bg it s.heap h'→Q x { s with heap:=h' }):wpAny (model prog w) A (aZ (.ref it)) Q E s:=by
 obtain⟨o,ho,hc,hd⟩:=id hit; obtain⟨ot,Ck,_,nt,Cm⟩:=ht;unfold aZ; refine ae (ba (name:=bL "__next__") hit.typeIs dA (be dA hit.typeIs gc ?_ (fU _)));show wpAny _ _ (field (.ref it) 0 >>= _) _ _ s; refine ae (bb ho hd (x:=.ref t) rfl ?_); show wpAny _ _ (if (aO t == dq)=true then _ else _) _ _ _; rw [if_neg (by exact aL)];refine ae (bb ho hd (x:=.int _ 0) rfl ?_); refine ae (m:=seqItems? _) (dk Ck Cm ?_); simp only [bz,hx];have hn:=dz (gk (·.setIfInBounds 1 (rawInt ((i+1:Nat):Int)))) ho (d9 (cP hd _));refine ae (dH ho hd #[M] (ai ⟨x,rfl,ai (hQ _ ⟨_,hn,(gB ..).trans hc,?_⟩ (cI ..))⟩)); rw [cP hd]; simp [rawInt]
theorem zfZ {it t:Addr} {i:Nat} {items:Array Value} {Q:Value→Shared→Prop} (hh:A.handled=none) (hit:s.heap.IsTupleIter it t i) (ht:s.heap.IsTuple t items) (hx:items[i]? = none)
  (hE:∀ h' e,jS it s.heap h'→(∃ o,h'.get? e=some o∧o.cls = .type "StopIteration")→E (.ref e) { s with heap:=h' }):wpAny (model prog w) A (aZ (.ref it)) Q E s:=by
 obtain⟨o,ho,hc,hd⟩:=id hit; obtain⟨ot,Ck,_,nt,Cm⟩:=ht;unfold aZ; refine ae (ba (name:=bL "__next__") hit.typeIs dA (be dA hit.typeIs gc ?_ (fU _)));show wpAny _ _ (field (.ref it) 0 >>= _) _ _ s; refine ae (bb ho hd (x:=.ref t) rfl ?_); show wpAny _ _ (if (aO t == dq)=true then _ else _) _ _ _; rw [if_neg (by exact aL)];refine ae (bb ho hd (x:=.int _ 0) rfl ?_); refine ae (m:=seqItems? _) (dk Ck Cm ?_); simp only [bz,hx];refine ae (cg (ae (dH ho hd #[M] ?_))); show wpAny _ _ (newExc (.type "StopIteration") [] >>= _) _ _ _; refine ae ?_;simp only [newExc,newTuple]; refine ae (bu ?_ (by size_fits)); refine ae (m:=firstArgMember _ _) (dZ (a:=dq) (by first | rfl | (simp only [firstArgMember]; rfl)) ?_);refine bu ?_ (by size_fits); simp only [raiseNew]; refine ae (ja ?_); first | rw [show A.in1.handled=none from hh] | rw [hh]
 refine ae (ai (jT ?_)); exact hE _ _ (((cI ..).extBut.push _).push _) ⟨_,aG _ rfl,rfl⟩
end
theorem Draws.tuple {prog:Program} {w:World} {A:Around} (hh:A.handled=none) (it t:Addr) (lY:t≠it) (items:Array Value):Draws prog w A it [it,t] items.size (fun i v=>items[i]? = some v) (fun i h=>h.IsTupleIter it t i∧h.IsTuple t items) where
 live:=fun i h st=>st.1.imp fun o r=>r.1
 frame:=fun i h h' st kk=>⟨st.1.at fun o=>kk it #[M] o,st.2.at fun o=>kk t #[M] o⟩
 item:=fun i s Q E hi st hQ=>zfY st.1 st.2 (x:=items[i]) (by simp [hi]) fun h' a b=>hQ _ h' s.toks (by simp [hi]) ⟨a,st.2.extBut b.extBut lY⟩ b
 done:=fun s Q E st hE=>zfZ hh st.1 st.2 #[M] hE
def zb3 (t:Addr):Obj:={ cls:=.type "tuple_iterator",data:=.fields #[.ref t,.int 0 0] }
def zjH (it:Addr):Obj:={ cls:=.type "enumerate",data:=.fields #[.none,.bool false,.ref it,rawInt 0,.none,.none] }
end PySem
namespace L2
open PySem PySem.Spec PyProof.Rows
theorem ziL {P:Program} {w:World} {K:ag} {tg:Expr} (a it:Addr) (n:Nat):Turn P w K tg (zfX (k6 K) a n) [it] it (fun i h=>i≤n∧h.IsRvd it a ((n:Int) - 1 - (i:Int))) where
 mem:=by simp
 obj:=fun i h st b hb=>by
  have z:b=it:=by simpa using hb
  subst z;obtain⟨_,o,e,c,d⟩:=st;exact⟨o,e,fun v z=>by rw [d] at z; cases z⟩
 keep:=fun i h h' st k=>⟨st.1,st.2.at fun o e=>k it #[M] o e⟩
 item:=by
  intro X hP hw hK hc i kP s σ H E I hf st hg;subst hP hw hK;obtain⟨og,xs,hq,hl⟩:=hg;obtain⟨kR,rv,p,hz⟩:=I.tuple hq;have kY:=rv.length;have oD:=bi;obtain⟨x,hx⟩:∃ x,xs[n - 1 - i]? = some x:=⟨xs[n - 1 - i]'#[O],#[M]⟩;obtain⟨u,hu,ru⟩:=rv.get hx;obtain⟨f0,f1,f2,f3,f4,f5⟩:=hf it #[M];have e:(n:Int) - 1 - (i:Int)=((n - 1 - i:Nat):Int):=by lia
  have hit:=st.2;rw [e] at hit;refine zb6 hit p (x:=u) (by simpa using hu) #[O] fun h' kX sb=>?_
  have I1:Inv X kP σ H { s with heap:=h',toks:=s.toks+1 }:=I.turned (t':=s.toks+1) (fun b o hb e=>(sb.2 b hb).trans e) f0 f1 f3 f4 f5;have e2:((n - 1 - i:Nat):Int) - 1=(n:Int) - 1 - ((i+1:Nat):Int):=by lia
  rw [e2] at kX;obtain⟨o,eo,c,d⟩:=id kX;exact⟨u,rfl,zfR (s:={ s with heap:=h',toks:=s.toks+1 }) eo c d #[D] ⟨x,H,I1,ru,⟨rfl,fun ys hy=>by rw [I.tuple_inj hy hq]; exact hx⟩,⟨og,kX⟩,fun b hb=>(hf b hb).1⟩⟩
 done:=by
  intro X hP hw hK hc i kP s σ H E I hf st hg;subst hP hw hK;obtain⟨f0,f1,f2,f3,f4,f5⟩:=hf it #[M];have og:n≤i:=hg;have e:(n:Int) - 1 - (i:Int) = -1:=by have:=st.1; lia
  have hit:=st.2;rw [e] at hit;exact zcb (I.ok.hd hc) hit fun h' eb=>⟨rfl,I.turned (t':=s.toks) (fun b o hb e=>eb b o hb e) f0 f1 f3 f4 f5⟩
 self:=fun _ _ _ _ _ st h=>zbJ st.2 h
theorem zfn {X:Cx} {tg:Expr} {kP:List (Addr×Obj)} {σ:St} {H1:Hp} {s1:Shared} {R:It→Hp→Prop} {l:Addr} {xs:List V} (I1:Inv X kP σ H1 s1) (hq:k6 X.K H1 l xs) (q:R (zfX (k6 X.K) l xs.length) H1) :
  wpAny (model X.prog X.w) X.A (call (.type "reversed") [.ref l]) (fun v s2=>wpAny (model X.prog X.w) X.A (pyIter v) (PIE X kP σ tg R) X.xe s2) X.xe s1:=by
 obtain⟨kR,rv,pl,hz⟩:=I1.tuple hq;have kY:=rv.length;have oD:=bi;refine zdY pl (by rw [am]; lia) ?_;have I2:Inv X kP σ H1 { s1 with heap:=s1.heap.push (zfm l ((kR.toArray.size:Int) - 1)),toks:=s1.toks+1+1 }:=I1.kept fun b o e=>ah _ e
 have hr:(s1.heap.push (zfm l ((kR.toArray.size:Int) - 1))).IsRvd s1.heap.objs.size l ((xs.length:Int) - 1 - ((0:Nat):Int)):=by
  refine⟨_,aG _ rfl,rfl,?_⟩;have e1:(kR.toArray.size:Int) - 1=(xs.length:Int) - 1 - ((0:Nat):Int):=by rw [am,kY]; lia
  show jQ #[.ref l,rawInt ((kR.toArray.size:Int) - 1)]=_;rw [e1]
 refine zbJ hr ?_;refine⟨_,[s1.heap.objs.size],_,zfX (k6 X.K) l xs.length,H1,rfl,I2,ziL l s1.heap.objs.size xs.length,⟨bh _,hr⟩,fun b hb=>?_,q⟩;have z:b=s1.heap.objs.size:=by simpa using hb
 subst z;exact I1.fpOk (af _) (I1.hok.fresh (af _))
theorem zf0 {X:Cx} {tg:Expr} {kP:List (Addr×Obj)} {σ:St} {H1:Hp} {s1:Shared} {R:It→Hp→Prop} {l:Addr} {xs:List V} (I1:Inv X kP σ H1 s1) (hq:kS X.K H1 l xs) (q:R (zfX (kS X.K) l xs.length) H1) :
  wpAny (model X.prog X.w) X.A (call (.type "reversed") [.ref l]) (fun v s2=>wpAny (model X.prog X.w) X.A (pyIter v) (PIE X kP σ tg R) X.xe s2) X.xe s1:=by
 obtain⟨kR,rv,pl,hz⟩:=I1.list hq;have kY:=rv.length;refine call_reversed_list pl.isList ?_;have I2:Inv X kP σ H1 { s1 with heap:=s1.heap.push (revObj l ((kR.toArray.size:Int) - 1)) }:=I1.kept (t':=s1.toks) fun b o e=>ah _ e
 have hr:(s1.heap.push (revObj l ((kR.toArray.size:Int) - 1))).IsRevIter s1.heap.objs.size l ((xs.length:Int) - 1 - ((0:Nat):Int)):=by
  refine⟨_,aG _ rfl,rfl,?_⟩;have e1:(kR.toArray.size:Int) - 1=(xs.length:Int) - 1 - ((0:Nat):Int):=by rw [am,kY]; lia
  show jQ #[.ref l,rawInt ((kR.toArray.size:Int) - 1)]=_;rw [e1]
 refine iZ hr ?_;refine⟨_,[s1.heap.objs.size],_,zfX (kS X.K) l xs.length,H1,rfl,I2,ziK l s1.heap.objs.size xs.length,⟨bh _,hr⟩,fun b hb=>?_,q⟩;have z:b=s1.heap.objs.size:=by simpa using hb
 subst z;exact I1.fpOk (af _) (I1.hok.fresh (af _))
def zoA (K:ag) (ta:TA):TI:=fun σ H R=>ta σ H fun vs H1=>∃ a xs,vs = [.ref a]∧((kS K H1 a xs∧R (zfX (kS K) a xs.length) H1)∨(k6 K H1 a xs∧R (zfX (k6 K) a xs.length) H1))
theorem zmT {X:Cx} {tg:Expr} {p pos:Pos} {a:Expr} {ta:TA} (hg:Gl X "reversed") (hm:X.mg "reversed" = none) (ha:PA X [a] ta) (hs:starEach [a] X.env = [(false,eval a X.env)]:=by rfl) :
  PI X tg (.Call (.Name "reversed" p) [a] [] pos) (zoA X.K ta):=by
 intro kP s σ H R I h;refine Call_ (zbD I hg hm boot_reversed (bv (thn (ha pos kP s σ H _ I h) fun us s1 ⟨vs,H1,I1,r1,q1⟩=>?_) hs rfl));obtain⟨l,xs,e,hq⟩:=q1;subst e;cases r1 with
 | cons r rr =>
  cases rr;cases r;rcases hq with ⟨hq,q⟩ | ⟨hq,q⟩
  ·exact zf0 I1 hq q
  ·exact zfn I1 hq q
inductive EqD (K:ag) (H:Hp):Nat→V→V→Bool→Prop where
 | flat {d:Nat} {x y:V} (hx:zcv x=true) (hy:zcv y=true):EqD K H d x y (eqV x y)
 | same {d:Nat} {a:Addr}:EqD K H d (.ref a) (.ref a) true
 | lists {d:Nat} {a b:Addr} {xs ys:List V} {e:Nat→Bool} (lY:a≠b) (ha:kS K H a xs) (hb:kS K H b ys) (hl:xs.length=ys.length)
   (he:∀ (j:Nat) x y,xs[j]? = some x→ys[j]? = some y→EqD K H d x y (e j)):EqD K H (d+1) (.ref a) (.ref b) ((aR xs.length).all e)
 | lens {d:Nat} {a b:Addr} {xs ys:List V} (lY:a≠b) (ha:kS K H a xs) (hb:kS K H b ys) (hl:xs.length≠ys.length):EqD K H (d+1) (.ref a) (.ref b) false
 | tups {d:Nat} {a b:Addr} {xs ys:List V} {e:Nat→Bool} (lY:a≠b) (ha:k6 K H a xs) (hb:k6 K H b ys)
   (he:∀ (j:Nat) x y,xs[j]? = some x→ys[j]? = some y→EqD K H d x y (e j)):EqD K H (d+1) (.ref a) (.ref b) ((aR (min xs.length ys.length)).all e && xs.length == ys.length)
theorem zF.getE {xs:List V} {us:List Value} (r:zF xs us) {j:Nat} (h:j < us.toArray.size):∃ x,xs[j]? = some x∧RelV x us.toArray[j]:=by
 have hl:=r.length;have hj:j < xs.length:=by rw [hl]; simpa using h
 obtain⟨u,hu,ru⟩:=r.get (i:=j) (x:=xs[j]) #[M];refine⟨xs[j],#[M],?_⟩;have:us.toArray[j]=u:=by
  have h2:j < us.length:=by simpa using h
  rw [ap h2] at hu;simpa using aM hu
 rw [this];exact ru
theorem EqD.at {X:Cx} {kP:List (Addr×Obj)} {σ:St} {H:Hp} {s:Shared} (I:Inv X kP σ H s) {d:Nat} {x y:V} {b:Bool} (h:EqD X.K H d x y b) :
  ∀ (A:Around) (u v:Value),RelV x u→RelV y v→A.units+d < cLine→iW A s u v b:=by
 induction h with
 | flat hx hy=>exact fun A u v rx ry _=>zjv rx ry hx hy
 | same=>intro A u v rx ry _; cases rx; cases ry; exact kd _
 | lists lY ha hb hl he ih =>
  intro A u v rx ry hu;cases rx; cases ry;obtain⟨wA,r1,p1,_⟩:=I.list ha;obtain⟨wB,r2,p2,_⟩:=I.list hb;have l1:=r1.length;have l2:=r2.length;refine gd lY ?_;have q:=SeqAt.RcAt.lists (A:=A) p1.isList p2.isList (by simp only [am]; lia) #[O] fun j h1 h2=>by
   obtain⟨x,hx,rx⟩:=r1.getE h1;obtain⟨y,hy,ry⟩:=r2.getE h2;exact ih j x y hx hy A.in1 _ _ rx ry (by simp only [cN]; lia)
  rw [am,← l1] at q;exact q
 | lens lY ha hb hl =>
  intro A u v rx ry hu;cases rx; cases ry;obtain⟨wA,r1,p1,_⟩:=I.list ha;obtain⟨wB,r2,p2,_⟩:=I.list hb;have l1:=r1.length;have l2:=r2.length;exact gd lY (SeqAt.RcAt.lists_lengths p1.isList p2.isList (by simp only [am,bne_iff_ne]; lia) #[O])
 | tups lY ha hb he ih =>
  intro A u v rx ry hu;cases rx; cases ry;obtain⟨wA,r1,p1,_⟩:=I.tuple ha;obtain⟨wB,r2,p2,_⟩:=I.tuple hb;have l1:=r1.length;have l2:=r2.length;refine gd lY ?_;have q:=SeqAt.RcAt.tuples (A:=A) (s:=s) p1 p2 #[O] fun j h1 h2=>by
   obtain⟨x,hx,rx⟩:=r1.getE h1;obtain⟨y,hy,ry⟩:=r2.getE h2;exact ih j x y hx hy A.in1 _ _ rx ry (by simp only [cN]; lia)
  rw [am,am,← l1,← l2] at q;exact q
def znX (K:ag) (neg:Bool):R2:=fun x y H Q=>∃ a b xs ys,x = .ref a∧y = .ref b∧((kS K H a xs∧kS K H b ys)∨(k6 K H a xs∧k6 K H b ys)) ∧
 ((xs.length≠ys.length∧(∀ (j:Nat) x y,xs[j]? = some x→ys[j]? = some y→∃ c,EqD K H 8 x y c)∧Q (.bl neg) H) ∨
  (xs.length=ys.length∧∃ e:Nat→Bool,(∀ (j:Nat) x y,xs[j]? = some x→ys[j]? = some y→EqD K H 8 x y (e j))∧Q (.bl (if neg then !(aR xs.length).all e else (aR xs.length).all e)) H))
theorem zgZ {X:Cx} (hu:X.A.units+20 < cLine):OpR X (compareOp .NotEq) (znX X.K true):=by
 intro kP s σ H x y v u Q I rx ry h;obtain⟨a,b,xs,ys,rfl,rfl,hk,h⟩:=h;cases rx; cases ry;rcases hk with ⟨ha,hb⟩ | ⟨ha,hb⟩
 ·obtain⟨wA,r1,p1,_⟩:=I.list ha;obtain⟨wB,r2,p2,_⟩:=I.list hb;have l1:=r1.length;have l2:=r2.length;rcases h with ⟨hl,_,q⟩ | ⟨hl,e,he,q⟩
  ·exact SeqAt.RcNeAt.lists_lengths p1.isList p2.isList (by simp only [am,bne_iff_ne]; lia) #[O] _ _ _ _ ⟨.bl true,H,I,rfl,q⟩
  ·refine SeqAt.RcNeAt.lists p1.isList p2.isList (e:=e) (by simp only [am]; lia) #[O] (fun j h1 h2=>?_) _ _ _ _ ⟨.bl _,H,I,rfl,?_⟩
   ·obtain⟨x,hx,rx⟩:=r1.getE h1;obtain⟨y,hy,ry⟩:=r2.getE h2;exact (he j x y hx hy).at I _ _ _ rx ry (by simp only [cN]; lia)
   ·rw [am,← l1];exact q
 ·obtain⟨wA,r1,p1,_⟩:=I.tuple ha;obtain⟨wB,r2,p2,_⟩:=I.tuple hb;have l1:=r1.length;have l2:=r2.length;rcases h with ⟨hl,he,q⟩ | ⟨hl,e,he,q⟩
  ·have vQ:∀ j:Nat,∃ c:Bool,∀ x y,xs[j]? = some x→ys[j]? = some y→EqD X.K H 8 x y c:=fun j=>by
    cases hx:xs[j]? with
    | none=>exact⟨true,fun x y z=>by cases z⟩
    | some x =>
     cases hy:ys[j]? with
     | none=>exact⟨true,fun x y _ z=>by cases z⟩
     | some y =>
      obtain⟨c,hc⟩:=he j x y hx hy;exact⟨c,fun x' y' z1 z2=>by cases z1; cases z2; exact hc⟩
   obtain⟨e,qO⟩:=Classical.axiomOfChoice vQ;refine jg (s:=s) p1 p2 (e:=e) #[O] (fun j h1 h2=>?_) _ _ _ _ ⟨.bl _,H,I,rfl,?_⟩
   ·obtain⟨x,hx,rx⟩:=r1.getE h1;obtain⟨y,hy,ry⟩:=r2.getE h2;exact (qO j x y hx hy).at I _ _ _ rx ry (by simp only [cN]; lia)
   ·have uO:(wA.toArray.size == wB.toArray.size)=false:=by
     rw [am,am]; exact beq_eq_false_iff_ne.mpr #[O]
    rw [uO,Bool.and_false];exact q
  ·refine jg (s:=s) p1 p2 (e:=e) #[O] (fun j h1 h2=>?_) _ _ _ _ ⟨.bl _,H,I,rfl,?_⟩
   ·obtain⟨x,hx,rx⟩:=r1.getE h1;obtain⟨y,hy,ry⟩:=r2.getE h2;exact (he j x y hx hy).at I _ _ _ rx ry (by simp only [cN]; lia)
   ·have uO:(wA.toArray.size == wB.toArray.size)=true:=by
     rw [am,am]; exact beq_iff_eq.mpr #[O]
    have wC:min wA.toArray.size wB.toArray.size=xs.length:=by rw [am,am]; lia
    rw [uO,jb,wC];exact q
theorem zjI {K:ag} {H:Hp} {ms ns:List Int}:∀ (j:Nat) x y,(ms.map V.int)[j]? = some x→(ns.map V.int)[j]? = some y→EqD K H 8 x y ((fun j=>decide (ms[j]? = ns[j]?)) j):=fun j x y hx hy=>by
 rw [ak] at hx hy;cases h1:ms[j]? with
 | none=>rw [h1] at hx; cases hx
 | some m =>
  cases h2:ns[j]? with
  | none=>rw [h2] at hy; cases hy
  | some n =>
   rw [h1] at hx; rw [h2] at hy;cases hx; cases hy;have e:eqV (.int m) (.int n)=decide (some m=some n):=by
    show (m == n)=_;rw [cf]; simp
   show EqD K H 8 (.int m) (.int n) (decide (ms[j]? = ns[j]?));rw [h1,h2,← e];exact EqD.flat rfl rfl
theorem zdj {X:Cx}:zca X (.type "range") (fun xs H Q=>∃ j:Int,xs = [.int j]∧∀ l,H l=none→Q (.ref l) (kW H l (.rng 0 j))):=by
 intro kP s σ H xs us Q I r h;obtain⟨j,rfl,q⟩:=h;obtain⟨u,rfl,t,rfl⟩:=vals1 r;refine call_range_1 ?_;exact⟨.ref s.heap.objs.size,_,I.laid (o:=.rng 0 j) (fun b o e=>ah _ e) (af _) ⟨_,_,_,aG _ rfl⟩,rfl,q _ I.fresh⟩
def zaw (lo:Int) (n:Nat):List Int:=(aR n).map fun (i:Nat)=>lo+(i:Int)
theorem zcx (lo:Int) (n:Nat):(zaw lo n).length=n:=by simp [zaw]
theorem zeA {acc:Array Value} {lo:Int} {n:Nat} (h:ItemsOf (fun i v=>∃ t,v = .int (lo+(i:Nat)*1) t) acc n):zF ((zaw lo n).map V.int) acc.toList:=by
 obtain⟨hsz,hv⟩:=h;have go:∀ (us:List Value) (k:Nat),(∀ (j:Nat) v,us[j]? = some v→∃ t,v = .int (lo+((k+j:Nat):Int)) t)→zF (((aR us.length).map fun (i:Nat)=>V.int (lo+((k+i:Nat):Int)))) us:=by
  intro us;induction us with
  | nil=>intro k _; exact .nil
  | cons u us ih =>
   intro k hu;rw [bK,fo,aS,bt];refine .cons ?_ ?_
   ·obtain⟨t,e⟩:=hu 0 u rfl;exact⟨t,e⟩
   ·have:=ih (k+1) fun j v e=>by
     obtain⟨t,z⟩:=hu (j+1) v (by simpa using e);exact⟨t,by rw [z]; congr 1; lia⟩
    have e2:(fun (i:Nat)=>V.int (lo+((k+1+i:Nat):Int)))=((fun (i:Nat)=>V.int (lo+((k+i:Nat):Int))) ∘ Nat.succ):=by
     funext i;show V.int _=V.int _;congr 2;show ((k+1+i:Nat):Int)=((k+(i+1):Nat):Int);lia
    rw [← e2];exact this
 have h1:=go acc.toList 0 fun j v e=>by
  obtain⟨t,z⟩:=hv j v (by simpa using e);exact⟨t,by rw [z]; simp⟩
 have e1:acc.toList.length=n:=by simpa using hsz
 rw [e1] at h1;unfold zaw;rw [bt];have e2:(V.int ∘ fun (i:Nat)=>lo+(i:Int))=fun (i:Nat)=>V.int (lo+((0+i:Nat):Int)):=by
  funext i;show V.int (lo+(i:Int))=V.int (lo+((0+i:Nat):Int));rw [cW]
 rw [e2];exact h1
theorem zcy {X:Cx} (hc:X.calm=true):zca X (.type "list") (fun xs H Q=>∃ p hi,xs = [.ref p]∧H p=some (.rng 0 hi)∧0≤hi∧hi≤1000∧∀ l,H l=none→Q (.ref l) (kW H l (.lst ((zaw 0 hi.toNat).map V.int)))):=by
 intro kP s σ H xs us Q I r h;obtain⟨p,hi,rfl,hp,h0,h1,q⟩:=h;obtain⟨u,rfl,rx⟩:=vals1 r;cases rx;obtain⟨t,u',v,e⟩:=(show zaz X.prog X.w H s.heap p (.rng 0 hi) from I.hok p _ hp);have oD:=bi;refine call_list_range (n:=hi.toNat) (I.ok.hd hc) (show IsRange s.heap p 0 hi 1 t u' v from e) (small_one #[O] #[O] #[O] #[O]) (by rw [rangeSize_one]; split <;> lia) #[O] fun h' tk Cn c' kk ho tG=>?_
 have hv:=zeA (lo:=0) (n:=hi.toNat) tG;refine⟨.ref s.heap.objs.size,_,I.laid kk (af _) ?_,rfl,q _ I.fresh⟩;exact⟨by rw [ab,zcx]; lia,Cn.toList,c',hv,by simpa using ho⟩
def zoB (K:ag) (tl:TE):TI:=fun σ H R=>tl σ H fun x H1=>∃ a,x = .ref a∧(((∃ xs,kS K H1 a xs)∧R (Itl K a) H1)∨((∃ xs,k6 K H1 a xs)∧R (Itt K a) H1))
theorem zmU {X:Cx} {tg l:Expr} {tl:TE} (hl:PE X l tl):PI X tg l (zoB X.K tl):=by
 intro kP s σ H R I h;refine thn (hl kP s σ H _ I h) fun v s1 ⟨x,H1,I1,r1,q1⟩=>?_
 obtain⟨a,e,q⟩:=q1;subst e;cases r1;rcases q with ⟨⟨xs,hq⟩,q⟩ | ⟨⟨xs,hq⟩,q⟩
 ·obtain⟨kR,rv,p,hz⟩:=I1.list hq;refine gu p.isList ?_;refine⟨s1.heap.objs.size,[s1.heap.objs.size],_,_,H1,rfl,I1.kept (t':=s1.toks) fun b o e=>ah _ e,zeH a _,⟨_,aG _ rfl,rfl,rfl⟩,fun b hb=>?_,q⟩;have e:b=s1.heap.objs.size:=by simpa using hb
  subst e;exact I1.fpOk (af _) (I1.hok.fresh (af _))
 ·obtain⟨kR,rv,p,hz⟩:=I1.tuple hq;refine eK (show s1.heap.IsTuple a kR.toArray from p) ?_;refine⟨s1.heap.objs.size,[s1.heap.objs.size],_,_,H1,rfl,I1.kept (t':=s1.toks) fun b o e=>ah _ e,zdQ a _,⟨_,aG _ rfl,rfl,rfl⟩,fun b hb=>?_,q⟩;have e:b=s1.heap.objs.size:=by simpa using hb
  subst e;exact I1.fpOk (af _) (I1.hok.fresh (af _))
def intsOf:List Expr→Option (List Int)
 | []=>some []
 | .Constant (.int i) _ _ :: r=>(intsOf r).map (i :: ·)
 | _=>none
def zeT (ns:List Int):TA:=fun _ H Q=>Q (ns.map V.int) H
theorem zjJ {X:Cx}:∀ (es:List Expr) (ns:List Int),intsOf es=some ns→PA X es (zeT ns):=by
 intro es;induction es with
 | nil =>
  intro ns h;have e:ns = []:=(aM h).symm;subst e;exact zg
 | cons e r ih =>
  intro ns h;unfold intsOf at h;split at h
  ·rename_i heq
   cases heq
  ·rename_i i j p r' heq
   injection heq with e1 e2
   subst e1 e2;cases hr:intsOf r with
   | none=>rw [hr] at h; cases h
   | some ms =>
    rw [hr] at h;have e:i :: ms=ns:=aM h;subst e;exact zc zh (ih ms hr)
  ·cases h
theorem zld {X:Cx} {es:List Expr} {ns:List Int} (h:intsOf es=some ns):PA X es (zeT ns):=zjJ es ns h
theorem zcz {X:Cx} {i:Int} {j:Nat} {p:Pos} {es:List Expr} {t:TA} (hr:PA X es t):PA X (.Constant (.int i) j p :: es) (zme (tC (.int i)) t):=zc zh hr
theorem zjK {X:Cx} {i:Nat} {x:Str} {pos' pq oC:Pos} {rest:List Stmt} {u:TS} {es:List Expr} {ns:List Int} (h:intsOf es=some ns) (hN:X.N.Nodup) (hi:X.N[i]? = some x) (hx:Loc X.env.scope x)
  (hf:X.fn x=true∨X.env.scope.names.lookup x=some .local) (hr:PSs X rest u):PSs X (.Assign [.Name x pos'] (.List es pq) oC :: rest) (zay (zgN (zk6 (zeT ns)) (za1 i)) u):=by
 have h1:PE X (.List es pq) (zk6 (zeT ns)):=@zac X es (zeT ns) pq (@zld X es ns h);have h2:PS X (.Assign [.Name x pos'] (.List es pq) oC) (zgN (zk6 (zeT ns)) (za1 i)):=zr hN hi hx h1 (by rfl) hf;exact zf h2 hr
section
variable {X:Cx} {K:ag}
theorem zdZ (hK:X.K=K):IxR X (znP K):=by subst hK; exact zG
theorem zle (hK:X.K=K):IxR X (znQ K):=by subst hK; exact zbb
theorem zjL (hK:X.K=K):SlR X (znS K):=by subst hK; exact zbR
theorem zg0 (hK:X.K=K):OpR X (compareOp .In) (rIn K false):=by subst hK; exact ziD
def znY (K:ag):List V→Hp→VK→Prop:=fun xs H Q=>∃ p ys,xs = [.ref p]∧(kS K H p ys∨k6 K H p ys)∧Q (.int ys.length) H
theorem zbF (hK:X.K=K):zca X (.builtin "len") (znY K):=by subst hK; exact zO
theorem zaU {es:List Expr} {k:Nat} {t:TGs} {n:Nat} {pos:Pos} (hK:X.K=K) (hc:X.calm=true) (h:PGs X es t)
  (hn:(assignEach es X.env).length=n:=by rfl) (o8:(assignEach es X.env).findIdx? (·.1)=none:=by rfl):PG X (.Tuple es k pos) (zgM K n t):=by subst hK; exact za2 hc h hn o8
theorem zmV {o e:Expr} {es:List Expr} {to:TE} {t:TA} {name:Str} {apos nE:Pos} {T id:String} {r:V→List V→Hp→VK→Prop} (hK:X.K=K) (pa:PlainAttrs T) (slot:Slot T name id) (B0:typeOf (.builtin id)=pure (.type "method_descriptor")) (hm:MtR X id r) (ho:PE X o to) (ha:PA X (e :: es) t)
  (tj:attributeBase o name X.env (eval o X.env)=eval o X.env:=by rfl)
  (wo:((backTo nE (starEach (e :: es) X.env)).all (fun x=>!x.1) && (backToKw nE (keywordEach [] X.env)).all (fun x=>x.1.isSome)
   && decide ((e :: es).length+([]:List Keyword).length+(if ([]:List Keyword).isEmpty then 0 else 1) < 30))=true:=by rfl)
  (tq:(apos.endLine == nE.line)=true:=by rfl) (hs:starEach (e :: es) X.env=(false,eval e X.env) :: starEach es X.env:=by rfl) (qK:(backTo nE (starEach es X.env)).any (·.1)=false:=by rfl) :
  PE X (.Call (.Attribute o name apos) (e :: es) [] nE) (tBM K T r to t):=by subst hK; exact zdg pa slot B0 hm ho ha tj wo tq hs qK
end
end L2
end
section
namespace My
def Cg (p a b:Int):Prop:=∃ k,a=b+p*k
theorem Cg.refl (p a:Int):Cg p a a:=⟨0,by grind⟩
theorem Cg.symm {p a b:Int} (h:Cg p a b):Cg p b a:=by obtain⟨k,e⟩:=h; exact⟨-k,by grind⟩
theorem Cg.trans {p a b c:Int} (h:Cg p a b) (h':Cg p b c):Cg p a c:=by
 obtain⟨k,e⟩:=h; obtain⟨l,e'⟩:=h'; exact⟨k+l,by grind⟩
theorem Cg.add {p a b c d:Int} (h:Cg p a b) (h':Cg p c d):Cg p (a+c) (b+d):=by
 obtain⟨k,e⟩:=h; obtain⟨l,e'⟩:=h'; exact⟨k+l,by grind⟩
theorem Cg.sub {p a b c d:Int} (h:Cg p a b) (h':Cg p c d):Cg p (a - c) (b - d):=by
 obtain⟨k,e⟩:=h; obtain⟨l,e'⟩:=h'; exact⟨k - l,by grind⟩
theorem Cg.mul {p a b c d:Int} (h:Cg p a b) (h':Cg p c d):Cg p (a*c) (b*d):=by
 obtain⟨k,e⟩:=h; obtain⟨l,e'⟩:=h';exact⟨k*d+b*l+p*k*l,by subst e e'; grind⟩
theorem Cg.of_eq {p a b:Int} (h:a=b):Cg p a b:=h ▸ Cg.refl p a
theorem Cg.emod (p a:Int):Cg p (a % p) a:=⟨-(a / p),by have:=Int.emod_add_mul_ediv a p; grind⟩
theorem Cg.mod_eq {p a b:Int} (h:Cg p a b):a % p=b % p:=by
 obtain⟨k,e⟩:=h; rw [e,Int.add_mul_emod_self_left]
theorem Cg.of_mod {p a b:Int} (h:a % p=b % p):Cg p a b:=(Cg.emod p a).symm.trans (h ▸ Cg.emod p b)
theorem Cg.eq {p a b:Int} (h:Cg p a b) (ha:0≤a) (ha':a < p) (hb:0≤b) (uO:b < p):a=b:=by
 have:=h.mod_eq
 rwa [cG ha ha',cG hb uO] at this
def zn (p x:Int):List Int→Int
 | []=>0
 | c :: r=>(c+x*zn p x r) % p
theorem zaN {p x:Int} (hp:0 < p):∀ l,0≤zn p x l
 | []=>bT 0
 | _ :: _=>aJ _ #[O]
theorem zaO {p x:Int} (hp:0 < p):∀ l,zn p x l < p
 | []=>hp
 | _ :: _=>aD _ hp
theorem zad (p x c:Int) (r:List Int):Cg p (zn p x (c :: r)) (c+x*zn p x r):=Cg.emod _ _
theorem zg1 {p x:Int} (m:Nat):zn p x (aw m 0)=0:=by
 induction m with
 | zero=>rfl
 | succ m ih=>rw [bS]; show (0+x*zn p x (aw m 0)) % p=0; rw [ih]; simp
theorem zf1 {p x:Int} (m:Nat):∀ l,zn p x (l++aw m 0)=zn p x l
 | []=>zg1 m
 | c :: r=>by show (c+x*zn p x (r++aw m 0)) % p=(c+x*zn p x r) % p; rw [zf1 m r]
def lv (p x:Int):Int→Int→List Int→Int
 | k8,_,[]=>k8
 | k8,power,c :: r=>lv p x ((k8+c*power) % p) (power*x % p) r
theorem zmh {p x:Int}:∀ (l:List Int) (k8 power:Int),Cg p (lv p x k8 power l) (k8+power*zn p x l)
 | [],k8,power=>Cg.of_eq (by show k8=k8+power*0; grind)
 | c :: r,k8,power=>by
  have h1:=zmh (p:=p) (x:=x) r ((k8+c*power) % p) (power*x % p);refine h1.trans ?_;have h2:Cg p ((k8+c*power) % p+power*x % p*zn p x r) (k8+c*power+power*x*zn p x r):=(Cg.emod p _).add ((Cg.emod p (power*x)).mul (Cg.refl p _));refine h2.trans ?_;have h3:Cg p (k8+power*(c+x*zn p x r)) (k8+power*zn p x (c :: r)):=(Cg.refl p _).add ((Cg.refl p _).mul (zad p x c r).symm);refine (Cg.of_eq ?_).trans h3;grind
theorem zjM {p x:Int} (hp:0 < p):∀ (l:List Int) (k8 power:Int),0≤k8→k8 < p→0≤lv p x k8 power l∧lv p x k8 power l < p
 | [],k8,power,h1,h2=>⟨h1,h2⟩
 | c :: r,k8,power,h1,h2=>zjM hp r _ _ (aJ _ #[O]) (aD _ hp)
theorem zhL {p x:Int} (hp:0 < p) (l:List Int):lv p x 0 1 l=zn p x l:=by
 obtain⟨a,b⟩:=zjM (x:=x) hp l 0 1 (bT _) hp;exact ((zmh l 0 1).trans (Cg.of_eq (by grind))).eq a b (zaN hp l) (zaO hp l)
def zp:List Int:=[5,7,11,13,17,19,23,29,31,37,41,43,47,53,59,61,67,71,73,79,83,89,97]
def zck (p:Int):Nat→Int→Int→Int→Int
 | 0,prod,_,_=>prod
 | n+1,prod,sq,left=>if 0 < left then zck p n (if left % 2=1 then prod*sq % p else prod) (sq*sq % p) (left / 2) else prod
def inv (p h:Int):Int:=zck p 7 1 (h % p) (p - 2)
def zoC:Bool:=zp.all fun p=>(aR p.toNat).all fun h=>h == 0 || (inv p h*h) % p == 1
theorem ziM:zoC=true:=by decide +kernel
theorem zu {p:Int} (hp:p∈zp):5≤p∧p≤97:=by
 have:zp.all (fun p=>decide (5≤p∧p≤97))=true:=by decide +kernel
 have:=dj.mp this p hp;simpa using this
theorem zfo {p h:Int} (hp:p∈zp) (h0:0 < h) (h1:h < p):Cg p (inv p h*h) 1:=by
 have e:=dj.mp (dj.mp ziM p hp) h.toNat (bx.mpr #[O]);have hh:((h.toNat:Nat):Int)=h:=by lia
 have:h.toNat≠0:=by lia
 simp only [kg,beq_iff_eq,hh,this,false_or] at e;have hr:=zu hp;exact Cg.of_mod (by rw [e,cG #[O] #[O]])
theorem zf2 {p a b:Int} (hp:p∈zp) (h:Cg p (a*b) 0):Cg p a 0∨Cg p b 0:=by
 have hr:=zu hp;by_cases ha:a % p=0
 ·exact .inl (Cg.of_mod (by rw [ha]; simp))
 ·right;have h0:0 < a % p:=by have:=aJ a (show p≠0 by lia); lia
  have hi:=zfo hp h0 (aD a #[O]);have h1:Cg p (inv p (a % p)*(a*b)) 0:=((Cg.refl p _).mul h).trans (Cg.of_eq (by grind));have h2:Cg p (inv p (a % p)*(a % p)*b) (1*b):=hi.mul (Cg.refl p b);have h3:Cg p (inv p (a % p)*(a*b)) (inv p (a % p)*(a % p)*b):=by
   have:=((Cg.refl p (inv p (a % p))).mul (Cg.emod p a).symm).mul (Cg.refl p b);exact (Cg.of_eq (by grind)).trans this
  exact ((Cg.of_eq (by grind)).trans (h2.symm.trans (h3.symm.trans h1)))
def trF (p r:Int) (high low:Int):Int:=(high - r*low) % p
def zcJ (p r:Int) (v:List Int):List Int:=a8 (trF p r) (0 :: v) (v++[0])
theorem zmi {p r z:Int}:∀ (v:List Int) (h:Int),Cg p (zn p z (a8 (trF p r) (h :: v) (v++[0]))) (h+(z - r)*zn p z v)
 | [],h=>by
  show Cg p ((trF p r h 0+z*0) % p) (h+(z - r)*0);refine (Cg.emod p _).trans ?_;have:Cg p (trF p r h 0) (h - r*0):=Cg.emod p _;exact (this.add (Cg.refl p (z*0))).trans (Cg.of_eq (by grind))
 | c :: w,h=>by
  show Cg p ((trF p r h c+z*zn p z (a8 (trF p r) (c :: w) (w++[0]))) % p) (h+(z - r)*zn p z (c :: w));have ih:=zmi (p:=p) (r:=r) (z:=z) w c;have h1:Cg p (trF p r h c) (h - r*c):=Cg.emod p _;refine (Cg.emod p _).trans ((h1.add ((Cg.refl p z).mul ih)).trans ?_);have h2:Cg p (h+(z - r)*(c+z*zn p z w)) (h+(z - r)*zn p z (c :: w)):=(Cg.refl p h).add ((Cg.refl p _).mul (zad p z c w).symm);exact (Cg.of_eq (by grind)).trans h2
theorem zlf {p r z:Int} (v:List Int):Cg p (zn p z (zcJ p r v)) ((z - r)*zn p z v):=(zmi v 0).trans (Cg.of_eq (by grind))
theorem zeU (p r:Int) (v:List Int):(zcJ p r v).length=v.length+1:=by simp [zcJ]
theorem zd0 {α β γ:Type} {f:α→β→γ}:∀ {as:List α} {bs:List β} {c:γ},c∈a8 f as bs→∃ a b,c=f a b
 | [],_,c,h=>by simp at h
 | _ :: _,[],c,h=>by simp at h
 | a :: as,b :: bs,c,h=>by
  rcases aC.mp h with e | e
  ·exact⟨a,b,e⟩
  ·exact zd0 e
theorem zmW {p r:Int} (hp:0 < p) (v:List Int):∀ c∈zcJ p r v,0≤c∧c < p:=by
 intro c hc;obtain⟨a,b,e⟩:=zd0 hc;rw [e]; exact⟨aJ _ #[O],aD _ hp⟩
def ad (p f:Int):List Int→List Int→List Int
 | c :: cs,v :: vs=>(c+f*v) % p :: ad p f cs vs
 | cs,[]=>cs
 | [],_ :: _=>[]
theorem zeV (p f:Int):∀ (cs vs:List Int),(ad p f cs vs).length=cs.length
 | _ :: cs,_ :: vs=>by show (ad p f cs vs).length+1=_; rw [zeV p f cs vs]; rfl
 | [],[]=>rfl
 | _ :: _,[]=>rfl
 | [],_ :: _=>rfl
theorem zjN {p f:Int} (hp:0 < p):∀ (cs vs:List Int),(∀ c∈cs,0≤c∧c < p)→∀ c∈ad p f cs vs,0≤c∧c < p
 | c :: cs,v :: vs,h,d,hd=>by
  rcases aC.mp hd with e | e
  ·rw [e]; exact⟨aJ _ #[O],aD _ hp⟩
  ·exact zjN hp cs vs (fun c hc=>h c (aj _ hc)) d e
 | [],[],h,d,hd=>h d hd
 | _ :: _,[],h,d,hd=>h d hd
 | [],_ :: _,h,d,hd=>by cases hd
theorem zhM {p f z:Int}:∀ (cs vs:List Int),vs.length≤cs.length→Cg p (zn p z (ad p f cs vs)) (zn p z cs+f*zn p z vs)
 | c :: cs,v :: vs,h=>by
  have ih:=zhM (p:=p) (f:=f) (z:=z) cs vs (by simpa using h);show Cg p (((c+f*v) % p+z*zn p z (ad p f cs vs)) % p) (zn p z (c :: cs)+f*zn p z (v :: vs));refine (Cg.emod p _).trans (((Cg.emod p (c+f*v)).add ((Cg.refl p z).mul ih)).trans ?_);have h2:Cg p ((c+z*zn p z cs)+f*(v+z*zn p z vs)) (zn p z (c :: cs)+f*zn p z (v :: vs)):=(zad p z c cs).symm.add ((Cg.refl p f).mul (zad p z v vs).symm);exact (Cg.of_eq (by grind)).trans h2
 | [],[],_=>Cg.of_eq (by show (0:Int)=0+f*0; grind)
 | c :: cs,[],_=>Cg.of_eq (by show zn p z (c :: cs)=zn p z (c :: cs)+f*0; grind)
 | [],_ :: _,h=>by simp at h
def zcc (p:Int) (s:List Int×List Int) (q:Int×Int):List Int×List Int :=
 (ad p ((q.2 - zn p q.1 s.1)*inv p (zn p q.1 s.2) % p) s.1 s.2,zcJ p q.1 s.2)
def znZ (p:Int) (n:Nat) (kQ:List (Int×Int)):List Int×List Int:=kQ.foldl (zcc p) (aw n 0,[1])
def thr (p:Int) (kQ:List (Int×Int)):List Int:=(znZ p kQ.length kQ).1
def zcd (z:Int):List (Int×Int)→Int
 | []=>1
 | q :: r=>(z - q.1)*zcd z r
theorem zd1 (z:Int) (q:Int×Int):∀ l,zcd z (l++[q])=zcd z l*(z - q.1)
 | []=>by show (z - q.1)*1=1*(z - q.1); grind
 | a :: l=>by show (z - a.1)*zcd z (l++[q])=(z - a.1)*zcd z l*(z - q.1); rw [zd1 z q l]; grind
theorem zd2 {z:Int}:∀ {l:List (Int×Int)},(∃ q∈l,q.1=z)→zcd z l=0
 | [],h=>by obtain⟨q,hq,_⟩:=h; cases hq
 | a :: l,h=>by
  show (z - a.1)*zcd z l=0;obtain⟨q,hq,e⟩:=h;rcases aC.mp hq with hq | hq
  ·subst hq; rw [e]; simp
  ·rw [zd2 ⟨q,hq,e⟩]; simp
theorem zf3 {p z:Int} (hp:p∈zp) (hz:0≤z) (Bc:z < p):∀ {l:List (Int×Int)},(∀ q∈l,0≤q.1∧q.1 < p∧q.1≠z)→¬ Cg p (zcd z l) 0
 | [],_,h=>by
  have hr:=zu hp;have:=h.mod_eq;have e1:(zcd z []:Int)=1:=rfl;rw [e1,cG #[O] #[O]] at this;simp at this
 | a :: l,hl,h=>by
  rcases zf2 hp (show Cg p ((z - a.1)*zcd z l) 0 from h) with h | h
  ·obtain⟨h1,h2,h3⟩:=hl a az;have:Cg p z a.1:=by
    have:=h.add (Cg.refl p a.1);exact (Cg.of_eq (by grind)).trans (this.trans (Cg.of_eq (by grind)))
   exact h3 (this.eq hz Bc h1 h2).symm
  ·exact zf3 hp hz Bc (fun q hq=>hl q (aj _ hq)) h
structure Nw (p:Int) (n:Nat) (done:List (Int×Int)) (s:List Int×List Int):Prop where
 lc:s.1.length=n
 lv:s.2.length=done.length+1
 rc:∀ c∈s.1,0≤c∧c < p
 rv:∀ c∈s.2,0≤c∧c < p
 van:∀ z,Cg p (zn p z s.2) (zcd z done)
 hit:∀ q∈done,zn p q.1 s.1=q.2
theorem zf4 {p:Int} (hp:p∈zp) (n:Nat):Nw p n [] (aw n 0,[1]):=by
 have hr:=zu hp;refine⟨#[M],rfl,fun c hc=>?_,fun c hc=>?_,fun z=>?_,fun q hq=>by cases hq⟩
 ·obtain⟨_,e⟩:=List.mem_replicate.mp hc;lia
 ·have:c=1:=by simpa using hc
  lia
 ·show Cg p ((1+z*0) % p) 1;exact (Cg.emod p _).trans (Cg.of_eq (by grind))
theorem zhN {p:Int} {n:Nat} {done:List (Int×Int)} {s:List Int×List Int} (hp:p∈zp) (h:Nw p n done s) {q:Int×Int} (q0:0≤q.1) (q1:q.1 < p) (hd:∀ a∈done,0≤a.1∧a.1 < p∧a.1≠q.1) :
  0 < zn p q.1 s.2∧zn p q.1 s.2 < p:=by
 have hr:=zu hp;refine⟨?_,zaO #[O] _⟩;have h0:=zaN (x:=q.1) (show 0 < p by lia) s.2;by_cases e:zn p q.1 s.2=0
 ·exact absurd ((h.van q.1).symm.trans (Cg.of_eq e)) (zf3 hp q0 q1 hd)
 ·lia
theorem ziN {p:Int} {n:Nat} {done:List (Int×Int)} {s:List Int×List Int} (hp:p∈zp) (h:Nw p n done s) {q:Int×Int} (q0:0≤q.1) (q1:q.1 < p) (hd:∀ a∈done,0≤a.1∧a.1 < p∧a.1≠q.1) :
  Cg p ((q.2 - zn p q.1 s.1)*inv p (zn p q.1 s.2) % p*zn p q.1 s.2) (q.2 - zn p q.1 s.1):=by
 obtain⟨h0,h1⟩:=zhN hp h q0 q1 hd;have hi:=zfo hp h0 h1;refine ((Cg.emod p _).mul (Cg.refl p _)).trans ?_;have:=(Cg.refl p (q.2 - zn p q.1 s.1)).mul hi;exact (Cg.of_eq (by grind)).trans (this.trans (Cg.of_eq (by grind)))
theorem zhO {p:Int} {n:Nat} {done:List (Int×Int)} {s:List Int×List Int} (hp:p∈zp) (h:Nw p n done s) {q:Int×Int} (hn:done.length < n) (q0:0≤q.1) (q1:q.1 < p) (q2:0≤q.2) (q3:q.2 < p)
  (hd:∀ a∈done,0≤a.1∧a.1 < p∧a.1≠q.1∧0≤a.2∧a.2 < p):Nw p n (done++[q]) (zcc p s q):=by
 have hr:=zu hp;have xv:∀ a∈done,0≤a.1∧a.1 < p∧a.1≠q.1:=fun a ha=>⟨(hd a ha).1,(hd a ha).2.1,(hd a ha).2.2.1⟩
 have hlv:=h.lv;have hlc:=h.lc;have hle:s.2.length≤s.1.length:=by lia
 refine⟨by show (ad _ _ _ _).length=n; rw [zeV,h.lc],by show (zcJ _ _ _).length=_; rw [zeU,h.lv,ao,d7],zjN #[O] _ _ h.rc,zmW #[O] _,fun z=>?_,fun a ha=>?_⟩
 ·rw [zd1];exact (zlf s.2).trans (((Cg.refl p _).mul (h.van z)).trans (Cg.of_eq (by grind)))
 ·have hv:=zhM (p:=p) (f:=(q.2 - zn p q.1 s.1)*inv p (zn p q.1 s.2) % p) (z:=a.1) s.1 s.2 hle; rcases aK.mp ha with ha | ha
  ·obtain⟨b0,b1,b2,b3,b4⟩:=hd a ha;have hz:Cg p (zn p a.1 s.2) 0:=(h.van a.1).trans (Cg.of_eq (zd2 ⟨a,ha,rfl⟩));have h2:Cg p (zn p a.1 (ad p ((q.2 - zn p q.1 s.1)*inv p (zn p q.1 s.2) % p) s.1 s.2)) (zn p a.1 s.1):=hv.trans (((Cg.refl p (zn p a.1 s.1)).add ((Cg.refl p _).mul hz)).trans (Cg.of_eq (by rw [cX,Int.add_zero])));rw [h.hit a ha] at h2;exact h2.eq (zaN #[O] _) (zaO #[O] _) b3 b4
  ·have e:a=q:=by simpa using ha
   subst e;have h2:Cg p (zn p a.1 (ad p ((a.2 - zn p a.1 s.1)*inv p (zn p a.1 s.2) % p) s.1 s.2)) a.2:=hv.trans (((Cg.refl p (zn p a.1 s.1)).add (ziN hp h q0 q1 xv)).trans (Cg.of_eq #[O]));exact h2.eq (zaN #[O] _) (zaO #[O] _) q2 q3
structure Pts (p:Int) (kQ:List (Int×Int)):Prop where
 nd:(kQ.map (·.1)).Nodup
 rg:∀ q∈kQ,0≤q.1∧q.1 < p∧0≤q.2∧q.2 < p
theorem Pts.apart {p:Int} {done rest:List (Int×Int)} {q:Int×Int} (h:Pts p (done++q :: rest)):∀ a∈done,0≤a.1∧a.1 < p∧a.1≠q.1∧0≤a.2∧a.2 < p:=fun a ha=>by
 obtain⟨r1,r2,r3,r4⟩:=h.rg a (aP _ ha);refine⟨r1,r2,fun e=>?_,r3,r4⟩;have nd:=h.nd;rw [aq,gD] at nd;exact nd.2.2 a.1 (aB.mpr ⟨a,ha,rfl⟩) q.1 #[M] e
theorem zjO {p:Int} (hp:p∈zp) {n:Nat}:∀ (rest done:List (Int×Int)) (s:List Int×List Int),Pts p (done++rest)→(done++rest).length=n→Nw p n done s→Nw p n (done++rest) (rest.foldl (zcc p) s)
 | [],done,s,_,_,h=>by rw [bI]; exact h
 | q :: rest,done,s,hP,hn,h=>by
  have xw:done.length < n:=by rw [← hn]; simp
  obtain⟨a,b,c,d⟩:=hP.rg q #[M];have hs:=zhO hp h (q:=q) xw a b c d hP.apart;have e:done++q :: rest=(done++[q])++rest:=by simp
  rw [e] at hP hn ⊢;exact zjO hp rest (done++[q]) _ hP hn hs
theorem zd3 {p:Int} (hp:p∈zp) {kQ:List (Int×Int)} (hP:Pts p kQ):(thr p kQ).length=kQ.length∧(∀ c∈thr p kQ,0≤c∧c < p)∧∀ q∈kQ,zn p q.1 (thr p kQ)=q.2:=by
 have h:=zjO hp (n:=kQ.length) kQ [] _ (by simpa using hP) #[M] (zf4 hp kQ.length);exact⟨h.lc,h.rc,h.hit⟩
end My
end
section
namespace My
open PySem L2 PyProof.Rows
section
variable {K:ag}
theorem zjP {ns:List Int} {k:Int} (h0:0≤k) (h1:k < ns.length):∃ c:Int,ns[k.toNat]? = some c∧atI (ns.map V.int) k=some (.int c):=by
 have lF:k.toNat < ns.length:=by lia
 have e:atI (ns.map V.int) ((k.toNat:Nat):Int)=some (.int ns[k.toNat]):=zbm (by simp [ak,ap lF]);have hk:((k.toNat:Nat):Int)=k:=by lia
 rw [hk] at e;exact⟨ns[k.toNat],#[M],e⟩
theorem zdx {ns:List Int} {k:Int} (h0:0≤k) (h1:k < ns.length):∃ c:Int,atI (ns.map V.int) k=some (.int c):=let ⟨c,_,e⟩:=zjP h0 h1; ⟨c,e⟩
theorem ze {H:Hp} {a:Addr} {o:HO} (h:H a=none):zy H (kW H a o):=fun b u e=>by rw [zq (zH e h)]; exact e
theorem zal {H H':Hp} {a:Addr} {o:HO} (s:zy H H') (h:H a=none):zy H (kW H' a o):=fun b u e=>by rw [zq (zH e h)]; exact s b u e
theorem zao {n:Nat} (h:n≤10000):n < sizeLine:=by rw [bi]; lia
def ziO (K:ag):Sp:=fun vs H Q _=>∃ (a:Addr) (ns:List Int) (k:Int),vs = [.ref a,.int k]∧kS K H a (ns.map V.int)∧ns.length≤63∧0≤k∧k≤1000∧∀ c:Int,Q (.int c) H
def zhP (many:Nat) (base:Int) (ds:List Int):Prop:=ds.length=many∧∀ d∈ds,0≤d∧d < base
def zg2 (K:ag):Sp:=fun vs H Q _=>∃ (a:Addr) (ns:List Int) (k many base:Int),vs = [.ref a,.int k,.int many,.int base]∧kS K H a (ns.map V.int)∧ns.length≤63∧0≤k∧k≤1000∧0≤many∧many≤1000∧0 < base∧base < 1073741824 ∧
 ∀ (l:Addr) (ds:List Int) (H':Hp),H l=none→zy H H'→zhP many.toNat base ds→H' l=some (.lst (ds.map V.int))→Q (.ref l) H'
abbrev zlg:List V:=[.int 2147483647,.int 2147483629,.int 2147483587,.int 2147483579,.int 2147483563,.int 2147483549,.int 2147483543,.int 2147483497]
theorem zlh {m:Int} (h0:0≤m) (h1:m < 8):∃ q:Int,atI zlg m=some (.int q)∧0 < q∧q < 2147483648:=by
 have:m=0∨m=1∨m=2∨m=3∨m=4∨m=5∨m=6∨m=7:=by lia
 rcases this with e | e | e | e | e | e | e | e <;> subst e <;> exact⟨_,rfl,#[D],#[D]⟩
theorem zd4 (j:Int):∃ q:Int,atI zlg (j % 8)=some (.int q)∧0 < q∧q < 2147483648:=zlh (aJ _ #[D]) (aD _ #[D])
theorem gY {i:Nat} {x:V} {σ:L2.St} {H:Hp} {A B:L2.St→Hp→Prop} (h:A (σ.set i (some x)) H):za1 i x σ H (fun σ2 H2=>zmO σ2 H2 fun b H3=>if b=true then A σ2 H3 else B σ2 H3):=by
 show (if true=true then A (σ.set i (some x)) H else B (σ.set i (some x)) H);rw [if_pos rfl];exact h
structure CodeOk (mk mn p k:Int) (pl:List Int):Prop where
 pr:p∈zp
 k1:1≤k
 kk:k≤mk
 kl:k≤pl.length
 ln:(pl.length:Int)≤mn
 nd:pl.Nodup
 rg:∀ x∈pl,0≤x∧x < p
def ziP (K:ag):Sp:=fun vs H Q _=>∃ (a:Addr) (ns:List Int) (at' mk mn:Int),vs = [.ref a,.int at',.int mk,.int mn]∧kS K H a (ns.map V.int)∧ns.length≤63∧0≤at'∧at'≤1000∧1≤mk∧mk≤5∧mk≤mn∧mn≤16 ∧
 ∀ (c tt:Addr) (p k:Int) (pl:List Int) (H':Hp),H c=none→zy H H'→CodeOk mk mn p k pl→H' c=some (.tup [.int p,.int k,.ref tt])→H' tt=some (.tup (pl.map V.int))→Q (.ref c) H'
theorem zmX {x y m:Int} (h0:0≤m) (h1:m < 2):∃ z:Int,atI [V.int x,V.int y] m=some (.int z)∧(z=x∨z=y):=by
 have:m=0∨m=1:=by lia
 rcases this with e | e <;> subst e
 ·exact⟨x,rfl,.inl rfl⟩
 ·exact⟨y,rfl,.inr rfl⟩
theorem zjQ {ns:List Int} {k:Int} (h0:0≤k) (h1:k < ns.length):∃ c:Int,c∈ns∧atI (ns.map V.int) k=some (.int c):=by
 obtain⟨c,e,h⟩:=zjP h0 h1;exact⟨c,aE e,h⟩
theorem zeW {α β:Type} (f:α→β):∀ (l:List α) (k:Nat),(l.map f).eraseIdx k=(l.eraseIdx k).map f
 | [],_=>rfl
 | _ :: _,0=>rfl
 | a :: l,k+1=>by show f a :: (l.map f).eraseIdx k=f a :: (l.eraseIdx k).map f; rw [zeW f l k]
theorem zd5 {α:Type}:∀ {l:List α} {k:Nat} {x:α},l[k]? = some x→(x :: l.eraseIdx k).Perm l
 | [],_,_,h=>by simp at h
 | a :: l,0,x,h=>by
  have e:a=x:=by simpa using h
  subst e;exact List.Perm.refl _
 | a :: l,k+1,x,h=>by
  have ih:=zd5 (l:=l) (k:=k) (x:=x) (by simpa using h);exact (List.Perm.swap a x _).trans (ih.cons a)
theorem zli {p:Int} {xs ls:List Int} {k:Nat} {x:Int} (h:ls[k]? = some x) (nd:(xs++ls).Nodup) (rg:∀ y∈xs++ls,0≤y∧y < p):((xs++[x])++ls.eraseIdx k).Nodup∧∀ y∈(xs++[x])++ls.eraseIdx k,0≤y∧y < p:=by
 have hp:((xs++[x])++ls.eraseIdx k).Perm (xs++ls):=by
  rw [bj];exact (zd5 h).append_left xs
 exact⟨hp.nodup_iff.mpr nd,fun y hy=>rg y (hp.mem_iff.mp hy)⟩
theorem ziQ (p:Int):(zaw 0 p.toNat).Nodup∧∀ y∈zaw 0 p.toNat,0≤y∧y < p:=by
 unfold zaw;constructor
 ·rw [gm,bC];exact (gm.mp (fv (n:=p.toNat))).imp fun {a b} nJ=>by lia
 ·intro y hy;obtain⟨i,hi,e⟩:=aB.mp hy;have:=bx.mp hi;lia
def zdk (K:ag):Sp:=fun vs H Q _=>∃ (p x:Int) (a:Addr) (cs:List Int),vs = [.int p,.ref a,.int x]∧(kS K H a (cs.map V.int)∨k6 K H a (cs.map V.int))∧0 < p∧p≤97∧0≤x∧x < p∧Q (.int (zn p x cs)) H
def zg3 (K:ag):Sp:=zdk K
theorem zeX {cs:List Int} {i:Nat} {c:Int} (hi:i < cs.length) (h:cs[cs.length - 1 - i]? = some c):cs.drop (cs.length - (i+1))=c :: cs.drop (cs.length - i):=by
 have e:cs.length - (i+1)=cs.length - 1 - i:=by lia
 have lF:cs.length - 1 - i < cs.length:=by lia
 rw [e,cp lF];have:cs[cs.length - 1 - i]=c:=by
  rw [ap lF] at h;exact aM h
 rw [this];congr 2;lia
theorem zar {cs:List Int} {j:Nat} {x:V} (h:(cs.map V.int)[j]? = some x):∃ c,x = .int c∧cs[j]? = some c:=by
 rw [ak] at h;cases e:cs[j]? with
 | none=>rw [e] at h; cases h
 | some c=>rw [e] at h; exact⟨c,(aM h).symm,rfl⟩
theorem zhQ {p x k8 power c:Int} {cs:List Int} {i:Nat} (h:cs[i]? = some c):lv p x k8 power (cs.drop i)=lv p x ((k8+c*power) % p) (power*x % p) (cs.drop (i+1)):=by
 obtain⟨lF,e⟩:=aA.mp h;rw [cp lF,e];rfl
def zg4 (K:ag):Sp:=fun vs H Q _=>∃ (p h:Int),vs = [.int p,.int h]∧p∈zp∧0≤h∧h < p∧Q (.int (inv p h)) H
def zmY (σ:L2.St):Nat:=match (σ[4]?:Option (Option V)) with
 | some (some (V.int l))=>l.toNat
 | _=>0
theorem zfp {p prod sq left:Int} {n:Nat} (h0:0 < left) (h1:left < 2 ^ (n+1)):zck p (n+1) prod sq left=zck p n (if left % 2=1 then prod*sq % p else prod) (sq*sq % p) (left / 2):=by
 show (if 0 < left then _ else _)=_;rw [if_pos h0]
theorem zf5 {p prod sq:Int}:∀ n,zck p n prod sq 0=prod
 | 0=>rfl
 | n+1=>by show (if (0:Int) < 0 then _ else prod)=prod; rw [if_neg #[D]]
theorem gY2 {K:ag} {i j:Nat} {T:Addr} {x y:V} {σ:L2.St} {H:Hp} {A B:L2.St→Hp→Prop} (hT:k6 K H T [x,y]) (h:A ((σ.set i (some x)).set j (some y)) H) :
  zgM K 2 (zcu (za1 i) (zcu (za1 j) ziy)) (.ref T) σ H (fun σ2 H2=>zmO σ2 H2 fun b H3=>if b=true then A σ2 H3 else B σ2 H3):=by
 refine⟨T,_,rfl,hT,rfl,x,_,rfl,y,_,rfl,rfl,?_⟩;show (if true=true then A ((σ.set i (some x)).set j (some y)) H else B ((σ.set i (some x)).set j (some y)) H);rw [if_pos rfl];exact h
theorem zf6 {f:Int→Int→Int} {as bs:List Int} {i:Nat} {x y:Int} (hx:as[i]? = some x) (hy:bs[i]? = some y):(a8 f as bs).take (i+1)=(a8 f as bs).take i++[f x y]:=by
 have e:(a8 f as bs)[i]? = some (f x y):=by rw [cQ,hx,hy]
 rw [jJ,e,kG]
def zjR (K:ag) (H:Hp) (a:Addr) (kQ:List (Int×Int)):Prop:=∃ bs:List Addr,kS K H a (bs.map V.ref)∧bs.length=kQ.length∧∀ (i:Nat) (b:Addr) (q:Int×Int),bs[i]? = some b→kQ[i]? = some q→H b=some (.tup [.int q.1,.int q.2])
theorem zcK (n:Nat):(aw n [V.int 0]).flatten=(aw n (0:Int)).map V.int:=by
 induction n with
 | zero=>rfl
 | succ n ih=>rw [bS,dB,ih,bS]; rfl
theorem zlj {n j:Nat} (h:j < n):ixN n (j:Int)=some j:=by
 unfold ixN;rw [if_pos #[O],if_pos #[O]];rfl
theorem zP {bs:List Addr} {i:Nat} {x:V} (h:(bs.map V.ref)[i]? = some x):∃ b,x = .ref b∧bs[i]? = some b:=by
 rw [ak] at h;cases e:bs[i]? with
 | none=>rw [e] at h; cases h
 | some b=>rw [e] at h; exact⟨b,(aM h).symm,rfl⟩
theorem take_snoc {α:Type} {l:List α} {i:Nat} {x:α} (h:l[i]? = some x):l.take (i+1)=l.take i++[x]:=by
 rw [jJ,h,kG]
theorem zd6 {α:Type} {l:List α} {i:Nat} {x:α} (h:l[i]? = some x):l=l.take i++x :: l.drop (i+1):=by
 obtain⟨hi,e⟩:=aA.mp h; have:=b7 i l;rw [cp hi,e] at this;exact this.symm
theorem zjS {f:Int→Int→Int} {as bs:List Int} {n:Nat} (h1:n≤as.length) (h2:n≤bs.length) (h3:as.length≤n∨bs.length≤n):(a8 f as bs).length=n:=by
 rw [dg];lia
theorem zeY {a b:Addr} {as bs:List Int} {n:Nat} {f:Int→Int→Int} {g:TG} {ts:TT} {te:TE} {σ0:L2.St} {Q:VK} {H:Hp} (ha:H a=some (.lst (as.map V.int))) (hb:H b=some (.lst (bs.map V.int))) (h1:n≤as.length) (h2:n≤bs.length) (h3:as.length≤n∨bs.length≤n) (hn:n≤10000)
  (hs:∀ (i:Nat) (x y:Int) (H1:Hp) (T:Addr) (R:VK) (B:L2.St→Hp→Prop),as[i]? = some x→bs[i]? = some y→zy H H1→H1 T=none→R (.int (f x y)) (kW H1 T (.tup [.int x,.int y]))→g (.ref T) σ0 (kW H1 T (.tup [.int x,.int y])) fun σ2 H2=>ts σ2 H2 fun b H3=>if b=true then te σ2 H3 R else B σ2 H3)
  (hd:∀ D H1,zy H H1→H1 D=none→Q (.ref D) (kW H1 D (.lst ((a8 f as bs).map V.int)))):cGo g ts te σ0 (ziI (kS K) (kS K) a b) Q H:=by
 have hl:=zjS (f:=f) h1 h2 h3;refine zfj (n:=n) (fun i ys H'=>ys=((a8 f as bs).take i).map V.int∧zy H H') ⟨#[M],fun _ _ e=>e⟩ ?_ ?_ ?_ ?_
 ·rintro i ys H3 hi ⟨_,s3⟩;obtain⟨x,hx⟩:∃ x,as[i]? = some x:=⟨as[i]'#[O],#[M]⟩;obtain⟨y,hy⟩:∃ y,bs[i]? = some y:=⟨bs[i]'#[O],#[M]⟩;exact⟨_,_,.int x,.int y,kS.of (s3 _ _ ha),kS.of (s3 _ _ hb),by rw [ak,hx]; rfl,by rw [ak,hy]; rfl⟩
 ·rintro ys H3 ⟨_,s3⟩;exact⟨_,_,kS.of (s3 _ _ ha),kS.of (s3 _ _ hb),by rw [ab,ab]; exact h3⟩
 ·rintro i x ys H3 H4 hi ⟨rfl,s3⟩ ⟨T,u,v,hT,rfl,rfl,hu,hv⟩;obtain⟨x,rfl,hx⟩:=zar (hu _ (kS.of (s3 _ _ ha)));obtain⟨y,rfl,hy⟩:=zar (hv _ (kS.of (s3 _ _ hb)));refine hs i x y H3 T _ _ hx hy s3 hT ⟨zao ?_,?_,s3.trans (ze hT)⟩
  ·rw [ab];exact aU (fP _ _) #[O]
  ·rw [zf6 hx hy,aq];rfl
 ·rintro ys H3 D ⟨rfl,s3⟩ hD;rw [aQ #[O]];exact hd D H3 s3 hD
theorem zeZ {a:Addr} {xs fs:List V} {g:TG} {ts:TT} {te:TE} {σ0:L2.St} {Q:VK} {H:Hp} (ha:kS K H a xs) (hl:fs.length=xs.length) (hn:xs.length≤10000)
  (hs:∀ (i:Nat) (x y:V) (R:VK) (B:L2.St→Hp→Prop),xs[i]? = some x→fs[i]? = some y→R y H→g x σ0 H fun σ2 H2=>ts σ2 H2 fun b H3=>if b=true then te σ2 H3 R else B σ2 H3)
  (hd:∀ D,H D=none→Q (.ref D) (kW H D (.lst fs))):cGo g ts te σ0 (Itl K a) Q H:=by
 refine zfj (n:=xs.length) (fun i ys H'=>ys=fs.take i∧H'=H) ⟨#[M],rfl⟩ ?_ ?_ ?_ ?_
 ·rintro i ys H3 hi ⟨_,rfl⟩;exact⟨_,xs[i],ha,#[M]⟩
 ·rintro ys H3 ⟨_,rfl⟩;exact⟨_,ha,af _⟩
 ·rintro i x ys H3 H4 hi ⟨rfl,rfl⟩ ⟨rfl,hx⟩;have hy:fs[i]? = some fs[i]:=by simp
  refine hs i x fs[i] _ _ (hx _ ha) hy ⟨zao (aU (fP _ _) #[O]),?_,rfl⟩;rw [take_snoc hy]
 ·rintro ys H3 D ⟨rfl,rfl⟩ hD;rw [aQ #[O]];exact hd D hD
theorem zf7 (ds:List Int) (lo hi:Option Int):∃ ms:List Int,zba (ds.map V.int) lo hi=ms.map V.int∧ms.length≤ds.length:=by
 refine⟨(ds.drop (HT.sIx (ds.map V.int).length 0 lo)).take (HT.sIx (ds.map V.int).length (ds.map V.int).length hi - HT.sIx (ds.map V.int).length 0 lo),?_,?_⟩
 ·unfold zba; rw [eE,gn]
 ·rw [aI,bQ];lia
theorem zf8 {ms:List Int} {f:Int→V} {i:Nat} {x y:V} (hx:(ms.map V.int)[i]? = some x) (hy:(ms.map f)[i]? = some y):∃ c,ms[i]? = some c∧x = .int c∧y=f c:=by
 obtain⟨c,rfl,hc⟩:=zar hx;rw [ak,hc] at hy;exact⟨c,hc,rfl,(aM hy).symm⟩
def zfq (K:ag):Sp:=fun vs H Q _=>∃ (a:Addr) (ns:List Int),vs = [.ref a]∧kS K H a (ns.map V.int)∧ns.length≤63∧∀ H',Q (.bl true) H'
end
end My
end
section
namespace PySem
abbrev IsZ (h:Heap) (z TI TO:Addr) (f0 f1:Value):Prop:=h.get? z=some { cls:=.type "zip",dict:=none,data:=.fields #[f0,f1,.bool false,.ref TI,.ref TO],slots:=#[] }
def ZF (f0 f1:Value):Prop:=(f0 = .none∨∃ a t,f0 = .int a t)∧∃ b,f1 = .bool b
structure Zap (z TI TO i1 i2:Addr) (o9 pd:List Addr):Prop where
 zTI:TI≠z
 zTO:TO≠z
 z1:i1≠z
 z2:i2≠z
 TT:TI≠TO
 T1:TI≠i1
 T2:TI≠i2
 O1:TO≠i1
 O2:TO≠i2
 ii:i1≠i2
 a1:z∉o9
 a2:TO∉o9
 a3:i2∉o9
 b1:z∉pd
 b2:TO∉pd
 b3:i1∉pd
section
variable {prog:Program} {w:World} {A:Around} {E:Value→Shared→Prop} {s:Shared}
theorem ziR {a:Addr} {Q:Option Obj→Shared→Prop} (h:Q (s.heap.get? a) s):wpAny (model prog w) A (loadIfAlive a) Q E s:=fun _ _ _=>h
theorem zjT {z TI TO:Addr} {f0 f1:Value} {Q:Bool→Shared→Prop} (hz:IsZ s.heap z TI TO f0 f1) (hf:ZF f0 f1) (h1:Q true s)
  (h2:∀ h',IsZ h' z TI TO f0 (.bool true)→bg z s.heap h'→Q false { s with heap:=h' }):wpAny (model prog w) A (bJ (.ref z)) Q E s:=by
 obtain⟨hf,b,rfl⟩:=hf;unfold bJ; rcases hf with rfl | ⟨a,t,rfl⟩
 ·exact ae (bb hz rfl (x:=.none) rfl (ai h1))
 ·refine ae (bb hz rfl (x:=.int a t) rfl ?_);refine ae (ziR ?_);cases s.heap.get? a.toNat with
  | none=>exact ai h1
  | some o =>
   refine ae (bb hz rfl (x:=.bool b) rfl ?_);cases b with
   | true=>exact ai (h2 s.heap hz ⟨rfl,fun _ _=>rfl⟩)
   | false=>exact ae (bE hz #[M] fun h' a' b'=>ai (h2 h' a' b'))
theorem zhR {z TI TO i1 i2:Addr} {o9 pd:List Addr} {n1 n2 k1 k2:Nat} {P1 P2:Nat→Value→Prop} {S1 S2:Nat→Heap→Prop} {f0 f1 a b:Value} {Q:Value→Shared→Prop} (D1:Draws prog w A i1 o9 n1 P1 S1) (D2:Draws prog w A i2 pd n2 P2 S2) (Z:Zap z TI TO i1 i2 o9 pd)
  (hz:IsZ s.heap z TI TO f0 f1) (hf:ZF f0 f1) (rW:IsPair s.heap TI (.ref i1) (.ref i2)) (sO:IsPair s.heap TO a b) (nc:S1 k1 s.heap) (lT:S2 k2 s.heap) (l1:k1 < n1) (l2:k2 < n2)
  (hQ:∀ x y h' tk g0 g1 a' b',P1 k1 x→P2 k2 y→IsZ h' z TI TO g0 g1→ZF g0 g1→IsPair h' TI (.ref i1) (.ref i2)→IsPair h' TO a' b'→S1 (k1+1) h'→S2 (k2+1) h'→IsPair h' s.heap.objs.size x y→h'.objs.size=s.heap.objs.size+1 →
   (∀ c o,c≠z→c≠TO→c≠i1→c≠i2→s.heap.get? c=some o→h'.get? c=some o)→Q (.ref s.heap.objs.size) { s with heap:=h',toks:=tk }):wpAny (model prog w) A (Builtin.«zip.__next__» ⟨[.ref z],[]⟩) (fun fin s'=>∃ v,fin = .done (.ret v)∧Q v s') E s:=by
 obtain⟨hp,g,d,Bd,os⟩:=s;show wpAny _ _ (field (.ref z) 2 >>= _) _ _ _; refine ae (bb hz rfl (x:=.bool false) rfl ?_); show wpAny _ _ (field (.ref z) 3 >>= _) _ _ _;refine ae (bb hz rfl (x:=.ref TI) rfl ?_); refine ae (dk rW rfl ?_);show wpAny _ _ (bJ (.ref z) >>= _) _ _ _; refine ae (zjT hz hf ?_ fun h0 hz0 rJ=>?_)
 ·simp only [if_true];refine ae (cg (ae (bb hz rfl (x:=.ref TO) rfl ?_)));refine ae (bE hz #[M] fun ha vR ql=>?_);replace vR:IsZ ha z TI TO .ellipsis f1:=vR;replace ql:bg z hp ha:=ql;refine ae ?_;simp only [j2,kh,dU,fV]; refine ae (ae (gp ?_)); show wpAny _ _ (aZ (.ref i1) >>= _) _ _ _;refine ae (D1.item k1 _ _ _ l1 (D1.frame _ _ _ nc fun c hc o e=>ql.extBut c o (fun q=>Z.a1 (q ▸ hc)) e) fun x hb yt px yu lX=>ai ?_);replace lX:bg i1 ha hb:=lX;have tH:IsPair hb TO a b:=lX.extBut _ _ Z.O1 (ql.extBut _ _ Z.zTO sO);refine ae (dk tH rfl (ae (fG tH fun hc uU rX=>?_)));replace uU:IsPair hc TO x b:=uU;replace rX:bg TO hb hc:=rX;refine ae (iG (ai (ae (ae (gp ?_))))); show wpAny _ _ (aZ (.ref i2) >>= _) _ _ _;refine ae (D2.item k2 _ _ _ l2 (D2.frame _ _ _ lT fun c oh o e=>rX.extBut c o (fun q=>Z.b2 (q ▸ oh)) (lX.extBut c o (fun q=>Z.b3 (q ▸ oh)) (ql.extBut c o (fun q=>Z.b1 (q ▸ oh)) e))) fun y hd Co py Cp pI=>ai ?_);replace pI:bg i2 hc hd:=pI;have uV:IsPair hd TO x b:=pI.extBut _ _ Z.O2 uU;refine ae (dk uV rfl (ae (fG uV fun he uW wD=>?_)));replace uW:IsPair he TO x y:=uW;replace wD:bg TO hd he:=wD;refine ae (iG (ai (ai ?_))); refine ae (dk uW rfl (ae (fW ?_)));have hsz:he.objs.size=hp.objs.size:=by rw [wD.1,pI.1,rX.1,lX.1,ql.1]
  have hze:IsZ he z TI TO .ellipsis f1:=wD.extBut _ _ Z.zTO.symm (pI.extBut _ _ Z.z2.symm (rX.extBut _ _ Z.zTO.symm (lX.extBut _ _ Z.z1.symm vR)));have kk:∀ c o,c≠z→c≠TO→c≠i1→c≠i2→hp.get? c=some o→he.get? c=some o:=fun c o c1 c2 c3 c4 e=>wD.extBut _ _ c2 (pI.extBut _ _ c4 (rX.extBut _ _ c2 (lX.extBut _ _ c3 (ql.extBut _ _ c1 e))))
  have Cq:S1 (k1+1) he:=D1.frame _ _ _ yu fun c oh o e=>wD.extBut c o (fun q=>Z.a2 (q ▸ oh)) (pI.extBut c o (fun q=>Z.a3 (q ▸ oh)) (rX.extBut c o (fun q=>Z.a2 (q ▸ oh)) e))
  have Cr:S2 (k2+1) he:=D2.frame _ _ _ Cp fun c oh o e=>wD.extBut c o (fun q=>Z.b2 (q ▸ oh)) e
  have zlt:z < he.objs.size:=aF hze;show wpAny _ _ (cA (.ref z) (.ref he.objs.size) >>= _) _ _ _;refine ae ?_;unfold cA; have uX:IsZ (he.push { cls:=.type "tuple",data:=.seq #[x,y] }) z TI TO .ellipsis f1:=ah _ hze;refine ae (bE uX #[M] fun h7 Cs vS=>?_);replace Cs:IsZ h7 z TI TO (rawInt he.objs.size) f1:=Cs;refine bE Cs #[M] fun h8 Be Ct=>ai ⟨_,rfl,?_⟩
  replace Be:IsZ h8 z TI TO (rawInt he.objs.size) (.bool false):=Be;have up:∀ c o,c≠z→he.get? c=some o→h8.get? c=some o:=fun c o c1 e=>Ct.extBut _ _ c1 (vS.extBut _ _ c1 (ah _ e))
  have yw:IsPair h8 he.objs.size x y:=Ct.extBut _ _ (eJ zlt) (vS.extBut _ _ (eJ zlt) (aG _ rfl));have tI:h8.objs.size=he.objs.size+1:=by rw [Ct.1,vS.1,bA]
  show Q (.ref he.objs.size) _;rw [hsz] at Be yw tI ⊢;exact hQ x y h8 Co _ _ _ _ px py Be ⟨.inr ⟨_,_,rfl⟩,_,rfl⟩ (up _ _ Z.zTI (kk _ _ Z.zTI Z.TT Z.T1 Z.T2 rW)) (up _ _ Z.zTO uW) (D1.frame _ _ _ Cq fun c oh o e=>up c o (fun q=>Z.a1 (q ▸ oh)) e) (D2.frame _ _ _ Cr fun c oh o e=>up c o (fun q=>Z.b1 (q ▸ oh)) e) yw tI fun c o c1 c2 c3 c4 e=>up c o c1 (kk c o c1 c2 c3 c4 e)
 ·simp only [bm,if_false]; replace rJ:bg z hp h0:=rJ;rw [show (#[aO i1,aO i2]:Array Value) = [aO i1,aO i2].toArray from rfl];simp only [jA,dU,fV];refine ae (ae (ae (bP ?_))); show wpAny _ _ (aZ (.ref i1) >>= _) _ _ _;refine ae (D1.item k1 _ _ _ l1 (D1.frame _ _ _ nc fun c hc o e=>rJ.extBut c o (fun q=>Z.a1 (q ▸ hc)) e) fun x hb yt px yu lX=>ai (ai ?_));replace lX:bg i1 h0 hb:=lX;refine ae (ae (bP ?_)); show wpAny _ _ (aZ (.ref i2) >>= _) _ _ _;refine ae (D2.item k2 _ _ _ l2 (D2.frame _ _ _ lT fun c oh o e=>lX.extBut c o (fun q=>Z.b3 (q ▸ oh)) (rJ.extBut c o (fun q=>Z.b1 (q ▸ oh)) e)) fun y hd Co py Cp pI=>ai (ai (ai ?_)));replace pI:bg i2 hb hd:=pI;show wpAny _ _ (newTuple [x,y] >>= _) _ _ _;refine ae (fW (ai ⟨_,rfl,?_⟩));have hsz:hd.objs.size=hp.objs.size:=by rw [pI.1,lX.1,rJ.1]
  have kk:∀ c o,c≠z→c≠TO→c≠i1→c≠i2→hp.get? c=some o→hd.get? c=some o:=fun c o c1 c2 c3 c4 e=>pI.extBut _ _ c4 (lX.extBut _ _ c3 (rJ.extBut _ _ c1 e))
  have Bf:IsZ hd z TI TO f0 (.bool true):=pI.extBut _ _ Z.z2.symm (lX.extBut _ _ Z.z1.symm hz0);have uV:IsPair hd TO a b:=pI.extBut _ _ Z.O2 (lX.extBut _ _ Z.O1 (rJ.extBut _ _ Z.zTO sO));have Cu:S1 (k1+1) hd:=D1.frame _ _ _ yu fun c oh o e=>pI.extBut c o (fun q=>Z.a3 (q ▸ oh)) e
  have up:∀ c o,hd.get? c=some o→(hd.push { cls:=.type "tuple",data:=.seq #[x,y] }).get? c=some o:=fun c o e=>ah _ e
  have yw:IsPair (hd.push { cls:=.type "tuple",data:=.seq #[x,y] }) hd.objs.size x y:=aG _ rfl;have tI:(hd.push { cls:=.type "tuple",data:=.seq #[x,y] }).objs.size=hd.objs.size+1:=bA ..;show Q (.ref hd.objs.size) _;rw [hsz] at yw tI ⊢;exact hQ x y _ Co _ _ _ _ px py (up _ _ Bf) ⟨hf.1,_,rfl⟩ (up _ _ (kk _ _ Z.zTI Z.TT Z.T1 Z.T2 rW)) (up _ _ uV) (D1.frame _ _ _ Cu fun c _ o e=>up c o e) (D2.frame _ _ _ Cp fun c _ o e=>up c o e) yw tI fun c o c1 c2 c3 c4 e=>up c o (kk c o c1 c2 c3 c4 e)
theorem zjU {z TI TO i1 i2:Addr} {o9 pd:List Addr} {n1 n2 k1 k2:Nat} {P1 P2:Nat→Value→Prop} {S1 S2:Nat→Heap→Prop} {f0 f1 a b:Value} {Q:Fin→Shared→Prop} (D1:Draws prog w A i1 o9 n1 P1 S1) (D2:Draws prog w A i2 pd n2 P2 S2) (Z:Zap z TI TO i1 i2 o9 pd)
  (hz:IsZ s.heap z TI TO f0 f1) (hf:ZF f0 f1) (rW:IsPair s.heap TI (.ref i1) (.ref i2)) (sO:IsPair s.heap TO a b) (nc:S1 k1 s.heap) (lT:S2 k2 s.heap) (l1:k1=n1∨(k1 < n1∧k2=n2))
  (hE:∀ h' tk e,(∀ c o,c≠z→c≠TO→c≠i1→c≠i2→s.heap.get? c=some o→h'.get? c=some o)→(∃ o,h'.get? e=some o∧o.cls = .type "StopIteration")→E (.ref e) { s with heap:=h',toks:=tk }):wpAny (model prog w) A (Builtin.«zip.__next__» ⟨[.ref z],[]⟩) Q E s:=by
 obtain⟨hp,g,d,Bd,os⟩:=s;have nz:∀ {h:Heap} {e:Addr} {o:Obj} {x y:Value},IsZ h z TI TO x y→h.get? e=some o→o.cls = .type "StopIteration"→e≠z:=fun h1 h2 h3 q=>by subst q; rw [h1] at h2; cases h2; simp at h3
 show wpAny _ _ (field (.ref z) 2 >>= _) _ _ _; refine ae (bb hz rfl (x:=.bool false) rfl ?_); show wpAny _ _ (field (.ref z) 3 >>= _) _ _ _;refine ae (bb hz rfl (x:=.ref TI) rfl ?_); refine ae (dk rW rfl ?_);show wpAny _ _ (bJ (.ref z) >>= _) _ _ _; refine ae (zjT hz hf ?_ fun h0 hz0 rJ=>?_)
 ·simp only [if_true];refine ae (cg (ae (bb hz rfl (x:=.ref TO) rfl ?_)));refine ae (bE hz #[M] fun ha vR ql=>?_);replace vR:IsZ ha z TI TO .ellipsis f1:=vR;replace ql:bg z hp ha:=ql;refine ae ?_;simp only [j2,kh,dU,fV]; refine ae (ae (gp ?_)); show wpAny _ _ (aZ (.ref i1) >>= _) _ _ _;have tJ:S1 k1 ha:=D1.frame _ _ _ nc fun c hc o e=>ql.extBut c o (fun q=>Z.a1 (q ▸ hc)) e
  rcases l1 with rfl | ⟨l1,rfl⟩
  ·refine ae (D1.done _ _ _ tJ fun hb e lX ⟨oe,yx,yy⟩=>?_);have hzb:IsZ hb z TI TO .ellipsis f1:=lX _ _ Z.z1.symm vR;exact bE hzb #[M] fun h3 _ rY=>hE h3 Bd e (fun c o c1 _ c3 _ x=>rY.extBut _ _ c1 (lX _ _ c3 (ql.extBut _ _ c1 x))) ⟨oe,rY.extBut _ _ (nz hzb yx yy) yx,yy⟩
  ·refine ae (D1.item k1 _ _ _ l1 tJ fun x hb yt px yu lX=>ai ?_);replace lX:bg i1 ha hb:=lX;have tH:IsPair hb TO a b:=lX.extBut _ _ Z.O1 (ql.extBut _ _ Z.zTO sO);refine ae (dk tH rfl (ae (fG tH fun hc uU rX=>?_)));replace rX:bg TO hb hc:=rX;refine ae (iG (ai (ae (ae (gp ?_))))); show wpAny _ _ (aZ (.ref i2) >>= _) _ _ _;refine ae (D2.done _ _ _ (D2.frame _ _ _ lT fun c oh o e=>rX.extBut c o (fun q=>Z.b2 (q ▸ oh)) (lX.extBut c o (fun q=>Z.b3 (q ▸ oh)) (ql.extBut c o (fun q=>Z.b1 (q ▸ oh)) e))) fun hd e pI ⟨oe,yx,yy⟩=>?_);have Bf:IsZ hd z TI TO .ellipsis f1:=pI _ _ Z.z2.symm (rX.extBut _ _ Z.zTO.symm (lX.extBut _ _ Z.z1.symm vR));exact bE Bf #[M] fun h3 _ rY=>hE h3 yt e (fun c o c1 c2 c3 c4 x=>rY.extBut _ _ c1 (pI _ _ c4 (rX.extBut _ _ c2 (lX.extBut _ _ c3 (ql.extBut _ _ c1 x))))) ⟨oe,rY.extBut _ _ (nz Bf yx yy) yx,yy⟩
 ·simp only [bm,if_false]; replace rJ:bg z hp h0:=rJ;rw [show (#[aO i1,aO i2]:Array Value) = [aO i1,aO i2].toArray from rfl];simp only [jA,dU,fV];refine ae (ae (ae (bP ?_))); show wpAny _ _ (aZ (.ref i1) >>= _) _ _ _;have tJ:S1 k1 h0:=D1.frame _ _ _ nc fun c hc o e=>rJ.extBut c o (fun q=>Z.a1 (q ▸ hc)) e
  rcases l1 with rfl | ⟨l1,rfl⟩
  ·exact ae (D1.done _ _ _ tJ fun hb e lX he=>hE hb Bd e (fun c o c1 _ c3 _ x=>lX _ _ c3 (rJ.extBut _ _ c1 x)) he)
  ·refine ae (D1.item k1 _ _ _ l1 tJ fun x hb yt px yu lX=>ai (ai ?_));replace lX:bg i1 h0 hb:=lX;refine ae (ae (bP ?_)); show wpAny _ _ (aZ (.ref i2) >>= _) _ _ _;exact ae (D2.done _ _ _ (D2.frame _ _ _ lT fun c oh o e=>lX.extBut c o (fun q=>Z.b3 (q ▸ oh)) (rJ.extBut c o (fun q=>Z.b1 (q ▸ oh)) e)) fun hd e pI he=>hE hd yt e (fun c o c1 _ c3 c4 x=>pI _ _ c4 (lX.extBut _ _ c3 (rJ.extBut _ _ c1 x))) he)
theorem zlk {e z TI TO i1 i2:Addr} {o9 pd:List Addr} {n1 n2 i:Nat} {P1 P2:Nat→Value→Prop} {S1 S2:Nat→Heap→Prop} {f0 f1 a b old:Value} {Q:Option Value→Shared→Prop} (D1:Draws prog w A.in1.in1 i1 o9 n1 P1 S1) (D2:Draws prog w A.in1.in1 i2 pd n2 P2 S2) (Z:Zap z TI TO i1 i2 o9 pd)
  (he:IsEnum s.heap e z i old) (ez:e≠z) (eT:e≠TI) (eO:e≠TO) (e1:e≠i1) (e2:e≠i2) (ef1:e∉o9) (ef2:e∉pd)
  (hz:IsZ s.heap z TI TO f0 f1) (hf:ZF f0 f1) (rW:IsPair s.heap TI (.ref i1) (.ref i2)) (sO:IsPair s.heap TO a b) (nc:S1 i s.heap) (lT:S2 i s.heap) (l1:i < n1) (l2:i < n2)
  (hQ:∀ x y h' tk g0 g1 a' b',P1 i x→P2 i y→IsEnumOut h' e z ((i:Int)+1) (.ref s.heap.objs.size) (s.heap.objs.size+1)→IsZ h' z TI TO g0 g1→ZF g0 g1→IsPair h' TI (.ref i1) (.ref i2)→IsPair h' TO a' b'→S1 (i+1) h'→S2 (i+1) h'→IsPair h' s.heap.objs.size x y →
   IsPair h' (s.heap.objs.size+1) (.int i tk) (.ref s.heap.objs.size)→h'.objs.size=s.heap.objs.size+2 →
   (∀ c o,c≠e→c≠z→c≠TO→c≠i1→c≠i2→s.heap.get? c=some o→h'.get? c=some o)→Q (some (.ref (s.heap.objs.size+1))) { s with heap:=h',toks:=tk+1 }):wpAny (model prog w) A (pyNext (.ref e)) Q E s:=by
 have hT:s.TypeIs (.ref e) "enumerate":=⟨_,he,rfl⟩; have tK:s.TypeIs (.ref z) "zip":=⟨_,hz,rfl⟩;unfold pyNext;refine ae (cK (ba (name:=bL "__next__") hT ed (be ed hT iH ?_ (ie _))));obtain⟨hp,g,d,Bd,os⟩:=s;show wpAny _ _ (field (.ref e) 2 >>= _) _ _ _; refine ae (bb he rfl (x:=.ref z) rfl (ae ?_));unfold aZ; refine ae (ba (name:=bL "__next__") tK cY (be cY tK fw ?_ (fh _)));refine zhR D1 D2 Z hz hf rW sO nc lT l1 l2 fun x y h1 tk g0 g1 a' b' px py qj Cv wF wG wH wI qP wJ kk=>ai ?_
 have Cw:IsEnum h1 e z i old:=kk _ _ ez eO e1 e2 he;have elt:e < hp.objs.size:=aF he;show wpAny _ _ (field (.ref e) 3 >>= _) _ _ ⟨h1,g,d,tk,os⟩; refine ae (bb Cw rfl (x:=rawInt i) rfl ?_);show wpAny _ _ (field (.ref e) 4 >>= _) _ _ ⟨h1,g,d,tk,os⟩; refine ae (bb Cw rfl (x:=.none) rfl ?_);show wpAny _ _ (mkInt i >>= _) _ _ ⟨h1,g,d,tk,os⟩; refine ae (wpAny_mkInt ?_);show wpAny _ _ (setField (.ref e) 3 (rawInt ((i:Int)+1)) >>= _) _ _ ⟨h1,g,d,tk+1,os⟩; refine ae (bE Cw #[M] fun h2 Cy m9=>?_);replace m9:bg e h1 h2:=m9;replace Cy:IsEnum h2 e z ((i:Int)+1) old:=Cy;show wpAny _ _ (setField (.ref e) 4 .none >>= _) _ _ ⟨h2,g,d,tk+1,os⟩; refine ae (bE Cy #[M] fun h3 Cz rY=>?_);replace rY:bg e h2 h3:=rY;replace Cz:IsEnum h3 e z ((i:Int)+1) old:=Cz;show wpAny _ _ (newTuple [.int i tk,.ref hp.objs.size] >>= _) _ _ ⟨h3,g,d,tk+1,os⟩; refine ae (fW ?_);have z3:h3.objs.size=hp.objs.size+1:=by rw [rY.1,m9.1]; exact wJ
 rw [z3];have Bg:IsEnum (h3.push { cls:=.type "tuple",data:=.seq #[.int i tk,.ref hp.objs.size] }) e z ((i:Int)+1) old:=ah _ Cz;have CA:=aG h3 (o:={ cls:=.type "tuple",data:=.seq #[.int i tk,.ref hp.objs.size] }) rfl;rw [z3] at CA;have k4:∀ c o,c≠e→h1.get? c=some o→(h3.push { cls:=.type "tuple",data:=.seq #[.int i tk,.ref hp.objs.size] }).get? c=some o:=fun c o ce x=>ah _ (rY.extBut c o ce (m9.extBut c o ce x))
 have z4:(h3.push { cls:=.type "tuple",data:=.seq #[.int i tk,.ref hp.objs.size] }).objs.size=hp.objs.size+2:=by rw [bA,z3]
 generalize h3.push { cls:=.type "tuple",data:=.seq #[.int i tk,.ref hp.objs.size] }=h4 at Bg CA k4 z4 ⊢;show wpAny _ _ (bJ (.ref e) >>= _) _ _ ⟨h4,g,d,tk+1,os⟩;refine ae ?_;unfold bJ; refine ae (bb Bg rfl (x:=.none) rfl (ai ?_));simp only [if_true]; refine ae (cg (ae (bb Bg rfl (x:=old) rfl ?_)));refine ae (bE Bg #[M] fun h5 CB Bh=>?_);replace Bh:bg e h4 h5:=Bh;replace CB:IsEnum h5 e z ((i:Int)+1) (.ref hp.objs.size):=CB;show wpAny _ _ (cA (.ref e) (.ref (hp.objs.size+1)) >>= _) _ _ ⟨h5,g,d,tk+1,os⟩;refine ae ?_;unfold cA; refine ae (bE CB #[M] fun h6 CC Bi=>?_);replace Bi:bg e h5 h6:=Bi;replace CC:IsEnumOut h6 e z ((i:Int)+1) (.ref hp.objs.size) (hp.objs.size+1):=CC;refine bE CC #[M] fun h7 CD vS=>?_
 replace vS:bg e h6 h7:=vS;replace CD:IsEnumOut h7 e z ((i:Int)+1) (.ref hp.objs.size) (hp.objs.size+1):=CD;have up:∀ c o,c≠e→h4.get? c=some o→h7.get? c=some o:=fun c o ce x=>vS.extBut c o ce (Bi.extBut c o ce (Bh.extBut c o ce x))
 have z7:h7.objs.size=hp.objs.size+2:=by rw [vS.1,Bi.1,Bh.1,z4]
 refine ae (iG (ai ⟨_,rfl,ai ?_⟩));exact hQ x y h7 tk g0 g1 a' b' px py CD (up _ _ ez.symm (k4 _ _ ez.symm qj)) Cv (up _ _ eT.symm (k4 _ _ eT.symm wF)) (up _ _ eO.symm (k4 _ _ eO.symm wG))
  (D1.frame _ _ _ wH fun c hc o x=>up c o (fun q=>ef1 (q ▸ hc)) (k4 c o (fun q=>ef1 (q ▸ hc)) x)) (D2.frame _ _ _ wI fun c hc o x=>up c o (fun q=>ef2 (q ▸ hc)) (k4 c o (fun q=>ef2 (q ▸ hc)) x))
  (up _ _ (eJ elt) (k4 _ _ (eJ elt) qP)) (up _ _ (eJ (dC elt)) CA) z7 fun c o ce cz cO c1 c2 x=>up c o ce (k4 c o ce (kk c o cz cO c1 c2 x))
theorem zmZ {e z TI TO i1 i2:Addr} {o9 pd:List Addr} {n1 n2 k:Nat} {i:Int} {P1 P2:Nat→Value→Prop} {S1 S2:Nat→Heap→Prop} {f0 f1 a b old:Value} {Q:Option Value→Shared→Prop} (D1:Draws prog w A.in1.in1 i1 o9 n1 P1 S1) (D2:Draws prog w A.in1.in1 i2 pd n2 P2 S2) (Z:Zap z TI TO i1 i2 o9 pd)
  (he:IsEnum s.heap e z i old) (hz:IsZ s.heap z TI TO f0 f1) (hf:ZF f0 f1) (rW:IsPair s.heap TI (.ref i1) (.ref i2)) (sO:IsPair s.heap TO a b) (nc:S1 k s.heap) (lT:S2 k s.heap) (l1:k=n1∨(k < n1∧k=n2))
  (hQ:∀ h' tk,(∀ c o,c≠z→c≠TO→c≠i1→c≠i2→s.heap.get? c=some o→h'.get? c=some o)→Q none { s with heap:=h',toks:=tk }):wpAny (model prog w) A (pyNext (.ref e)) Q E s:=by
 have hT:s.TypeIs (.ref e) "enumerate":=⟨_,he,rfl⟩; have tK:s.TypeIs (.ref z) "zip":=⟨_,hz,rfl⟩;unfold pyNext;refine ae (cK (ba (name:=bL "__next__") hT ed (be ed hT iH ?_ (ie _))));show wpAny _ _ (field (.ref e) 2 >>= _) _ _ _; refine ae (bb he rfl (x:=.ref z) rfl (ae ?_));unfold aZ; refine ae (ba (name:=bL "__next__") tK cY (be cY tK fw ?_ (fh _)));refine zjU D1 D2 Z hz hf rW sO nc lT l1 fun h' tk x kk ⟨o,ho,hc⟩=>?_
 exact ae (ek (T:="StopIteration") (b:=true) ⟨o,ho,hc⟩ fT (ai (hQ h' tk kk)))
end
def zfr (x y:Value):Obj:={ cls:=.type "tuple",data:=.seq #[x,y] }
def zn0 (a b:Addr):Obj:={ cls:=.type "zip",data:=.fields #[.none,.bool false,.bool false,.ref a,.ref b] }
def itO (C:String) (l:Addr):Obj:={ cls:=.type C,data:=.fields #[.ref l,.int 0 0] }
abbrev zt2 (C:String) (h:Heap) (l1 l2:Addr):Heap:=(h.push (zb3 l1)).push (itO C l2)
abbrev zt4 (C:String) (h:Heap) (l1 l2:Addr):Heap:=((zt2 C h l1 l2).push (zfr (.ref h.objs.size) (.ref (h.push (zb3 l1)).objs.size))).push (zfr .none .none)
abbrev zt5 (C:String) (h:Heap) (l1 l2:Addr):Heap:=(zt4 C h l1 l2).push (zn0 (zt2 C h l1 l2).objs.size ((zt2 C h l1 l2).push (zfr (.ref h.objs.size) (.ref (h.push (zb3 l1)).objs.size))).objs.size)
def ItC (C:String) (h:Heap) (a l:Addr) (i:Nat):Prop:=∃ o,h.get? a=some o∧o.cls = .type C∧o.data = .fields #[.ref l,.int i 0]
structure SkH (C:String) (Is:Heap→Addr→Array Value→Prop):Prop where
 it:∀ {prog:Program} {w:World} {A:Around} {E:Value→Shared→Prop} {s:Shared} {l:Addr} {items:Array Value} {Q:Value→Shared→Prop},Is s.heap l items→Q (.ref s.heap.objs.size) { s with heap:=s.heap.push (itO C l) }→wpAny (model prog w) A (pyIter (.ref l)) Q E s
 pu:∀ {h:Heap} {l:Addr} {items:Array Value} (o:Obj),Is h l items→Is (h.push o) l items
 dr:∀ {prog:Program} {w:World} {A:Around},A.handled=none→∀ (it l:Addr),l≠it→∀ (items:Array Value),Draws prog w A it [it,l] items.size (fun i v=>items[i]? = some v) fun i h=>ItC C h it l i∧Is h l items
theorem skL:SkH "list_iterator" Heap.IsList:=⟨fun h q=>gu h q,fun o h=>Heap.IsList.push h o,fun hh it l ne items=>ki hh it l ne items⟩
theorem skT:SkH "tuple_iterator" jB:=⟨fun h q=>eK h q,fun o ⟨u,e,r⟩=>⟨u,ah _ e,r⟩,fun hh it l ne items=>Draws.tuple hh it l ne items⟩
theorem zf9 {C:String} {Is:Heap→Addr→Array Value→Prop} (S:SkH C Is) (l1 l2:Addr) (xs ys:Array Value):Meets (Builtin.«zip.__new__» ⟨[.type "zip",.ref l1,.ref l2],[]⟩) (fun _ R s=>s.heap.IsTuple l1 xs∧Is s.heap l2 ys∧R (.ok (.ret (.ref (zt4 C s.heap l1 l2).objs.size))) { s with heap:=zt5 C s.heap l1 l2 }) :=
 .of_wp fun prog w A R s h=>by
  obtain⟨hp,g,d,tk,os⟩:=s; obtain⟨qk,qL,h⟩:=h; have uY:=sub_zip;have xF:jB (jU ⟨hp,g,d,tk,os⟩) l1 xs:=qk;have xG:Is (jU ⟨hp.push { cls:=.type "tuple_iterator",data:=.fields #[.ref l1,.int 0 0] },g,d,tk,os⟩) l2 ys:=S.pu _ qL
  wp_walk using eK xF,S.it xG
  exact⟨_,rfl,h⟩
section
variable {prog:Program} {w:World} {A:Around} {E:Value→Shared→Prop} {s:Shared}
theorem zd7 {C:String} {Is:Heap→Addr→Array Value→Prop} (S:SkH C Is) {l1 l2:Addr} {xs ys:Array Value} {Q:Value→Shared→Prop} (qk:s.heap.IsTuple l1 xs) (qL:Is s.heap l2 ys)
  (h:∀ h' n,n=s.heap.objs.size→IsZ h' (n+4) (n+2) (n+3) .none (.bool false)→IsPair h' (n+2) (.ref n) (.ref (n+1))→IsPair h' (n+3) .none .none→h'.IsTupleIter n l1 0→ItC C h' (n+1) l2 0→h'.objs.size=n+5 →
   (∀ c o,s.heap.get? c=some o→h'.get? c=some o)→Q (.ref (n+4)) { s with heap:=h' }):wpAny (model prog w) A (call (.type "zip") [.ref l1,.ref l2]) Q E s:=by
 refine jz F.called_zip #[D] (F.typeCall_zip_2 _ _) (F.newCall_zip_2 _ _) (fun obj=>F.args_object_init_3 obj _ _) F.entry_zip_new (zf9 S l1 l2 xs ys) ⟨qk,qL,?_⟩;have z1:(s.heap.push (zb3 l1)).objs.size=s.heap.objs.size+1:=bA ..;have z2:(zt2 C s.heap l1 l2).objs.size=s.heap.objs.size+2:=by rw [bA,z1]
 have z3:((zt2 C s.heap l1 l2).push (zfr (.ref s.heap.objs.size) (.ref (s.heap.push (zb3 l1)).objs.size))).objs.size=s.heap.objs.size+3:=by rw [bA,z2]
 have z4:(zt4 C s.heap l1 l2).objs.size=s.heap.objs.size+4:=by rw [bA,z3]
 have g5:=aG (zt4 C s.heap l1 l2) (o:=zn0 (zt2 C s.heap l1 l2).objs.size ((zt2 C s.heap l1 l2).push (zfr (.ref s.heap.objs.size) (.ref (s.heap.push (zb3 l1)).objs.size))).objs.size) rfl;have g4:(zt5 C s.heap l1 l2).get? _=some _:=ah _ (aG ((zt2 C s.heap l1 l2).push (zfr (.ref s.heap.objs.size) (.ref (s.heap.push (zb3 l1)).objs.size))) (o:=zfr .none .none) rfl);have g3:(zt5 C s.heap l1 l2).get? _=some _:=ah _ (ah _ (aG (zt2 C s.heap l1 l2) (o:=zfr (.ref s.heap.objs.size) (.ref (s.heap.push (zb3 l1)).objs.size)) rfl));have g2:(zt5 C s.heap l1 l2).get? _=some _:=ah _ (ah _ (ah _ (aG (s.heap.push (zb3 l1)) (o:=itO C l2) rfl)));have g1:(zt5 C s.heap l1 l2).get? s.heap.objs.size=some (zb3 l1):=ah _ (ah _ (ah _ (ah _ (aG _ rfl))));have z5:(zt5 C s.heap l1 l2).objs.size=s.heap.objs.size+5:=by rw [bA,z4]
 have k5:∀ c o,s.heap.get? c=some o→(zt5 C s.heap l1 l2).get? c=some o:=fun c o x=>ah _ (ah _ (ah _ (ah _ (ah _ x))))
 show _∧_;rw [z4] at g5 ⊢;rw [z3] at g4;rw [z2] at g3;rw [z1] at g2;refine⟨⟨_,g5,rfl⟩,h _ _ rfl ?_ ?_ g4 ⟨_,g1,rfl,rfl⟩ ⟨_,g2,rfl,rfl⟩ z5 k5⟩
 ·have:IsZ (zt5 C s.heap l1 l2) (s.heap.objs.size+4) (zt2 C s.heap l1 l2).objs.size ((zt2 C s.heap l1 l2).push (zfr (.ref s.heap.objs.size) (.ref (s.heap.push (zb3 l1)).objs.size))).objs.size .none (.bool false):=g5;rw [z2,z3] at this;exact this
 ·have:IsPair (zt5 C s.heap l1 l2) (s.heap.objs.size+2) (.ref s.heap.objs.size) (.ref (s.heap.push (zb3 l1)).objs.size):=g3;rw [z1] at this;exact this
theorem zg5 {l1 l2:Addr} {xs ys:Array Value} {Q:Value→Shared→Prop} (qk:s.heap.IsTuple l1 xs) (qL:s.heap.IsList l2 ys)
  (h:∀ h' n,n=s.heap.objs.size→IsZ h' (n+4) (n+2) (n+3) .none (.bool false)→IsPair h' (n+2) (.ref n) (.ref (n+1))→IsPair h' (n+3) .none .none→h'.IsTupleIter n l1 0→h'.IsListIter (n+1) l2 0→h'.objs.size=n+5 →
   (∀ c o,s.heap.get? c=some o→h'.get? c=some o)→Q (.ref (n+4)) { s with heap:=h' }):wpAny (model prog w) A (call (.type "zip") [.ref l1,.ref l2]) Q E s:=zd7 skL qk qL h
end
open AutoSeq1 (wpAny_loadPart') in
theorem zga (z TI TO:Addr) (f0:Value):Meets (Builtin.«enumerate.__new__» ⟨[.type "enumerate",.ref z],[]⟩) (fun _ R s=>IsZip s.heap z TI TO f0∧R (.ok (.ret (.ref s.heap.objs.size))) { s with heap:=s.heap.push (zjH z) }) :=
 .of_wp fun prog w A R s h=>by
  obtain⟨hp,g,d,tk,os⟩:=s; obtain⟨hz,h⟩:=h;have hZ:IsZip (jU ⟨hp,g,d,tk,os⟩) z TI TO f0:=hz;have uY:=sub_enumerate; wp_walk using bX hz;refine wpAny_stack_any fun st=>ai ?_; split
  ·rename_i c _ _ _ _ _; cases (c == iT "enumerate") <;> (wp_walk using bX hz,fu hZ; exact⟨_,rfl,h⟩)
  ·wp_walk using bX hz,fu hZ; exact⟨_,rfl,h⟩
theorem zg6 {prog:Program} {w:World} {A:Around} {E:Value→Shared→Prop} {s:Shared} {z TI TO:Addr} {f0:Value} {Q:Value→Shared→Prop} (hz:IsZip s.heap z TI TO f0)
  (h:∀ h',IsEnum h' s.heap.objs.size z 0 .none→h'.objs.size=s.heap.objs.size+1→(∀ b o,s.heap.get? b=some o→h'.get? b=some o)→Q (.ref s.heap.objs.size) { s with heap:=h' }):wpAny (model prog w) A (call (.type "enumerate") [.ref z]) Q E s:=by
 refine jz F.called_enumerate #[D] (F.typeCall_enumerate_1 _) (F.newCall_enumerate_1 _) (fun obj=>i0 obj _) F.entry_enumerate_new (zga z TI TO f0) ⟨hz,?_⟩;have he:=aG s.heap (o:=zjH z) rfl;exact⟨⟨_,he,rfl⟩,h _ he (bA ..) fun b o x=>ah _ x⟩
end PySem
end
section
namespace L2
open PySem PySem.Spec PyProof.Rows
def zll (pG pH:Hp→Addr→List V→Prop) (a b:Addr):It :=
 ⟨fun i H=>∃ xs ys x y,pG H a xs∧pH H b ys∧xs[i]? = some x∧ys[i]? = some y,
  fun i H x H'=>∃ T1 T2 u v,H T1=none∧H T2=none∧T1≠T2∧x = .ref T2∧H'=kW (kW H T1 (.tup [u,v])) T2 (.tup [.int i,.ref T1])∧(∀ xs,pG H a xs→xs[i]? = some u)∧∀ ys,pH H b ys→ys[i]? = some v,
  fun i H=>∃ xs ys,pG H a xs∧pH H b ys∧xs.length=i⟩
abbrev zd8 (n:Nat):List Addr:=[n+5,n+4,n+2,n+3,n,n+1]
abbrev zm0 (n a b:Nat) (i:Nat) (h:Heap):Prop:=(∃ old,IsEnum h (n+5) (n+4) i old)∧(∃ f0 f1,IsZ h (n+4) (n+2) (n+3) f0 f1∧ZF f0 f1)∧IsPair h (n+2) (.ref n) (.ref (n+1))∧(∃ u v,IsPair h (n+3) u v)∧h.IsTupleIter n a i∧h.IsListIter (n+1) b i
theorem nq {x y:Nat} (h:x≠y):@Ne Addr x y:=h
theorem nl {x y:Nat} (h:x < y):@LT.lt Nat _ x y:=h
theorem nm2 {c x y:Nat} (h1:c≠x) (h2:c≠y):¬ @Membership.mem Addr (List Addr) _ [x,y] c:=fun h=>by
 rcases aC.mp h with e | e
 ·exact h1 e
 ·exact h2 (aN.mp e)
theorem zdy {n a b:Nat} (ha:a < n) (hb:b < n):Zap (n+4) (n+2) (n+3) n (n+1) [n,a] [n+1,b] :=
 ⟨nq #[O],nq #[O],nq #[O],nq #[O],nq #[O],nq #[O],nq #[O],nq #[O],nq #[O],nq #[O],nm2 #[O] #[O],nm2 #[O] #[O],nm2 #[O] #[O],nm2 #[O] #[O],nm2 #[O] #[O],nm2 #[O] #[O]⟩
theorem zlm {P:Program} {w:World} {K:ag} {es:List Expr} {k:Nat} {pos:Pos} (a b n:Nat) (ha:a < n) (hb:b < n):Turn P w K (.Tuple es k pos) (zll (k6 K) (kS K) a b) (zd8 n) (n+5) (zm0 n a b) where
 mem:=by simp
 obj:=fun i h st c hc=>by
  obtain⟨⟨old,h0⟩,⟨f0,f1,h1,_⟩,h2,⟨u,v,h3⟩,⟨o4,e4,_,d4⟩,⟨o5,e5,_,d5⟩⟩:=st;simp only [zd8,aC,aX,or_false] at hc;rcases hc with z | z | z | z | z | z <;> subst z
  ·exact⟨_,h0,fun v z=>by cases z⟩
  ·exact⟨_,h1,fun v z=>by cases z⟩
  ·exact⟨_,h2,fun v z=>by cases z⟩
  ·exact⟨_,h3,fun v z=>by cases z⟩
  ·exact⟨_,e4,fun v z=>by rw [d4] at z; cases z⟩
  ·exact⟨_,e5,fun v z=>by rw [d5] at z; cases z⟩
 keep:=fun i h h' st kk=>by
  obtain⟨⟨old,h0⟩,⟨f0,f1,h1,hf⟩,h2,⟨u,v,h3⟩,h4,h5⟩:=st;exact⟨⟨old,kk _ #[M] _ h0⟩,⟨f0,f1,kk _ #[M] _ h1,hf⟩,kk _ #[M] _ h2,⟨u,v,kk _ #[M] _ h3⟩,h4.at fun o eo=>kk _ #[M] o eo,h5.at fun o eo=>kk _ #[M] o eo⟩
 item:=by
  intro X hP hw hK hc i kP s σ H E I hf st hg;subst hP hw hK;obtain⟨xs,ys,x,y,pj,nI,hx,hy⟩:=hg;obtain⟨⟨old,h0⟩,⟨f0,f1,h1,uX⟩,h2,⟨u0,v0,h3⟩,h4,h5⟩:=st;obtain⟨mf,rH,p1,qj⟩:=I.tuple pj;obtain⟨me,rV,p2,uT⟩:=I.list nI;obtain⟨u,hu,ru⟩:=rH.get hx;obtain⟨v,hv,rv⟩:=rV.get hy;have tE:n+5 < s.heap.objs.size:=aF h0;have hh:X.A.in1.in1.handled=none:=by simp [I.ok.hd hc]
  have pO:i < mf.toArray.size:=by have:=(aA.mp hu).1; simpa using this
  have pP:i < me.toArray.size:=by have:=(aA.mp hv).1; simpa using this
  refine zlk (Draws.tuple hh n a (nq #[O]) mf.toArray) (ki hh (n+1) b (nq #[O]) me.toArray) (zdy ha hb) h0 (nq #[O]) (nq #[O]) (nq #[O]) (nq #[O]) (nq #[O]) (nm2 #[O] #[O]) (nm2 #[O] #[O]) h1 uX h2 h3 ⟨h4,(show s.heap.IsTuple a mf.toArray from p1)⟩ ⟨h5,p2.isList⟩ pO pP
   fun x' y' h' tk g0 g1 a' b' px py eo ez CF e2 e3 t4 t5 pp pe hsz kk=>?_
  have eu:x'=u:=by
   have e1:mf[i]? = some x':=by simpa using px
   rw [hu] at e1; exact (aM e1).symm
  have ev:y'=v:=by
   have e1:me[i]? = some y':=by simpa using py
   rw [hv] at e1; exact (aM e1).symm
  subst eu ev;have ch:∀ c∈[n+5,n+4,n+3,n,n+1],c∈zd8 n:=fun c k7=>by
   simp only [zd8,aC,aX,or_false] at k7 ⊢;rcases k7 with z | z | z | z | z <;> subst z <;> simp
  have k1:∀ c o,c∉[n+5,n+4,n+3,n,n+1]→s.heap.get? c=some o→h'.get? c=some o:=fun c o k7 eo=>by
   simp only [aC,aX,or_false,not_or] at k7;exact kk c o k7.1 k7.2.1 k7.2.2.1 k7.2.2.2.1 k7.2.2.2.2 eo
  have wy:∀ c∈[n+5,n+4,n+3,n,n+1],∃ o,h'.get? c=some o:=fun c k7=>by
   simp only [aC,aX,or_false] at k7;rcases k7 with z | z | z | z | z <;> subst z
   ·exact⟨_,eo⟩
   ·exact⟨_,ez⟩
   ·exact⟨_,e3⟩
   ·obtain⟨o,e,_⟩:=t4.1; exact⟨o,e⟩
   ·obtain⟨o,e,_⟩:=t5.1; exact⟨o,e⟩
  have I1:Inv X kP σ (kW H s.heap.objs.size (.tup [x,y])) { s with heap:=h',toks:=tk+1 } :=
   I.turnedNew k1 (fun c k7=>hf c (ch c k7)) wy (af _) ⟨zaI,_,.cons ru (.cons rv .nil),zbt pp⟩
  have pF:H (s.heap.objs.size+1)=none:=I.hok.fresh (f7 _);have CG:kW H s.heap.objs.size (.tup [x,y]) (s.heap.objs.size+1)=none:=by rw [zq (gV _)]; exact pF
  obtain⟨_,a1,a2,a3,a4,a5⟩:=I.fpOk (H':=H) (f7 s.heap.objs.size) pF;have I1':Inv X kP σ (kW (kW H s.heap.objs.size (.tup [x,y])) (s.heap.objs.size+1) (.tup [.int i,.ref s.heap.objs.size])) { s with heap:=h',toks:=tk+1 } :=
   I1.track CG (aU I.sz (f7 _)) (dG a1) a4 a5 ⟨zaI,_,.cons ⟨tk,rfl⟩ (.cons rfl .nil),zbt pe⟩
  refine⟨_,rfl,gj eo fun uF qO m8=>?_⟩;have fr:∀ c∈zd8 n,kW (kW H s.heap.objs.size (.tup [x,y])) (s.heap.objs.size+1) (.tup [.int i,.ref s.heap.objs.size]) c=none:=fun c k7=>by
   have lF:c < s.heap.objs.size:=by
    simp only [zd8,aC,aX,or_false] at k7;rcases k7 with z | z | z | z | z | z <;> subst z <;> exact nl #[O]
   rw [zq (bf (dC lF)),zq (bf lF)];exact (hf c k7).1
  have I2:Inv X kP σ (kW (kW H s.heap.objs.size (.tup [x,y])) (s.heap.objs.size+1) (.tup [.int i,.ref s.heap.objs.size])) { s with heap:=uF,toks:=tk+1 } :=
   Inv.turnedL (s:={ s with heap:=h',toks:=tk+1 }) (ch:=[n+5]) (t':=tk+1) I1' (fun c o k7 eo=>m8.extBut c o (by simpa using k7) eo) (fun c k7=>by
    have z:c=n+5:=by simpa using k7
    subst z;exact⟨fr _ #[M],(hf _ #[M]).2⟩) (fun c k7=>by
    have z:c=n+5:=by simpa using k7
    subst z;exact⟨_,qO⟩)
  have up:∀ c o,c≠n+5→h'.get? c=some o→uF.get? c=some o:=fun c o k7 e=>m8.extBut c o k7 e
  exact⟨.ref (s.heap.objs.size+1),_,I2,rfl,⟨_,_,x,y,I.fresh,pF,bf (j1 _),rfl,rfl,fun zs hz=>by rw [I.tuple_inj hz pj]; exact hx,fun zs hz=>by rw [I.list_inj hz nI]; exact hy⟩,
   ⟨⟨_,by simpa using qO⟩,⟨g0,g1,up _ _ (nq #[O]) ez,CF⟩,up _ _ (nq #[O]) e2,⟨_,_,up _ _ (nq #[O]) e3⟩,t4.1.at fun o e=>up _ o (nq #[O]) e,t5.1.at fun o e=>up _ o (nq #[O]) e⟩,fr⟩
 done:=by
  intro X hP hw hK hc i kP s σ H E I hf st hg;subst hP hw hK;obtain⟨xs,ys,pj,nI,hx⟩:=hg;obtain⟨⟨old,h0⟩,⟨f0,f1,h1,uX⟩,h2,⟨u0,v0,h3⟩,h4,h5⟩:=st;obtain⟨mf,rH,p1,qj⟩:=I.tuple pj;obtain⟨me,rV,p2,uT⟩:=I.list nI;have hh:X.A.in1.in1.handled=none:=by simp [I.ok.hd hc]
  have qk:=rH.length;refine zmZ (Draws.tuple hh n a (nq #[O]) mf.toArray) (ki hh (n+1) b (nq #[O]) me.toArray) (zdy ha hb) h0 h1 uX h2 h3 ⟨h4,(show s.heap.IsTuple a mf.toArray from p1)⟩ ⟨h5,p2.isList⟩ (.inl (by rw [am]; lia)) fun h' tk kk=>⟨rfl,?_⟩
  have sub:∀ c∈[n+4,n+3,n,n+1],c∈zd8 n:=fun c k7=>by
   simp only [zd8,aC,aX,or_false] at k7 ⊢;rcases k7 with z | z | z | z <;> subst z <;> simp
  have k1:∀ c o,c∉[n+4,n+3,n,n+1]→s.heap.get? c=some o→h'.get? c=some o:=fun c o k7 e=>by
   simp only [aC,aX,or_false,not_or] at k7;exact kk c o k7.1 k7.2.1 k7.2.2.1 k7.2.2.2 e
  have rD:∀ d u',H d=some u'→d∉[n+4,n+3,n,n+1]:=fun d u' e' hd=>by rw [(hf d (sub d hd)).1] at e'; cases e'
  refine I.step (g':=s.gens) (d':=s.drawn) (t':=tk) (ch:=[n+4,n+3,n,n+1]) (fun c k7=>?_) (fun c o _ _ mh e _=>k1 c o mh e) (fun c o _ _ mh e _=>⟨o.slots,k1 c o mh e⟩) (fun _ _ _ _ n=>n)
   (fun c o mh e=>⟨o,k1 c o mh e⟩) (fun _ _ e=>e) (fun _ _ _ e=>e) (fun c ps e=>⟨#[],by rw [e]; simp⟩) (fun m hm=>?_) (fun c u e=>?_) I.bare
  ·obtain⟨_,a1,_,a3,a4,a5⟩:=hf c (sub c k7);exact⟨a3,a1,a4,a5⟩
  ·obtain⟨o,uM,ep,ho,r⟩:=hm;exact⟨o,uM,ep,k1 _ o (fun z=>(hf _ (sub _ z)).2.1 rfl) ho,r⟩
  ·refine (I.hok c u e).stay (fun d v' hd q=>k1 d v' ?_ q) (fun _ q=>q) fun _ _ q=>q
   rcases hd with z | z
   ·rw [z]; exact rD c u e
   ·exact rD d _ z
 self:=fun _ _ _ _ _ st h=>by
  obtain⟨⟨old,he⟩,_⟩:=st;exact fg he h
def iEZ (pG pH:Hp→Addr→List V→Prop) (ta:TA):TI:=fun σ H R=>ta σ H fun vs H1=>∃ a b xs ys,vs = [.ref a,.ref b]∧pG H1 a xs∧pH H1 b ys∧R (zll pG pH a b) H1
theorem zg7 {X:Cx} {es:List Expr} {k:Nat} {nH p p2 pos pq:Pos} {a b:Expr} {ta:TA} (hg:Gl X "enumerate") (hm:X.mg "enumerate" = none) (uZ:Gl X "zip") (p8:X.mg "zip" = none) (ha:PA X [a,b] ta) (hs:starEach [a,b] X.env = [(false,eval a X.env),(false,eval b X.env)]:=by rfl) (m9:starEach [b] X.env = [(false,eval b X.env)]:=by rfl)
  (rY:starEach [.Call (.Name "zip" p2) [a,b] [] pq] X.env = [(false,eval (.Call (.Name "zip" p2) [a,b] [] pq) X.env)]:=by rfl) :
  PI X (.Tuple es k nH) (.Call (.Name "enumerate" p) [.Call (.Name "zip" p2) [a,b] [] pq] [] pos) (iEZ (k6 X.K) (kS X.K) ta):=by
 intro kP s σ H R I h;refine Call_ (zbD I hg hm boot_enumerate (bv ?_ rY rfl));rw [rY];show wpAny _ _ (spliced ((false,eval (.Call (.Name "zip" p2) [a,b] [] pq) X.env) :: [])) _ _ s;refine jo ?_;refine Call_ (zbD I uZ p8 boot_zip (bv (thn (ha pq kP s σ H _ I h) fun us s1 ⟨vs,H1,I1,r1,q1⟩=>?_) (by rw [hs,m9]) (by rw [m9]; rfl)));obtain⟨l1,l2,xs,ys,e,pj,nI,q⟩:=q1;subst e;cases r1 with
 | cons r rr =>
  cases rr with
  | cons r' rr =>
   cases rr;cases r;cases r';obtain⟨mf,rH,vP,qj⟩:=I1.tuple pj;obtain⟨me,rV,wz,uT⟩:=I1.list nI;have pO:l1 < s1.heap.objs.size:=by obtain⟨_,e,_⟩:=vP; exact aF e
   have pP:l2 < s1.heap.objs.size:=by obtain⟨_,_,e,_⟩:=wz; exact aF e
   refine zg5 (show s1.heap.IsTuple l1 mf.toArray from vP) wz.isList fun h' n hn b1 b2 b3 b4 b5 b6 kk=>?_
   refine jG ?_;refine zg6 b1 fun h2 he hsz xH=>?_
   have I2:Inv X kP σ H1 { s1 with heap:=h2 }:=I1.kept (t':=s1.toks) fun c o e=>xH c o (kk c o e)
   refine fg he ?_; have e5:h'.objs.size=n+5:=b6;have vQ:IsEnum h2 (n+5) (n+4) 0 .none:=by rw [← e5]; exact he
   refine⟨_,zd8 n,zm0 n l1 l2,zll (k6 X.K) (kS X.K) l1 l2,H1,rfl,I2,?_,⟨⟨_,vQ⟩,⟨_,_,xH _ _ b1,.inl rfl,_,rfl⟩,xH _ _ b2,⟨_,_,xH _ _ b3⟩,b4.at fun o e=>xH _ o e,b5.at fun o e=>xH _ o e⟩,fun c hc=>?_,q⟩
   ·show Turn X.prog X.w X.K (.Tuple es k nH) (zll (k6 X.K) (kS X.K) l1 l2) (zd8 n) h'.objs.size (zm0 n l1 l2);rw [e5];exact zlm l1 l2 n (by rw [hn]; exact pO) (by rw [hn]; exact pP)
   ·have hle:s1.heap.objs.size≤c:=by
     simp only [zd8,aC,aX,or_false] at hc;rw [← hn];rcases hc with z | z | z | z | z | z <;> subst z
     all_goals first | exact j3 _ _ | exact af _
    exact I1.fpOk hle (I1.hok.fresh hle)
theorem zg8 {K:ag} {i j:Nat}:∀ (x:V) (σ:St) (H:Hp) (Q Q':St→Hp→Prop),(∀ σ' H',Q σ' H'→Q' σ' H')→zgM K 2 (zcu (za1 i) (zcu (za1 j) ziy)) x σ H Q→zgM K 2 (zcu (za1 i) (zcu (za1 j) ziy)) x σ H Q':=fun x σ H Q Q' hq ⟨a,xs,e1,h1,h2,v,r,e3,v2,r2,e4,e5,h⟩=>⟨a,xs,e1,h1,h2,v,r,e3,v2,r2,e4,e5,hq _ _ h⟩
end L2
end
section
namespace My
open PySem L2 PyProof.Rows
section
variable {K:ag}
def zoG (H:Hp):V→Option (List V)
 | .ref a=>match H a with
  | some (.lst xs)=>some xs
  | _=>none
 | _=>none
def zbu (H:Hp) (c tt:Addr) (p k:Int) (pl:List Int):Prop:=H c=some (.tup [.int p,.int k,.ref tt])∧H tt=some (.tup (pl.map V.int))
theorem zbu.same {H H':Hp} {c tt:Addr} {p k:Int} {pl:List Int} (s:zy H H') (h:zbu H c tt p k pl):zbu H' c tt p k pl:=⟨s _ _ h.1,s _ _ h.2⟩
def mJ:Option Int→V
 | none=>.non
 | some i=>.int i
def zak (p:Int) (pl:List Int) (rw:List (Option Int)) (lJ:List Int) (j:Nat):Bool:=match pl[j]?,rw[j]? with
 | some x,some (some i)=>decide (i=zn p x lJ)
 | _,_=>false
def zbd (p:Int) (pl:List Int) (rw:List (Option Int)) (lJ:List Int) (n:Nat):List Int:=((aR n).filter (zak p pl rw lJ)).map fun (j:Nat)=>(j:Int)
theorem ze0 {p:Int} {pl:List Int} {rw:List (Option Int)} {lJ:List Int} {n:Nat}:zbd p pl rw lJ (n+1)=zbd p pl rw lJ n++if zak p pl rw lJ n then [(n:Int)] else []:=by
 unfold zbd;rw [iu,dW,aq];congr 1;by_cases h:zak p pl rw lJ n=true
 ·rw [if_pos h]; simp [h]
 ·rw [if_neg h]; simp [h]
theorem zgb (p:Int) (pl:List Int) (rw:List (Option Int)) (lJ:List Int) (n:Nat):(zbd p pl rw lJ n).length≤n:=by
 unfold zbd;rw [ab];exact aU (ee _ _) (by rw [bM]; exact af _)
theorem zcL {rw:List (Option Int)} {j:Nat} {x:V} (h:(rw.map mJ)[j]? = some x):∃ o,x=mJ o∧rw[j]? = some o:=by
 rw [ak] at h;cases e:rw[j]? with
 | none=>rw [e] at h; cases h
 | some c=>rw [e] at h; exact⟨c,(aM h).symm,rfl⟩
def hide (H:Hp) (a:Addr):Hp:=fun b=>if b=a then none else H b
theorem zgc (H:Hp) (a:Addr):zy (hide H a) H:=fun b o e=>by
 unfold hide at e;split at e
 ·cases e
 ·exact e
theorem zaE {H:Hp} {a b:Addr} {o:HO} (h:H b=some o) (lY:b≠a):hide H a b=some o:=by unfold hide; rw [if_neg lY]; exact h
end
section
variable {K:ag}
def zln (K:ag):Sp:=fun vs H Q _=>∃ (c tt ra po:Addr) (p k:Int) (pl lJ:List Int) (rw:List (Option Int)),vs = [.ref c,.ref ra,.ref po]∧zbu H c tt p k pl∧H ra=some (.lst (rw.map mJ))∧rw.length=pl.length∧H po=some (.tup (lJ.map V.int))∧0 < p∧p≤97∧(∀ x∈pl,0≤x∧x < p)∧pl.length≤100 ∧
 ∀ (l:Addr) (H':Hp),H l=none→zy H H'→H' l=some (.lst ((zbd p pl rw lJ pl.length).map V.int))→Q (.ref l) H'
theorem zjV (o:Option Int) (z:Int):zmG (mJ o) (.int z)=true:=by cases o <;> rfl
theorem zjW {p:Int} {pl:List Int} {rw:List (Option Int)} {lJ:List Int} {j:Nat} {x:Int} {o:Option Int} (hx:pl[j]? = some x) (ho:rw[j]? = some o):zak p pl rw lJ j=decide (mJ o = .int (zn p x lJ)):=by
 unfold zak;rw [hx,ho];cases o with
 | none=>rfl
 | some i=>simp [mJ]
end
end My
end
section
namespace PySem
section
variable {prog:Program} {w:World} {A:Around} {E:Value→Shared→Prop} {s:Shared}
theorem zlo {z TI TO i1 i2:Addr} {o9 pd:List Addr} {n1 n2 k1 k2:Nat} {P1 P2:Nat→Value→Prop} {S1 S2:Nat→Heap→Prop} {f0 f1 a b:Value} {Q:Option Value→Shared→Prop} (D1:Draws prog w A.in1 i1 o9 n1 P1 S1) (D2:Draws prog w A.in1 i2 pd n2 P2 S2) (Z:Zap z TI TO i1 i2 o9 pd)
  (hz:IsZ s.heap z TI TO f0 f1) (hf:ZF f0 f1) (rW:IsPair s.heap TI (.ref i1) (.ref i2)) (sO:IsPair s.heap TO a b) (nc:S1 k1 s.heap) (lT:S2 k2 s.heap) (l1:k1 < n1) (l2:k2 < n2)
  (hQ:∀ x y h' tk g0 g1 a' b',P1 k1 x→P2 k2 y→IsZ h' z TI TO g0 g1→ZF g0 g1→IsPair h' TI (.ref i1) (.ref i2)→IsPair h' TO a' b'→S1 (k1+1) h'→S2 (k2+1) h'→IsPair h' s.heap.objs.size x y→h'.objs.size=s.heap.objs.size+1 →
   (∀ c o,c≠z→c≠TO→c≠i1→c≠i2→s.heap.get? c=some o→h'.get? c=some o)→Q (some (.ref s.heap.objs.size)) { s with heap:=h',toks:=tk }):wpAny (model prog w) A (pyNext (.ref z)) Q E s:=by
 have tK:s.TypeIs (.ref z) "zip":=⟨_,hz,rfl⟩;unfold pyNext;refine ae (cK (ba (name:=bL "__next__") tK cY (be cY tK fw ?_ (fh _))));exact zhR D1 D2 Z hz hf rW sO nc lT l1 l2 fun x y h1 tk g0 g1 a' b' px py qj Cv wF wG wH wI qP wJ kk=>ai (hQ x y h1 tk g0 g1 a' b' px py qj Cv wF wG wH wI qP wJ kk)
theorem zm1 {z TI TO i1 i2:Addr} {o9 pd:List Addr} {n1 n2 k1 k2:Nat} {P1 P2:Nat→Value→Prop} {S1 S2:Nat→Heap→Prop} {f0 f1 a b:Value} {Q:Option Value→Shared→Prop} (D1:Draws prog w A.in1 i1 o9 n1 P1 S1) (D2:Draws prog w A.in1 i2 pd n2 P2 S2) (Z:Zap z TI TO i1 i2 o9 pd)
  (hz:IsZ s.heap z TI TO f0 f1) (hf:ZF f0 f1) (rW:IsPair s.heap TI (.ref i1) (.ref i2)) (sO:IsPair s.heap TO a b) (nc:S1 k1 s.heap) (lT:S2 k2 s.heap) (l1:k1=n1∨(k1 < n1∧k2=n2))
  (hQ:∀ h' tk,(∀ c o,c≠z→c≠TO→c≠i1→c≠i2→s.heap.get? c=some o→h'.get? c=some o)→Q none { s with heap:=h',toks:=tk }):wpAny (model prog w) A (pyNext (.ref z)) Q E s:=by
 have tK:s.TypeIs (.ref z) "zip":=⟨_,hz,rfl⟩;unfold pyNext;refine ae (cK (ba (name:=bL "__next__") tK cY (be cY tK fw ?_ (fh _))));refine zjU D1 D2 Z hz hf rW sO nc lT l1 fun h' tk x kk ⟨o,ho,hc⟩=>?_
 exact ae (ek (T:="StopIteration") (b:=true) ⟨o,ho,hc⟩ fT (ai (hQ h' tk kk)))
theorem zhS {z TI TO:Addr} {f0 f1:Value} {Q:Value→Shared→Prop} (hz:IsZ s.heap z TI TO f0 f1) (h:Q (.ref z) s):wpAny (model prog w) A (pyIter (.ref z)) Q E s:=by
 have hT:s.TypeIs (.ref z) "zip":=⟨_,hz,rfl⟩; refine gC hT F.slot_zip_iter (be F.slot_zip_iter hT F.entry_zip_iter ?_ (F.args_zip_iter_1 _));show wpAny _ _ (ret (.ref z)) _ _ s; exact ai ⟨_,rfl,"zip",_,hT,F.slot_zip_next.lookup,h⟩
theorem zn1 {elts:List Expr} {x1} {pos:Pos} {z TI TO T:Addr} {f0 f1:Value} {Q:Unit→Shared→Prop} (hz:IsZ s.heap z TI TO f0 f1) (hf:ZF f0 f1)
  (hQ:∀ h' g0,IsZ h' z TI TO g0 f1→ZF g0 f1→bg z s.heap h'→Q () { s with heap:=h' }):wpAny (model prog w) A (letOwnedTupleGo (.Tuple elts x1 pos) (.ref z) (.ref T)) Q E s:=by
 unfold letOwnedTupleGo; refine ae (wpAny_load hz ?_);show wpAny _ _ (if _ then _ else _) Q E s;split
 ·refine ae (cg ?_); show wpAny _ _ (setField (.ref z) 0 .none) Q E s;exact bE hz #[M] fun h' Bc ng=>hQ h' .none Bc ⟨.inl rfl,hf.2⟩ ng
 ·exact ai (hQ s.heap f0 hz hf ⟨rfl,fun _ _=>rfl⟩)
end
end PySem
namespace L2
open PySem PySem.Spec PyProof.Rows
def zm2 (pG pH:Hp→Addr→List V→Prop) (a b:Addr):It :=
 ⟨(ziI pG pH a b).go,(ziI pG pH a b).yld,fun i H=>∃ xs ys,pG H a xs∧pH H b ys∧(xs.length=i∨(i < xs.length∧ys.length=i))⟩
abbrev zeB (n:Nat):List Addr:=[n+4,n+2,n+3,n,n+1]
abbrev zn2 (C:String) (n a b:Nat) (i:Nat) (h:Heap):Prop:=(∃ f0 f1,IsZ h (n+4) (n+2) (n+3) f0 f1∧ZF f0 f1)∧IsPair h (n+2) (.ref n) (.ref (n+1))∧(∃ u v,IsPair h (n+3) u v)∧h.IsTupleIter n a i∧ItC C h (n+1) b i
structure Sk (C:String) (Is:Heap→Addr→Array Value→Prop) (Sq:ag→Hp→Addr→List V→Prop):Prop where
 h:SkH C Is
 inv:∀ {X:Cx} {kP:List (Addr×Obj)} {σ:St} {H:Hp} {s:Shared} {a:Addr} {xs:List V},Inv X kP σ H s→Sq X.K H a xs→∃ kR:List Value,zF xs kR∧Is s.heap a kR.toArray∧a < s.heap.objs.size
 inj:∀ {X:Cx} {kP:List (Addr×Obj)} {σ:St} {H:Hp} {s:Shared} {a:Addr} {xs ys:List V},Inv X kP σ H s→Sq X.K H a xs→Sq X.K H a ys→xs=ys
theorem sqL:Sk "list_iterator" Heap.IsList kS:=⟨skL,fun I h=>let ⟨kR,r,p,_⟩:=I.list h; ⟨kR,r,p.isList,by obtain⟨_,_,e,_⟩:=p; exact aF e⟩,fun I h h'=>I.list_inj h h'⟩
theorem sqT:Sk "tuple_iterator" jB k6:=⟨skT,fun I h=>let ⟨kR,r,p,_⟩:=I.tuple h; ⟨kR,r,p,by obtain⟨_,e,_⟩:=p; exact aF e⟩,fun I h h'=>I.tuple_inj h h'⟩
theorem zjX {C:String} {Is:Heap→Addr→Array Value→Prop} {Sq:ag→Hp→Addr→List V→Prop} (S:Sk C Is Sq) {P:Program} {w:World} {K:ag} {es:List Expr} {k:Nat} {pos:Pos} (a b n:Nat) (ha:a < n) (hb:b < n):Turn P w K (.Tuple es k pos) (zm2 (k6 K) (Sq K) a b) (zeB n) (n+4) (zn2 C n a b) where
 mem:=by simp
 obj:=fun i h st c hc=>by
  obtain⟨⟨f0,f1,h1,_⟩,h2,⟨u,v,h3⟩,⟨o4,e4,_,d4⟩,⟨o5,e5,_,d5⟩⟩:=st;simp only [zeB,aC,aX,or_false] at hc;rcases hc with z | z | z | z | z <;> subst z
  ·exact⟨_,h1,fun v z=>by cases z⟩
  ·exact⟨_,h2,fun v z=>by cases z⟩
  ·exact⟨_,h3,fun v z=>by cases z⟩
  ·exact⟨_,e4,fun v z=>by rw [d4] at z; cases z⟩
  ·exact⟨_,e5,fun v z=>by rw [d5] at z; cases z⟩
 keep:=fun i h h' st kk=>by
  obtain⟨⟨f0,f1,h1,hf⟩,h2,⟨u,v,h3⟩,h4,h5⟩:=st;obtain⟨o5,e5,r5⟩:=h5;exact⟨⟨f0,f1,kk _ #[M] _ h1,hf⟩,kk _ #[M] _ h2,⟨u,v,kk _ #[M] _ h3⟩,h4.at fun o eo=>kk _ #[M] o eo,o5,kk _ #[M] _ e5,r5⟩
 item:=by
  intro X hP hw hK hc i kP s σ H E I hf st hg;subst hP hw hK;obtain⟨xs,ys,x,y,pj,nI,hx,hy⟩:=hg;obtain⟨⟨f0,f1,h1,uX⟩,h2,⟨u0,v0,h3⟩,h4,h5⟩:=st;obtain⟨mf,rH,p1,qj⟩:=I.tuple pj;obtain⟨me,rV,p2,_⟩:=S.inv I nI;obtain⟨u,hu,ru⟩:=rH.get hx;obtain⟨v,hv,rv⟩:=rV.get hy;have tE:n+4 < s.heap.objs.size:=aF h1;have hh:X.A.in1.handled=none:=by simp [I.ok.hd hc]
  have pO:i < mf.toArray.size:=by have:=(aA.mp hu).1; simpa using this
  have pP:i < me.toArray.size:=by have:=(aA.mp hv).1; simpa using this
  refine zlo (Draws.tuple hh n a (nq #[O]) mf.toArray) (S.h.dr hh (n+1) b (nq #[O]) me.toArray) (zdy ha hb) h1 uX h2 h3 ⟨h4,(show s.heap.IsTuple a mf.toArray from p1)⟩ ⟨h5,p2⟩ pO pP
   fun x' y' h' tk g0 g1 a' b' px py ez CF e2 e3 t4 t5 pp hsz kk=>?_
  have eu:x'=u:=by
   have e1:mf[i]? = some x':=by simpa using px
   rw [hu] at e1; exact (aM e1).symm
  have ev:y'=v:=by
   have e1:me[i]? = some y':=by simpa using py
   rw [hv] at e1; exact (aM e1).symm
  subst eu ev;have ch:∀ c∈[n+4,n+3,n,n+1],c∈zeB n:=fun c k7=>by
   simp only [zeB,aC,aX,or_false] at k7 ⊢;rcases k7 with z | z | z | z <;> subst z <;> simp
  have k1:∀ c o,c∉[n+4,n+3,n,n+1]→s.heap.get? c=some o→h'.get? c=some o:=fun c o k7 eo=>by
   simp only [aC,aX,or_false,not_or] at k7;exact kk c o k7.1 k7.2.1 k7.2.2.1 k7.2.2.2 eo
  have wy:∀ c∈[n+4,n+3,n,n+1],∃ o,h'.get? c=some o:=fun c k7=>by
   simp only [aC,aX,or_false] at k7;rcases k7 with z | z | z | z <;> subst z
   ·exact⟨_,ez⟩
   ·exact⟨_,e3⟩
   ·obtain⟨o,e,_⟩:=t4.1; exact⟨o,e⟩
   ·obtain⟨o,e,_⟩:=t5.1; exact⟨o,e⟩
  have I1:Inv X kP σ (kW H s.heap.objs.size (.tup [x,y])) { s with heap:=h',toks:=tk } :=
   I.turnedNew k1 (fun c k7=>hf c (ch c k7)) wy (af _) ⟨zaI,_,.cons ru (.cons rv .nil),zbt pp⟩
  refine⟨_,rfl,zn1 (s:={ s with heap:=h',toks:=tk }) ez CF fun uF g2 tF yz m8=>?_⟩;have fr:∀ c∈zeB n,kW H s.heap.objs.size (.tup [x,y]) c=none:=fun c k7=>by
   have lF:c < s.heap.objs.size:=by
    simp only [zeB,aC,aX,or_false] at k7;rcases k7 with z | z | z | z | z <;> subst z <;> exact nl #[O]
   rw [zq (bf lF)];exact (hf c k7).1
  have I2:Inv X kP σ (kW H s.heap.objs.size (.tup [x,y])) { s with heap:=uF,toks:=tk } :=
   Inv.turnedL (s:={ s with heap:=h',toks:=tk }) (ch:=[n+4]) (t':=tk) I1 (fun c o k7 eo=>m8.extBut c o (by simpa using k7) eo) (fun c k7=>by
    have z:c=n+4:=by simpa using k7
    subst z;exact⟨fr _ #[M],(hf _ #[M]).2⟩) (fun c k7=>by
    have z:c=n+4:=by simpa using k7
    subst z;exact⟨_,tF⟩)
  have up:∀ c o,c≠n+4→h'.get? c=some o→uF.get? c=some o:=fun c o k7 e=>m8.extBut c o k7 e
  exact⟨.ref s.heap.objs.size,_,I2,rfl,⟨_,x,y,I.fresh,rfl,rfl,fun zs hz=>by rw [I.tuple_inj hz pj]; exact hx,fun zs hz=>by rw [S.inj I hz nI]; exact hy⟩,
   ⟨⟨g2,g1,tF,yz⟩,up _ _ (nq #[O]) e2,⟨_,_,up _ _ (nq #[O]) e3⟩,t4.1.at fun o e=>up _ o (nq #[O]) e,⟨t5.1.choose,up _ _ (nq #[O]) t5.1.choose_spec.1,t5.1.choose_spec.2⟩⟩,fr⟩
 done:=by
  intro X hP hw hK hc i kP s σ H E I hf st hg;subst hP hw hK;obtain⟨xs,ys,pj,nI,hx⟩:=hg;obtain⟨⟨f0,f1,h1,uX⟩,h2,⟨u0,v0,h3⟩,h4,h5⟩:=st;obtain⟨mf,rH,p1,qj⟩:=I.tuple pj;obtain⟨me,rV,p2,_⟩:=S.inv I nI;have hh:X.A.in1.handled=none:=by simp [I.ok.hd hc]
  have qk:=rH.length;have qL:=rV.length;refine zm1 (Draws.tuple hh n a (nq #[O]) mf.toArray) (S.h.dr hh (n+1) b (nq #[O]) me.toArray) (zdy ha hb) h1 uX h2 h3 ⟨h4,(show s.heap.IsTuple a mf.toArray from p1)⟩ ⟨h5,p2⟩ (by rw [am,am]; lia) fun h' tk kk=>⟨rfl,?_⟩
  have sub:∀ c∈[n+4,n+3,n,n+1],c∈zeB n:=fun c k7=>by
   simp only [zeB,aC,aX,or_false] at k7 ⊢;rcases k7 with z | z | z | z <;> subst z <;> simp
  have k1:∀ c o,c∉[n+4,n+3,n,n+1]→s.heap.get? c=some o→h'.get? c=some o:=fun c o k7 e=>by
   simp only [aC,aX,or_false,not_or] at k7;exact kk c o k7.1 k7.2.1 k7.2.2.1 k7.2.2.2 e
  have rD:∀ d u',H d=some u'→d∉[n+4,n+3,n,n+1]:=fun d u' e' hd=>by rw [(hf d (sub d hd)).1] at e'; cases e'
  refine I.step (g':=s.gens) (d':=s.drawn) (t':=tk) (ch:=[n+4,n+3,n,n+1]) (fun c k7=>?_) (fun c o _ _ mh e _=>k1 c o mh e) (fun c o _ _ mh e _=>⟨o.slots,k1 c o mh e⟩) (fun _ _ _ _ n=>n)
   (fun c o mh e=>⟨o,k1 c o mh e⟩) (fun _ _ e=>e) (fun _ _ _ e=>e) (fun c ps e=>⟨#[],by rw [e]; simp⟩) (fun m hm=>?_) (fun c u e=>?_) I.bare
  ·obtain⟨_,a1,_,a3,a4,a5⟩:=hf c (sub c k7);exact⟨a3,a1,a4,a5⟩
  ·obtain⟨o,uM,ep,ho,r⟩:=hm;exact⟨o,uM,ep,k1 _ o (fun z=>(hf _ (sub _ z)).2.1 rfl) ho,r⟩
  ·refine (I.hok c u e).stay (fun d v' hd q=>k1 d v' ?_ q) (fun _ q=>q) fun _ _ q=>q
   rcases hd with z | z
   ·rw [z]; exact rD c u e
   ·exact rD d _ z
 self:=fun _ _ _ _ _ st h=>by
  obtain⟨⟨f0,f1,hz,_⟩,_⟩:=st;exact zhS hz h
def iZq (pG pH:Hp→Addr→List V→Prop) (ta:TA):TI:=fun σ H R=>ta σ H fun vs H1=>∃ a b xs ys,vs = [.ref a,.ref b]∧pG H1 a xs∧pH H1 b ys∧R (zm2 pG pH a b) H1
theorem zgd {C:String} {Is:Heap→Addr→Array Value→Prop} {Sq:ag→Hp→Addr→List V→Prop} (S:Sk C Is Sq) {X:Cx} {es:List Expr} {k:Nat} {nH p pos:Pos} {a b:Expr} {ta:TA} (hg:Gl X "zip") (hm:X.mg "zip" = none) (ha:PA X [a,b] ta) (hs:starEach [a,b] X.env = [(false,eval a X.env),(false,eval b X.env)]:=by rfl) (m9:starEach [b] X.env = [(false,eval b X.env)]:=by rfl) :
  PI X (.Tuple es k nH) (.Call (.Name "zip" p) [a,b] [] pos) (iZq (k6 X.K) (Sq X.K) ta):=by
 intro kP s σ H R I h;refine Call_ (zbD I hg hm boot_zip (bv (thn (ha pos kP s σ H _ I h) fun us s1 ⟨vs,H1,I1,r1,q1⟩=>?_) (by rw [hs,m9]) (by rw [m9]; rfl)));obtain⟨l1,l2,xs,ys,e,pj,nI,q⟩:=q1;subst e;cases r1 with
 | cons r rr =>
  cases rr with
  | cons r' rr =>
   cases rr;cases r;cases r';obtain⟨mf,rH,vP,qj⟩:=I1.tuple pj;obtain⟨me,rV,wz,pP⟩:=S.inv I1 nI;have pO:l1 < s1.heap.objs.size:=by obtain⟨_,e,_⟩:=vP; exact aF e
   refine zd7 S.h (show s1.heap.IsTuple l1 mf.toArray from vP) wz fun h' n hn b1 b2 b3 b4 b5 b6 kk=>?_
   have I2:Inv X kP σ H1 { s1 with heap:=h' }:=I1.kept (t':=s1.toks) kk;refine zhS b1 ?_;refine⟨_,zeB n,zn2 C n l1 l2,zm2 (k6 X.K) (Sq X.K) l1 l2,H1,rfl,I2,zjX S l1 l2 n (by rw [hn]; exact pO) (by rw [hn]; exact pP),⟨⟨_,_,b1,.inl rfl,_,rfl⟩,b2,⟨_,_,b3⟩,b4,b5⟩,fun c hc=>?_,q⟩;have hle:s1.heap.objs.size≤c:=by
    simp only [zeB,aC,aX,or_false] at hc;rw [← hn];rcases hc with z | z | z | z | z <;> subst z
    all_goals first | exact j3 _ _ | exact af _
   exact I1.fpOk hle (I1.hok.fresh hle)
theorem zjY {X:Cx} {es:List Expr} {k:Nat} {nH p pos:Pos} {a b:Expr} {ta:TA} (hg:Gl X "zip") (hm:X.mg "zip" = none) (ha:PA X [a,b] ta) (hs:starEach [a,b] X.env = [(false,eval a X.env),(false,eval b X.env)]:=by rfl) (m9:starEach [b] X.env = [(false,eval b X.env)]:=by rfl) :
  PI X (.Tuple es k nH) (.Call (.Name "zip" p) [a,b] [] pos) (iZq (k6 X.K) (kS X.K) ta):=zgd sqL hg hm ha hs m9
theorem zjZ {X:Cx} {es:List Expr} {k:Nat} {nH p pos:Pos} {a b:Expr} {ta:TA} (hg:Gl X "zip") (hm:X.mg "zip" = none) (ha:PA X [a,b] ta) (hs:starEach [a,b] X.env = [(false,eval a X.env),(false,eval b X.env)]:=by rfl) (m9:starEach [b] X.env = [(false,eval b X.env)]:=by rfl) :
  PI X (.Tuple es k nH) (.Call (.Name "zip" p) [a,b] [] pos) (iZq (k6 X.K) (k6 X.K) ta):=zgd sqT hg hm ha hs m9
section
variable {P:Program} {w:World} {outer:List Env} {H H':Hp} {h h' B:Heap} {e C:Addr}
theorem zm3 {o:HO} {a:Addr} (x:zaz P w H h a o):∃ ob,h.get? a=some ob:=by
 cases o with
 | lst xs=>obtain⟨_,_,_,_,e⟩:=x; exact⟨_,e⟩
 | tup xs=>obtain⟨_,_,_,o,e,_⟩:=x; exact⟨_,e⟩
 | dK kZ=>obtain⟨_,_,_,_,o,_,_,e,_⟩:=x; exact⟨_,e⟩
 | dT kZ=>obtain⟨_,_,_,_,o,_,_,e,_⟩:=x; exact⟨_,e⟩
 | set S n=>obtain⟨o,_,_,_,e,_⟩:=x; exact⟨_,e⟩
 | ins C dx fs=>obtain⟨_,_,_,e,_⟩:=x; exact⟨_,e⟩
 | own y=>obtain⟨_,e⟩:=x; exact⟨_,e⟩
 | xd fs=>obtain⟨_,⟨_,_,_,e,_⟩,_⟩:=x; exact⟨_,e⟩
 | rng lo hi=>obtain⟨_,_,_,e⟩:=x; exact⟨_,e⟩
 | frz ob u=>obtain⟨e,_⟩:=x; exact⟨_,e⟩
 | tbl ps=>exact⟨_,(show h.get? a=some _ from x)⟩
 | met f y=>exact⟨_,(show h.get? a=some _ from x)⟩
 | ext φ=>obtain⟨_,⟨_,e⟩,_⟩:=x; exact⟨_,e⟩
end
section
variable {κ:Type} [DecidableEq κ]
def zg9 (kZ:List (κ×V)) (k:κ):Option V:=(kZ.find? fun kv=>decide (kv.1=k)).map (·.2)
def putK (kZ:List (κ×V)) (k:κ) (v:V):List (κ×V) :=
 if (kZ.any fun kv=>decide (kv.1=k))=true then kZ.map (fun kv=>if kv.1=k then (kv.1,v) else kv) else kZ++[(k,v)]
theorem zge {p:κ×V} {r:List (κ×V)} {k:κ} (e:p.1=k):zg9 (p :: r) k=some p.2:=by simp [zg9,fH,e]
theorem zgf {p:κ×V} {r:List (κ×V)} {k:κ} (e:¬ p.1=k):zg9 (p :: r) k=zg9 r k:=by simp [zg9,fH,e]
theorem zgg (k:κ):∀ kZ:List (κ×V),(kZ.any fun kv=>decide (kv.1=k))=(zg9 kZ k).isSome
 | []=>rfl
 | p :: r=>by
  rw [eD];by_cases e:p.1=k
  ·simp only [zge e,decide_eq_true e,Bool.true_or,jy]
  ·rw [zgf e,decide_eq_false e,Bool.false_or]; exact zgg k r
theorem zdl (kZ:List (κ×V)) (k:κ) (v:V):(putK kZ k v).length≤kZ.length+1:=by
 unfold putK;split
 ·rw [ab]; lia
 ·rw [ao,bK,dR]; lia
theorem zjh.isSome_eq {o:Option V} {u:Option Value} (r:zjh o u):o.isSome=u.isSome:=by
 cases o with
 | none=>cases u with
  | none=>rfl
  | some _=>exact (show False from r).elim
 | some _=>cases u with
  | none=>exact (show False from r).elim
  | some _=>rfl
theorem KV.any {kZ:List (κ×V)} {vs:List (κ×Value)} (r:KV kZ vs) (k:κ):(kZ.any fun kv=>decide (kv.1=k))=vs.any fun kv=>decide (kv.1=k):=by
 unfold KV at r;induction r with
 | nil=>rfl
 | cons h t ih=>rw [eD,eD,ih,h.1]
theorem KV.repl {kZ:List (κ×V)} {vs:List (κ×Value)} (r:KV kZ vs) (k:κ) {y:V} {u:Value} (ry:RelV y u) :
  KV (kZ.map fun kv=>if kv.1=k then (kv.1,y) else kv) (vs.map fun kv=>if kv.1=k then (kv.1,u) else kv):=by
 unfold KV at r ⊢;induction r with
 | nil=>exact .nil
 | @cons p q ps qs h t ih =>
  rw [aS,aS];refine .cons ?_ ih;obtain⟨h1,h2⟩:=h;by_cases e:p.1=k
  ·rw [if_pos e,if_pos (h1.symm.trans e)]; exact⟨h1,ry⟩
  ·rw [if_neg e,if_neg (fun z=>e (h1.trans z))]; exact⟨h1,h2⟩
theorem KV.put {kZ:List (κ×V)} {vs:List (κ×Value)} (r:KV kZ vs) (k:κ) {y:V} {u:Value} (ry:RelV y u):KV (putK kZ k y) (stored vs k u):=by
 unfold putK stored;rw [r.any k];by_cases e:(vs.any fun kv=>decide (kv.1=k))=true
 ·rw [if_pos e,if_pos e]; exact r.repl k ry
 ·rw [if_neg e,if_neg e]; exact bH r ⟨rfl,ry⟩
theorem KV.length {kZ:List (κ×V)} {vs:List (κ×Value)} (r:KV kZ vs):kZ.length=vs.length:=gf r
end
theorem zmj {P:Program} {w:World} {k:Key} {u:Value} (r:RelV (kV k) u):(zaD P w).is k u=true:=by
 cases k with
 | inl i=>obtain⟨t,e⟩:=(show ∃ t,u=jk i t from r); subst e; exact zfN P w i t
 | inr x=>obtain⟨t,e⟩:=(show ∃ t,u=kD x t from r); subst e; exact zfO P w x t
theorem ze1 {P:Program} {w:World}:∀ {ks:List Key} {us:List Value},zF (ks.map kV) us→ItemsAre (zaD P w) ks us
 | [],_,r=>by rw [eP] at r; cases r; exact .nil
 | k :: ks,_,r=>by
  rw [aS] at r;cases r with
  | cons h t=>exact .cons (zmj h) (ze1 t)
abbrev KT (H:Hp):List (List Key×V)→List (List Key×Addr×Value)→Prop:=Paired fun p q=>p.1=q.1∧H q.2.1=some (.tup (p.1.map kV))∧RelV p.2 q.2.2
theorem KT.val {H:Hp} {kZ:List (List Key×V)} {xs:List (List Key×Addr×Value)} (r:KT H kZ xs) (k:List Key):zjh (zg9 kZ k) ((atKey xs k).map (·.2)):=by
 induction r with
 | nil=>exact kj
 | @cons p q ps qs h t ih =>
  obtain⟨h1,_,h2⟩:=h;by_cases e:p.1=k
  ·have e':q.1=k:=h1.symm.trans e;have b:atKey (q :: qs) k=some q.2:=by simp [atKey,fH,e']
   rw [zge e,b]; exact h2
  ·have e':¬ q.1=k:=fun z=>e (h1.trans z)
   have b:atKey (q :: qs) k=atKey qs k:=by simp [atKey,fH,e']
   rw [zgf e,b]; exact ih
theorem KT.repl {H:Hp} {kZ:List (List Key×V)} {xs:List (List Key×Addr×Value)} (r:KT H kZ xs) (k:List Key) {y:V} {u:Value} (ry:RelV y u) :
  KT H (kZ.map fun kv=>if kv.1=k then (kv.1,y) else kv) (xs.map (putAt k u)):=by
 induction r with
 | nil=>exact .nil
 | @cons p q ps qs h t ih =>
  rw [aS,aS];refine .cons ?_ ih;obtain⟨h1,h2,h3⟩:=h;unfold putAt;by_cases e:p.1=k
  ·rw [if_pos e,if_pos (h1.symm.trans e)]; exact⟨h1,h2,ry⟩
  ·rw [if_neg e,if_neg (fun z=>e (h1.trans z))]; exact⟨h1,h2,h3⟩
theorem KT.put {H:Hp} {kZ:List (List Key×V)} {xs:List (List Key×Addr×Value)} (r:KT H kZ xs) (k:List Key) {b:Addr} {y:V} {u:Value} (hb:H b=some (.tup (k.map kV))) (ry:RelV y u) :
  KT H (putK kZ k y) (storedH xs k b u):=by
 have e:(kZ.any fun kv=>decide (kv.1=k))=(atKey xs k).isSome:=by
  rw [zgg,(r.val k).isSome_eq,Option.isSome_map]
 unfold putK storedH;rw [e];by_cases q:(atKey xs k).isSome=true
 ·rw [if_pos q,if_pos q]; exact r.repl k ry
 ·rw [if_neg q,if_neg q]; exact bH r ⟨rfl,hb,ry⟩
theorem KT.keeps {H H':Hp} {kZ:List (List Key×V)} {xs:List (List Key×Addr×Value)} (r:KT H kZ xs) (ht:∀ b ys,H b=some (.tup ys)→H' b=some (.tup ys)):KT H' kZ xs :=
 Paired.mapP r fun _ _ z=>⟨z.1,ht _ _ z.2.1,z.2.2⟩
section
variable {P:Program} {w:World} {H:Hp} {h:Heap} {a:Addr}
theorem zmk {u:HO} (ok:HOk P w H h) (e:Rd H a u):zaz P w H h a u:=e.ok ok
theorem zn3 {kZ:List (Key×V)} (ok:HOk P w H h) (e:Rd H a (.dK kZ)):kZ.length≤sizeLine∧(a == sysModules)=false∧∃ vs,KV kZ vs∧h.DictOf (zaD P w) a vs :=
 show zaz P w H h a (.dK kZ) from zmk ok e
theorem zn4 {kZ:List (Key×V)} (ok:HOk P w H h) (e:H a=some (.dK kZ)):kZ.length≤sizeLine∧(a == sysModules)=false∧∃ vs,KV kZ vs∧h.DictOf (zaD P w) a vs:=zn3 ok (.inl e)
theorem zj0 {ks:List Key} (ok:HOk P w H h) (e:H a=some (.tup (ks.map kV))):(tupleKind (zaD P w)).is h ks a:=by
 obtain⟨_,kR,r,o,h1,h2,n,h3⟩:=(show zaz P w H h a (.tup (ks.map kV)) from ok a _ e);exact⟨o,kR.toArray,n,h1,h2,h3,by simpa using ze1 r⟩
theorem zn5 {kZ:List (List Key×V)} (ok:HOk P w H h) (e:Rd H a (.dT kZ)):kZ.length≤sizeLine∧(a == sysModules)=false ∧
  ∃ xs,KT H kZ xs∧h.DictOfH (tupleKind (zaD P w)) a xs:=by
 obtain⟨z,y,xs,r,o,es,ep,h1,h2,h3,h4,h5⟩:=(show zaz P w H h a (.dT kZ) from zmk ok e);refine⟨z,y,xs,r,o,es,ep,h1,h2,h3,h4,fun x hx=>?_,h5⟩;have all:∀ {l:List (List Key×V)} {m:List (List Key×Addr×Value)},KT H l m→∀ x∈m,(tupleKind (zaD P w)).is h x.1 x.2.1:=by
  intro l m q;induction q with
  | nil=>intro x hx; exact nomatch hx
  | @cons p q ps qs hq t ih =>
   intro x hx;rcases aC.mp hx with e | hx
   ·subst e;exact zj0 ok (by rw [← hq.1]; exact hq.2.1)
   ·exact ih x hx
 exact all r x hx
theorem zn6 {kZ:List (List Key×V)} (ok:HOk P w H h) (e:H a=some (.dT kZ)):kZ.length≤sizeLine∧(a == sysModules)=false ∧
  ∃ xs,KT H kZ xs∧h.DictOfH (tupleKind (zaD P w)) a xs:=zn5 ok (.inl e)
end
def zj1 (H:Hp) (a:Addr) (y v:V) (H':Hp):Prop :=
 (∃ kZ k,H a=some (.dK kZ)∧y=kV k∧kZ.length < sizeLine∧H'=kW H a (.dK (putK kZ k v))) ∨
 ∃ kZ k b,H a=some (.dT kZ)∧y = .ref b∧H b=some (.tup (k.map kV))∧kZ.length < sizeLine∧H'=kW H a (.dT (putK kZ k v))
theorem zj1.t {H:Hp} {a b:Addr} {kZ:List (List Key×V)} {k:List Key} {v:V} (e:H a=some (.dT kZ)) (eb:H b=some (.tup (k.map kV))) (hl:kZ.length < sizeLine) :
  zj1 H a (.ref b) v (kW H a (.dT (putK kZ k v))):=.inr ⟨kZ,k,b,e,rfl,eb,hl,rfl⟩
section
variable {X:Cx} {kP:List (Addr×Obj)} {σ:St} {H:Hp} {s:Shared} {a:Addr} {y v:V} {u r:Value} {o:Option V} {A:Around} {E:Value→Shared→Prop}
theorem Inv.big (I:Inv X kP σ H s):sysModules < s.heap.objs.size:=by
 have h:mainGlobals < s.heap.objs.size:=(I.mod.glob.keeps I.bk).lt;exact Nat.lt_trans #[D] h
theorem zhT {h':Heap} {t':Nat} {ob:HO} (I:Inv X kP σ H s) (mu:Mut (H a)) (hs:bg a s.heap h') (he:∃ q,h'.get? a=some q) (new:zaz X.prog X.w (kW H a ob) h' a ob) :
  Inv X kP σ (kW H a ob) { s with heap:=h',toks:=t' } :=
 I.write (x:=a) (e:=a) mu (.inl rfl) (fun b q hb z=>(hs.2 b hb).trans z) he new
theorem zm4 {P:Program} {w:World} {H':Hp} {h':Heap} {kZ:List (Key×V)} {vs:List (Key×Value)} (z:kZ.length≤sizeLine) (hd:(a == sysModules)=false) (rel:KV kZ vs) (dd:h'.DictOf (zaD P w) a vs) :
  zaz P w H' h' a (.dK kZ):=⟨z,hd,vs,rel,dd⟩
theorem ziS {H':Hp} {Q:Unit→Shared→Prop} (hu:A.units+1 < cLine) (I:Inv X kP σ H s) (g:zj1 H a y v H') (ry:RelV y u) (rv:RelV v r) (h:∀ s',Inv X kP σ H' s'→Q () s') :
  wpAny (model X.prog X.w) A (setItem (.ref a) u r) Q E s:=by
 rcases g with ⟨kZ,k,e,ey,l,eH⟩ | ⟨kZ,k,b,e,ey,eb,l,eH⟩
 ·subst ey eH;obtain⟨z,hd,vs,rel,dd⟩:=zn4 I.hok e;have hz:vs.length≤sizeLine:=by rw [← rel.length]; exact z
  have hl:(putK kZ k v).length≤sizeLine:=by have:=zdl kZ k v; lia
  refine wpAny_setItem_pairs (hsz:=hz) (zmj ry) dd fun h' Bj hs=>h _ ?_
  have he:∃ q,h'.get? a=some q:=let ⟨q,_,_,hq,_⟩:=Bj; ⟨q,hq⟩
  exact zhT I (by rw [e]; exact kj) hs he (zm4 hl hd (rel.put k rv) Bj)
 ·subst ey eH;cases (show u=aO b from ry);obtain⟨z,hd,xs,rel,dd⟩:=zn6 I.hok e;have hz:xs.length≤sizeLine:=by rw [← gf rel]; exact z
  have hl:(putK kZ k v).length≤sizeLine:=by have:=zdl kZ k v; lia
  refine wpAny_setItem_heap (hsz:=hz) (tupleKind_room_in1 hu) (zj0 I.hok eb) dd fun h' Bj hs=>h _ ?_
  obtain⟨q,es,ep,hq,h2,h3,h4,_,h5⟩:=Bj;refine zhT I (by rw [e]; exact kj) hs ⟨q,hq⟩ ⟨hl,hd,_,(rel.put k eb rv).keeps fun c ys ec=>?_,q,es,ep,hq,h2,h3,h4,h5⟩;rw [zq (zny ec e (fun z=>nomatch z))];exact ec
end
def zn7 (td ty tv:TE):TS:=fun D σ H=>tv σ H fun v H1=>td σ H1 fun x H2=>ty σ H2 fun y H3=>∃ a H4,x = .ref a∧zj1 H3 a y v H4∧D.nx σ H4
section
variable {X:Cx} {o i e value:Expr} {pos pos' nH:Pos} {td ty tv:TE}
theorem zlp (hu:X.A.units+1 < cLine) (ho:PE X o td) (hi:PE X i ty) (hv:PE X value tv) (hs:swapsWith value (some (.Subscript o i pos')) pos.line X.env=pure false) :
  PS X (.Assign [.Subscript o i pos'] value pos) (zn7 td ty tv):=by
 intro kP s σ H D I h;refine wpAny_Assign_Subscript (thn (hv kP s σ H _ I h) fun r s1 ⟨v,H1,I1,rv,q1⟩=>thn (ho kP s1 σ H1 _ I1 q1) fun u s2 ⟨x,H2,I2,rx,q2⟩=>thn (hi kP s2 σ H2 _ I2 q2) fun iv s3 ⟨y,H3,I3,ry,a,H4,ex,g,q3⟩=>?_) hs;subst ex;obtain rfl:u=aO a:=rx;exact ziS hu I3 g ry rv fun s4 I4=>⟨σ,H4,I4,q3⟩
end
theorem zj2 {P:Program} {w:World} {H:Hp} (h:Heap) (hb:sysModules < h.objs.size):zaz P w H (h.push { cls:=.type "dict",data:=.dict #[] }) h.objs.size (.dT []) :=
 ⟨bh _,beq_eq_false_iff_ne.mpr (dG (bf hb)),[],.nil,_,#[],0,aG _ rfl,⟨rfl,rfl,rfl⟩,rfl,rfl,kw⟩
def zm5:TE:=fun _ H Q=>∀ p,H p=none→Q (.ref p) (kW H p (.dT []))
section
variable {X:Cx} {pos:Pos}
theorem zj3:PE X (.Dict [] [] pos) zm5:=fun kP s σ H Q I h =>
 wpAny_Dict_empty ⟨.ref s.heap.objs.size,_,I.laid (a:=s.heap.objs.size) (o:=.dT []) (t':=s.toks) (fun _ _ q=>ah _ q) (af _) (zj2 s.heap I.big),rfl,h _ (I.hok.fresh (af _))⟩
end
end L2
namespace PySem
open PyProof.Rows
end PySem
namespace L2
open PySem PySem.Spec PyProof.Rows
end L2
namespace My
open PySem L2 PyProof.Rows
section
variable {K:ag}
structure RowAt (K:ag) (H:Hp) (r:Addr) (n:Nat) (rw:List (Option Int)):Prop where
 at':kS K H r (rw.map mJ)
 len:rw.length=n
end
end My
end
section
namespace Srt
open PySem PyProof.Rows
def Vk (val:Keyed→Int) (xs:Array Keyed) (i:Nat):Int:=match xs[i]? with
 | some p=>val p
 | none=>0
theorem zah {val:Keyed→Int} {xs ys:Array Keyed} {i j:Nat} (h:xs[i]? = ys[j]?):Vk val xs i=Vk val ys j:=by unfold Vk; rw [h]
theorem zZ {val:Keyed→Int} {xs:Array Keyed} {i:Nat} {p:Keyed} (h:xs[i]? = some p):Vk val xs i=val p:=by unfold Vk; rw [h]
def SIn (val:Keyed→Int) (xs:Array Keyed) (lo hi:Nat):Prop:=∀ i j,lo≤i→i≤j→j < hi→Vk val xs i≤Vk val xs j
def DIn (val:Keyed→Int) (xs:Array Keyed) (lo hi:Nat):Prop:=∀ i j,lo≤i→i≤j→j < hi→Vk val xs j≤Vk val xs i
structure SB (κ:SortKind) (a₀:Array Keyed) (st:SortSt):Prop where
 perm:(arrOf st).Perm a₀
 kind:kindOf st=κ
 failed:failedOf st=none
theorem SB.size {κ:SortKind} {a₀:Array Keyed} {st:SortSt} (h:SB κ a₀ st):(arrOf st).size=a₀.size:=h.perm.size_eq
theorem SB.mem {κ:SortKind} {a₀:Array Keyed} {st:SortSt} (h:SB κ a₀ st) {i:Nat} (hi:i < a₀.size):∃ p,(arrOf st)[i]? = some p∧p∈a₀.toList:=by
 (have nK:i < (arrOf st).size:=by rw [h.size]; exact hi)
 exact⟨(arrOf st)[i],getElem?_pos _ i nK,(eF.mp h.perm).mem_iff.mp #[M]⟩
structure SF (κ:SortKind) (a₀:Array Keyed) (lo:Nat) (st₀ st:SortSt):Prop where
 b:SB κ a₀ st
 low:∀ k,k < lo→(arrOf st)[k]? = (arrOf st₀)[k]?
 pend:pendingOf st=pendingOf st₀
theorem SF.refl {κ:SortKind} {a₀:Array Keyed} {lo:Nat} {st:SortSt} (h:SB κ a₀ st):SF κ a₀ lo st st:=⟨h,fun _ _=>rfl,rfl⟩
theorem SF.setArr {κ:SortKind} {a₀:Array Keyed} {lo:Nat} {st₀ st:SortSt} (h:SF κ a₀ lo st₀ st) {xs:Array Keyed} (hp:xs.Perm (arrOf st)) (hl:∀ k,k < lo→xs[k]? = (arrOf st)[k]?):SF κ a₀ lo st₀ (setArr st xs) :=
 ⟨⟨hp.trans h.b.perm,h.b.kind,h.b.failed⟩,fun k hk=>(hl k hk).trans (h.low k hk),h.pend⟩
section
variable {prog:Program} {w:World} {A:Around} {E:Value→Shared→Prop} {s:Shared} {a₀:Array Keyed} {κ:SortKind} {val:Keyed→Int}
def Cmp (prog:Program) (w:World) (A:Around) (s:Shared) (κ:SortKind) (val:Keyed→Int) (a₀:Array Keyed):Prop :=
 ∀ x y,x∈a₀.toList→y∈a₀.toList→∀ (Q:Bool→Shared→Prop) (E:Value→Shared→Prop),Q (decide (val x < val y)) s→wpAny (model prog w) A (keyLt' κ x.1 y.1) Q E s
theorem zj4 {st:SortSt} {x y:Keyed} {Q:Option Bool→SortSt→Prop} (hC:Cmp prog w A s κ val a₀) (hk:kindOf st=κ) (hx:x∈a₀.toList) (hy:y∈a₀.toList) (h:Q (some (decide (val x < val y))) st) :
  wpS (model prog w) A E s (lt' x y) Q st:=by
 rw [lt'_eq];refine ar (eX ?_);rw [hk];refine ar (fX (cK (hC x y hx hy _ _ ⟨rfl,?_⟩)));exact av h
theorem zU {st:SortSt} {arr:Array Keyed} {i:Nat} {p:Keyed} {Q:Keyed→SortSt→Prop} (hi:arr[i]? = some p) (h:Q p st):wpS (model prog w) A E s (elem' arr i) Q st:=by
 rw [elem'_eq,hi];exact av h
theorem zd9 {st:SortSt} {i j:Nat} {Q:Option Bool→SortSt→Prop} (hC:Cmp prog w A s κ val a₀) (hB:SB κ a₀ st) (hi:i < a₀.size) (hj:j < a₀.size) (h:Q (some (decide (Vk val (arrOf st) i < Vk val (arrOf st) j))) st) :
  (wpS (model prog w) A E s (ltAt' i j) Q st):=by
 obtain⟨x,ex,mx⟩:=hB.mem hi;obtain⟨y,ey,my⟩:=hB.mem hj;rw [ltAt'_eq];refine ar (eX ?_)
 (show wpS _ _ _ _ (do let x ← elem' (arrOf st) i; let y ← elem' (arrOf st) j; lt' x y) Q st)
 refine ar (zU ex (ar (zU ey (zj4 hC hB.kind mx my ?_))));rw [zZ ex,zZ ey] at h;exact h
theorem zhU {st:SortSt} {i j:Nat} {Q:Unit→SortSt→Prop} (h:Q () (setArr st (mirror (arrOf st) i j ((j - i) / 2)))) :
  (wpS (model prog w) A E s (reverseSlice' i j) Q st):=by
 ((rw [reverseSlice'_eq]; exact er h))
theorem zea {xs:Array Keyed} {i j:Nat} (hj:j≤xs.size) (k:Nat):Vk val (mirror xs i j ((j - i) / 2)) k=if i≤k∧k < j then Vk val xs (i+j - 1 - k) else Vk val xs k:=by
 (have e:=jh (i:=i) hj k)
 by_cases h1:i≤k∧k < j
 ·rw [if_pos h1] at e ⊢; exact zah e
 ·rw [if_neg h1] at e ⊢; exact zah e
theorem zbg {xs:Array Keyed} {i j:Nat} (hj:j≤xs.size) (heq:∀ k,i≤k→k < j→Vk val xs k=Vk val xs (j - 1)) (k:Nat):Vk val (mirror xs i j ((j - i) / 2)) k=Vk val xs k:=by
 rw [zea hj];split
 ·(rw [heq _ #[O] #[O],heq k #[O] #[O]])
 ·rfl
theorem zbX {xs:Array Keyed} {lo i j:Nat} (hj:j≤xs.size) (hi:lo≤i):∀ k,k < lo→(mirror xs i j ((j - i) / 2))[k]? = xs[k]?:=fun k hk=>by
 rw [jh hj,if_neg #[O]]
theorem zha {xs:Array Keyed} {lo src d:Nat} (hs:src < xs.size) (hd:d≤src) (hl:lo≤src - d):∀ k,k < lo→(bubble xs src d)[k]? = xs[k]?:=fun k hk=>by
 rw [getElem?_bubble hs d hd,if_neg #[O],if_neg #[O]]
def zj5 (lo a lp:Nat):StateT SortSt Sem AscSt :=
 forIn [a:lp] ((none,a):AscSt) fun _ st=>do
  let x ← ltAt' (lo+st.snd) (lo+st.snd - 1)
  match x with
  | some pQ=>if pQ=true then pure (eY (none,st.snd)) else pure (cn (none,st.snd+1))
  | _=>pure (eY (some none,st.snd))
def zgh (lo n lp:Nat):StateT SortSt Sem (Option Nat):=do
 reverseSlice' lo (lo+n)
 let st ← zj5 lo n lp
 match st.fst with
 | some r=>pure r
 | none=>pure (some st.snd)
def zhV (lo n lp:Nat):StateT SortSt Sem DescSt :=
 forIn [n:lp] ((none,n,0):DescSt) fun _ st=>do
  let x ← ltAt' (lo+st.snd.fst) (lo+st.snd.fst - 1)
  match x with
  | some pQ =>
   if pQ=true then
    if st.snd.snd > 0 then do
     reverseSlice' (lo+st.snd.fst - (st.snd.snd+1)) (lo+st.snd.fst)
     pure (cn (none,st.snd.fst+1,0))
    else pure (cn (none,st.snd.fst+1,0))
   else do
    let x ← ltAt' (lo+st.snd.fst - 1) (lo+st.snd.fst)
    match x with
    | some wL =>
     if wL=true then pure (eY (none,st.snd.fst,st.snd.snd))
     else pure (cn (none,st.snd.fst+1,st.snd.snd+1))
    | _=>pure (eY (some none,st.snd.fst,st.snd.snd))
  | _=>pure (eY (some none,st.snd.fst,st.snd.snd))
def zgi (lo n lp:Nat):StateT SortSt Sem (Option Nat):=do
 liftM (rule "list.sort.descending-run"); let st ← zhV lo (n+1) lp
 match st.fst with
 | some r=>pure r
 | none =>
  if st.snd.snd > 0 then do
   reverseSlice' (lo+st.snd.fst - (st.snd.snd+1)) (lo+st.snd.fst)
   zgh lo st.snd.fst lp
  else zgh lo st.snd.fst lp
theorem zfs (lo lp:Nat):countRun' lo lp=(do
  let st ← zj5 lo 1 lp
  match st.fst with
  | some r=>pure r
  | none =>
   if (st.snd == lp)=true then pure (some st.snd)
   else if st.snd > 1 then do
    let x ← ltAt' lo (lo+st.snd - 1)
    match x with
    | some yA=>if yA=true then pure (some st.snd) else do
      reverseSlice' lo (lo+st.snd)
      zgi lo st.snd lp
    | _=>pure none
   else zgi lo st.snd lp):=by
 rw [countRun'_eq];unfold zgi zgh zhV zj5;dsimp only;refine congrArg (bind _) ?_;funext c;obtain⟨r,n⟩:=c;cases r with
 | some r=>rfl
 | none =>
  dsimp only;split
  ·rfl
  ·split
   ·congr 1;funext x;cases x with
    | none=>rfl
    | some yA =>
     dsimp only;split
     ·rfl
     ·congr 1;funext _r;congr 1; funext _u; congr 1; congr 1; funext s2; obtain⟨r2,n2,q2⟩:=s2;cases r2 with
      | some r2=>rfl
      | none =>
       dsimp only;split
       ·congr 1; funext _v; congr 1; funext _w; congr 1; funext s3; obtain⟨r3,n3⟩:=s3; cases r3 <;> rfl
       ·congr 1; funext _w; congr 1; funext s3; obtain⟨r3,n3⟩:=s3; cases r3 <;> rfl
   ·congr 1; funext _u; congr 1; congr 1; funext s2; obtain⟨r2,n2,q2⟩:=s2;cases r2 with
    | some r2=>rfl
    | none =>
     dsimp only;split
     ·congr 1; funext _v; congr 1; funext _w; congr 1; funext s3; obtain⟨r3,n3⟩:=s3; cases r3 <;> rfl
     ·congr 1; funext _w; congr 1; funext s3; obtain⟨r3,n3⟩:=s3; cases r3 <;> rfl
theorem zml {st₀ st:SortSt} {lo a lp:Nat} {Q:AscSt→SortSt→Prop} (hC:Cmp prog w A s κ val a₀) (hn:lo+lp≤a₀.size) (ha:1≤a) (han:a≤lp) (hB:SF κ a₀ lo st₀ st)
  (hs:SIn val (arrOf st) lo (lo+a))
  (h:∀ n,a≤n→n≤lp→SIn val (arrOf st) lo (lo+n)→(n=lp∨Vk val (arrOf st) (lo+n) < Vk val (arrOf st) (lo+n - 1))→Q (none,n) st) :
  wpS (model prog w) A E s (zj5 lo a lp) Q st:=by
 unfold zj5;refine cB (I:=fun x c kX=>kX=st∧c=(none,x)∧SIn val (arrOf st) lo (lo+x)) ?step ?fin ⟨rfl,rfl,hs⟩
 case fin =>
  rintro c kX ⟨rfl,rfl,ng⟩
  (rw [show max a lp=lp by lia] at ng ⊢)
  (exact h lp han (af _) ng (.inl rfl))
 case step =>
  (rintro x c kX CH Bk ⟨rfl,rfl,ng⟩)
  dsimp only;refine ar (zd9 hC hB.b #[O] #[O] ?_);by_cases mv:Vk val (arrOf kX) (lo+x) < Vk val (arrOf kX) (lo+x - 1)
  ·(simp only [mv,decide_true,if_true])
   (exact av (h x CH #[O] ng (.inr mv)))
  ·(simp only [mv,decide_false,bm,if_false])
   refine av ⟨rfl,rfl,fun i j qm pf hj=>?_⟩;by_cases yB:j < lo+x
   ·exact ng i j qm pf yB
   ·have oB:j=lo+x:=by lia
    subst oB;by_cases nK:i=lo+x
    ·(subst nK; exact bT _)
    ·exact bY (ng i (lo+x - 1) qm #[O] #[O]) (Int.not_lt.mp mv)
theorem zj6 {st₀ st:SortSt} {lo n lp:Nat} {Q:Option Nat→SortSt→Prop} (hC:Cmp prog w A s κ val a₀) (hn:lo+lp≤a₀.size) (h1:1≤n) (u9:n≤lp) (hB:SF κ a₀ lo st₀ st)
  (hs:DIn val (arrOf st) lo (lo+n)) (h:∀ m kX,SF κ a₀ lo st₀ kX→1≤m→m≤lp→SIn val (arrOf kX) lo (lo+m)→Q (some m) kX) :
  wpS (model prog w) A E s (zgh lo n lp) Q st:=by
 unfold zgh;have hsz:lo+n≤(arrOf st).size:=by rw [hB.b.size]; lia
 refine ar (zhU ?_);have ni:=hB.setArr (iI (arrOf st) lo (lo+n) ((lo+n - lo) / 2)) (zbX hsz (af _));refine ar (zml hC hn h1 u9 ni ?_ fun m uG p8 yC _=>av (h m _ ni #[O] p8 yC));intro i j qm pf hj;show Vk val (mirror (arrOf st) lo (lo+n) ((lo+n - lo) / 2)) i≤Vk val (mirror (arrOf st) lo (lo+n) ((lo+n - lo) / 2)) j;rw [zea hsz,zea hsz,if_pos #[O],if_pos #[O]];exact hs _ _ #[O] #[O] #[O]
theorem zm6 {st₀ st:SortSt} {lo n lp:Nat} {Q:DescSt→SortSt→Prop} (hC:Cmp prog w A s κ val a₀) (hn:lo+lp≤a₀.size) (h1:1≤n) (u9:n≤lp) (hB:SF κ a₀ lo st₀ st)
  (hs:DIn val (arrOf st) lo (lo+n))
  (h:∀ m qQ kX,SF κ a₀ lo st₀ kX→n≤m→m≤lp→DIn val (arrOf kX) lo (lo+m)→qQ+1≤m→(∀ i,lo+m - (qQ+1)≤i→i < lo+m→Vk val (arrOf kX) i=Vk val (arrOf kX) (lo+m - 1))→Q (none,m,qQ) kX) :
  wpS (model prog w) A E s (zhV lo n lp) Q st:=by
 unfold zhV;refine cB (I:=fun x c kX=>∃ qQ,c=(none,x,qQ)∧SF κ a₀ lo st₀ kX∧DIn val (arrOf kX) lo (lo+x)∧qQ+1≤x ∧
   (∀ i,lo+x - (qQ+1)≤i→i < lo+x→Vk val (arrOf kX) i=Vk val (arrOf kX) (lo+x - 1))) ?step ?fin ⟨0,rfl,hB,hs,#[O],fun i h1 h2=>by congr 1; lia⟩
 case fin =>
  (rintro c kX ⟨qQ,rfl,ni,ng,hq,he⟩)
  (rw [show max n lp=lp by lia] at ng hq he ⊢)
  (exact h lp qQ kX ni u9 (af _) ng hq he)
 case step =>
  (rintro x c kX CH Bk ⟨qQ,rfl,ni,ng,hq,he⟩)
  dsimp only;have hsz:lo+x≤(arrOf kX).size:=by rw [ni.b.size]; lia
  refine ar (zd9 hC ni.b #[O] #[O] ?_);by_cases mv:Vk val (arrOf kX) (lo+x) < Vk val (arrOf kX) (lo+x - 1)
  ·(simp only [mv,decide_true,if_true])
   have step1:∀ xs:Array Keyed,(∀ k,Vk val xs k=Vk val (arrOf kX) k)→DIn val xs lo (lo+(x+1)):=by
    intro xs hk i j qm pf hj;rw [hk,hk];by_cases yB:j < lo+x
    ·exact ng i j qm pf yB
    ·have oB:j=lo+x:=by lia
     subst oB;by_cases nK:i=lo+x
     ·(subst nK; exact bT _)
     ·exact bY (eg mv) (ng i (lo+x - 1) qm #[O] #[O])
   by_cases tL:qQ > 0
   ·rw [if_pos tL];refine ar (zhU (av ⟨0,rfl,ni.setArr (iI _ _ _ _) (zbX hsz #[O]),step1 _ (zbg hsz he),#[O],fun i h1 h2=>by congr 1; lia⟩))
   ·rw [if_neg tL]
    (exact av ⟨0,rfl,ni,step1 _ (fun _=>rfl),#[O],fun i h1 h2=>by congr 1; lia⟩)
  ·(simp only [mv,decide_false,bm,if_false])
   refine ar (zd9 hC ni.b #[O] #[O] ?_);by_cases rK:Vk val (arrOf kX) (lo+x - 1) < Vk val (arrOf kX) (lo+x)
   ·(simp only [rK,decide_true,if_true])
    (exact av (h x qQ kX ni CH #[O] ng hq he))
   ·(simp only [rK,decide_false,bm,if_false])
    have yD:Vk val (arrOf kX) (lo+x)=Vk val (arrOf kX) (lo+x - 1):=by lia
    refine av ⟨qQ+1,rfl,ni,fun i j qm pf hj=>?_,#[O],fun i h1 h2=>?_⟩
    ·by_cases yB:j < lo+x
     ·exact ng i j qm pf yB
     ·have oB:j=lo+x:=by lia
      subst oB;by_cases nK:i=lo+x
      ·(subst nK; exact bT _)
      ·rw [yD]; exact ng i (lo+x - 1) qm #[O] #[O]
    ·rw [show lo+(x+1) - 1=lo+x by lia];by_cases hix:i=lo+x
     ·subst hix; rfl
     ·(rw [yD]; exact he i #[O] #[O])
theorem zhW {st₀ st:SortSt} {lo n lp:Nat} {Q:Option Nat→SortSt→Prop} (hC:Cmp prog w A s κ val a₀) (hn:lo+lp≤a₀.size) (u9:n+1≤lp) (hB:SF κ a₀ lo st₀ st)
  (hs:DIn val (arrOf st) lo (lo+(n+1))) (h:∀ m kX,SF κ a₀ lo st₀ kX→1≤m→m≤lp→SIn val (arrOf kX) lo (lo+m)→Q (some m) kX) :
  wpS (model prog w) A E s (zgi lo n lp) Q st:=by
 unfold zgi
 (refine ar (fX (cg ⟨rfl,?_⟩)))
 refine ar (zm6 hC hn #[O] u9 hB hs fun m qQ kX ni uG p8 ng hq he=>?_);dsimp only;have hsz:lo+m≤(arrOf kX).size:=by rw [ni.b.size]; lia
 by_cases tL:qQ > 0
 ·rw [if_pos tL];refine ar (zhU (zj6 hC hn #[O] p8 (ni.setArr (iI _ _ _ _) (zbX hsz #[O])) ?_ h));intro i j qm pf hj;show Vk val (mirror (arrOf kX) _ _ _) j≤Vk val (mirror (arrOf kX) _ _ _) i;rw [zbg hsz he,zbg hsz he];exact ng i j qm pf hj
 ·rw [if_neg tL];exact zj6 hC hn #[O] p8 ni ng h
theorem zlq {st₀ st:SortSt} {lo lp:Nat} {Q:Option Nat→SortSt→Prop} (hC:Cmp prog w A s κ val a₀) (hn:lo+lp≤a₀.size) (h1:1≤lp) (hB:SF κ a₀ lo st₀ st)
  (h:∀ m kX,SF κ a₀ lo st₀ kX→1≤m→m≤lp→SIn val (arrOf kX) lo (lo+m)→Q (some m) kX) :
  wpS (model prog w) A E s (countRun' lo lp) Q st:=by
 rw [zfs];refine ar (zml hC hn (af 1) h1 hB (fun i j qm pf hj=>(by
   have e:i=j:=by lia
   rw [e];exact bT _)) fun n rL pF wM hor=>?_)
 dsimp only;by_cases u9:n=lp
 ·(rw [if_pos (by simpa using u9)])
  (exact av (h n st hB rL pF wM))
 ·(rw [if_neg (by simpa using u9)])
  have lF:Vk val (arrOf st) (lo+n) < Vk val (arrOf st) (lo+n - 1):=hor.resolve_left u9;by_cases hgt:n > 1
  ·rw [if_pos hgt];refine ar (zd9 hC hB.b #[O] #[O] ?_);by_cases vT:Vk val (arrOf st) lo < Vk val (arrOf st) (lo+n - 1)
   ·(simp only [vT,decide_true,if_true])
    (exact av (h n st hB rL pF wM))
   ·(simp only [vT,decide_false,bm,if_false])
    have hsz:lo+n≤(arrOf st).size:=by rw [hB.b.size]; lia
    have nF:∀ k,lo≤k→k < lo+n→Vk val (arrOf st) k=Vk val (arrOf st) (lo+n - 1):=by
     intro k sP hk;have a1:=wM lo k (af _) sP hk;have a2:=wM k (lo+n - 1) sP #[O] #[O];lia
    refine ar (zhU (zhW hC hn #[O] (hB.setArr (iI _ _ _ _) (zbX hsz (af _))) ?_ h));intro i j qm pf hj;show Vk val (mirror (arrOf st) _ _ _) j≤Vk val (mirror (arrOf st) _ _ _) i;rw [zbg hsz nF,zbg hsz nF];by_cases hjn:j < lo+n
    ·(rw [nF i #[O] #[O],nF j #[O] hjn]; exact bT _)
    ·have oB:j=lo+n:=by lia
     subst oB;by_cases nK:i=lo+n
     ·(subst nK; exact bT _)
     ·(rw [nF i #[O] #[O]]; exact eg lF)
  ·rw [if_neg hgt];have CI:n=1:=by lia
   subst CI;refine zhW hC hn #[O] hB ?_ h;intro i j qm pf hj;by_cases nK:i=j
   ·(subst nK; exact bT _)
   ·have hi0:i=lo:=by lia
    have vc:j=lo+1:=by lia
    subst hi0; subst vc;exact eg lF
theorem zgj {xs:Array Keyed} {src d:Nat} (hs:src < xs.size) (hd:d≤src) (k:Nat) :
  Vk val (bubble xs src d) k=if k=src - d then Vk val xs src else if src - d < k∧k≤src then Vk val xs (k - 1) else Vk val xs k:=by
 (have e:=getElem?_bubble hs d hd k)
 by_cases h1:k=src - d
 ·rw [if_pos h1] at e ⊢; exact zah e
 ·rw [if_neg h1] at e ⊢
  (by_cases h2:src - d < k∧k≤src)
  ·rw [if_pos h2] at e ⊢; exact zah e
  ·rw [if_neg h2] at e ⊢; exact zah e
theorem zn8 {st₀ st:SortSt} {lo n ok:Nat} {Q:Bool→SortSt→Prop} (hC:Cmp prog w A s κ val a₀) (hn:lo+n≤a₀.size) (hok:ok≤n) (hB:SF κ a₀ lo st₀ st) (hs:SIn val (arrOf st) lo (lo+ok))
  (h:∀ kX,SF κ a₀ lo st₀ kX→SIn val (arrOf kX) lo (lo+n)→Q true kX):wpS (model prog w) A E s (binarySort' lo n ok) Q st:=by
 rw [binarySort'_eq];refine ar (dm (cB (I:=fun k c kX=>c=(none,())∧SF κ a₀ lo st₀ kX∧SIn val (arrOf kX) lo (lo+min k n))
  (Q:=fun c kX=>c=(none,())∧SF κ a₀ lo st₀ kX∧SIn val (arrOf kX) lo (lo+n)) ?step ?fin ?init) ?post)
 case post =>
  rintro c kX ⟨rfl,ni,ng⟩
  (exact av (h kX ni ng))
 case init =>
  refine⟨rfl,hB,fun i j qm pf hj=>?_⟩;by_cases h1:ok=0
  ·have e:i=j:=by lia
   rw [e]; exact bT _
  ·exact hs i j qm pf #[O]
 case fin =>
  rintro c kX ⟨hc,ni,ng⟩;refine⟨hc,ni,?_⟩
  (rwa [show min (max (max ok 1) n) n=n by lia] at ng)
 case step =>
  (rintro k c kX hak Bl ⟨rfl,ni,ng⟩)
  (rw [show min k n=k by lia] at ng)
  have hk:lo+k < a₀.size:=#[O]; refine ar (dm (cB (I:=fun x c mY=>mY=kX∧∃ l r,c=(none,l,r)∧l≤r∧r≤k∧r - l≤k - x ∧
    (∀ i,i < l→Vk val (arrOf kX) (lo+i)≤Vk val (arrOf kX) (lo+k))∧(∀ i,r≤i→i < k→Vk val (arrOf kX) (lo+k) < Vk val (arrOf kX) (lo+i)))
   (Q:=fun c mY=>mY=kX∧∃ l r,c=(none,l,r)∧l≤k∧(∀ i,i < l→Vk val (arrOf kX) (lo+i)≤Vk val (arrOf kX) (lo+k))∧(∀ i,l≤i→i < k→Vk val (arrOf kX) (lo+k) < Vk val (arrOf kX) (lo+i))) ?istep ?ifin ?iinit) ?ipost)
  case iinit=>(exact⟨rfl,0,k,rfl,#[O],#[O],#[O],fun i hi=>by lia,fun i h1 h2=>by lia⟩)
  case ifin =>
   (rintro c mY ⟨rfl,l,r,rfl,xI,CJ,hm,ph,vd⟩)
   have:l=r:=by lia
   subst this
   (exact⟨rfl,l,l,rfl,CJ,ph,vd⟩)
  case istep =>
   (rintro x c mY _ hxk ⟨rfl,l,r,rfl,xI,CJ,hm,ph,vd⟩)
   dsimp only;by_cases oE:l≥r
   ·rw [if_pos oE];have:l=r:=by lia
    subst this
    (exact av ⟨rfl,l,l,rfl,CJ,ph,vd⟩)
   ·rw [if_neg oE];refine ar (zd9 hC ni.b hk #[O] ?_);by_cases mv:Vk val (arrOf mY) (lo+k) < Vk val (arrOf mY) (lo+(l+r) / 2)
    ·(simp only [mv,decide_true,if_true])
     (refine av ⟨rfl,l,(l+r) / 2,rfl,#[O],#[O],#[O],ph,fun i h1 h2=>?_⟩)
     exact Int.lt_of_lt_of_le mv (ng _ _ #[O] #[O] #[O])
    ·(simp only [mv,decide_false,bm,if_false])
     (refine av ⟨rfl,(l+r) / 2+1,r,rfl,#[O],#[O],#[O],fun i h1=>?_,vd⟩)
     exact bY (ng (lo+i) (lo+(l+r) / 2) #[O] #[O] #[O]) (Int.not_lt.mp mv)
  case ipost =>
   (rintro c mY ⟨rfl,l,r,rfl,hlk,ph,vd⟩)
   show wpS _ _ _ _ (do moveDown' (lo+k) (lo+l); pure (cn (none,()))) _ _;rw [moveDown'_eq];have CK:lo+k < (arrOf mY).size:=by rw [ni.b.size]; exact hk
   refine ar (er (av ⟨rfl,ni.setArr (bubble_perm _ _ _) (zha CK #[O] #[O]),?_⟩))
   (rw [show min (k+1) n=k+1 by lia])
   intro i j qm pf hj;show Vk val (bubble (arrOf mY) (lo+k) (lo+k - (lo+l))) i≤Vk val (bubble (arrOf mY) (lo+k) (lo+k - (lo+l))) j;rw [zgj CK #[O],zgj CK #[O],show lo+k - (lo+k - (lo+l))=lo+l by lia];have CL:∀ i,lo≤i→i < lo+l→Vk val (arrOf mY) i≤Vk val (arrOf mY) (lo+k):=fun i h1 h2=>by
    have:=ph (i - lo) #[O]
    rwa [show lo+(i - lo)=i by lia] at this
   have CM:∀ i,lo+l≤i→i < lo+k→Vk val (arrOf mY) (lo+k) < Vk val (arrOf mY) i:=fun i h1 h2=>by
    have:=vd (i - lo) #[O] #[O]
    rwa [show lo+(i - lo)=i by lia] at this
   repeat' split
   all_goals first
    | (exfalso; lia)
    | exact bT _
    | exact CL _ #[O] #[O]
    | exact eg (CM _ #[O] #[O])
    | exact ng _ _ #[O] #[O] #[O]
end
end Srt
end
section
namespace Srt
open PySem PyProof.Rows
def zlr:Bool→Keyed→Array Keyed→Nat→Nat→Nat→StateT SortSt Sem (Option Nat):=sortPriv% PySem.Builtin.gallop
def zj7:Array Keyed→Array Keyed→StateT SortSt Sem (Array Keyed):=sortPriv% PySem.Builtin.mergeLo
def zj8:Array Keyed→Array Keyed→StateT SortSt Sem (Array Keyed):=sortPriv% PySem.Builtin.mergeHi
def zcA:Nat→StateT SortSt Sem Unit:=sortPriv% PySem.Builtin.setMinGallop
theorem zft {M:Model} {A:Around} {E:Value→Shared→Prop} {s:Shared} {α:Type} {m:StateT SortSt Sem α} {Q:α→SortSt→Prop} {st:SortSt} (h:wpAny M A (m st) (fun r s'=>s'=s∧Q r.1 r.2) E s):wpS M A E s m Q st:=h
theorem zfu {M:Model} {A:Around} {E:Value→Shared→Prop} {s:Shared} {α:Type} {m:StateT SortSt Sem α} {Q:α→SortSt→Prop} {st:SortSt} (h:wpS M A E s m Q st):wpAny M A (m st) (fun r s'=>s'=s∧Q r.1 r.2) E s:=h
section
variable {prog:Program} {w:World} {A:Around} {E:Value→Shared→Prop} {s:Shared} {a₀:Array Keyed} {κ:SortKind} {val:Keyed→Int}
def bB (val:Keyed→Int) (left:Bool) (key:Keyed) (arr:Array Keyed) (base i:Nat):Bool:=if left then decide (Vk val arr (base+i) < val key) else !decide (val key < Vk val arr (base+i))
theorem zcM {left:Bool} {key:Keyed} {arr:Array Keyed} {base n i j:Nat} (hs:SIn val arr base (base+n)) (pf:i≤j) (hj:j < n) (h:bB val left key arr base j=true):bB val left key arr base i=true:=by
 have:=hs (base+i) (base+j) #[O] #[O] #[O];unfold bB at h ⊢;cases left <;> simp at h ⊢ <;> lia
theorem s_beyond {st:SortSt} {left:Bool} {key:Keyed} {arr:Array Keyed} {base i:Nat} {Q:Option Bool→SortSt→Prop} {p:Keyed} (hC:Cmp prog w A s κ val a₀) (hk:kindOf st=κ) (qo:key∈a₀.toList) (he:arr[base+i]? = some p) (hp:p∈a₀.toList)
  (h:Q (some (bB val left key arr base i)) st):wpS (model prog w) A E s (do
   let x ← elem' arr (base+i)
   if left then lt' x key else do
    let r ← lt' key x
    return r.map (!·)) Q st:=by
 refine ar (zU he ?_);unfold bB at h;rw [zZ he] at h;cases left with
 | true=>exact zj4 hC hk hp qo h
 | false=>exact ar (zj4 hC hk qo hp (av h))
abbrev zls:=Option (Option Nat)×Nat×Nat
theorem zj9 {st:SortSt} {left:Bool} {key:Keyed} {arr:Array Keyed} {base n lo hi:Nat} {f:Nat→zls→StateT SortSt Sem (ForInStep zls)} (hs:SIn val arr base (base+n)) (hlh:lo≤hi) (hhn:hi≤n)
  (h1:∀ i,i < lo→bB val left key arr base i=true) (h2:∀ i,hi≤i→i < n→bB val left key arr base i=false)
  (hf:∀ (x l r:Nat) (R:ForInStep zls→SortSt→Prop),r≤n→(l≥r→R (.done (none,l,r)) st)→(l < r→R (if bB val left key arr base (l+(r - l) / 2)=true then .yield (none,l+(r - l) / 2+1,r) else .yield (none,l,l+(r - l) / 2)) st)→wpS (model prog w) A E s (f x (none,l,r)) R st) :
  wpS (model prog w) A E s (forIn [0:n] ((none,lo,hi):zls) f) (fun c kX=>kX=st∧∃ l,c=(none,l,l)∧l≤n∧(∀ i,i < l→bB val left key arr base i=true)∧(∀ i,l≤i→i < n→bB val left key arr base i=false)) st:=by
 refine cB (I:=fun x c kX=>kX=st∧∃ l r,c=(none,l,r)∧l≤r∧r≤n∧r - l≤n - x∧(∀ i,i < l→bB val left key arr base i=true)∧(∀ i,r≤i→i < n→bB val left key arr base i=false)) ?step ?fin ⟨rfl,lo,hi,rfl,hlh,hhn,#[O],h1,h2⟩
 case fin =>
  rintro c kX ⟨rfl,l,r,rfl,xI,ve,hm,a1,a2⟩;have:l=r:=by lia
  subst this;exact⟨rfl,l,rfl,ve,a1,a2⟩
 case step =>
  rintro x c kX _ Bk ⟨rfl,l,r,rfl,xI,ve,hm,a1,a2⟩;refine hf x l r _ ve (fun oE=>?_) (fun lF=>?_)
  ·have:l=r:=by lia
   subst this;exact⟨rfl,l,rfl,ve,a1,a2⟩
  ·cases hb:bB val left key arr base (l+(r - l) / 2) with
   | true =>
    rw [if_pos rfl];exact⟨rfl,l+(r - l) / 2+1,r,rfl,#[O],ve,#[O],fun i hi=>zcM hs #[O] #[O] hb,a2⟩
   | false =>
    rw [if_neg #[D]];refine⟨rfl,l,l+(r - l) / 2,rfl,#[O],#[O],#[O],a1,fun i hi og=>?_⟩;cases e:bB val left key arr base i with
    | false=>rfl
    | true=>rw [zcM hs hi og e] at hb; cases hb
theorem zbh {st:SortSt} {left:Bool} {key:Keyed} {arr:Array Keyed} {base n hint:Nat} {Q:Option Nat→SortSt→Prop} (hC:Cmp prog w A s κ val a₀) (hk:kindOf st=κ) (qo:key∈a₀.toList)
  (ha:∀ i,i < n→∃ p,arr[base+i]? = some p∧p∈a₀.toList) (hs:SIn val arr base (base+n)) (hh:hint < n)
  (h:∀ k,k≤n→(∀ i,i < k→bB val left key arr base i=true)→(∀ i,k≤i→i < n→bB val left key arr base i=false)→Q (some k) st) :
  wpS (model prog w) A E s (zlr left key arr base n hint) Q st:=by
 refine zft ?_
 wp_delta
 wp_delta
 refine zfu ?_;dsimp only;obtain⟨p,ep,mp⟩:=ha hint hh;refine ar (s_beyond hC hk qo ep mp ?_);dsimp only;have up:∀ {i j:Nat},i≤j→j < n→bB val left key arr base i=false→bB val left key arr base j=false:=fun {i j} pf hj h=>by
  cases e:bB val left key arr base j with
  | false=>rfl
  | true=>rw [zcM hs pf hj e] at h; cases h
 cases hr:bB val left key arr base hint with
 | true =>
  simp only [if_true];refine ar (dm (cB (I:=fun x c kX=>kX=st∧∃ l o,c=(none,l,o)∧l < o∧x+1≤o∧hint+l < n∧bB val left key arr base (hint+l)=true)
   (Q:=fun c kX=>kX=st∧∃ l o,c=(none,l,o)∧l < o∧hint+l < n∧bB val left key arr base (hint+l)=true∧(hint+o < n→bB val left key arr base (hint+o)=false)) ?step ?fin ⟨rfl,0,1,rfl,#[O],#[O],hh,hr⟩) ?post)
  case fin =>
   rintro c kX ⟨rfl,l,o,rfl,ph,hx,hl,hb⟩;exact⟨rfl,l,o,rfl,ph,hl,hb,fun z=>by lia⟩
  case step =>
   rintro x c kX _ Bk ⟨rfl,l,o,rfl,ph,hx,hl,hb⟩;dsimp only;by_cases oE:o≥n - hint
   ·rw [if_pos oE];exact av ⟨rfl,l,o,rfl,ph,hl,hb,fun z=>by lia⟩
   ·rw [if_neg oE];obtain⟨p,ep,mp⟩:=ha (hint+o) #[O];refine ar (s_beyond hC hk qo ep mp ?_);dsimp only;cases tM:bB val left key arr base (hint+o) with
    | true =>
     rw [if_neg #[D]];exact av ⟨rfl,o,2*o+1,rfl,#[O],#[O],#[O],tM⟩
    | false =>
     rw [if_pos #[D]];exact av ⟨rfl,l,o,rfl,ph,hl,hb,fun _=>tM⟩
  case post =>
   rintro c kX ⟨rfl,l,o,rfl,ph,hl,hb,tM⟩;dsimp only;refine ar (dm (zj9 (val:=val) (left:=left) (key:=key) (arr:=arr) (base:=base) hs #[O] #[O] (fun i hi=>zcM hs #[O] hl hb) (fun i hi og=>(by
    by_cases ho:hint+o < n
    ·exact up #[O] og (tM ho)
    ·lia)) (fun x l' r' R ve k1 k2=>?_)) ?_)
   ·dsimp only;by_cases oE:l'≥r'
    ·rw [if_pos oE];exact av (k1 oE)
    ·rw [if_neg oE];obtain⟨p,ep,mp⟩:=ha (l'+(r' - l') / 2) #[O];refine ar (s_beyond hC hk qo ep mp ?_);have k3:=k2 #[O];dsimp only;cases xJ:bB val left key arr base (l'+(r' - l') / 2) with
     | true=>rw [xJ] at k3; rw [if_pos rfl] at k3 ⊢; exact av k3
     | false=>rw [xJ] at k3; rw [if_neg #[D]] at k3 ⊢; exact av k3
   ·rintro c mY ⟨rfl,l,rfl,hl,b1,b2⟩;exact av (h l hl b1 b2)
 | false =>
  (simp only [bm,if_false])
  refine ar (dm (cB (I:=fun x c kX=>kX=st∧∃ l o,c=(none,l,o)∧l < o∧x+1≤o∧l≤hint∧bB val left key arr base (hint - l)=false)
   (Q:=fun c kX=>kX=st∧∃ l o,c=(none,l,o)∧l < o∧l≤hint∧bB val left key arr base (hint - l)=false∧(o≤hint→bB val left key arr base (hint - o)=true)) ?step ?fin ⟨rfl,0,1,rfl,#[O],#[O],#[O],hr⟩) ?post)
  case fin =>
   rintro c kX ⟨rfl,l,o,rfl,ph,hx,hl,hb⟩;exact⟨rfl,l,o,rfl,ph,hl,hb,fun z=>by lia⟩
  case step =>
   rintro x c kX _ Bk ⟨rfl,l,o,rfl,ph,hx,hl,hb⟩;dsimp only;by_cases oE:o≥hint+1
   ·rw [if_pos oE];exact av ⟨rfl,l,o,rfl,ph,hl,hb,fun z=>by lia⟩
   ·rw [if_neg oE];obtain⟨p,ep,mp⟩:=ha (hint - o) #[O];refine ar (s_beyond hC hk qo ep mp ?_);dsimp only;cases tM:bB val left key arr base (hint - o) with
    | false =>
     rw [if_neg #[D]];exact av ⟨rfl,o,2*o+1,rfl,#[O],#[O],#[O],tM⟩
    | true =>
     rw [if_pos rfl];exact av ⟨rfl,l,o,rfl,ph,hl,hb,fun _=>tM⟩
  case post =>
   rintro c kX ⟨rfl,l,o,rfl,ph,hl,hb,tM⟩;dsimp only;refine ar (dm (zj9 (val:=val) (left:=left) (key:=key) (arr:=arr) (base:=base) hs #[O] #[O] (fun i hi=>(by
    by_cases ho:o≤hint
    ·exact zcM hs #[O] #[O] (tM ho)
    ·lia)) (fun i hi og=>up hi og hb) (fun x l' r' R ve k1 k2=>?_)) ?_)
   ·dsimp only;by_cases oE:l'≥r'
    ·rw [if_pos oE];exact av (k1 oE)
    ·rw [if_neg oE];obtain⟨p,ep,mp⟩:=ha (l'+(r' - l') / 2) #[O];refine ar (s_beyond hC hk qo ep mp ?_);have k3:=k2 #[O];dsimp only;cases xJ:bB val left key arr base (l'+(r' - l') / 2) with
     | true=>rw [xJ] at k3; rw [if_pos rfl] at k3 ⊢; exact av k3
     | false=>rw [xJ] at k3; rw [if_neg #[D]] at k3 ⊢; exact av k3
   ·rintro c mY ⟨rfl,l,rfl,hl,b1,b2⟩;exact av (h l hl b1 b2)
end
end Srt
end
section
namespace Srt
open PySem PyProof.Rows
abbrev zap (st:SortSt) (g:Nat):SortSt:=km (kindOf st) (arrOf st) (pendingOf st) g (failedOf st)
theorem zc4 (g:Nat):zcA g=modify fun s=>zap s g:=rfl
def Le (val:Keyed→Int) (xs ys:List Keyed):Prop:=∀ x∈xs,∀ y∈ys,val x≤val y
def Ris (val:Keyed→Int) (xs:List Keyed):Prop:=xs.Pairwise fun x y=>val x≤val y
theorem zav {val:Keyed→Int} {xs ys:List Keyed}:Ris val (xs++ys)↔Ris val xs∧Ris val ys∧Le val xs ys:=i3
structure MI (val:Keyed→Int) (T o l r:List Keyed):Prop where
 perm:(o++l++r).Perm T
 so:Ris val o
 sl:Ris val l
 sr:Ris val r
 ol:Le val o l
 or':Le val o r
def Good (val:Keyed→Int) (T res:List Keyed):Prop:=res.Perm T∧Ris val res
section
variable {val:Keyed→Int} {T o l l1 l2 r r1 r2:List Keyed}
theorem Le.left {xs ys zs:List Keyed} (h:Le val (xs++ys) zs):Le val xs zs:=fun x hx y hy=>h x (aP _ hx) y hy
theorem Le.right {xs ys zs:List Keyed} (h:Le val (xs++ys) zs):Le val ys zs:=fun x hx y hy=>h x (aH _ hx) y hy
theorem Le.app {xs ys zs:List Keyed} (h1:Le val xs zs) (h2:Le val ys zs):Le val (xs++ys) zs:=fun x hx y hy=>by
 rcases aK.mp hx with h | h
 ·exact h1 x h y hy
 ·exact h2 x h y hy
theorem Le.app' {xs ys zs:List Keyed} (h1:Le val xs ys) (h2:Le val xs zs):Le val xs (ys++zs):=fun x hx y hy=>by
 rcases aK.mp hy with h | h
 ·exact h1 x hx y h
 ·exact h2 x hx y h
theorem Le.sub {xs ys zs:List Keyed} (h1:Le val xs (ys++zs)):Le val xs ys∧Le val xs zs:=⟨fun x hx y hy=>h1 x hx y (aP _ hy),fun x hx y hy=>h1 x hx y (aH _ hy)⟩
theorem MI.takeA (h:MI val T o (l1++l2) r) (hle:Le val l1 r):MI val T (o++l1) l2 r:=by
 obtain⟨a1,a2,a3⟩:=zav.mp h.sl;obtain⟨b1,b2⟩:=h.ol.sub;exact⟨by have:=h.perm; simpa [bj] using this,zav.mpr ⟨h.so,a1,b1⟩,a2,h.sr,b2.app a3,h.or'.app hle⟩
theorem MI.takeB (h:MI val T o l (r1++r2)) (hle:Le val r1 l):MI val T (o++r1) l r2:=by
 obtain⟨a1,a2,a3⟩:=zav.mp h.sr;obtain⟨b1,b2⟩:=h.or'.sub;refine⟨?_,zav.mpr ⟨h.so,a1,b1⟩,h.sl,a2,h.ol.app hle,b2.app a3⟩;refine eI ?_ h.perm;have:(r1++l++r2).Perm (l++r1++r2):=List.perm_append_comm.append_right _;simpa [bj] using this.append_left o
theorem MI.doneA (h:MI val T o l []):Good val T (o++l):=⟨by have:=h.perm; simpa using this,zav.mpr ⟨h.so,h.sl,h.ol⟩⟩
theorem MI.doneB (h:MI val T o [] r):Good val T (o++r):=⟨by have:=h.perm; simpa using this,zav.mpr ⟨h.so,h.sr,h.or'⟩⟩
theorem MI.last (h:MI val T o l r) (hle:Le val r l):Good val T (o++r++l):=by
 refine⟨eI ?_ h.perm,?_⟩
 ·rw [bj,bj];exact List.perm_append_comm.append_left o
 ·exact zav.mpr ⟨zav.mpr ⟨h.so,h.sr,h.or'⟩,h.sl,h.ol.app hle⟩
end
section
variable {val:Keyed→Int} {T:List Keyed} {a b out:Array Keyed} {ia ib:Nat}
abbrev MA (val:Keyed→Int) (T:List Keyed) (a b out:Array Keyed) (ia ib:Nat):Prop:=MI val T out.toList (a.toList.drop ia) (b.toList.drop ib)
theorem zdz {xs:Array Keyed} {i:Nat} {p:Keyed} (h:xs[i]? = some p):xs.toList.drop i=p :: xs.toList.drop (i+1):=by
 have hi:i < xs.toList.length:=by
  have:=(cL.mp h).1;simpa using this
 rw [cp hi];congr 1;have:=(cL.mp h).2;simpa using this
theorem zcN {xs:Array Keyed} (h:SIn val xs 0 xs.size):∀ i,Ris val (xs.toList.drop i):=by
 have all:Ris val xs.toList:=by
  unfold Ris
  (rw [dF])
  intro i j hi hj pf
  (have nK:i < xs.size:=by simpa using hi)
  (have oB:j < xs.size:=by simpa using hj)
  have:=h i j (bh _) #[O] oB;rw [zZ (getElem?_pos xs i nK),zZ (getElem?_pos xs j oB)] at this;simpa using this
 exact fun i=>iN (List.drop_sublist _ _) all
theorem zdA {xs:Array Keyed} {i:Nat} {p q:Keyed} (h:SIn val xs 0 xs.size) (hp:xs[i]? = some p) (hq:q∈xs.toList.drop i):val p≤val q:=by
 have:=zcN h i;rw [zdz hp] at this hq;rcases (aC.mp hq) with rfl | hq
 ·exact bT _
 ·exact List.rel_of_pairwise_cons this hq
theorem MA.pushB {y x:Keyed} (h:MA val T a b out ia ib) (sa:SIn val a 0 a.size) (hy:b[ib]? = some y) (hx:a[ia]? = some x) (hle:val y≤val x):MA val T a b (out.push y) ia (ib+1):=by
 unfold MA at h ⊢;rw [zdz hy] at h;have:=MI.takeB (r1:=[y]) h fun p hp q hq=>by
  rw [aN.mp hp];exact bY hle (zdA sa hx hq)
 simpa using this
theorem MA.pushA {y x:Keyed} (h:MA val T a b out ia ib) (sb:SIn val b 0 b.size) (hy:b[ib]? = some y) (hx:a[ia]? = some x) (hle:val x≤val y):MA val T a b (out.push x) (ia+1) ib:=by
 unfold MA at h ⊢;rw [zdz hx] at h;have:=MI.takeA (l1:=[x]) h fun p hp q hq=>by
  rw [aN.mp hp];exact bY hle (zdA sb hy hq)
 simpa using this
theorem zka (xs:Array Keyed) (i k:Nat):xs.toList.drop i=(xs.extract i (i+k)).toList++xs.toList.drop (i+k):=by
 rw [cZ];have:(xs.toList.extract i (i+k))=(xs.toList.drop i).take k:=by
  simp [cR] <;> lia
 rw [this,← iO,b7]
theorem zdB {xs:Array Keyed} {i k:Nat} {p:Keyed} (h:p∈(xs.extract i (i+k)).toList):∃ j,j < k∧xs[i+j]? = some p:=by
 have e0:(xs.extract i (i+k)).toList=(xs.toList.drop i).take k:=by
  rw [cZ];simp [cR] <;> lia
 rw [e0] at h
 (obtain⟨j,hj,e⟩:=dO h)
 have p9:j < k∧j < (xs.toList.drop i).length:=by
  rw [aI] at hj;lia
 refine⟨j,p9.1,?_⟩;rw [← bn,← dX,ap p9.2,← e,jK]
theorem MA.takeA {y:Keyed} {k:Nat} (h:MA val T a b out ia ib) (sb:SIn val b 0 b.size) (hy:b[ib]? = some y) (hle:∀ i,i < k→Vk val a (ia+i)≤val y):MA val T a b (out++a.extract ia (ia+k)) (ia+k) ib:=by
 unfold MA at h ⊢;rw [zka a ia k] at h;have:=MI.takeA h fun p hp q hq=>by
  obtain⟨j,hj,e⟩:=zdB hp;have:=hle j hj;rw [zZ e] at this;exact bY this (zdA sb hy hq)
 simpa using this
theorem MA.takeB {x:Keyed} {k:Nat} (h:MA val T a b out ia ib) (sa:SIn val a 0 a.size) (hx:a[ia]? = some x) (hle:∀ i,i < k→Vk val b (ib+i)≤val x):MA val T a b (out++b.extract ib (ib+k)) ia (ib+k):=by
 unfold MA at h ⊢;rw [zka b ib k] at h;have:=MI.takeB h fun p hp q hq=>by
  obtain⟨j,hj,e⟩:=zdB hp;have:=hle j hj;rw [zZ e] at this;exact bY this (zdA sa hx hq)
 simpa using this
theorem zcl (xs:Array Keyed) (i:Nat):(xs.extract i xs.size).toList=xs.toList.drop i:=by
 rw [cZ];simp only [cR]
 (exact aQ #[M])
theorem MA.doneB (h:MA val T a b out ia ib) (e:ib=b.size):Good val T (out++a.extract ia a.size++b.extract ib b.size).toList:=by
 unfold MA at h;rw [show b.toList.drop ib = [] from dt (by simp [e])] at h;have:=h.doneA;rw [bF,bF,zcl,zcl,show b.toList.drop ib = [] from dt (by simp [e]),bI];exact this
theorem MA.doneA (h:MA val T a b out ia ib) (e:ia=a.size):Good val T (out++a.extract ia a.size++b.extract ib b.size).toList:=by
 unfold MA at h;rw [show a.toList.drop ia = [] from dt (by simp [e])] at h;have:=h.doneB;rw [bF,bF,zcl,zcl,show a.toList.drop ia = [] from dt (by simp [e]),bI];exact this
theorem MA.last (h:MA val T a b out ia ib) (e:ia+1=a.size) (hl:∀ i,i < b.size→Vk val b i≤Vk val a (a.size - 1)):Good val T (out++b.extract ib b.size++a.extract ia a.size).toList:=by
 unfold MA at h;have hx:a[ia]? = some (a[ia]'#[O]):=getElem?_pos a ia #[O];have:=h.last fun p hp q hq=>by
  rw [zdz hx,show a.toList.drop (ia+1) = [] from dt (by simp [e])] at hq;rw [aN.mp hq];obtain⟨j,hj,ej⟩:=dO (fI hp);have oB:j < b.size:=by simpa using hj
  have:=hl j oB;rw [zZ (getElem?_pos b j oB),show a.size - 1=ia by lia,zZ hx] at this;rw [← ej];simpa using this
 rw [bF,bF,zcl,zcl];exact this
end
end Srt
end
section
namespace Srt
open PySem PyProof.Rows
section
variable {prog:Program} {w:World} {A:Around} {E:Value→Shared→Prop} {s:Shared} {a₀:Array Keyed} {κ:SortKind} {val:Keyed→Int}
theorem zcO {st:SortSt} {g:Nat} {Q:Unit→SortSt→Prop} (h:Q () (zap st g)):wpS (model prog w) A E s (zcA g) Q st:=by
 rw [zc4];exact er h
theorem zat {g:Prop} {xs:Array Keyed} {i:Nat} (h:i < xs.size) (k:∀ p,xs[i]? = some p→p∈xs.toList→g):g:=k _ (getElem?_pos xs i h) #[M]
theorem zbY {key:Keyed} {arr:Array Keyed} {base i:Nat} (h:bB val true key arr base i=true):Vk val arr (base+i) < val key:=by
 unfold bB at h;simpa using h
theorem zcP {key:Keyed} {arr:Array Keyed} {base i:Nat} (h:bB val false key arr base i=true):Vk val arr (base+i)≤val key:=by
 unfold bB at h;simp at h;lia
theorem zcC {key:Keyed} {arr:Array Keyed} {base i:Nat} (h:bB val true key arr base i=false):val key≤Vk val arr (base+i):=by
 unfold bB at h;simp at h;lia
theorem zdC {key:Keyed} {arr:Array Keyed} {base i:Nat} (h:bB val false key arr base i=false):val key < Vk val arr (base+i):=by
 unfold bB at h;simp at h;exact h
theorem SIn.sub {xs:Array Keyed} {lo hi lo' nK:Nat} (h:SIn val xs lo hi) (h1:lo≤lo') (h2:nK≤hi):SIn val xs lo' nK:=fun i j a b c=>h i j #[O] b #[O]
theorem zz {σ α:Type} {M:Model} {c:Prop} {inst:Decidable c} {x y:StateT σ Sem α} {Q:α→σ→Prop} {st:σ} (h:c) (k:wpS M A E s x Q st):wpS M A E s (@ite _ c inst x y) Q st:=by rw [if_pos h]; exact k
theorem zA {σ α:Type} {M:Model} {c:Prop} {inst:Decidable c} {x y:StateT σ Sem α} {Q:α→σ→Prop} {st:σ} (h:¬ c) (k:wpS M A E s y Q st):wpS M A E s (@ite _ c inst x y) Q st:=by rw [if_neg h]; exact k
theorem dup {P X:Prop} (h:P→P→X) (k:P):X:=h k k
theorem zoD {P X:Prop} (h:(Unit→P)→(Unit→P)→X) (k:P):X:=h (fun _=>k) (fun _=>k)
theorem fr5 {σ β A1 A2 A3 A4 A5:Type} {M:Model} {lo hi:Nat} {f:Nat→β→StateT σ Sem (ForInStep β)} {Q:β→σ→Prop} {c:β} {st:σ} (rM:A1→A2→A3→A4→A5→β) (tN:A1→A2→A3→A4→A5→σ) (J:Nat→A1→A2→A3→A4→A5→Prop) (start:∃ a1 a2 a3 a4 a5,st=tN a1 a2 a3 a4 a5∧c=rM a1 a2 a3 a4 a5∧J lo a1 a2 a3 a4 a5) (fin:∀ a1 a2 a3 a4 a5,J (max lo hi) a1 a2 a3 a4 a5→Q (rM a1 a2 a3 a4 a5) (tN a1 a2 a3 a4 a5))
  (step:∀ x a1 a2 a3 a4 a5,lo≤x→x < hi→J x a1 a2 a3 a4 a5→wpS M A E s (f x (rM a1 a2 a3 a4 a5)) (fun r kX=>match r with | .done c'=>Q c' kX | .yield c'=>∃ a1 a2 a3 a4 a5,kX=tN a1 a2 a3 a4 a5∧c'=rM a1 a2 a3 a4 a5∧J (x+1) a1 a2 a3 a4 a5) (tN a1 a2 a3 a4 a5)):wpS M A E s (forIn [lo:hi] c f) Q st:=by
 refine cB (I:=fun x c kX=>∃ a1 a2 a3 a4 a5,kX=tN a1 a2 a3 a4 a5∧c=rM a1 a2 a3 a4 a5∧J x a1 a2 a3 a4 a5) ?_ ?_ start
 ·rintro x c kX h1 h2 ⟨a1,a2,a3,a4,a5,rfl,rfl,j⟩;exact step x _ _ _ _ _ h1 h2 j
 ·rintro c kX ⟨a1,a2,a3,a4,a5,rfl,rfl,j⟩;exact fin _ _ _ _ _ j
theorem fr7 {σ β A1 A2 A3 A4 A5 A6 A7:Type} {M:Model} {lo hi:Nat} {f:Nat→β→StateT σ Sem (ForInStep β)} {Q:β→σ→Prop} {c:β} {st:σ} (rM:A1→A2→A3→A4→A5→A6→A7→β) (tN:A1→A2→A3→A4→A5→A6→A7→σ) (J:Nat→A1→A2→A3→A4→A5→A6→A7→Prop) (start:∃ a1 a2 a3 a4 a5 a6 a7,st=tN a1 a2 a3 a4 a5 a6 a7∧c=rM a1 a2 a3 a4 a5 a6 a7∧J lo a1 a2 a3 a4 a5 a6 a7) (fin:∀ a1 a2 a3 a4 a5 a6 a7,J (max lo hi) a1 a2 a3 a4 a5 a6 a7→Q (rM a1 a2 a3 a4 a5 a6 a7) (tN a1 a2 a3 a4 a5 a6 a7))
  (step:∀ x a1 a2 a3 a4 a5 a6 a7,lo≤x→x < hi→J x a1 a2 a3 a4 a5 a6 a7→wpS M A E s (f x (rM a1 a2 a3 a4 a5 a6 a7)) (fun r kX=>match r with | .done c'=>Q c' kX | .yield c'=>∃ a1 a2 a3 a4 a5 a6 a7,kX=tN a1 a2 a3 a4 a5 a6 a7∧c'=rM a1 a2 a3 a4 a5 a6 a7∧J (x+1) a1 a2 a3 a4 a5 a6 a7) (tN a1 a2 a3 a4 a5 a6 a7)):wpS M A E s (forIn [lo:hi] c f) Q st:=by
 refine cB (I:=fun x c kX=>∃ a1 a2 a3 a4 a5 a6 a7,kX=tN a1 a2 a3 a4 a5 a6 a7∧c=rM a1 a2 a3 a4 a5 a6 a7∧J x a1 a2 a3 a4 a5 a6 a7) ?_ ?_ start
 ·rintro x c kX h1 h2 ⟨a1,a2,a3,a4,a5,a6,a7,rfl,rfl,j⟩;exact step x _ _ _ _ _ _ _ h1 h2 j
 ·rintro c kX ⟨a1,a2,a3,a4,a5,a6,a7,rfl,rfl,j⟩;exact fin _ _ _ _ _ _ _ j
theorem zmm {σ α γ δ A1 A2 A3 A4 A5:Type} {M:Model} {x:StateT σ Sem (Option γ×δ)} {k:Option γ×δ→StateT σ Sem α} {R:α→σ→Prop} {st:σ} (rM:A1→A2→A3→A4→A5→Option γ×δ) (G:γ→Prop) (J:A1→A2→A3→A4→A5→Prop) (CN:σ) (hx:wpS M A E s x (fun c kX=>kX=CN∧((∃ r o,c=(some r,o)∧G r)∨∃ a1 a2 a3 a4 a5,c=rM a1 a2 a3 a4 a5∧J a1 a2 a3 a4 a5)) st) (h1:∀ r o,G r→wpS M A E s (k (some r,o)) R CN) (h:∀ a1 a2 a3 a4 a5,J a1 a2 a3 a4 a5→wpS M A E s (k (rM a1 a2 a3 a4 a5)) R CN):wpS M A E s (x >>= k) R st:=by
 refine ar (dm hx ?_);rintro c kX ⟨rfl,⟨r,o,rfl,g⟩ | ⟨a1,a2,a3,a4,a5,rfl,j⟩⟩
 ·exact h1 _ _ g
 ·exact h _ _ _ _ _ j
theorem zaV {σ α:Type} {M:Model} {c:Prop} {inst:Decidable c} {x y:StateT σ Sem α} {Q:α→σ→Prop} {st:σ} (h:c→wpS M A E s x Q st) (k:¬ c→wpS M A E s y Q st):wpS M A E s (@ite _ c inst x y) Q st:=by
 by_cases hc:c
 ·rw [if_pos hc]; exact h hc
 ·rw [if_neg hc]; exact k hc
theorem ziT {st:SortSt} {a b:Array Keyed} {Q:Array Keyed→SortSt→Prop} (hC:Cmp prog w A s κ val a₀) (hk:kindOf st=κ) (ma:∀ p∈a.toList,p∈a₀.toList) (mb:∀ p∈b.toList,p∈a₀.toList)
  (sa:SIn val a 0 a.size) (sb:SIn val b 0 b.size) (h1:1≤a.size) (h2:1≤b.size) (hf:Vk val b 0≤Vk val a 0) (hl:∀ i,i < b.size→Vk val b i≤Vk val a (a.size - 1))
  (h:∀ out g,Good val (a.toList++b.toList) out.toList→Q out (zap st g)):wpS (model prog w) A E s (zj7 a b) Q st:=by
 refine zft ?_
 wp_delta
 wp_delta
 refine zfu ?_
 (refine ar (fX (cg ⟨rfl,?_⟩)))
 refine zat (xs:=b) (i:=0) #[O] fun y0 uH CP=>?_
 refine zat (xs:=a) (i:=0) #[O] fun x0 uI CQ=>?_
 refine ar (zU uH ?_);have I0:MA val (a.toList++b.toList) a b #[] 0 0:=⟨#[M],gz,zcN sa 0,zcN sb 0,fun x hx=>by simp at hx,fun x hx=>by simp at hx⟩;have I1:MA val (a.toList++b.toList) a b #[y0] 0 1:=I0.pushB sa uH uI (by rw [zZ uH,zZ uI] at hf; exact hf);dsimp only;by_cases rN:1=b.size
 ·refine zz (by simpa using rN) ?_;exact av (h _ (gallopOf st) (I1.doneB rN))
 refine zA (by simpa using rN) ?_;by_cases sQ:0+1=a.size
 ·refine zz (by simpa using sQ) ?_;exact av (h _ (gallopOf st) (I1.last #[O] hl))
 refine zA (by simpa using sQ) ?_;refine ar (eX ?_);refine ar (dm (fr5 (fun g out ia ib mg=>(none,out,ia,ib,mg)) (fun g out ia ib mg=>zap st g) (fun x g out ia ib mg=>MA val (a.toList++b.toList) a b out ia ib∧ia+1 < a.size∧ib < b.size∧x+1≤ia+ib)
  (Q:=fun c kX=>∃ g r o,kX=zap st g∧c=(some r,o)∧Good val (a.toList++b.toList) r.toList) ⟨gallopOf st,#[y0],0,1,gallopOf st,rfl,rfl,I1,#[O],#[O],#[O]⟩ ?fin ?step) ?post)
 case post =>
  rintro c kX ⟨g,r,o,rfl,rfl,hG⟩;exact av (h _ g hG)
 case fin =>
  rintro g out ia ib mg ⟨hI,b1,b2,b3⟩;lia
 case step =>
  intro x g out ia ib mg hr0 hx J;have hI:=J.1;have b1:=J.2.1;have b2:=J.2.2.1;have b3:=J.2.2.2;dsimp only;refine zmm (fun lq mB mj ac bc=>(none,lq,mB,mj,ac,bc)) (fun r=>Good val (a.toList++b.toList) r.toList) (fun lq mB mj ac bc=>MA val (a.toList++b.toList) a b lq mB mj∧mB+1 < a.size∧mj < b.size∧ia+ib+1≤mB+mj) (zap st g) (fr5 (fun lq mB mj ac bc=>(none,lq,mB,mj,ac,bc)) (fun lq mB mj ac bc=>zap st g) (fun x lq mB mj ac bc=>MA val (a.toList++b.toList) a b lq mB mj∧mB+1 < a.size∧mj < b.size∧ia+ib+x≤mB+mj) ⟨out,ia,ib,0,0,rfl,rfl,hI,b1,b2,#[O]⟩ ?fin1 ?step1) (fun r o hG=>av ⟨g,r,_,rfl,rfl,hG⟩) ?post1
  case fin1 =>
   rintro lq mB mj ac bc ⟨hI,b1,b2,b3⟩;exact⟨rfl,.inr ⟨lq,mB,mj,ac,bc,rfl,hI,b1,b2,#[O]⟩⟩
  case step1 =>
   intro x1 lq mB mj ac bc hr1 oF J;have hI:=J.1;have b1:=J.2.1;have b2:=J.2.2.1;have b3:=J.2.2.2;dsimp only;refine zat (xs:=b) (i:=mj) #[O] fun y ey my=>?_
   refine zat (xs:=a) (i:=mB) #[O] fun z ez mz=>?_
   refine ar (zU ey (ar (zU ez (ar (zj4 hC hk (mb y my) (ma z mz) ?_)))));dsimp only;by_cases yE:val y < val z
   ·refine zz (by simpa using yE) ?_;refine ar (zU ey ?_);have n8:=hI.pushB sa ey ez #[O];by_cases e1:mj+1=b.size
    ·refine zz (by simpa using e1) ?_;exact av ⟨rfl,.inl ⟨_,_,rfl,n8.doneB e1⟩⟩
    refine zA (by simpa using e1) ?_;refine zaV (fun _=>?_) (fun _=>?_)
    ·exact av ⟨rfl,.inr ⟨_,_,_,_,_,rfl,n8,b1,#[O],#[O]⟩⟩
    ·exact av ⟨_,_,_,_,_,rfl,rfl,n8,b1,#[O],#[O]⟩
   ·refine zA (by simpa using yE) ?_;refine ar (zU ez ?_);have n8:=hI.pushA sb ey ez #[O];by_cases e1:mB+1+1=a.size
    ·refine zz (by simpa using e1) ?_;exact av ⟨rfl,.inl ⟨_,_,rfl,n8.last e1 hl⟩⟩
    refine zA (by simpa using e1) ?_;refine zaV (fun _=>?_) (fun _=>?_)
    ·exact av ⟨rfl,.inr ⟨_,_,_,_,_,rfl,n8,#[O],b2,#[O]⟩⟩
    ·exact av ⟨_,_,_,_,_,rfl,rfl,n8,#[O],b2,#[O]⟩
  case post1 =>
   intro wN CS CT CU CV J;have CW:=J.1;have c1:=J.2.1;have c2:=J.2.2.1;have c3:=J.2.2.2;dsimp only
   (refine ar (fX (cg ⟨rfl,?_⟩)))
   refine ar (dm (fr7 (fun g lq mB mj mg ac bc=>(none,lq,mB,mj,mg,ac,bc)) (fun g lq mB mj mg ac bc=>zap st g) (fun x g lq mB mj mg ac bc=>MA val (a.toList++b.toList) a b lq mB mj∧mB+1 < a.size∧mj < b.size∧CS+CT≤mB+mj)
    (Q:=fun c kX=>∃ g,kX=zap st g∧((∃ r o,c=(some r,o)∧Good val (a.toList++b.toList) r.toList)∨∃ lq mB mj mg ac bc,c=(none,lq,mB,mj,mg,ac,bc)∧MA val (a.toList++b.toList) a b lq mB mj∧mB+1 < a.size∧mj < b.size∧CS+CT≤mB+mj)) ⟨g,wN,CS,CT,_,CU,CV,rfl,rfl,CW,c1,c2,af _⟩ ?fin2 ?step2) ?post2)
   case fin2 =>
    rintro g lq mB mj mg ac bc ⟨hI,b1,b2,b3⟩;exact⟨g,rfl,.inr ⟨lq,mB,mj,mg,ac,bc,rfl,hI,b1,b2,b3⟩⟩
   case post2 =>
    rintro c kX ⟨g,rfl,hc⟩;rcases hc with ⟨r,o,rfl,hG⟩ | ⟨wO,ia2,ib2,mg2,ac2,bc2,rfl,n8,d1,d2,d3⟩
    ·exact av ⟨g,r,_,rfl,rfl,hG⟩
    dsimp only;refine ar (zcO (av ⟨_,wO,ia2,ib2,_,rfl,rfl,n8,d1,d2,#[O]⟩))
   case step2 =>
    intro x2 g lq mB mj wQ ac bc vU pv J;have hI:=J.1;have b1:=J.2.1;have b2:=J.2.2.1;have b3:=J.2.2.2;dsimp only;refine zat (xs:=b) (i:=mj) #[O] fun y ey my=>?_
    apply dup
    ·intro k1 k2;by_cases rS:wQ > 1
     ·refine zz rS ?_;clear rS;generalize wQ - 1=m0
      revert m0
      exact k1
     ·refine zA rS ?_;clear rS;generalize wQ=m0
      revert m0
      exact k2
    intro mg0;refine ar (zcO (ar (zU ey (ar (zbh hC hk (mb y my) (fun i hi=>(by
     refine zat (xs:=a) (i:=mB+i) #[O] fun p ep mp=>?_
     exact⟨p,ep,ma p mp⟩)) (sa.sub #[O] #[O]) #[O] fun k Bm qi vV=>?_)))))
    dsimp only;have n8:=hI.takeA (k:=k) sb ey fun i hi=>zcP (qi i hi)
    by_cases sP:k > 0
    ·refine zz sP ?_;by_cases e1:mB+k+1=a.size
     ·refine zz (by simpa using e1) ?_;exact av ⟨_,rfl,.inl ⟨_,_,rfl,n8.last e1 hl⟩⟩
     refine zA (by simpa using e1) ?_;by_cases e2:mB+k=a.size
     ·refine zz (by simpa using e2) ?_;exact av ⟨_,rfl,.inl ⟨_,_,rfl,n8.doneA e2⟩⟩
     refine zA (by simpa using e2) ?_;refine ar (zU ey ?_);refine zat (xs:=a) (i:=mB+k) #[O] fun z ez mz=>?_
     have qR:=n8.pushB sa ey ez (by have:=zdC (vV k (af _) #[O]); rw [zZ ez] at this; lia);by_cases e3:mj+1=b.size
     ·refine zz (by simpa using e3) ?_;exact av ⟨_,rfl,.inl ⟨_,_,rfl,qR.doneB e3⟩⟩
     refine zA (by simpa using e3) ?_;refine ar (zU ez (ar (zbh hC hk (ma z mz) (fun i hi=>(by
      refine zat (xs:=b) (i:=mj+1+i) #[O] fun p ep mp=>?_
      exact⟨p,ep,mb p mp⟩)) (sb.sub #[O] #[O]) #[O] fun j vc p9 tO=>?_)))
     dsimp only;have rZ:=qR.takeB (k:=j) sa ez fun i hi=>eg (zbY (p9 i hi))
     by_cases qS:j > 0
     ·refine zz qS ?_;by_cases e4:mj+1+j=b.size
      ·refine zz (by simpa using e4) ?_;exact av ⟨_,rfl,.inl ⟨_,_,rfl,rZ.doneB e4⟩⟩
      refine zA (by simpa using e4) ?_;refine zat (xs:=b) (i:=mj+1+j) #[O] fun y2 oG wR=>?_
      refine ar (zU ez ?_);have nj:=rZ.pushA sb oG ez (by have:=zcC (tO j (af _) #[O]); rw [zZ oG] at this; exact this);by_cases e9:mB+k+1+1=a.size
      ·refine zz (by simpa using e9) ?_;exact av ⟨_,rfl,.inl ⟨_,_,rfl,nj.last e9 hl⟩⟩
      refine zA (by simpa using e9) ?_;refine zaV (fun _=>?_) (fun _=>?_)
      ·exact av ⟨_,rfl,.inr ⟨_,_,_,_,_,_,rfl,nj,#[O],#[O],#[O]⟩⟩
      ·exact av ⟨_,_,_,_,_,_,_,rfl,rfl,nj,#[O],#[O],#[O]⟩
     ·refine zA qS ?_;have wU:j=0:=by lia
      subst wU;refine zat (xs:=b) (i:=mj+1) #[O] fun y2 oG wR=>?_
      refine ar (zU ez ?_);have nj:=qR.pushA sb oG ez (by have:=zcC (tO 0 (af _) #[O]); rw [eR,zZ oG] at this; exact this);by_cases e9:mB+k+1+1=a.size
      ·refine zz (by simpa using e9) ?_;exact av ⟨_,rfl,.inl ⟨_,_,rfl,nj.last e9 hl⟩⟩
      refine zA (by simpa using e9) ?_;refine zaV (fun _=>?_) (fun _=>?_)
      ·exact av ⟨_,rfl,.inr ⟨_,_,_,_,_,_,rfl,nj,#[O],#[O],#[O]⟩⟩
      ·exact av ⟨_,_,_,_,_,_,_,rfl,rfl,nj,#[O],#[O],#[O]⟩
    ·refine zA sP ?_;have CY:k=0:=by lia
     subst CY;refine ar (zU ey ?_);refine zat (xs:=a) (i:=mB) #[O] fun z ez mz=>?_
     have qR:=hI.pushB sa ey ez (by have:=zdC (vV 0 (af _) #[O]); rw [eR,zZ ez] at this; lia);by_cases e3:mj+1=b.size
     ·refine zz (by simpa using e3) ?_;exact av ⟨_,rfl,.inl ⟨_,_,rfl,qR.doneB e3⟩⟩
     refine zA (by simpa using e3) ?_;refine ar (zU ez (ar (zbh hC hk (ma z mz) (fun i hi=>(by
      refine zat (xs:=b) (i:=mj+1+i) #[O] fun p ep mp=>?_
      exact⟨p,ep,mb p mp⟩)) (sb.sub #[O] #[O]) #[O] fun j vc p9 tO=>?_)))
     dsimp only;have rZ:=qR.takeB (k:=j) sa ez fun i hi=>eg (zbY (p9 i hi))
     by_cases qS:j > 0
     ·refine zz qS ?_;by_cases e4:mj+1+j=b.size
      ·refine zz (by simpa using e4) ?_;exact av ⟨_,rfl,.inl ⟨_,_,rfl,rZ.doneB e4⟩⟩
      refine zA (by simpa using e4) ?_;refine zat (xs:=b) (i:=mj+1+j) #[O] fun y2 oG wR=>?_
      refine ar (zU ez ?_);have nj:=rZ.pushA sb oG ez (by have:=zcC (tO j (af _) #[O]); rw [zZ oG] at this; exact this);by_cases e9:mB+1+1=a.size
      ·refine zz (by simpa using e9) ?_;exact av ⟨_,rfl,.inl ⟨_,_,rfl,nj.last e9 hl⟩⟩
      refine zA (by simpa using e9) ?_;refine zaV (fun _=>?_) (fun _=>?_)
      ·exact av ⟨_,rfl,.inr ⟨_,_,_,_,_,_,rfl,nj,#[O],#[O],#[O]⟩⟩
      ·exact av ⟨_,_,_,_,_,_,_,rfl,rfl,nj,#[O],#[O],#[O]⟩
     ·refine zA qS ?_;have wU:j=0:=by lia
      subst wU;refine zat (xs:=b) (i:=mj+1) #[O] fun y2 oG wR=>?_
      refine ar (zU ez ?_);have nj:=qR.pushA sb oG ez (by have:=zcC (tO 0 (af _) #[O]); rw [eR,zZ oG] at this; exact this);by_cases e9:mB+1+1=a.size
      ·refine zz (by simpa using e9) ?_;exact av ⟨_,rfl,.inl ⟨_,_,rfl,nj.last e9 hl⟩⟩
      refine zA (by simpa using e9) ?_;refine zaV (fun _=>?_) (fun _=>?_)
      ·exact av ⟨_,rfl,.inr ⟨_,_,_,_,_,_,rfl,nj,#[O],#[O],#[O]⟩⟩
      ·exact av ⟨_,_,_,_,_,_,_,rfl,rfl,nj,#[O],#[O],#[O]⟩
end
end Srt
end
section
namespace Srt
open PySem PyProof.Rows
structure MH (val:Keyed→Int) (T l r o:List Keyed):Prop where
 perm:(l++r++o).Perm T
 so:Ris val o
 sl:Ris val l
 sr:Ris val r
 lo:Le val l o
 ro:Le val r o
section
variable {val:Keyed→Int} {T o l l1 l2 r r1 r2:List Keyed}
theorem MH.takeA (h:MH val T (l1++l2) r o) (hle:Le val r l2):MH val T l1 r (l2++o):=by
 obtain⟨a1,a2,a3⟩:=zav.mp h.sl;refine⟨?_,zav.mpr ⟨a2,h.so,h.lo.right⟩,a1,h.sr,a3.app' h.lo.left,hle.app' h.ro⟩;refine eI ?_ h.perm;have:(r++l2).Perm (l2++r):=List.perm_append_comm;have:=(this.append_left l1).append_right o;simpa [bj] using this
theorem MH.takeB (h:MH val T l (r1++r2) o) (hle:Le val l r2):MH val T l r1 (r2++o):=by
 obtain⟨a1,a2,a3⟩:=zav.mp h.sr;exact⟨by have:=h.perm; simpa [bj] using this,zav.mpr ⟨a2,h.so,h.ro.right⟩,h.sl,a1,hle.app' h.lo,a3.app' h.ro.left⟩
theorem MH.doneA (h:MH val T [] r o):Good val T (r++o):=⟨by have:=h.perm; simpa using this,zav.mpr ⟨h.sr,h.so,h.ro⟩⟩
theorem MH.doneB (h:MH val T l [] o):Good val T (l++o):=⟨by have:=h.perm; simpa using this,zav.mpr ⟨h.sl,h.so,h.lo⟩⟩
theorem MH.first (h:MH val T l r o) (hle:Le val r l):Good val T (r++l++o):=by
 refine⟨eI (List.perm_append_comm.append_right _) h.perm,?_⟩;exact zav.mpr ⟨zav.mpr ⟨h.sr,h.sl,hle⟩,h.so,h.ro.app h.lo⟩
end
section
variable {val:Keyed→Int} {T:List Keyed} {a b out:Array Keyed} {na nb:Nat}
abbrev MB (val:Keyed→Int) (T:List Keyed) (a b out:Array Keyed) (na nb:Nat):Prop:=MH val T (a.toList.take na) (b.toList.take nb) out.toList.reverse
theorem zhX {xs:Array Keyed} {n:Nat} {p:Keyed} (h:xs[n]? = some p):xs.toList.take (n+1)=xs.toList.take n++[p]:=by
 rw [List.take_succ,bn,h];rfl
theorem zgk {xs:Array Keyed} (h:SIn val xs 0 xs.size) (i:Nat):Ris val (xs.toList.take i):=by
 have:=zcN h 0;rw [dI] at this;exact iN (cj _ _) this
theorem zeb {xs:Array Keyed} {n:Nat} {p:Keyed} (h:p∈xs.toList.take n):∃ j,j < n∧j < xs.size∧xs[j]? = some p:=by
 (obtain⟨j,hj,e⟩:=dO h)
 have p9:j < n∧j < xs.toList.length:=by
  rw [aI] at hj;lia
 refine⟨j,p9.1,by simpa using p9.2,?_⟩;rw [← bn,ap p9.2,← e,jK]
theorem zdD {xs:Array Keyed} {n:Nat} {p q:Keyed} (h:SIn val xs 0 xs.size) (hp:xs[n]? = some p) (hq:q∈xs.toList.take (n+1)):val q≤val p:=by
 obtain⟨j,hj,tB,e⟩:=zeb hq;have hn:=(cL.mp hp).1;have:=h j n (bh _) #[O] hn;rw [zZ e,zZ hp] at this;exact this
theorem MB.pushA {y x:Keyed} (h:MB val T a b out (na+1) nb) (sb:SIn val b 0 b.size) (hn:1≤nb) (hy:b[nb - 1]? = some y) (hx:a[na]? = some x) (hle:val y≤val x):MB val T a b (out.push x) na nb:=by
 unfold MB at h ⊢;rw [zhX hx] at h;have:=MH.takeA h fun p hp q hq=>by
  rw [aN.mp hq];exact bY (zdD sb hy (by rw [show nb - 1+1=nb by lia]; exact hp)) hle
 simpa using this
theorem MB.pushB {y x:Keyed} (h:MB val T a b out na (nb+1)) (sa:SIn val a 0 a.size) (hn:1≤na) (hy:b[nb]? = some y) (hx:a[na - 1]? = some x) (hle:val x≤val y):MB val T a b (out.push y) na nb:=by
 unfold MB at h ⊢;rw [zhX hy] at h;have:=MH.takeB h fun p hp q hq=>by
  rw [aN.mp hq];exact bY (zdD sa hx (by rw [show na - 1+1=na by lia]; exact hp)) hle
 simpa using this
theorem zhY (xs:Array Keyed) {i n:Nat} (h:i≤n):xs.toList.take n=xs.toList.take i++(xs.extract i n).toList:=by
 rw [cZ];simp only [cR];rw [← b7 i (xs.toList.take n),kx,c6 h,List.drop_take]
theorem MB.takeA {y:Keyed} {at':Nat} (h:MB val T a b out na nb) (sb:SIn val b 0 b.size) (mV:at'≤na) (hn:1≤nb) (hy:b[nb - 1]? = some y) (hle:∀ i,at'≤i→i < na→val y≤Vk val a i):MB val T a b (out++(a.extract at' na).reverse) at' nb:=by
 unfold MB at h ⊢;rw [zhY a mV] at h;have:=MH.takeA h fun p hp q hq=>by
  have nI:q∈(a.extract at' (at'+(na - at'))).toList:=by rw [show at'+(na - at')=na by lia]; exact hq
  obtain⟨j,hj,e⟩:=zdB nI;have:=hle (at'+j) #[O] #[O];rw [zZ e] at this;exact bY (zdD sb hy (by rw [show nb - 1+1=nb by lia]; exact hp)) this
 simpa using this
theorem MB.takeB {x:Keyed} {at':Nat} (h:MB val T a b out na nb) (sa:SIn val a 0 a.size) (mV:at'≤nb) (hn:1≤na) (hx:a[na - 1]? = some x) (hle:∀ i,at'≤i→i < nb→val x≤Vk val b i):MB val T a b (out++(b.extract at' nb).reverse) na at':=by
 unfold MB at h ⊢;rw [zhY b mV] at h;have:=MH.takeB h fun p hp q hq=>by
  have nI:q∈(b.extract at' (at'+(nb - at'))).toList:=by rw [show at'+(nb - at')=nb by lia]; exact hq
  obtain⟨j,hj,e⟩:=zdB nI;have:=hle (at'+j) #[O] #[O];rw [zZ e] at this;exact bY (zdD sa hx (by rw [show na - 1+1=na by lia]; exact hp)) this
 simpa using this
theorem zbK (xs:Array Keyed) (n:Nat):(xs.extract 0 n).toList=xs.toList.take n:=by
 rw [cZ];simp [cR]
theorem MB.doneA (h:MB val T a b out na nb) (e:na=0):Good val T (a.extract 0 na++b.extract 0 nb++out.reverse).toList:=by
 unfold MB at h;subst e;have:=MH.doneA h;rw [bF,bF,zbK,zbK,dJ,ip,fJ];exact this
theorem MB.doneB (h:MB val T a b out na nb) (e:nb=0):Good val T (a.extract 0 na++b.extract 0 nb++out.reverse).toList:=by
 unfold MB at h;subst e;have:=MH.doneB h;rw [bF,bF,zbK,zbK,dJ,bI,fJ];exact this
theorem MB.first (h:MB val T a b out na nb) (e:nb=1) (sa:SIn val a 0 a.size) (h2:1≤b.size) (hf:Vk val b 0≤Vk val a 0):Good val T (b.extract 0 nb++a.extract 0 na++out.reverse).toList:=by
 unfold MB at h;subst e;have:=MH.first h fun p hp q hq=>by
  obtain⟨j,hj,tB,ej⟩:=zeb hp;have qS:j=0:=by lia
  subst qS;obtain⟨i,hi,his,ei⟩:=zeb hq;have:=sa 0 i (bh _) (bh _) his;rw [zZ ei] at this;rw [zZ ej] at hf;lia
 rw [bF,bF,zbK,zbK,fJ];exact this
end
section
variable {prog:Program} {w:World} {A:Around} {E:Value→Shared→Prop} {s:Shared} {a₀:Array Keyed} {κ:SortKind} {val:Keyed→Int}
theorem ziU {st:SortSt} {a b:Array Keyed} {Q:Array Keyed→SortSt→Prop} (hC:Cmp prog w A s κ val a₀) (hk:kindOf st=κ) (ma:∀ p∈a.toList,p∈a₀.toList) (mb:∀ p∈b.toList,p∈a₀.toList)
  (sa:SIn val a 0 a.size) (sb:SIn val b 0 b.size) (h1:1≤a.size) (h2:1≤b.size) (hf:Vk val b 0≤Vk val a 0) (hl:∀ i,i < b.size→Vk val b i≤Vk val a (a.size - 1))
  (h:∀ out g,Good val (a.toList++b.toList) out.toList→Q out (zap st g)):wpS (model prog w) A E s (zj8 a b) Q st:=by
 refine zft ?_
 wp_delta
 wp_delta
 refine zfu ?_
 (refine ar (fX (cg ⟨rfl,?_⟩)))
 refine zat (xs:=a) (i:=a.size - 1) #[O] fun x0 uI CQ=>?_
 refine zat (xs:=b) (i:=b.size - 1) #[O] fun y0 uH CP=>?_
 refine ar (zU uI ?_);have I0:MB val (a.toList++b.toList) a b #[] (a.size - 1+1) b.size:=by
  refine⟨?_,gz,zgk sa _,zgk sb _,fun x _ y hy=>by simp at hy,fun x _ y hy=>by simp at hy⟩;rw [show a.size - 1+1=a.size by lia,aQ #[M],aQ #[M]];simp
 have I1:MB val (a.toList++b.toList) a b #[x0] (a.size - 1) b.size:=I0.pushA sb h2 uH uI (by have:=hl (b.size - 1) #[O]; rw [zZ uH,zZ uI] at this; exact this);dsimp only;by_cases sQ:a.size - 1=0
 ·refine zz (by simpa using sQ) ?_;exact av (h _ (gallopOf st) (I1.doneA sQ))
 refine zA (by simpa using sQ) ?_;by_cases rN:b.size=1
 ·refine zz (by simpa using rN) ?_;exact av (h _ (gallopOf st) (I1.first rN sa h2 hf))
 refine zA (by simpa using rN) ?_;refine ar (eX ?_);refine ar (dm (fr5 (fun g out na nb mg=>(none,na,nb,out,mg)) (fun g out na nb mg=>zap st g) (fun x g out na nb mg=>MB val (a.toList++b.toList) a b out na nb∧1≤na∧2≤nb∧na≤a.size∧nb≤b.size∧x+na+nb+1≤a.size+b.size)
  (Q:=fun c kX=>∃ g r o,kX=zap st g∧c=(some r,o)∧Good val (a.toList++b.toList) r.toList) ⟨gallopOf st,#[x0],a.size - 1,b.size,gallopOf st,rfl,rfl,I1,#[O],#[O],#[O],#[O],#[O]⟩ ?fin ?step) ?post)
 case post =>
  rintro c kX ⟨g,r,o,rfl,rfl,hG⟩;exact av (h _ g hG)
 case fin =>
  rintro g out na nb mg ⟨hI,b1,b2,b3⟩;lia
 case step =>
  intro x g out na nb mg hr0 hx J;have hI:=J.1;have b1:=J.2.1;have b2:=J.2.2.1;have b4:=J.2.2.2.1;have b5:=J.2.2.2.2.1;have b3:=J.2.2.2.2.2;dsimp only;refine zmm (fun lq mR mS ac bc=>(none,mR,mS,lq,ac,bc)) (fun r=>Good val (a.toList++b.toList) r.toList) (fun lq mR mS ac bc=>MB val (a.toList++b.toList) a b lq mR mS∧1≤mR∧2≤mS∧mR≤a.size∧mS≤b.size∧1+mR+mS≤na+nb) (zap st g) (fr5 (fun lq mR mS ac bc=>(none,mR,mS,lq,ac,bc)) (fun lq mR mS ac bc=>zap st g) (fun x lq mR mS ac bc=>MB val (a.toList++b.toList) a b lq mR mS∧1≤mR∧2≤mS∧mR≤a.size∧mS≤b.size∧x+mR+mS≤na+nb) ⟨out,na,nb,0,0,rfl,rfl,hI,b1,b2,b4,b5,#[O]⟩ ?fin1 ?step1) (fun r o hG=>av ⟨g,r,_,rfl,rfl,hG⟩) ?post1
  case fin1 =>
   rintro lq mR mS ac bc ⟨hI,b1,b2,b4,b5,b3⟩;exact⟨rfl,.inr ⟨lq,mR,mS,ac,bc,rfl,hI,b1,b2,b4,b5,#[O]⟩⟩
  case step1 =>
   intro x1 lq mR mS ac bc hr1 oF J;have hI:=J.1;have b1:=J.2.1;have b2:=J.2.2.1;have b4:=J.2.2.2.1;have b5:=J.2.2.2.2.1;have b3:=J.2.2.2.2.2;dsimp only;obtain⟨n1,rfl⟩:∃ n1,mR=n1+1:=⟨mR - 1,#[O]⟩;obtain⟨m1,rfl⟩:∃ m1,mS=m1+1:=⟨mS - 1,#[O]⟩;simp only [cC];refine zat (xs:=b) (i:=m1) #[O] fun y ey my=>?_
   refine zat (xs:=a) (i:=n1) #[O] fun z ez mz=>?_
   refine ar (zU ey (ar (zU ez (ar (zj4 hC hk (mb y my) (ma z mz) ?_)))));dsimp only;by_cases yE:val y < val z
   ·refine zz (by simpa using yE) ?_;refine ar (zU ez ?_);have n8:=hI.pushA sb #[O] ey ez #[O];by_cases e1:n1=0
    ·refine zz (by simpa using e1) ?_;exact av ⟨rfl,.inl ⟨_,_,rfl,n8.doneA e1⟩⟩
    refine zA (by simpa using e1) ?_;refine zaV (fun _=>?_) (fun _=>?_)
    ·exact av ⟨rfl,.inr ⟨_,_,_,_,_,rfl,n8,#[O],#[O],#[O],#[O],#[O]⟩⟩
    ·exact av ⟨_,_,_,_,_,rfl,rfl,n8,#[O],#[O],#[O],#[O],#[O]⟩
   ·refine zA (by simpa using yE) ?_;refine ar (zU ey ?_);have n8:=hI.pushB sa #[O] ey ez #[O];by_cases e1:m1=1
    ·refine zz (by simpa using e1) ?_;exact av ⟨rfl,.inl ⟨_,_,rfl,n8.first e1 sa h2 hf⟩⟩
    refine zA (by simpa using e1) ?_;refine zaV (fun _=>?_) (fun _=>?_)
    ·exact av ⟨rfl,.inr ⟨_,_,_,_,_,rfl,n8,#[O],#[O],#[O],#[O],#[O]⟩⟩
    ·exact av ⟨_,_,_,_,_,rfl,rfl,n8,#[O],#[O],#[O],#[O],#[O]⟩
  case post1 =>
   intro wN CZ C0 CU CV J;have CW:=J.1;have c1:=J.2.1;have c2:=J.2.2.1;have c4:=J.2.2.2.1;have c5:=J.2.2.2.2.1;have c3:=J.2.2.2.2.2;dsimp only
   (refine ar (fX (cg ⟨rfl,?_⟩)))
   refine ar (dm (fr7 (fun g lq mR mS mg ac bc=>(none,mR,mS,lq,mg,ac,bc)) (fun g lq mR mS mg ac bc=>zap st g) (fun x g lq mR mS mg ac bc=>MB val (a.toList++b.toList) a b lq mR mS∧1≤mR∧2≤mS∧mR≤a.size∧mS≤b.size∧mR+mS≤CZ+C0)
    (Q:=fun c kX=>∃ g,kX=zap st g∧((∃ r o,c=(some r,o)∧Good val (a.toList++b.toList) r.toList)∨∃ lq mR mS mg ac bc,c=(none,mR,mS,lq,mg,ac,bc)∧MB val (a.toList++b.toList) a b lq mR mS∧1≤mR∧2≤mS∧mR≤a.size∧mS≤b.size∧mR+mS≤CZ+C0)) ⟨g,wN,CZ,C0,_,CU,CV,rfl,rfl,CW,c1,c2,c4,c5,af _⟩ ?fin2 ?step2) ?post2)
   case fin2 =>
    rintro g lq mR mS mg ac bc ⟨hI,b1,b2,b4,b5,b3⟩;exact⟨g,rfl,.inr ⟨lq,mR,mS,mg,ac,bc,rfl,hI,b1,b2,b4,b5,b3⟩⟩
   case post2 =>
    rintro c kX ⟨g,rfl,hc⟩;rcases hc with ⟨r,o,rfl,hG⟩ | ⟨wO,na2,nb2,mg2,ac2,bc2,rfl,n8,d1,d2,d4,d5,d3⟩
    ·exact av ⟨g,r,_,rfl,rfl,hG⟩
    dsimp only;refine ar (zcO (av ⟨_,wO,na2,nb2,_,rfl,rfl,n8,d1,d2,d4,d5,#[O]⟩))
   case step2 =>
    intro x2 g lq mR mS wQ ac bc vU pv J;have hI:=J.1;have b1:=J.2.1;have b2:=J.2.2.1;have b4:=J.2.2.2.1;have b5:=J.2.2.2.2.1;have b3:=J.2.2.2.2.2;dsimp only;obtain⟨m1,rfl⟩:∃ m1,mS=m1+1:=⟨mS - 1,#[O]⟩;simp only [cC];refine zat (xs:=b) (i:=m1) #[O] fun y ey my=>?_
    apply dup
    ·intro k1 k2;by_cases rS:wQ > 1
     ·refine zz rS ?_;clear rS;generalize wQ - 1=m0
      revert m0
      exact k1
     ·refine zA rS ?_;clear rS;generalize wQ=m0
      revert m0
      exact k2
    intro mg0;refine ar (zcO (ar (zU ey (ar (zbh hC hk (mb y my) (fun i hi=>(by
     refine zat (xs:=a) (i:=0+i) #[O] fun p ep mp=>?_
     exact⟨p,ep,ma p mp⟩)) (sa.sub #[O] #[O]) #[O] fun k Bm qi vV=>?_)))))
    dsimp only;have n8:=hI.takeA (at':=k) sb Bm #[O] ey fun i h1 h2=>eg (by have:=zdC (vV i h1 h2); rwa [cW] at this)
    by_cases sP:mR - k > 0
    ·refine zz sP ?_;by_cases e1:k=0
     ·refine zz (by simpa using e1) ?_;exact av ⟨_,rfl,.inl ⟨_,_,rfl,n8.doneA e1⟩⟩
     refine zA (by simpa using e1) ?_;obtain⟨n1,rfl⟩:∃ n1,k=n1+1:=⟨k - 1,#[O]⟩;simp only [cC];refine ar (zU ey ?_);refine zat (xs:=a) (i:=n1) #[O] fun z ez mz=>?_
     have qR:=n8.pushB sa #[O] ey (show a[n1+1 - 1]? = some z by rw [cC]; exact ez) (by have:=zcP (qi n1 #[O]); rw [cW,zZ ez] at this; exact this);by_cases e3:m1=1
     ·refine zz (by simpa using e3) ?_;exact av ⟨_,rfl,.inl ⟨_,_,rfl,qR.first e3 sa h2 hf⟩⟩
     refine zA (by simpa using e3) ?_;refine ar (zU ez (ar (zbh hC hk (ma z mz) (fun i hi=>(by
      refine zat (xs:=b) (i:=0+i) #[O] fun p ep mp=>?_
      exact⟨p,ep,mb p mp⟩)) (sb.sub #[O] #[O]) #[O] fun j vc p9 tO=>?_)))
     dsimp only;have rZ:=qR.takeB (at':=j) sa vc #[O] (show a[n1+1 - 1]? = some z by rw [cC]; exact ez) fun i h1 h2=>(by have:=zcC (tO i h1 h2); rwa [cW] at this)
     by_cases qS:m1 - j > 0
     ·refine zz qS ?_;by_cases e4:j=1
      ·refine zz (by simpa using e4) ?_;exact av ⟨_,rfl,.inl ⟨_,_,rfl,rZ.first e4 sa h2 hf⟩⟩
      refine zA (by simpa using e4) ?_;by_cases e5:j=0
      ·refine zz (by simpa using e5) ?_;exact av ⟨_,rfl,.inl ⟨_,_,rfl,rZ.doneB e5⟩⟩
      refine zA (by simpa using e5) ?_;refine zat (xs:=b) (i:=j - 1) #[O] fun y2 oG wR=>?_
      refine ar (zU ez ?_);have nj:=rZ.pushA sb #[O] oG ez (by have:=zbY (p9 (j - 1) #[O]); rw [cW,zZ oG] at this; lia);by_cases e9:n1=0
      ·refine zz (by simpa using e9) ?_;exact av ⟨_,rfl,.inl ⟨_,_,rfl,nj.doneA e9⟩⟩
      refine zA (by simpa using e9) ?_;refine zaV (fun _=>?_) (fun _=>?_)
      ·exact av ⟨_,rfl,.inr ⟨_,_,_,_,_,_,rfl,nj,#[O],#[O],#[O],#[O],#[O]⟩⟩
      ·exact av ⟨_,_,_,_,_,_,_,rfl,rfl,nj,#[O],#[O],#[O],#[O],#[O]⟩
     ·refine zA qS ?_;have C1:j=m1:=by lia
      subst C1;refine zat (xs:=b) (i:=j - 1) #[O] fun y2 oG wR=>?_
      refine ar (zU ez ?_);have nj:=qR.pushA sb #[O] oG ez (by have:=zbY (p9 (j - 1) #[O]); rw [cW,zZ oG] at this; lia);by_cases e9:n1=0
      ·refine zz (by simpa using e9) ?_;exact av ⟨_,rfl,.inl ⟨_,_,rfl,nj.doneA e9⟩⟩
      refine zA (by simpa using e9) ?_;refine zaV (fun _=>?_) (fun _=>?_)
      ·exact av ⟨_,rfl,.inr ⟨_,_,_,_,_,_,rfl,nj,#[O],#[O],#[O],#[O],#[O]⟩⟩
      ·exact av ⟨_,_,_,_,_,_,_,rfl,rfl,nj,#[O],#[O],#[O],#[O],#[O]⟩
    ·refine zA sP ?_;have Bl:k=mR:=by lia
     subst Bl;obtain⟨n1,rfl⟩:∃ n1,k=n1+1:=⟨k - 1,#[O]⟩;simp only [cC];refine ar (zU ey ?_);refine zat (xs:=a) (i:=n1) #[O] fun z ez mz=>?_
     have qR:=hI.pushB sa #[O] ey (show a[n1+1 - 1]? = some z by rw [cC]; exact ez) (by have:=zcP (qi n1 #[O]); rw [cW,zZ ez] at this; exact this);by_cases e3:m1=1
     ·refine zz (by simpa using e3) ?_;exact av ⟨_,rfl,.inl ⟨_,_,rfl,qR.first e3 sa h2 hf⟩⟩
     refine zA (by simpa using e3) ?_;refine ar (zU ez (ar (zbh hC hk (ma z mz) (fun i hi=>(by
      refine zat (xs:=b) (i:=0+i) #[O] fun p ep mp=>?_
      exact⟨p,ep,mb p mp⟩)) (sb.sub #[O] #[O]) #[O] fun j vc p9 tO=>?_)))
     dsimp only;have rZ:=qR.takeB (at':=j) sa vc #[O] (show a[n1+1 - 1]? = some z by rw [cC]; exact ez) fun i h1 h2=>(by have:=zcC (tO i h1 h2); rwa [cW] at this)
     by_cases qS:m1 - j > 0
     ·refine zz qS ?_;by_cases e4:j=1
      ·refine zz (by simpa using e4) ?_;exact av ⟨_,rfl,.inl ⟨_,_,rfl,rZ.first e4 sa h2 hf⟩⟩
      refine zA (by simpa using e4) ?_;by_cases e5:j=0
      ·refine zz (by simpa using e5) ?_;exact av ⟨_,rfl,.inl ⟨_,_,rfl,rZ.doneB e5⟩⟩
      refine zA (by simpa using e5) ?_;refine zat (xs:=b) (i:=j - 1) #[O] fun y2 oG wR=>?_
      refine ar (zU ez ?_);have nj:=rZ.pushA sb #[O] oG ez (by have:=zbY (p9 (j - 1) #[O]); rw [cW,zZ oG] at this; lia);by_cases e9:n1=0
      ·refine zz (by simpa using e9) ?_;exact av ⟨_,rfl,.inl ⟨_,_,rfl,nj.doneA e9⟩⟩
      refine zA (by simpa using e9) ?_;refine zaV (fun _=>?_) (fun _=>?_)
      ·exact av ⟨_,rfl,.inr ⟨_,_,_,_,_,_,rfl,nj,#[O],#[O],#[O],#[O],#[O]⟩⟩
      ·exact av ⟨_,_,_,_,_,_,_,rfl,rfl,nj,#[O],#[O],#[O],#[O],#[O]⟩
     ·refine zA qS ?_;have C1:j=m1:=by lia
      subst C1;refine zat (xs:=b) (i:=j - 1) #[O] fun y2 oG wR=>?_
      refine ar (zU ez ?_);have nj:=qR.pushA sb #[O] oG ez (by have:=zbY (p9 (j - 1) #[O]); rw [cW,zZ oG] at this; lia);by_cases e9:n1=0
      ·refine zz (by simpa using e9) ?_;exact av ⟨_,rfl,.inl ⟨_,_,rfl,nj.doneA e9⟩⟩
      refine zA (by simpa using e9) ?_;refine zaV (fun _=>?_) (fun _=>?_)
      ·exact av ⟨_,rfl,.inr ⟨_,_,_,_,_,_,rfl,nj,#[O],#[O],#[O],#[O],#[O]⟩⟩
      ·exact av ⟨_,_,_,_,_,_,_,rfl,rfl,nj,#[O],#[O],#[O],#[O],#[O]⟩
end
end Srt
end
section
namespace Srt
open PySem PyProof.Rows
def wb (sa:Nat) (l:List (Keyed×Nat)) (xs:Array Keyed):Array Keyed:=l.foldl (fun a (p,j)=>a.setIfInBounds (sa+j) p) xs
theorem zkb (sa:Nat):∀ (l:List Keyed) (n:Nat) (xs:Array Keyed) (k:Nat),sa+n+l.length≤xs.size→(wb sa (l.zipIdx n) xs)[k]? = if sa+n≤k∧k < sa+n+l.length then l[k - (sa+n)]? else xs[k]?
 | [],n,xs,k,h=>by
  rw [if_neg (by simp only [dR]; lia)];rfl
 | p :: l,n,xs,k,h=>by
  have hl:(p :: l).length=l.length+1:=rfl;rw [hl] at h ⊢;show (wb sa (l.zipIdx (n+1)) (xs.setIfInBounds (sa+n) p))[k]? = _;rw [zkb sa l (n+1) _ k (by rw [Array.size_setIfInBounds]; lia)];by_cases h1:sa+(n+1)≤k∧k < sa+(n+1)+l.length
  ·rw [if_pos h1,if_pos #[O],show k - (sa+n)=k - (sa+(n+1))+1 by lia,dQ]
  ·rw [if_neg h1,Array.getElem?_setIfInBounds];by_cases h2:sa+n=k
   ·rw [if_pos h2,if_pos #[O],if_pos #[O],show k - (sa+n)=0 by lia];rfl
   ·rw [if_neg h2,if_neg #[O]]
theorem zlu {sa:Nat} {m xs:Array Keyed} (h:sa+m.size≤xs.size):(wb sa m.toList.zipIdx xs).toList=xs.toList.take sa++m.toList++xs.toList.drop (sa+m.size):=by
 have hm:m.toList.length=m.size:=by simp
 have hx:xs.toList.length=xs.size:=by simp
 refine fi fun k=>?_
 rw [bn,zkb sa m.toList 0 xs k (by rw [hm]; lia),hm,eR];by_cases h1:k < sa
 ·rw [if_neg #[O],bj,bG (by rw [aI]; lia),cv h1,bn]
 ·by_cases h2:k < sa+m.size
  ·rw [if_pos #[O],bj,bD (by rw [aI]; lia),aI,hx,show min sa xs.size=sa by lia,bG #[O]]
  ·rw [if_neg #[O],bD (by rw [ao,aI]; lia),ao,aI,hx,show min sa xs.size=sa by lia,hm,dX,show sa+m.size+(k - (sa+m.size))=k by lia,bn]
theorem ziV (xs:List Keyed) {i j k:Nat} (h1:i≤j) (h2:j≤k):xs=xs.take i++((xs.drop i).take (j - i)++(xs.drop j).take (k - j))++xs.drop k:=by
 have e1:xs.drop i=(xs.drop i).take (j - i)++xs.drop j:=by
  have:=(b7 (j - i) (xs.drop i)).symm
  rwa [iO,show i+(j - i)=j by lia] at this
 have e2:xs.drop j=(xs.drop j).take (k - j)++xs.drop k:=by
  have:=(b7 (k - j) (xs.drop j)).symm
  rwa [iO,show j+(k - j)=k by lia] at this
 have e0:=(b7 i xs).symm;rw [e1,e2] at e0;rw [bj,bj];exact e0
theorem zcQ (xs:Array Keyed) (i j:Nat):(xs.extract i j).toList=(xs.toList.drop i).take (j - i):=by
 rw [cZ]
theorem zlv {sa sb e:Nat} {m xs:Array Keyed} (h1:sa≤sb) (h2:sb≤e) (h3:e≤xs.size) (hp:m.toList.Perm ((xs.extract sa sb).toList++(xs.extract sb e).toList)):(wb sa m.toList.zipIdx xs).Perm xs:=by
 have hms:m.size=e - sa:=by
  have:=hp.length_eq;rw [ao,zcQ,zcQ,aI,aI,bQ,bQ] at this;have hx:xs.toList.length=xs.size:=by simp
  have hm:m.toList.length=m.size:=by simp
  lia
 rw [eF,zlu #[O],show sa+m.size=e by lia];refine eI ((hp.append_left _).append_right _) ?_;rw [zcQ,zcQ,← ziV xs.toList h1 h2]
section
variable {prog:Program} {w:World} {A:Around} {E:Value→Shared→Prop} {s:Shared} {a₀:Array Keyed} {κ:SortKind} {val:Keyed→Int}
theorem zcD {xs:Array Keyed} {i j k:Nat} (h:k < j - i) (hj:j≤xs.size):(xs.extract i j)[k]? = xs[i+k]?:=by
 rw [← bn,zcQ,cv h,dX,bn]
theorem zcR {xs:Array Keyed} {i j:Nat} (hj:j≤xs.size):(xs.extract i j).size=j - i:=by rw [Array.size_extract,c6 hj]
theorem zhZ {xs:Array Keyed} {i j:Nat} (hj:j≤xs.size) (h:SIn val xs i j):SIn val (xs.extract i j) 0 (xs.extract i j).size:=by
 rw [zcR hj];intro p q _ Bn hq;rw [zah (zcD #[O] hj),zah (zcD hq hj)];exact h _ _ #[O] #[O] #[O]
theorem zdE {xs:Array Keyed} {i j:Nat} (hj:j≤xs.size) {p:Keyed} (h:p∈(xs.extract i j).toList):∃ k,i≤k∧k < j∧xs[k]? = some p:=by
 obtain⟨k,hk,e⟩:=dO h;have uE:k < j - i:=by
  rwa [bp,zcR hj] at hk
 refine⟨i+k,#[O],#[O],?_⟩;rw [← zcD uE hj,← bn,ap hk,e]
theorem ziW {st:SortSt} {i sa na pw sb nb pw2:Nat} {Q:Bool→SortSt→Prop} (hC:Cmp prog w A s κ val a₀) (hB:SB κ a₀ st) (e1:(pendingOf st)[i]? = some (sa,na,pw)) (e2:(pendingOf st)[i+1]? = some (sb,nb,pw2))
  (lX:sb=sa+na) (yF:1≤na) (hnb:1≤nb) (hsz:sb+nb≤a₀.size) (sA:SIn val (arrOf st) sa (sa+na)) (sB:SIn val (arrOf st) sb (sb+nb))
  (h:∀ kX,SB κ a₀ kX→pendingOf kX=((pendingOf st).setIfInBounds i (sa,na+nb,pw)).eraseIdxIfInBounds (i+1)→(∀ k,(k < sa∨sb+nb≤k)→(arrOf kX)[k]? = (arrOf st)[k]?)→SIn val (arrOf kX) sa (sb+nb)→Q true kX) :
  wpS (model prog w) A E s (mergeAt' i) Q st:=by
 refine zft ?_
 wp_delta
 wp_delta
 refine zfu ?_;refine ar (eX ?_);rw [e1,e2];dsimp only;have yG:=hB.size;obtain⟨y0,uH,CP⟩:=hB.mem (i:=sb) #[O];generalize wV:(sortPriv% PySem.Builtin.SortState.mk) (kindOf st) (arrOf st) (((pendingOf st).setIfInBounds i (sa,na+nb,pw)).eraseIdxIfInBounds (i+1)) (gallopOf st) (failedOf st)=nc;have tP:SB κ a₀ nc:=by subst wV; exact⟨hB.perm,hB.kind,hB.failed⟩
 have qP:pendingOf nc=((pendingOf st).setIfInBounds i (sa,na+nb,pw)).eraseIdxIfInBounds (i+1):=by subst wV; rfl
 have sQ:arrOf nc=arrOf st:=by subst wV; rfl
 have vf:∀ n,n < a₀.size→∃ p,(arrOf st)[n]? = some p∧p∈a₀.toList:=fun n hn=>hB.mem hn
 refine ar (show wpS _ _ _ _ (set nc) _ st from er (f:=fun _=>nc) ?_);refine ar (zU uH (ar (zbh (arr:=arrOf st) hC tP.kind CP (fun j hj=>vf (sa+j) #[O]) sA #[O] fun k Bm qi vV=>?_)));dsimp only;have yH:∀ j,sa≤j→j < sa+k→Vk val (arrOf st) j≤Vk val (arrOf st) sb:=fun j h1 h2=>by
  have:=zcP (qi (j - sa) #[O])
  rwa [show sa+(j - sa)=j by lia,← zZ (val:=val) uH] at this
 by_cases sP:na - k=0
 ·rw [if_pos (by simpa using sP)];refine av (h nc tP qP (fun _ _=>by rw [sQ]) ?_);rw [sQ];intro p q h1 h2 h3;by_cases hq:q < sa+na
  ·exact sA p q h1 h2 hq
  ·by_cases hp:p < sa+na
   ·exact bY (yH p h1 #[O]) (sB sb q #[O] #[O] h3)
   ·exact sB p q #[O] h2 h3
 rw [if_neg (by simpa using sP)];have yI:sa+k+(na - k) - 1=sa+na - 1:=by lia
 rw [yI];obtain⟨x0,uI,CQ⟩:=hB.mem (i:=sa+na - 1) #[O];refine ar (zU uI (ar (zbh (arr:=arrOf st) hC tP.kind CQ (fun j hj=>vf (sb+j) #[O]) sB #[O] fun m uG p8 C2=>?_)));dsimp only;have vW:∀ j,sb+m≤j→j < sb+nb→Vk val (arrOf st) (sa+na - 1)≤Vk val (arrOf st) j:=fun j h1 h2=>by
  have:=zcC (C2 (j - sb) #[O] #[O])
  rwa [show sb+(j - sb)=j by lia,← zZ (val:=val) uI] at this
 have C3:∀ j,sb≤j→j < sb+m→Vk val (arrOf st) j < Vk val (arrOf st) (sa+na - 1):=fun j h1 h2=>by
  have:=zbY (p8 (j - sb) #[O])
  rwa [show sb+(j - sb)=j by lia,← zZ (val:=val) uI] at this
 by_cases hm0:m=0
 ·rw [if_pos (by simpa using hm0)];refine av (h nc tP qP (fun _ _=>by rw [sQ]) ?_);rw [sQ];intro p q h1 h2 h3;by_cases hq:q < sa+na
  ·exact sA p q h1 h2 hq
  ·by_cases hp:p < sa+na
   ·exact bY (sA p (sa+na - 1) h1 #[O] #[O]) (vW q #[O] h3)
   ·exact sB p q #[O] h2 h3
 rw [if_neg (by simpa using hm0)];have zx:(arrOf st).size=a₀.size:=yG;have z1:=zcR (xs:=arrOf st) (i:=sa+k) (j:=sb) #[O];have z2:=zcR (xs:=arrOf st) (i:=sb) (j:=sb+m) #[O];have hf:Vk val ((arrOf st).extract sb (sb+m)) 0≤Vk val ((arrOf st).extract (sa+k) sb) 0:=by
  rw [zah (zcD #[O] #[O]),zah (zcD (xs:=arrOf st) (i:=sa+k) (j:=sb) (k:=0) #[O] #[O])];have:=zdC (vV k (af _) #[O]);rw [← zZ (val:=val) uH] at this;simp only [eR] at this ⊢;lia
 have hl:∀ j,j < ((arrOf st).extract sb (sb+m)).size→Vk val ((arrOf st).extract sb (sb+m)) j≤Vk val ((arrOf st).extract (sa+k) sb) (((arrOf st).extract (sa+k) sb).size - 1):=by
  intro j hj;rw [z2] at hj;rw [z1,zah (zcD #[O] #[O]),zah (zcD (xs:=arrOf st) (i:=sa+k) (j:=sb) #[O] #[O])];have:=C3 (sb+j) #[O] #[O];rw [show sa+k+(sb - (sa+k) - 1)=sa+na - 1 by lia];lia
 have fin:∀ (out:Array Keyed) (g:Nat),Good val (((arrOf st).extract (sa+k) sb).toList++((arrOf st).extract sb (sb+m)).toList) out.toList →
   wpS (model prog w) A E s (do
    modify fun s=>setArr s (out.toList.zipIdx.foldl (fun a (p,j)=>a.setIfInBounds (sa+k+j) p) (arrOf s))
    let s' ← get
    pure (failedOf s').isNone) Q (zap nc g):=by
  intro out g hG;refine ar (er (ar (eX ?_)));have hms:out.size=sb+m - (sa+k):=by
   have:=hG.1.length_eq;rw [ao] at this;have e1:out.toList.length=out.size:=by simp
   have e2:((arrOf st).extract (sa+k) sb).toList.length=sb - (sa+k):=by rw [bp,z1]
   have e3:((arrOf st).extract sb (sb+m)).toList.length=sb+m - sb:=by rw [bp,z2]
   lia
  have pJ:=zlv (xs:=arrOf st) (sa:=sa+k) (sb:=sb) (e:=sb+m) #[O] #[O] #[O] hG.1;have mV:∀ n,(wb (sa+k) out.toList.zipIdx (arrOf st))[n]? = if sa+k≤n∧n < sb+m then out[n - (sa+k)]? else (arrOf st)[n]?:=fun n=>by
   have:=zkb (sa+k) out.toList 0 (arrOf st) n (by rw [bp]; lia);rw [bp,eR,hms,show sa+k+(sb+m - (sa+k))=sb+m by lia,bn] at this;exact this
  have x8:(failedOf (setArr (zap nc g) (wb (sa+k) out.toList.zipIdx (arrOf st)))).isNone=true:=by
   show (failedOf nc).isNone=true;rw [tP.failed];rfl
  have C4:arrOf (zap nc g)=arrOf st:=sQ;show wpS _ _ _ _ (pure (failedOf (setArr (zap nc g) (wb (sa+k) out.toList.zipIdx (arrOf (zap nc g))))).isNone) Q (setArr (zap nc g) (wb (sa+k) out.toList.zipIdx (arrOf (zap nc g))));rw [C4,x8];refine av (h _ ⟨pJ.trans hB.perm,tP.kind,tP.failed⟩ qP (fun n hn=>?_) ?_)
  ·show (wb (sa+k) out.toList.zipIdx (arrOf st))[n]? = _;rw [mV,if_neg #[O]]
  ·show SIn val (wb (sa+k) out.toList.zipIdx (arrOf st)) sa (sb+nb);have og:∀ n,sa+k≤n→n < sb+m→∃ q,sa+k≤q∧q < sb+m∧Vk val (wb (sa+k) out.toList.zipIdx (arrOf st)) n=Vk val (arrOf st) q:=fun n h1 h2=>by
    have ho:n - (sa+k) < out.size:=by lia
    have pN:out[n - (sa+k)]? = some out[n - (sa+k)]:=getElem?_pos out _ ho;have mL:out[n - (sa+k)]∈((arrOf st).extract (sa+k) sb).toList++((arrOf st).extract sb (sb+m)).toList:=hG.1.mem_iff.mp #[M];have hv:Vk val (wb (sa+k) out.toList.zipIdx (arrOf st)) n=val out[n - (sa+k)]:=zZ (by rw [mV,if_pos ⟨h1,h2⟩,pN]);rcases aK.mp mL with mL | mL
    ·obtain⟨q,q1,q2,q3⟩:=zdE #[O] mL;exact⟨q,q1,#[O],by rw [hv,zZ q3]⟩
    ·obtain⟨q,q1,q2,q3⟩:=zdE #[O] mL;exact⟨q,#[O],q2,by rw [hv,zZ q3]⟩
   have qp:∀ n,¬ (sa+k≤n∧n < sb+m)→Vk val (wb (sa+k) out.toList.zipIdx (arrOf st)) n=Vk val (arrOf st) n:=fun n hn=>zah (by rw [mV,if_neg hn])
   intro p q h1 h2 h3;by_cases hp:p < sa+k
   ·rw [qp p #[O]];by_cases hq:q < sa+k
    ·rw [qp q #[O]];exact sA p q h1 h2 #[O]
    ·have key:∀ q',sa+k≤q'→q' < sb+nb→Vk val (arrOf st) p≤Vk val (arrOf st) q':=fun q' a1 a2=>by
      by_cases qT:q' < sb
      ·exact sA p q' h1 #[O] #[O]
      ·exact bY (yH p h1 hp) (sB sb q' #[O] #[O] a2)
     by_cases nI:q < sb+m
     ·obtain⟨q',q1,q2,q3⟩:=og q #[O] nI;rw [q3];exact key q' q1 #[O]
     ·rw [qp q #[O]];exact key q #[O] h3
   ·by_cases pz:p < sb+m
    ·by_cases nI:q < sb+m
     ·have wW:p - (sa+k) < out.size:=by lia
      have pN:q - (sa+k) < out.size:=by lia
      rw [zZ (p:=out[p - (sa+k)]) (by rw [mV,if_pos #[O]]; exact getElem?_pos out _ wW),zZ (p:=out[q - (sa+k)]) (by rw [mV,if_pos #[O]]; exact getElem?_pos out _ pN)];by_cases Bn:p=q
      ·subst Bn;exact bT _
      ·have:=dF.mp hG.2 (p - (sa+k)) (q - (sa+k)) (by simpa using wW) (by simpa using pN) #[O];simpa using this
     ·obtain⟨p',p1,p2,p3⟩:=og p #[O] pz;rw [p3,qp q #[O]];by_cases qg:p' < sb
      ·exact bY (sA p' (sa+na - 1) #[O] #[O] #[O]) (vW q #[O] h3)
      ·exact sB p' q #[O] #[O] h3
    ·rw [qp p #[O],qp q #[O]];exact sB p q #[O] h2 h3
 have ma:∀ p∈((arrOf st).extract (sa+k) sb).toList,p∈a₀.toList:=fun p hp=>by
  obtain⟨q,q1,q2,q3⟩:=zdE #[O] hp;obtain⟨p',e,m'⟩:=vf q #[O];rw [q3] at e;cases e;exact m'
 have mb:∀ p∈((arrOf st).extract sb (sb+m)).toList,p∈a₀.toList:=fun p hp=>by
  obtain⟨q,q1,q2,q3⟩:=zdE #[O] hp;obtain⟨p',e,m'⟩:=vf q #[O];rw [q3] at e;cases e;exact m'
 have ss1:=zhZ (val:=val) (xs:=arrOf st) (i:=sa+k) (j:=sb) #[O] (sA.sub #[O] #[O]);have ss2:=zhZ (val:=val) (xs:=arrOf st) (i:=sb) (j:=sb+m) #[O] (sB.sub #[O] #[O]);by_cases hle:na - k≤m
 ·rw [if_pos hle];exact ar (ziT (a:=(arrOf st).extract (sa+k) sb) (b:=(arrOf st).extract sb (sb+m)) hC tP.kind ma mb ss1 ss2 #[O] #[O] hf hl fin)
 ·rw [if_neg hle];exact ar (ziU (a:=(arrOf st).extract (sa+k) sb) (b:=(arrOf st).extract sb (sb+m)) hC tP.kind ma mb ss1 ss2 #[O] #[O] hf hl fin)
end
end Srt
end
section
namespace Srt
open PySem PyProof.Rows
def Runs (val:Keyed→Int) (xs:Array Keyed):List (Nat×Nat×Nat)→Nat→Nat→Prop
 | [],lo,hi=>lo=hi
 | (s,n,_) :: r,lo,hi=>s=lo∧1≤n∧SIn val xs lo (lo+n)∧Runs val xs r (lo+n) hi
section
variable {val:Keyed→Int}
theorem Runs.le {xs:Array Keyed}:∀ {p:List (Nat×Nat×Nat)} {lo hi:Nat},Runs val xs p lo hi→lo+p.length≤hi
 | [],lo,hi,h=>by
  have h:lo=hi:=h;simp only [dR];lia
 | (s,n,w) :: r,lo,hi,h=>by
  obtain⟨_,h1,_,h2⟩:=h;have:=h2.le;simp only [bK];lia
theorem Runs.append {xs:Array Keyed}:∀ {p q:List (Nat×Nat×Nat)} {lo hi:Nat},Runs val xs (p++q) lo hi↔∃ mid,Runs val xs p lo mid∧Runs val xs q mid hi
 | [],q,lo,hi=>⟨fun h=>⟨lo,rfl,h⟩,fun ⟨mid,h1,h2⟩=>by
   have h1:lo=mid:=h1;subst h1;exact h2⟩
 | (s,n,w) :: p,q,lo,hi=>by
  constructor
  ·rintro⟨h1,h2,h3,h4⟩;obtain⟨mid,h5,h6⟩:=Runs.append.mp h4;exact⟨mid,⟨h1,h2,h3,h5⟩,h6⟩
  ·rintro⟨mid,⟨h1,h2,h3,h5⟩,h6⟩;exact⟨h1,h2,h3,Runs.append.mpr ⟨mid,h5,h6⟩⟩
theorem Runs.keep {xs ys:Array Keyed}:∀ {p:List (Nat×Nat×Nat)} {lo hi:Nat},Runs val xs p lo hi→(∀ k,lo≤k→k < hi→ys[k]? = xs[k]?)→Runs val ys p lo hi
 | [],lo,hi,h,_=>h
 | (s,n,w) :: p,lo,hi,h,e=>by
  obtain⟨h1,h2,h3,h4⟩:=h;have:=h4.le;refine⟨h1,h2,fun i j a b c=>?_,h4.keep fun k a b=>e k #[O] b⟩;rw [zah (e i #[O] #[O]),zah (e j #[O] #[O])];exact h3 i j a b c
theorem zkc {α:Type} (p q:List α) (x y v:α):((p++x :: y :: q).toArray.setIfInBounds p.length v).eraseIdxIfInBounds (p.length+1)=(p++v :: q).toArray:=by
 simp [Array.eraseIdxIfInBounds];rw [List.eraseIdx_append_of_length_le #[O],show p.length+1 - p.length=1 by lia];rfl
theorem zkd {α:Type} (q:List α) (z:α) (f:α→α):(q++[z]).toArray.modify ((q++[z]).toArray.size - 1) f=(q++[f z]).toArray:=by
 apply Array.ext';simp;induction q with
 | nil=>rfl
 | cons a q ih =>
  show (a :: (q++[z])).modify (q.length+1) f=a :: (q++[f z]);rw [List.modify_succ_cons,ih]
theorem zh0 {xs:Array Keyed} {p:List (Nat×Nat×Nat)} {n:Nat} (hl:p.length≤1) (hn:1≤n) (h:Runs val xs p 0 n):SIn val xs 0 n:=by
 match p,hl,h with
 | [],_,h =>
  have h:0=n:=h;lia
 | [(a,b,c)],_,h =>
  obtain⟨_,_,h3,h4⟩:=h;have h4:0+b=n:=h4;rw [← h4];exact h3
 | _ :: _ :: _,hl,_=>simp at hl
theorem ziX {α:Type} {p:List α} {j:Nat} (h:j+2≤p.length):∃ pre x y post,p=pre++x :: y :: post∧pre.length=j:=by
 refine⟨p.take j,p[j],p[j+1],p.drop (j+2),?_,by rw [aI]; lia⟩;have e1:=(b7 j p).symm;rw [cp (show j < p.length by lia),cp (show j+1 < p.length by lia)] at e1;exact e1
end
section
variable {prog:Program} {w:World} {A:Around} {E:Value→Shared→Prop} {s:Shared} {a₀:Array Keyed} {κ:SortKind} {val:Keyed→Int}
theorem zgl {st:SortSt} {pre post:List (Nat×Nat×Nat)} {x y:Nat×Nat×Nat} {hi:Nat} {Q:Bool→SortSt→Prop} (hC:Cmp prog w A s κ val a₀) (hB:SB κ a₀ st) (hp:pendingOf st=(pre++x :: y :: post).toArray) (hR:Runs val (arrOf st) (pre++x :: y :: post) 0 hi) (vd:hi≤a₀.size)
  (h:∀ kX v,SB κ a₀ kX→pendingOf kX=(pre++v :: post).toArray→(∀ k,hi≤k→(arrOf kX)[k]? = (arrOf st)[k]?)→Runs val (arrOf kX) (pre++v :: post) 0 hi→Q true kX) :
  wpS (model prog w) A E s (mergeAt' pre.length) Q st:=by
 obtain⟨sa,na,pw⟩:=x;obtain⟨sb,nb,pw2⟩:=y;obtain⟨mid,r1,r2⟩:=Runs.append.mp hR;obtain⟨rfl,q1,q2,rfl,q4,q5,r3⟩:=r2;have hle:=r3.le;refine ziW (i:=pre.length) (sa:=sa) (na:=na) (pw:=pw) (sb:=sa+na) (nb:=nb) (pw2:=pw2) hC hB (by rw [hp]; simp) (by rw [hp]; simp) rfl q1 q4 #[O] q2 q5 fun kX ni qg hk hs=>?_
 refine h kX (sa,na+nb,pw) ni (by rw [qg,hp,zkc]) (fun k uE=>hk k #[O]) ?_;refine Runs.append.mpr ⟨sa,r1.keep fun k _ b=>hk k #[O],rfl,#[O],?_,?_⟩
 ·rw [← Nat.add_assoc];exact hs
 ·rw [← Nat.add_assoc];exact r3.keep fun k a b=>hk k #[O]
theorem zlw {n:Nat} {c:Prop} [Decidable c] (h:¬ n≤1):(if c then n - 2 - 1 else n - 2)+2≤n:=by
 by_cases hc:c
 ·rw [if_pos hc];lia
 ·rw [if_neg hc];lia
theorem zke {st:SortSt} {p:List (Nat×Nat×Nat)} {j hi:Nat} {Q:Bool→SortSt→Prop} (hj:j+2≤p.length) (hC:Cmp prog w A s κ val a₀) (hB:SB κ a₀ st) (hp:pendingOf st=p.toArray) (hR:Runs val (arrOf st) p 0 hi) (vd:hi≤a₀.size)
  (h:∀ kX p',SB κ a₀ kX→pendingOf kX=p'.toArray→Runs val (arrOf kX) p' 0 hi→p'.length+1=p.length→Q true kX):wpS (model prog w) A E s (mergeAt' j) Q st:=by
 obtain⟨pre,x,y,post,rfl,rfl⟩:=ziX hj;exact zgl hC hB hp hR vd fun kX v a b _ d=>h kX _ a b d (by simp only [ao,bK]; lia)
theorem zm7 {st:SortSt} {Q:Unit→SortSt→Prop} (hC:Cmp prog w A s κ val a₀) (hB:SB κ a₀ st) (hp:pendingOf st = #[]) (h2:1≤a₀.size)
  (h:∀ kX,SB κ a₀ kX→SIn val (arrOf kX) 0 a₀.size→Q () kX):wpS (model prog w) A E s sortRuns' Q st:=by
 rw [sortRuns'_eq];refine ar (eX ?_);dsimp only;rw [hB.size];generalize minRun' a₀.size a₀.size 0=mr;refine ar (dm (cB (I:=fun x c kX=>∃ lo p,c=(none,lo)∧SB κ a₀ kX∧pendingOf kX=p.toArray∧Runs val (arrOf kX) p 0 lo∧lo≤a₀.size∧min x a₀.size≤lo)
  (Q:=fun c kX=>∃ p,c=(none,a₀.size)∧SB κ a₀ kX∧pendingOf kX=p.toArray∧Runs val (arrOf kX) p 0 a₀.size) ?step ?fin ⟨0,[],rfl,hB,hp,rfl,#[O],#[O]⟩) ?post)
 case fin =>
  rintro c kX ⟨lo,p,rfl,ni,qg,hR,ph,hx⟩;have:lo=a₀.size:=by lia
  subst this;exact⟨p,rfl,ni,qg,hR⟩
 case step =>
  rintro x c kX _ hx ⟨lo,p,rfl,ni,qg,hR,ph,C5⟩;dsimp only;by_cases oE:lo≥a₀.size
  ·rw [if_pos oE];have:lo=a₀.size:=by lia
   subst this;exact av ⟨p,rfl,ni,qg,hR⟩
  rw [if_neg oE];refine ar (zlq hC #[O] #[O] (SF.refl ni) fun m nc hF1 uG p8 hs1=>?_);dsimp only;apply zoD
  ·intro k1 k2;by_cases C6:m < mr
   ·rw [if_pos C6]
    (refine ar (fX (cg ⟨rfl,?_⟩)))
    refine ar (zn8 hC #[O] #[O] hF1 hs1 fun lT vX m9=>?_);rw [if_neg #[D]];have rL:1≤min (a₀.size - lo) mr:=by lia
    have pF:lo+min (a₀.size - lo) mr≤a₀.size:=by lia
    generalize min (a₀.size - lo) mr=n at m9 rL pF ⊢
    revert pF; revert rL; revert m9; revert vX; revert lT; revert n
    exact k1 ()
   ·rw [if_neg C6];have pF:lo+m≤a₀.size:=by lia
    clear p8 C6
    revert pF; revert uG; revert hs1; revert hF1; revert nc; revert m
    exact k2 ()
  intro n lT vX m9 rL pF;refine ar (eX ?_);have qP:pendingOf lT=p.toArray:=vX.pend.trans qg;have xK:Runs val (arrOf lT) p 0 lo:=hR.keep fun k _ b=>vX.low k b
  rcases iP p with rfl | ⟨q,z,rfl⟩
  ·rw [qP];show wpS _ _ _ _ (do
    modify fun s=>setPending s ((pendingOf s).push (lo,n,0)); pure (cn (none,lo+n))) _ _
   refine ar (er (av ⟨lo+n,[(lo,n,0)],rfl,⟨vX.b.perm,vX.b.kind,vX.b.failed⟩,?_,?_,#[O],#[O]⟩))
   ·show (pendingOf lT).push _=_;rw [qP];rfl
   ·have h0:0=lo:=xK;subst h0;exact⟨rfl,rL,m9,rfl⟩
  obtain⟨s1,n1,w1⟩:=z;rw [qP,fA,show ((q++[(s1,n1,w1)]).toArray).back? = some (s1,n1,w1) by simp];rw [fA] at qP xK;dsimp only;generalize power' a₀.size (2*s1+n1) (2*s1+n1+n1+n) a₀.size=pw;refine ar (dm (cB (I:=fun _ c kX=>c=(none,())∧∃ q' z,SB κ a₀ kX∧pendingOf kX=(q'++[z]).toArray∧Runs val (arrOf kX) (q'++[z]) 0 lo∧(∀ k,lo≤k→(arrOf kX)[k]? = (arrOf lT)[k]?))
   (Q:=fun c kX=>c=(none,())∧∃ q' z,SB κ a₀ kX∧pendingOf kX=(q'++[z]).toArray∧Runs val (arrOf kX) (q'++[z]) 0 lo∧(∀ k,lo≤k→(arrOf kX)[k]? = (arrOf lT)[k]?)) ?_ (fun _ _ hh=>hh) ⟨rfl,q,(s1,n1,w1),vX.b,qP,xK,fun _ _=>rfl⟩) ?_)
  ·rintro x2 c lT _ pv ⟨rfl,q',z,qr,pz,tQ,qi⟩;refine ar (eX ?_);rcases iP q' with rfl | ⟨q2,y,rfl⟩
   ·rw [pz,if_neg #[M]];exact av ⟨rfl,[],z,qr,pz,tQ,qi⟩
   rw [fA,bj] at pz tQ;have esz:(pendingOf lT).size - 2=q2.length:=by rw [pz]; simp
   have eel:(if (pendingOf lT).size > 1 then (pendingOf lT)[(pendingOf lT).size - 2]? else none)=some y:=by
    rw [if_pos (by rw [pz]; simp),esz,pz];simp
   rw [eel];obtain⟨y1,y2,y3⟩:=y;dsimp only;by_cases ho:y3≤pw
   ·rw [if_pos ho];exact av ⟨rfl,q2++[(y1,y2,y3)],z,qr,by rw [pz,bj],by rw [bj]; exact tQ,qi⟩
   ·rw [if_neg ho,esz];refine ar (zgl hC qr pz tQ #[O] fun A0 v C7 uJ vV C8=>?_);rw [if_neg #[D]];exact av ⟨rfl,q2,v,C7,uJ,C8,fun k hk=>(vV k hk).trans (qi k hk)⟩
  ·rintro c lT ⟨rfl,q',z,qr,pz,tQ,qi⟩;obtain⟨z1,z2,z3⟩:=z;dsimp only;refine ar (er (ar (er (av ⟨lo+n,q'++[(z1,z2,pw),(lo,n,0)],rfl,⟨qr.perm,qr.kind,qr.failed⟩,?_,?_,#[O],#[O]⟩))))
   ·show ((pendingOf lT).modify ((pendingOf lT).size - 1) fun x=>(x.fst,x.2.fst,pw)).push (lo,n,0)=_;rw [pz,zkd];simp
   ·show Runs val (arrOf lT) _ _ _;obtain⟨mid,r1,r2⟩:=Runs.append.mp tQ;obtain⟨e1,e2,e3,e4⟩:=r2;have e4:mid+z2=lo:=e4;refine Runs.append.mpr ⟨mid,r1,e1,e2,e3,e4.symm,rL,?_,?_⟩
    ·intro i j a1 a2 a3;rw [zah (qi i #[O]),zah (qi j #[O])];exact m9 i j #[O] a2 #[O]
    ·show mid+z2+n=lo+n;lia
 case post =>
  rintro c nc ⟨p,rfl,tP,qP,xK⟩;dsimp only;have mq:=xK.le;refine ar (dm (cB (I:=fun x c kX=>c=(none,())∧∃ p,SB κ a₀ kX∧pendingOf kX=p.toArray∧Runs val (arrOf kX) p 0 a₀.size∧p.length≤max 1 (a₀.size - x))
   (Q:=fun c kX=>c=(none,())∧SB κ a₀ kX∧SIn val (arrOf kX) 0 a₀.size) ?_ ?_ ⟨rfl,p,tP,qP,xK,#[O]⟩) ?_)
  ·rintro x c lT _ hx ⟨rfl,p2,qr,pz,tQ,qL⟩;refine ar (eX ?_);have hsz:(pendingOf lT).size=p2.length:=by rw [pz]; simp
   rw [hsz];by_cases hle:p2.length≤1
   ·rw [if_pos hle];exact av ⟨rfl,qr,zh0 hle h2 tQ⟩
   rw [if_neg hle];refine ar (zke (p:=p2) (zlw hle) hC qr pz tQ (af _) fun A0 p3 C7 uJ C8 hl3=>?_);rw [if_neg #[D]];exact av ⟨rfl,p3,C7,uJ,C8,#[O]⟩
  ·rintro c lT ⟨rfl,p2,qr,pz,tQ,qL⟩;exact⟨rfl,qr,zh0 #[O] h2 tQ⟩
  ·rintro c lT ⟨rfl,qr,hS⟩;exact av (h lT qr hS)
end
end Srt
end
section
namespace Srt
open PySem PyProof.Rows
def num (B:Int):List Int→Int
 | []=>0
 | n :: r=>n*B ^ r.length+num B r
theorem num_rng {B:Int} (hB:1≤B):∀ {ns:List Int},(∀ n∈ns,0≤n∧n < B)→0≤num B ns∧num B ns < B ^ ns.length
 | [],_=>by simp [num]
 | n :: r,h=>by
  obtain⟨h1,h2⟩:=num_rng hB (ns:=r) fun m hm=>h m (aj _ hm)
  obtain⟨a,b⟩:=h n #[M];have hp:0 < B ^ r.length:=Int.pow_pos #[O];have e:B ^ (n :: r).length=B ^ r.length*B:=by rw [bK,fK]
  show 0≤n*B ^ r.length+num B r∧n*B ^ r.length+num B r < _;rw [e];have h3:0≤n*B ^ r.length:=ky a #[O];have h4:n*B ^ r.length≤(B - 1)*B ^ r.length:=cq #[O] #[O];have h5:(B - 1)*B ^ r.length=B ^ r.length*B - B ^ r.length:=by rw [Int.sub_mul,iJ,eS]
  lia
def zdq:List Int→List Int→Bool
 | [],[]=>false
 | [],_ :: _=>true
 | _ :: _,[]=>false
 | x :: xs,y :: ys=>if x=y then zdq xs ys else decide (x < y)
theorem zbq (x y:Int) (xs ys:List Int):zdq (x :: xs) (y :: ys)=if x=y then zdq xs ys else decide (x < y):=rfl
theorem zdF {B:Int} (hB:1≤B):∀ {ms ns:List Int},ms.length=ns.length→(∀ n∈ms,0≤n∧n < B)→(∀ n∈ns,0≤n∧n < B)→zdq ms ns=decide (num B ms < num B ns)
 | [],[],_,_,_=>by simp [zdq,num]
 | [],_ :: _,h,_,_=>by simp at h
 | _ :: _,[],h,_,_=>by simp at h
 | m :: ms,n :: ns,hl,h1,h2=>by
  have rE:ms.length=ns.length:=by simpa using hl
  have ih:=zdF hB rE (fun x hx=>h1 x (aj _ hx)) (fun x hx=>h2 x (aj _ hx));obtain⟨a1,a2⟩:=num_rng hB fun x hx=>h1 x (aj m hx)
  obtain⟨b1,b2⟩:=num_rng hB fun x hx=>h2 x (aj n hx)
  rw [zbq];show _=decide (m*B ^ ms.length+num B ms < n*B ^ ns.length+num B ns);rw [rE] at a2 ⊢;have hp:0 < B ^ ns.length:=Int.pow_pos #[O];by_cases e:m=n
  ·rw [if_pos e,ih,e];rw [cf];simp only [decide_eq_true_eq];lia
  ·rw [if_neg e,cf];simp only [decide_eq_true_eq];have key:∀ x y:Int,x < y→x*B ^ ns.length+B ^ ns.length≤y*B ^ ns.length:=fun x y hxy=>by
    have:=cq (show x+1≤y by lia) (show 0≤B ^ ns.length by lia);rw [Int.add_mul,iJ] at this;exact this
   constructor
   ·intro h;have:=key m n h;lia
   ·intro h;rcases jL m n with h3 | h3 | h3
    ·exact h3
    ·exact absurd h3 e
    ·have:=key n m h3;lia
section
variable {prog:Program} {w:World} {A:Around} {E:Value→Shared→Prop} {s:Shared}
theorem zh1 {Q:Bool→Shared→Prop} {fin:Bool}:∀ {xs ys:List Value} {ms ns:List Int} (i:Nat),IntsAre xs ms→IntsAre ys ns→ms.length=ns.length→Q (if ms=ns then fin else zdq ms ns) s→kz prog w A true fin Q (xs.zip ys) i s
 | [],[],[],[],i,_,_,_,h=>ko (by simpa using h)
 | _ :: _,_,[],_,_,hx,_,_,_=>by cases hx
 | [],_,_ :: _,_,_,hx,_,_,_=>by cases hx
 | _,[],_,_ :: _,_,_,hy,_,_=>by cases hy
 | _,_ :: _,_,[],_,_,hy,_,_=>by cases hy
 | x :: xs,y :: ys,m :: ms,n :: ns,i,hx,hy,hl,h=>by
  cases hx with
  | cons _ t hx =>
   cases hy with
   | cons _ u hy =>
    refine j4 (wpAny_eqBool_int ?_);by_cases e:m=n
    ·rw [show (m == n)=true by simpa using e];refine kq (zh1 (i+1) hx hy (by simpa using hl) ?_);subst e;rw [zbq,if_pos rfl] at h;simpa using h
    ·rw [show (m == n)=false by simpa using e];have lY:¬ (m :: ms=n :: ns):=fun z=>e (fq z).1
     rw [if_neg lY,zbq,if_neg e] at h;refine kA ?_;by_cases hi:i=0
     ·subst hi;exact oneLt_int h
     ·have hb:(true && i == 0)=false:=by simp [hi]
      rw [hb];exact kr _ _ (wpAny_lt_int h)
end
end Srt
end
section
namespace PySem
open PyProof.Rows
def zec (h:Heap) (d:Addr) (es:Array DictEntry) (ep:Nat):Prop:=∃ o,h.get? d=some o∧o.ExactDict∧o.data = .dict es ep
theorem zec.at' {h h':Heap} {d:Addr} {es:Array DictEntry} {ep:Nat} (x:zec h d es ep) (e:∀ o,h.get? d=some o→h'.get? d=some o):zec h' d es ep:=let ⟨o,ho,r⟩:=x; ⟨o,e _ ho,r⟩
theorem zec.typeIs {s:Shared} {d:Addr} {es:Array DictEntry} {ep:Nat} (x:zec s.heap d es ep):s.TypeIs (.ref d) "dict":=let ⟨o,ho,hc,_⟩:=x; ⟨o,ho,hc.1⟩
section
variable {prog:Program} {w:World} {A:Around} {E:Value→Shared→Prop} {s:Shared} {it d:Addr} {i ep:Nat} {es:Array DictEntry}
theorem zkf {Q:Value→Shared→Prop} (hd:(d == sysModules)=false) (hm:zec s.heap d es ep) (hQ:Q (.ref s.heap.objs.size) { s with heap:=s.heap.push { cls:=.type "dict_keyiterator",data:=.fields #[.ref d,.int 0 0,.int es.size 0,.int ep 0] } }):wpAny (model prog w) A (pyIter (.ref d)) Q E s:=by
 have hT:=hm.typeIs;obtain⟨o,ho,hc,yJ⟩:=id hm;refine gC hT j5 (be j5 hT F.entry_dict_iter ?_ (F.args_dict_iter_1 _)); unfold Builtin.«dict.__iter__» Builtin.Dict.dictSlotNone;refine ae (ae (wpAny_notOrdered_dict hT ?_)); show wpAny _ _ (pure (aO d)) _ _ s;refine ai ?_; show wpAny _ _ (iQ d >>= _) _ _ s; unfold iQ;rw [if_neg (show ¬ ((d == sysModules)=true) by rw [hd]; decide)];refine ae (ai (ae (gE ho yJ (ae (iw ho yJ (ae (bu (ai ⟨_,rfl,"dict_keyiterator",_,⟨_,aG _ rfl,rfl⟩,F.slot_dict_keyiterator_next.lookup,?_⟩))))))));simpa [rawInt] using hQ
theorem zkg {e:DictEntry} {Q:Option Value→Shared→Prop} (hit:s.heap.IsKeyIter it d i es.size ep) (hm:zec s.heap d es ep) (he:es[i]? = some e)
  (hQ:∀ h',h'.IsKeyIter it d (i+1) es.size ep→bg it s.heap h'→Q (some e.key) { s with heap:=h' }):wpAny (model prog w) A (pyNext (.ref it)) Q E s:=by
 (obtain⟨o,ho,hc,hd⟩:=id hit)
 obtain⟨od,yK,qF,yL⟩:=id hm;have lF:i < es.size:=(cL.mp he).1;have wX:fY "dict_keyiterator" = false:=by decide +kernel
 unfold pyNext; refine ae (cK (ba (name:=bL "__next__") hit.typeIs dn (be dn hit.typeIs fN ?_ (fL _))));refine ae (ai (ae (ae (ae (de hit.typeIs (ai (ae (wpAny_fieldsOf ho hd ?_))))))));simp only [wX,bm,if_false]; show wpAny _ _ (if (aO d == dq)=true then _ else _) _ _ s;rw [if_neg (show ¬ ((aO d == dq)=true) from fun z=>aL z)];refine ae (ai (ae (gE yK yL ?_)));rw [if_neg (show ¬ ((((es.size:Nat):Int) != ((es.size:Nat):Int))=true) by simp)];refine ae (ai (ae (iw yK yL ?_)));rw [if_neg #[M]]; refine ai ?_;simp only [show ¬ ((i:Int) < 0) by lia,if_false,bz,he];refine ae (ae (de hit.typeIs (ai (ae (iR hit.typeIs ?_)))));show wpAny _ _ (setField (.ref it) 1 (rawInt ((i:Int)+1)) >>= _) _ _ s; refine ae (dH ho hd #[M] ?_);have qM:(s.heap.update it (gk (·.setIfInBounds 1 (rawInt ((i:Int)+1))))).IsKeyIter it d (i+1) es.size ep:=⟨_,dz _ ho (d9 (cP hd _)),(gB ..).trans hc,by rw [cP hd]; simp [rawInt]⟩;refine ae (bP (ae (iR (s:={ s with heap:=s.heap.update it (gk (·.setIfInBounds 1 (rawInt ((i:Int)+1)))) }) qM.typeIs ?_)));show wpAny _ _ (pure e.key) _ _ _; exact ai (ai ⟨_,rfl,ai (hQ _ qM (cI ..))⟩)
theorem zlx {Q:Option Value→Shared→Prop} (hh:A.handled=none) (hit:s.heap.IsKeyIter it d i es.size ep) (hm:zec s.heap d es ep) (he:es.size≤i) (hQ:∀ h',jS it s.heap h'→Q none { s with heap:=h' }):wpAny (model prog w) A (pyNext (.ref it)) Q E s:=by
 (obtain⟨o,ho,hc,hd⟩:=id hit)
 obtain⟨od,yK,qF,yL⟩:=id hm;have wX:fY "dict_keyiterator" = false:=by decide +kernel
 unfold pyNext; refine ae (cK (ba (name:=bL "__next__") hit.typeIs dn (be dn hit.typeIs fN ?_ (fL _))));refine ae (ai (ae (ae (ae (de hit.typeIs (ai (ae (wpAny_fieldsOf ho hd ?_))))))));simp only [wX,bm,if_false]; show wpAny _ _ (if (aO d == dq)=true then _ else _) _ _ s;rw [if_neg (show ¬ ((aO d == dq)=true) from fun z=>aL z)];refine ae (ai (ae (gE yK yL ?_)));rw [if_neg (show ¬ ((((es.size:Nat):Int) != ((es.size:Nat):Int))=true) by simp)];refine ae (ai (ae (iw yK yL ?_)));rw [if_neg #[M]]; refine ai ?_;simp only [show ¬ ((i:Int) < 0) by lia,if_false,bz,Array.getElem?_eq_none he];refine ae (ae (de hit.typeIs (ai ?_)));show wpAny _ _ (setField (.ref it) 0 .none >>= _) _ _ s; refine ae (dH ho hd #[M] ?_);show wpAny _ _ (newExc (.type "StopIteration") [] >>= _) _ _ _; simp only [newExc,newTuple];refine ae (ae (bu (ae (m:=firstArgMember _ _) (dZ (a:=dq) (by first | rfl | (simp only [firstArgMember]; rfl)) (bu ?_ (by size_fits)))) (by size_fits)));simp only [raiseNew]; refine ae (ja ?_); rw [show A.in1.handled=none from hh];refine ae (ai (jT ?_)); refine ae (ek (T:="StopIteration") (b:=true) ⟨_,aG _ rfl,rfl⟩ fT ?_)
 (exact ai (hQ _ (((cI ..).extBut.push _).push _)))
theorem ziY (hh:A.handled=none) (I d:Addr) (lY:d≠I) (es:Array DictEntry) (ep:Nat) :
  Walks prog w A I [I,d] [I] es.size (fun i v=>∃ e,es[i]? = some e∧v=e.key) (fun i h=>h.IsKeyIter I d i es.size ep∧zec h d es ep) where
 sub:=(fun b hb=>by simp at hb; simp [hb])
 frame:=(fun _ _ _ st hk=>⟨st.1.at fun o e=>hk I #[M] o e,st.2.at' fun o e=>hk d #[M] o e⟩)
 item:=fun i s Q E hi st hQ=>zkg st.1 st.2 (getElem?_pos es i hi) fun h' qM ng=>hQ _ h' s.toks ⟨es[i],getElem?_pos es i hi,rfl⟩ ⟨qM,st.2.at' fun o e=>ng.extBut d o lY e⟩ fun b o hb e=>ng.extBut b o (fun h=>hb (by simp [h])) e
 done:=fun s Q E st hQ=>zlx hh st.1 st.2 (af _) fun h' vQ=>hQ h' s.toks fun b o hb e=>vQ b o (fun h=>hb (by simp [h])) e
 self:=(fun _ _ _ _ st hQ=>wpAny_pyIter_keyiter st.1 hQ)
theorem zly (lo:(d == sysModules)=false):PySem.W.KdlSrc prog w "dict" d d es.size (fun i v=>∃ e,es[i]? = some e∧v=e.key) (fun h=>zec h d es ep) where
 type:=fun _ hm=>hm.typeIs
 there:=fun _ hm=>let ⟨_,ho,_⟩:=hm; ⟨aF ho,aF ho⟩
 keep:=(fun _ _ hm hk=>hm.at' fun o e=>hk d (.inl rfl) o e)
 notList:=by decide
 notTuple:=by decide
 hint:=fun _ _ _ _ hm hq=>PySem.W.kdl_hint_dict hm.typeIs hq
 iter:=fun _ _ hh hm=>⟨_,_,(fun _ _ hq=>zkf lo hm hq),ziY hh _ d (by obtain⟨_,ho,_⟩:=id hm; exact bf (aF ho)) es ep,⟨⟨_,aG _ rfl,rfl,rfl⟩,hm.at' fun o e=>ah _ e⟩⟩
end
end PySem
end
section
namespace Srt
open PySem PyProof.Rows
section
variable {prog:Program} {w:World} {A:Around} {E:Value→Shared→Prop} {s:Shared} {κ:SortKind} {val:Keyed→Int}
theorem zbL {vs:List Value} {p:Keyed} (h:p∈(pairsOf vs).toList):p.1∈vs∧p.2=p.1:=by
 rw [iS] at h;obtain⟨i,hi,e⟩:=dO h;rw [List.getElem_zip] at e;rw [← e];exact⟨gX _,rfl⟩
theorem zm8 {vs:List Value} {xs:Array Keyed} (hp:xs.Perm (pairsOf vs)) (hs:SIn val xs 0 (pairsOf vs).size):(xs.map (·.2)).toList.Perm vs∧(xs.map (·.2)).toList.Pairwise fun x y=>val (x,x)≤val (y,y):=by
 (have hl:xs.toList.Perm (vs.zip vs):=by rw [← iS]; exact eF.mp hp)
 have hm:∀ p∈xs.toList,p=(p.2,p.2):=fun p qg=>by
  have:=zbL (by rw [iS]; exact hl.mem_iff.mp qg);exact kL this.2.symm rfl
 constructor
 ·rw [j6];refine (hl.map (·.2)).trans ?_;rw [show (vs.zip vs).map (·.2)=vs from List.map_snd_zip (af _)]
 ·rw [j6,bC,dF];intro i j hi hj pf
  (have nK:i < xs.size:=by simpa using hi)
  (have oB:j < xs.size:=by simpa using hj)
  have h1:=hs i j (bh _) #[O] (by rw [← hp.size_eq]; exact oB);rw [zZ (getElem?_pos xs i nK),zZ (getElem?_pos xs j oB)] at h1;have e1:=hm xs.toList[i] (gX _);have e2:=hm xs.toList[j] (gX _);rw [← e1,← e2];simpa using h1
theorem ze2 {a:Addr} {vs:List Value} {n:Nat} {P:PySem.Fin→Shared→Prop} (ho:s.heap.get? a=some (seqObj "list" vs.toArray n)) (kY:vs.length≤sizeLine)
  (oz:∀ h',(∀ b o,b≠a→s.heap.get? b=some o→h'.get? b=some o)→2≤vs.length→∀ (Q:SortKind→Shared→Prop) (E:Value→Shared→Prop),Q κ { s with heap:=h' }→wpAny (model prog w) A (keyKind' vs.toArray) Q E { s with heap:=h' })
  (tR:∀ h',(∀ b o,b≠a→s.heap.get? b=some o→h'.get? b=some o)→Cmp prog w A { s with heap:=h' } κ val (pairsOf vs))
  (h:∀ out:Array Value,out.toList.Perm vs→(out.toList.Pairwise fun x y=>val (x,x)≤val (y,y))→P (.done (.ret .none)) { s with heap:=sortedHeap s.heap a vs out }):wpAny (model prog w) A (Builtin.«list.sort» ⟨[.ref a],[]⟩) P E s:=by
 rw [list_sort_plain]
 (have ha:a < s.heap.objs.size:=aF ho)
 have hz:vs.toArray.size=vs.length:=am;refine ae (listItems_at ho rfl (ae (jc ho rfl ?_ (hsz:=by rw [hz]; exact kY))))
 (obtain⟨e1,wW⟩:∃ e1,(s.heap.update a (cU fun _=>#[])).get? a=some (seqObj "list" #[] e1):=⟨_,get?_update_seq ho (fun _=>#[])⟩)
 refine ae (jV wW rfl (ae (fW (ae (jd (bP ?_))) (hsz:=kY))));have Bo:(((s.heap.update a (cU fun _=>#[])).push (seqObj "tuple" vs.toArray 0)).push (seqObj "list" #[] 0)).get? a=some (seqObj "list" #[] e1):=ah _ (ah _ wW);have hk6:∀ b o,b≠a→s.heap.get? b=some o→(((s.heap.update a (cU fun _=>#[])).push (seqObj "tuple" vs.toArray 0)).push (seqObj "list" #[] 0)).get? b=some o:=fun b o hb e=>ah _ (ah _ ((ji _ _ _ _ hb).trans e))
 (show wpAny (model prog w) A _ P E { s with heap:=((s.heap.update a (cU fun _=>#[])).push (seqObj "tuple" vs.toArray 0)).push (seqObj "list" #[] 0) })
 dsimp only;have xM:=tR _ hk6;have fin:∀ kX:SortSt,SB κ (pairsOf vs) kX∨(arrOf kX=pairsOf vs∧failedOf kX=none)→SIn val (arrOf kX) 0 (pairsOf vs).size →
   P (.done (.ret .none)) { s with heap:=sortedHeap s.heap a vs ((arrOf kX).map (·.2)) }:=fun kX hB hs=>by
  have hp:(arrOf kX).Perm (pairsOf vs):=by
   rcases hB with hB | hB
   ·exact hB.perm
   ·rw [hB.1]
  obtain⟨b1,b2⟩:=zm8 hp hs;exact h _ b1 b2
 (by_cases h2:vs.toArray.size < 2)
 ·rw [if_pos h2,if_pos h2];refine ae (ai ?_); rw [StateT.run_pure]; refine ae (ai ?_);dsimp only;refine ae (jV Bo rfl (ae (jc Bo rfl ?_ (hsz2:=by rw [kB]; show (pairsOf vs).size≤_; rw [gZ]; lia))))
  (simp only [bne_self_eq_false,bm,if_false])
  refine ai (fin (km general' (vs.toArray.zip vs.toArray) #[] 7 none) (.inr ⟨rfl,rfl⟩) fun i j _ pf hj=>?_);have e:i=j:=by rw [gZ] at hj; lia
  rw [e];exact bT _
 ·rw [if_neg h2,if_neg h2];refine ae (oz _ hk6 #[O] _ _ ?_);refine ae (cE (zm7 (a₀:=pairsOf vs) (κ:=κ) (val:=val) (st:=km κ (vs.toArray.zip vs.toArray) #[] 7 none) (Q:=fun _ kX=>SB κ (pairsOf vs) kX∧SIn val (arrOf kX) 0 (pairsOf vs).size)
   xM ⟨Array.Perm.refl _,rfl,rfl⟩ rfl (by rw [gZ]; lia) fun kX a1 a2=>⟨a1,a2⟩) ?_ fun _ _ e=>e)
  rintro⟨⟨⟩,kX⟩ s' ⟨rfl,hB,hs⟩;dsimp only;refine ae (jV Bo rfl (ae (jc Bo rfl ?_ (hsz2:=aU (Nat.le_of_eq ((kB ..).trans (hB.perm.size_eq.trans (gZ _)))) #[O]))));rw [hB.failed]
  (simp only [bne_self_eq_false,bm,if_false])
  exact ai (fin kX (.inl hB) hs)
theorem ziZ {v:Value} {vs:List Value} {Q:Value→Shared→Prop} (kY:vs.length≤sizeLine)
  (tS:∀ R:List Value→Shared→Prop,(∀ (h':Heap) (tk:Nat),(∀ b o,s.heap.get? b=some o→h'.get? b=some o)→R vs { s with heap:=h',toks:=tk })→wpAny (model prog w) A.in1 (collect v) R E s)
  (oz:∀ s',(∀ b o,s.heap.get? b=some o→s'.heap.get? b=some o)→2≤vs.length→∀ (A':Around) (Q:SortKind→Shared→Prop) (E:Value→Shared→Prop),Q κ s'→wpAny (model prog w) A' (keyKind' vs.toArray) Q E s')
  (tR:∀ s' A',(∀ b o,s.heap.get? b=some o→s'.heap.get? b=some o)→Cmp prog w A' s' κ val (pairsOf vs))
  (h:∀ (h':Heap) (tk:Nat) (out:Array Value) (e:Nat) (D:Addr),(∀ b o,s.heap.get? b=some o→h'.get? b=some o)→(∀ b o,s.heap.get? b=some o→b < D)→h'.get? D=some (seqObj "list" out e)→out.toList.Perm vs→(out.toList.Pairwise fun x y=>val (x,x)≤val (y,y))→Q (.ref D) { s with heap:=h',toks:=tk }) :
  wpAny (model prog w) A (call (.builtin "sorted") [v]) Q E s:=by
 refine gL kind_sorted plain_sorted entry_sorted (args_sorted1 _) ?_; unfold Builtin.«sorted»;refine ae (m:=checkCount "sorted" 1 1 _) (ai (ae (cE (tS (fun us s'=>us=vs∧∃ (h':Heap) (tk:Nat),s' = { s with heap:=h',toks:=tk }∧∀ b o,s.heap.get? b=some o→h'.get? b=some o) fun h' tk k=>⟨rfl,h',tk,rfl,k⟩) ?_ fun _ _ e=>e)));rintro us s' ⟨rfl,h1,tk,rfl,kk⟩;refine ae (jd ?_ (hsz:=kY));have uN:(h1.push (seqObj "list" us.toArray 0)).get? h1.objs.size=some (seqObj "list" us.toArray 0):=aG _ rfl;have kn:∀ b o,s.heap.get? b=some o→b≠h1.objs.size:=fun b o e=>bf (aF (kk b o e))
 refine ae (bP (be slot_list_sort ⟨_,uN,rfl⟩ entry_list_sort (ze2 (κ:=κ) (val:=val) uN kY (fun h' hk h2 Q E hq=>oz _ (fun b o e=>hk b o (kn b o e) (ah _ (kk b o e))) h2 _ Q E hq) (fun h' hk=>tR _ _ fun b o e=>hk b o (kn b o e) (ah _ (kk b o e))) fun out a1 a2=>⟨_,rfl,?_⟩) (args_list_sort _)));obtain⟨e,he⟩:=sortedHeap_at (out:=out) uN;refine ai ⟨_,rfl,h _ tk out e h1.objs.size (fun b o x=>?_) (fun b o x=>aF (kk _ _ x)) he a1 a2⟩;rw [sortedHeap_old (kn b o x) (by rw [bA]; exact dC (aF (kk _ _ x)))];exact ah _ (kk _ _ x)
end
end Srt
end
section
namespace L2
open PySem PySem.Spec PyProof.Rows PySem.Builtin.Str
theorem Inv.above {X:Cx} {kP:List (Addr×Obj)} {σ:St} {H:Hp} {s:Shared} {h':Heap} {tk:Nat} {D:Addr} {o:HO} (I:Inv X kP σ H s) (k:∀ b o,s.heap.get? b=some o→h'.get? b=some o) (hD:∀ b o,s.heap.get? b=some o→b < D)
  (new:zaz X.prog X.w (kW H D o) h' D o):H D=none∧Inv X kP σ (kW H D o) { s with heap:=h',toks:=tk }:=by
 have hn:H D=none:=by
  cases e:H D with
  | none=>rfl
  | some u =>
   obtain⟨ob,z⟩:=zm3 (I.hok D u e);exact absurd (hD D ob z) (ci _)
 have hL:X.env.locals < D:=by
  obtain⟨m,⟨o,es,ep,ho,_⟩,_⟩:=I.loc;exact hD _ _ ho
 have I1:Inv X kP σ H { s with heap:=h',toks:=tk }:=I.kept k;refine⟨hn,I1.track hn (gQ (Nat.lt_of_le_of_lt I.ok.above hL)) (bf hL) (fun x c e z=>?_) (fun p hp z=>?_) new⟩
 ·obtain⟨v,oc,q,_⟩:=I.cell x c e;exact absurd (hD c oc q) (by rw [z]; exact ci _)
 ·exact absurd (hD p.1 _ (I.pin p hp).1) (by rw [z]; exact ci _)
end L2
end
section
namespace L2
open PySem PySem.Spec PyProof.Rows Srt
def zkh (xs:List V):List Int:=xs.filterMap fun x=>match x with
 | .int n=>some n
 | _=>none
theorem zi0 (ns:List Int):zkh (ns.map V.int)=ns:=by
 unfold zkh;rw [eN];induction ns with
 | nil=>rfl
 | cons n ns ih =>
  rw [cH];simp only [Function.comp];rw [ih]
def zce (H:Hp) (v:Value):List Int:=match v with
 | .ref a=>(match H a with
  | some (.tup xs)=>zkh xs
  | _=>[])
 | _=>[]
theorem zcS {H:Hp} {a:Addr} {ns:List Int} (h:H a=some (.tup (ns.map V.int))):zce H (.ref a)=ns:=by
 unfold zce;simp only [h];exact zi0 ns
def zlz (H:Hp) (k:Nat) (B:Int) (ps:List (Addr×List Int)):Prop:=∀ q∈ps,H q.1=some (.tup (q.2.map V.int))∧q.2.length=k∧∀ n∈q.2,0≤n∧n < B
theorem zcT:∀ (ps:List (Addr×List Int)),zF (ps.map fun q=>V.ref q.1) (ps.map fun q=>aO q.1)
 | []=>.nil
 | q :: ps=>.cons rfl (zcT ps)
section
variable {X:Cx} {kP:List (Addr×Obj)} {σ:St} {H:Hp} {s:Shared} {k:Nat} {B:Int} {ps:List (Addr×List Int)}
theorem zfv (I:Inv X kP σ H s) {q:Addr×List Int} (h:H q.1=some (.tup (q.2.map V.int))):∃ o kR n,s.heap.get? q.1=some o∧o.cls = .type "tuple"∧o.data = .seq kR n∧IntsAre kR.toList q.2:=by
 obtain⟨kR,r,⟨o,ho,hc,n,hd⟩,hz⟩:=I.tuple (k6.of h);exact⟨o,kR.toArray,n,ho,hc,hd,by simpa using intsAre_of r⟩
theorem zm9 (I:Inv X kP σ H s) (hT:zlz H k B ps) (hk:1≤k) {s':Shared} (kk:∀ b o,s.heap.get? b=some o→s'.heap.get? b=some o):∃ fs:List Value,kt s'.heap (ps.map fun q=>aO q.1) fs∧fs.length=ps.length∧∀ v∈fs,∃ n t,v=jk n t:=by
 induction ps with
 | nil=>exact⟨[],trivial,rfl,fun v hv=>by cases hv⟩
 | cons q ps ih =>
  obtain⟨fs,h1,h2,h3⟩:=ih fun q' qT=>hT q' (aj _ qT)
  obtain⟨hq,hl,_⟩:=hT q #[M];obtain⟨o,kR,n,ho,hc,hd,hi⟩:=zfv I hq;have kY:=hi.length;obtain⟨m,ms,e⟩:∃ m ms,q.2=m :: ms:=by
   cases e:q.2 with
   | nil=>rw [e] at hl; simp at hl; lia
   | cons m ms=>exact⟨m,ms,rfl⟩
  rw [e] at hi;cases e2:kR.toList with
  | nil=>rw [e2] at hi; cases hi
  | cons f fr =>
   rw [e2] at hi;cases hi with
   | cons _ t hi =>
    refine⟨.int m t :: fs,i4 (kk _ _ ho) hc hd ?_ h1,by simp [h2],fun v hv=>?_⟩
    ·rw [← bn,e2];rfl
    ·rcases (aC.mp hv) with rfl | hv
     ·exact⟨m,t,rfl⟩
     ·exact h3 v hv
theorem ze3:∀ ms:List Int,zdq ms ms=false
 | []=>rfl
 | m :: ms=>by rw [zbq,if_pos rfl,ze3 ms]
theorem zna (I:Inv X kP σ H s) (hT:zlz H k B ps) (hB:1≤B) {s':Shared} {A':Around} (kk:∀ b o,s.heap.get? b=some o→s'.heap.get? b=some o) :
  Cmp X.prog X.w A' s' (tuples' true) (fun p=>num B (zce H p.1)) (pairsOf (ps.map fun q=>aO q.1)):=by
 intro x y hx hy Q E hQ;obtain⟨qx,mx,ex⟩:=aB.mp (zbL hx).1;obtain⟨qy,my,ey⟩:=aB.mp (zbL hy).1;obtain⟨oF,pv,hx3⟩:=hT qx mx;obtain⟨hy1,hy2,hy3⟩:=hT qy my;obtain⟨ox,ix,nx,gx,cx,dx,ax⟩:=zfv I oF;obtain⟨oy,iy,ny,gy,cy,dy,ay⟩:=zfv I hy1;have ev:decide ((fun p:Keyed=>num B (zce H p.1)) x < (fun p:Keyed=>num B (zce H p.1)) y)=zdq qx.2 qy.2:=by
  rw [zdF hB (pv.trans hy2.symm) hx3 hy3,← zcS oF,← zcS hy1];simp only [ex,ey]
 rw [ev] at hQ;rw [← ex,← ey];refine kC (kk _ _ gx) dx (kk _ _ gy) dy (zh1 0 ax ay (pv.trans hy2.symm) ?_);have hsz:decide (ix.size < iy.size)=false:=by
  have e1:=ax.length;have e2:=ay.length;rw [bp] at e1 e2;exact decide_eq_false #[O]
 rw [hsz];by_cases e:qx.2=qy.2
 ·rw [if_pos e];rw [e,ze3] at hQ;exact hQ
 ·rw [if_neg e];exact hQ
theorem zki (hT:zlz H k B ps) {out:Array Value} (hp:out.toList.Perm (ps.map fun q=>aO q.1)) (hs:out.toList.Pairwise fun x y=>num B (zce H x)≤num B (zce H y)) :
  ∃ qc:List (Addr×List Int),qc.Perm ps∧(qc.Pairwise fun a b=>num B a.2≤num B b.2)∧out.toList=qc.map fun q=>aO q.1:=by
 let g:Value→Addr×List Int:=fun v=>match v with
  | .ref a=>(a,zce H (.ref a))
  | _=>(0,[])
 have hg:∀ q∈ps,g (.ref q.1)=q:=fun q hq=>kL rfl (zcS (hT q hq).1)
 have hv:∀ v∈out.toList,∃ q∈ps,v = .ref q.1:=fun v hv=>by
  obtain⟨q,hq,e⟩:=aB.mp (hp.mem_iff.mp hv);exact⟨q,hq,e.symm⟩
 refine⟨out.toList.map g,?_,?_,?_⟩
 ·refine (hp.map g).trans ?_;rw [bt];have:ps.map (g ∘ fun q=>aO q.1)=ps:=by
   conv=>rhs; rw [← iK ps]
   exact bZ fun q hq=>hg q hq
  rw [this]
 ·rw [bC];refine cD (fun {x y} hx hy h=>?_) hs;obtain⟨q,hq,rfl⟩:=hv x hx;obtain⟨q',qT,rfl⟩:=hv y hy;exact h
 ·rw [bt]
  conv=>lhs; rw [← iK out.toList]
  refine bZ fun v yM=>?_
  obtain⟨q,hq,rfl⟩:=hv v yM;rfl
end
theorem zi1 {M:Model} {h:Heap} {n:Int} {t:Tok}:PySem.W.Looks M h (typeOf (.int n t)) (.type "int"):=PySem.W.Looks.of_pure rfl
theorem zlA {X:Cx} {kP:List (Addr×Obj)} {σ:St} {H:Hp} {s:Shared} {d:Addr} {kZ:List (List Key×V)} {mM:List (List Int)} (I:Inv X kP σ H s) (hd:H d=some (.dT kZ)) (hk:kZ.map (·.1)=mM.map (·.map c9)) :
  (d == sysModules)=false∧kZ.length≤sizeLine∧∃ (ps:List (Addr×List Int)) (es:Array DictEntry) (ep:Nat),zec s.heap d es ep∧es.toList.map (·.key)=(ps.map fun q=>aO q.1)∧ps.map (·.2)=mM∧∀ q∈ps,H q.1=some (.tup (q.2.map V.int)):=by
 obtain⟨hz,hs,xs,hp,o,es,ep,ho,hx,he,tE,nD⟩:=I.hok d _ hd;refine⟨hs,hz,?_⟩;have key:∀ {kZ:List (List Key×V)} {xs:List (List Key×Addr×Value)} {mM:List (List Int)},Paired (fun (p:List Key×V) (q:List Key×Addr×Value)=>p.1=q.1∧H q.2.1=some (.tup (p.1.map kV))∧RelV p.2 q.2.2) kZ xs→kZ.map (·.1)=mM.map (·.map c9) →
   ∃ ps:List (Addr×List Int),xs.map (fun x=>aO x.2.1)=(ps.map fun q=>aO q.1)∧ps.map (·.2)=mM∧∀ q∈ps,H q.1=some (.tup (q.2.map V.int)):=by
  intro kZ xs mM hp;induction hp generalizing mM with
  | nil =>
   intro e;cases mM with
   | nil=>exact⟨[],rfl,rfl,fun q hq=>by cases hq⟩
   | cons m mM=>simp at e
  | @cons x y l1 l2 h1 h2 ih =>
   intro e;cases mM with
   | nil=>simp at e
   | cons m mM =>
    rw [aS,aS] at e;obtain⟨e1,e2⟩:=fq e;obtain⟨ps,a1,a2,a3⟩:=ih e2;obtain⟨_,h12,_⟩:=h1;refine⟨(y.2.1,m) :: ps,by rw [aS,aS,a1],by rw [aS,a2],fun q hq=>?_⟩;rcases (aC.mp hq) with rfl | hq
    ·rw [h12,e1,bt];rfl
    ·exact a3 q hq
 obtain⟨ps,a1,a2,a3⟩:=key hp hk;refine⟨ps,es,ep,⟨o,ho,hx,he⟩,?_,a2,a3⟩;rw [tE,bt,← a1];rfl
theorem zfw {X:Cx} (hc:X.calm=true):zca X (.builtin "sorted") (fun xs H Q=>∃ (d:Addr) (k:Nat) (B:Int) (kZ:List (List Key×V)) (mM:List (List Int)),xs = [.ref d]∧H d=some (.dT kZ)∧kZ.map (·.1)=mM.map (·.map c9)∧(∀ ms∈mM,ms.length=k∧∀ n∈ms,0≤n∧n < B)∧1≤k∧1≤B ∧
  ∀ (l:Addr) (qc:List (Addr×List Int)),H l=none→(qc.map (·.2)).Perm mM→(qc.Pairwise fun a b=>num B a.2≤num B b.2)→(∀ q∈qc,H q.1=some (.tup (q.2.map V.int)))→Q (.ref l) (kW H l (.lst (qc.map fun q=>V.ref q.1)))):=by
 intro kP s σ H xs us Q I r h;obtain⟨d,k,B,kZ,mM,rfl,hd,wY,qU,hk,hB,q⟩:=h;obtain⟨u,rfl,rx⟩:=vals1 r;cases rx;obtain⟨hs,hz,ps,es,ep,C9,hek,lD,hH⟩:=zlA I hd wY;have hT:zlz H k B ps:=fun q' qT=>⟨hH q' qT,qU q'.2 (by rw [← lD]; exact dP qT)⟩
 have hlp:ps.length=kZ.length:=by
  have e1:=congrArg dY lD;have e2:=congrArg dY wY;rw [ab] at e1;rw [ab,ab] at e2;lia
 have tE:es.size=ps.length:=by
  have:=congrArg dY hek;rw [ab,ab,bp] at this;exact this
 refine ziZ (vs:=ps.map fun q=>aO q.1) (κ:=tuples' true) (val:=fun p=>num B (zce H p.1)) (by rw [ab]; lia) (fun R hR=>?_) (fun s' kk h2 A' Q' E' qT=>?_) (fun s' A' kk=>zna I hT hB kk) fun h' tk out e D kk hD wZ hp hs=>?_
 ·refine PySem.W.kdu_collect (zly (es:=es) (ep:=ep) hs) (by simp [I.ok.hd hc]) C9 #[O] fun h' tk acc kk tG=>?_
  have:acc.toList=ps.map fun q=>aO q.1:=by
   rw [← hek];refine fi fun j=>?_
   by_cases hj:j < es.size
   ·have hja:j < acc.size:=by rw [tG.1]; exact hj
    obtain⟨e',h1,h2⟩:=tG.2 j acc[j] (getElem?_pos acc j hja);rw [bn,getElem?_pos acc j hja,ak,bn,h1,h2];rfl
   ·rw [cu (by rw [bp,tG.1]; lia),cu (by rw [ab,bp]; lia)]
  rw [this];exact hR h' tk kk
 ·obtain⟨fs,k1,k2,k3⟩:=zm9 I hT hk kk;exact j7 (T:=.type "int") k1 (by rw [ab] at h2; lia) (fun v hv=>by obtain⟨n,t,rfl⟩:=k3 v hv; exact zi1) rfl qT
 ·obtain⟨qc,p1,p2,p3⟩:=zki hT hp hs;have hl:=p1.length_eq;obtain⟨hn,I2⟩:=I.above (tk:=tk) (D:=D) (o:=.lst (qc.map fun q=>V.ref q.1)) kk hD ⟨by rw [ab]; lia,qc.map fun q=>aO q.1,e,zcT qc,by rw [← p3]; exact wZ⟩;exact⟨.ref D,_,I2,rfl,q D qc hn (by rw [← lD]; exact p1.map _) p2 fun q' qT=>(hT q' (p1.mem_iff.mp qT)).1⟩
end L2
end
section
namespace L2
open PySem PySem.Spec PyProof.Rows
section
variable {X:Cx} {elt t1 i1 t2 i2:Expr} {f1 f2:List Expr} {scope:Scope} {pos:Pos} {N':List Str} {ix:List (Option Nat)} {xN vg:List Nat} {g1 g2:TG} {Bp xO:TT} {te:TE} {Bq xP:TI}
theorem zkj (hc:X.calm=true) (yN:GS vg g2) (sd:∀ s₃ H₃ ex kP,PI (zI X N' scope s₃ H₃ ex kP) t2 i2 xP)
  (uZ:∀ s₃ H₃ ex kP,PG (zI X N' scope s₃ H₃ ex kP) t2 g2) (vh:∀ s₃ H₃ ex kP,zcG (zI X N' scope s₃ H₃ ex kP) f2 xO) (he:∀ s₃ H₃ ex kP,PE (zI X N' scope s₃ H₃ ex kP) elt te)
  (m9:∀ s₃ H₃ ex kP x,foldedSetIterable i2 (zI X N' scope s₃ H₃ ex kP).env x=pure x) :
  ∀ s₃ H₃ ex kP D,PM (zI X N' scope s₃ H₃ ex kP) D vg ((fun D env=>zhH (.ListComp elt [⟨t1,i1,f1,0⟩,⟨t2,i2,f2,0⟩] scope pos) i2 1 (.ref D) env) D (zI X N' scope s₃ H₃ ex kP).env) (zhJ xP g2 xO (zhI te)):=by
 intro s₃ H₃ ex kP D;have h:=zmQ (Y:=zI X N' scope s₃ H₃ ex kP) (D:=D) (js:=vg) (js':=[]) (elt:=elt) (gens:=[⟨t1,i1,f1,0⟩,⟨t2,i2,f2,0⟩]) (scope:=scope) (pos:=pos) (d:=1) (p:=i2.pos) hc rfl yN (fun _ _ z=>by cases z) (sd s₃ H₃ ex kP) (uZ s₃ H₃ ex kP) (vh s₃ H₃ ex kP) (zgX rfl (he s₃ H₃ ex kP)) rfl (fun it=>zmR it D _) (m9 s₃ H₃ ex kP);rw [bI] at h;exact h
theorem zlB (SC:CompSc X N' ix scope) (hc:X.calm=true) (C':GS xN g1) (yN:GS vg g2) (nG:∀ j∈xN,j∉vg) (tB:∀ j∈xN++vg,ix[j]? = some none) (Dc:PI X t1 i1 Bq)
  (vi:∀ s₃ H₃ ex kP,PG (zI X N' scope s₃ H₃ ex kP) t1 g1) (w6:∀ s₃ H₃ ex kP,zcG (zI X N' scope s₃ H₃ ex kP) f1 Bp) (sd:∀ s₃ H₃ ex kP,PI (zI X N' scope s₃ H₃ ex kP) t2 i2 xP)
  (uZ:∀ s₃ H₃ ex kP,PG (zI X N' scope s₃ H₃ ex kP) t2 g2) (vh:∀ s₃ H₃ ex kP,zcG (zI X N' scope s₃ H₃ ex kP) f2 xO) (he:∀ s₃ H₃ ex kP,PE (zI X N' scope s₃ H₃ ex kP) elt te)
  (hs:∀ x,foldedSetIterable i1 X.env x=pure x:=by intro _; rfl) (m9:∀ s₃ H₃ ex kP x,foldedSetIterable i2 (zI X N' scope s₃ H₃ ex kP).env x=pure x:=by intros; rfl) :
  PE X (.ListComp elt [⟨t1,i1,f1,0⟩,⟨t2,i2,f2,0⟩] scope pos) (zfl ix Bq g1 Bp (zhJ xP g2 xO (zhI te))) :=
 zfV SC hc C' nG tB Dc vi w6 (zkj hc yN sd uZ vh he m9) (fun it D env=>zjG it D env) hs
theorem zhb {i:Nat} {x:Str} {pos' oC:Pos} (hN:X.N.Nodup) (yq:X.N[i]? = some x) (hx:Loc X.env.scope x) (SC:CompSc X N' ix scope) (hc:X.calm=true) (C':GS xN g1) (yN:GS vg g2) (nG:∀ j∈xN,j∉vg) (tB:∀ j∈xN++vg,ix[j]? = some none) (Dc:PI X t1 i1 Bq)
  (vi:∀ s₃ H₃ ex kP,PG (zI X N' scope s₃ H₃ ex kP) t1 g1) (w6:∀ s₃ H₃ ex kP,zcG (zI X N' scope s₃ H₃ ex kP) f1 Bp) (sd:∀ s₃ H₃ ex kP,PI (zI X N' scope s₃ H₃ ex kP) t2 i2 xP)
  (uZ:∀ s₃ H₃ ex kP,PG (zI X N' scope s₃ H₃ ex kP) t2 g2) (vh:∀ s₃ H₃ ex kP,zcG (zI X N' scope s₃ H₃ ex kP) f2 xO) (he:∀ s₃ H₃ ex kP,PE (zI X N' scope s₃ H₃ ex kP) elt te)
  (yr:swapsWith (.ListComp elt [⟨t1,i1,f1,0⟩,⟨t2,i2,f2,0⟩] scope pos) (some (.Name x pos')) oC.line X.env=pure true:=by rfl)
  (hs:∀ x,foldedSetIterable i1 X.env x=pure x:=by intro _; rfl) (m9:∀ s₃ H₃ ex kP x,foldedSetIterable i2 (zI X N' scope s₃ H₃ ex kP).env x=pure x:=by intros; rfl) (hf:X.fn x=true∨X.env.scope.names.lookup x=some .local:=by first | exact .inl rfl | exact .inr rfl | assumption) :
  PS X (.Assign [.Name x pos'] (.ListComp elt [⟨t1,i1,f1,0⟩,⟨t2,i2,f2,0⟩] scope pos) oC) (zgN (zfl ix Bq g1 Bp (zhJ xP g2 xO (zhI te))) (za1 i)) :=
 zdi hN yq hx SC hc C' nG tB Dc vi w6 (zkj hc yN sd uZ vh he m9) (fun it D env=>zjG it D env) yr hs hf
end
theorem zh2 {J:It} {n:Nat} {g:TG} {ts:TT} {tm:TM} {σ0:St} {Q:List V→Hp→Prop} {ys:List V} {H:Hp} (Pv:Nat→List V→Hp→Prop) (h0:Pv 0 ys H) (uS:∀ i ys H,i < n→Pv i ys H→J.go i H) (o8:∀ ys H,Pv n ys H→J.stop n H)
  (hs:∀ i x ys H H',i < n→Pv i ys H→J.yld i H x H'→g x σ0 H' fun σ2 H2=>ts σ2 H2 fun b H3=>if b=true then tm ys σ2 H3 (Pv (i+1)) else Pv (i+1) ys H3)
  (hd:∀ ys H,Pv n ys H→Q ys H):cIn g ts tm σ0 J Q ys H:=by
 refine⟨fun i m ys H=>m=n - i∧i≤n∧Pv i ys H,⟨n,#[M],bh _,h0⟩,?_⟩;rintro i m ys H ⟨rfl,hi,p⟩;by_cases lF:i < n
 ·exact .inr ⟨uS i ys H lF p,Pv (i+1),fun qh H' p'=>⟨n - (i+1),#[O],rfl,lF,p'⟩,fun x H' y=>hs i x ys H H' lF p y⟩
 ·have e:i=n:=by lia
  subst e;exact .inl ⟨o8 ys H p,hd ys H p⟩
def znb (sc:Scope) (x:Str):Bool:=match sc.names.lookup x with
 | some .local=>true
 | some .cell=>true
 | some .free=>true
 | _=>false
theorem zlC {sc:Scope} {x:Str} (h:znb sc x=true):Vis sc x:=by
 unfold znb at h;unfold Vis;cases e:sc.names.lookup x with
 | none=>rw [e] at h; cases h
 | some k=>cases k <;> simp_all
def pvB (N:List Str) (sc:Scope) (i:Nat) (x:Str):Bool:=decide (N[i]? = some x) && znb sc x && !(x == ("__debug__" : Str)) && !(x == ("__classdict__" : Str))
theorem pvx {X:Cx} (i:Nat) {x:Str} {pos:Pos} (h:pvB X.N X.env.scope i x=true):PE X (.Name x pos) (znz i):=by
 unfold pvB at h;simp only [cM,Bool.not_eq_true',decide_eq_true_eq] at h;exact zmv h.1.1.1 (zlC h.1.1.2) h.1.2 h.2
end L2
end
section
namespace My
open PySem L2 PyProof.Rows
def nxt {α:Type} (xs:List α) (c:Nat×List α):List (Nat×List α):=(aR (xs.length - c.1)).map fun j=>(c.1+j+1,c.2++xs[c.1+j]?.toList)
def chs {α:Type} (xs:List α):Nat→List (Nat×List α)
 | 0=>[(0,[])]
 | m+1=>(chs xs m).flatMap (nxt xs)
theorem zfx {α:Type} (xs:List α) (c:Nat×List α):(nxt xs c).length=xs.length - c.1:=by unfold nxt; rw [ab,bM]
theorem zlD {α:Type} {xs:List α} {c:Nat×List α} {j:Nat} {x:α} (h:xs[c.1+j]? = some x):(nxt xs c)[j]? = some (c.1+j+1,c.2++[x]):=by
 have hj:j < xs.length - c.1:=by
  have:=(aA.mp h).1;lia
 unfold nxt;rw [ak,dh hj];simp [h]
theorem zh3:∀ r:Nat,((aR r).map fun j=>2 ^ (r - j - 1)).sum+1=2 ^ r
 | 0=>rfl
 | r+1=>by
  rw [fo,aS,ft,bt];have e:((aR r).map ((fun j=>2 ^ (r+1 - j - 1)) ∘ Nat.succ))=(aR r).map fun j=>2 ^ (r - j - 1):=bZ fun j _=>by
   show 2 ^ (r+1 - (j+1) - 1)=2 ^ (r - j - 1);congr 1;lia
  rw [e];have:=zh3 r;rw [Nat.pow_succ];show 2 ^ (r+1 - 0 - 1)+_+1=_;rw [show r+1 - 0 - 1=r from by lia];lia
def pot {α:Type} (n:Nat) (cs:List (Nat×List α)):Nat:=(cs.map fun c=>2 ^ (n - c.1)).sum
theorem zlE {α:Type} (xs:List α) (c:Nat×List α):pot xs.length (nxt xs c)≤2 ^ (xs.length - c.1):=by
 unfold pot nxt;rw [bt];have e:((aR (xs.length - c.1)).map ((fun c:Nat×List α=>2 ^ (xs.length - c.1)) ∘ fun j=>(c.1+j+1,c.2++xs[c.1+j]?.toList)))=(aR (xs.length - c.1)).map fun j=>2 ^ (xs.length - c.1 - j - 1):=bZ fun j _=>by
  show 2 ^ (xs.length - (c.1+j+1))=_;congr 1;lia
 rw [e];have:=zh3 (xs.length - c.1);lia
theorem zgm {α:Type} (xs:List α):∀ cs:List (Nat×List α),pot xs.length (cs.flatMap (nxt xs))≤pot xs.length cs
 | []=>af _
 | c :: cs=>by
  have h1:=zlE xs c;have h2:=zgm xs cs;rw [gF];unfold pot at h1 h2 ⊢;rw [aq,List.sum_append,aS,ft];lia
theorem zh4 {α:Type} (n:Nat):∀ cs:List (Nat×List α),cs.length≤pot n cs
 | []=>af _
 | c :: cs=>by
  have h:=zh4 n cs;have:0 < 2 ^ (n - c.1):=Nat.pos_of_ne_zero #[M];unfold pot at h ⊢;rw [aS,ft,bK];lia
theorem zh5 {α:Type} (xs:List α):∀ m,pot xs.length (chs xs m)≤2 ^ xs.length
 | 0=>by
  unfold chs pot;simp
 | m+1=>aU (zgm xs (chs xs m)) (zh5 xs m)
theorem zlF {α:Type} (xs:List α) (m:Nat):(chs xs m).length≤2 ^ xs.length:=aU (zh4 _ _) (zh5 xs m)
theorem zc5 {α:Type} {xs:List α} (m:Nat) (h:xs.length≤16):(chs xs m).length≤65536:=aU (zlF xs m) (aU (i5 #[D] h) #[D])
theorem zi2 {α β:Type} {f:α→List β} {l:List α} {i j:Nat} {c:α} (hc:l[i]? = some c) (hj:j < (f c).length):((l.take i).flatMap f).length+j < (l.flatMap f).length:=by
 have e:l.flatMap f=(l.take i).flatMap f++(f c++(l.drop (i+1)).flatMap f):=by
  conv=>lhs; rw [zd6 hc]
  rw [fQ,gF]
 rw [e,ao,ao];lia
theorem zi3 {α β:Type} {f:α→List β} {l:List α} {i:Nat} {c:α} (hc:l[i]? = some c):(l.take (i+1)).flatMap f=(l.take i).flatMap f++f c:=by
 rw [take_snoc hc,fQ,gF,List.flatMap_nil,bI]
theorem znc {α:Type} {xs:List α}:∀ {m:Nat} {c:Nat×List α},c∈chs xs m→c.1≤xs.length
 | 0,c,h=>by
  unfold chs at h;rw [aN] at h;subst h;exact bh _
 | m+1,c,h=>by
  unfold chs at h;obtain⟨c',_,hc⟩:=et.mp h;unfold nxt at hc;obtain⟨j,hj,rfl⟩:=aB.mp hc;have:=bx.mp hj;show c'.1+j+1≤xs.length;lia
theorem zgn {α:Type} {xs:List α}:∀ {m:Nat} {c:Nat×List α},c∈chs xs m→c.2.length≤m
 | 0,c,h=>by
  unfold chs at h;rw [aN] at h;subst h;exact af _
 | m+1,c,h=>by
  unfold chs at h;obtain⟨c',hm,hc⟩:=et.mp h;have:=zgn hm;unfold nxt at hc;obtain⟨j,hj,rfl⟩:=aB.mp hc;show (c'.2++xs[c'.1+j]?.toList).length≤m+1;rw [ao];have:xs[c'.1+j]?.toList.length≤1:=by cases xs[c'.1+j]? <;> simp
  lia
theorem Paired.get {α β:Type} {F:α→β→Prop}:∀ {l₁:List α} {l₂:List β},Paired F l₁ l₂→∀ {i:Nat} {a:α},l₁[i]? = some a→∃ b,l₂[i]? = some b∧F a b
 | _,_,.nil,i,a,h=>by simp at h
 | _,_,.cons r t,0,a,h=>by
  (simp only [fb,jM] at h)
  subst h;exact⟨_,rfl,r⟩
 | _,_,.cons r t,i+1,a,h=>by
  rw [dQ] at h;obtain⟨b,hb,f⟩:=Paired.get t h;exact⟨b,by rw [dQ]; exact hb,f⟩
def zlG (H:Hp) (t:Addr) (c:Nat×List V):Prop:=∃ L,H t=some (.tup [.int (c.1:Int),.ref L])∧H L=some (.lst c.2)
theorem zlG.same {H H':Hp} (s:zy H H') {t:Addr} {c:Nat×List V} (h:zlG H t c):zlG H' t c:=let ⟨L,h1,h2⟩:=h; ⟨L,s _ _ h1,s _ _ h2⟩
def zed (H:Hp):List Addr→List (Nat×List V)→Prop:=Paired (zlG H)
theorem zed.same {H H':Hp} (s:zy H H') {ts:List Addr} {cs:List (Nat×List V)} (h:zed H ts cs):zed H' ts cs:=bw (fun _ _ z=>z.same s) h
def zgo (H:Hp):List Addr→List (List V)→Prop:=Paired fun l pk=>H l=some (.lst pk)
theorem zgo.same {H H':Hp} (s:zy H H') {ts:List Addr} {cs:List (List V)} (h:zgo H ts cs):zgo H' ts cs:=bw (fun _ _ z=>s _ _ z) h
def zhc (K:ag):Sp:=fun vs H Q _=>∃ (a:Addr) (m:Nat) (xs:List V),vs = [.ref a,.int (m:Int)]∧kS K H a xs∧xs.length≤16∧m≤1000 ∧
 ∀ (l:Addr) (ls:List Addr) (H':Hp),H l=none→zy H H'→H' l=some (.lst (ls.map V.ref))→zgo H' ls ((chs xs m).map (·.2))→Q (.ref l) H'
def quo (p r:Int):List Int→List Int
 | []=>[]
 | [_]=>[]
 | _ :: d :: cs=>zn p r (d :: cs) :: quo p r (d :: cs)
theorem zh6 (p r:Int):∀ (c:Int) (cs:List Int),(quo p r (c :: cs)).length=cs.length
 | _,[]=>rfl
 | _,d :: cs=>by
  show (quo p r (d :: cs)).length+1=cs.length+1;rw [zh6 p r d cs]
theorem zkk {p r x:Int}:∀ d:List Int,Cg p (zn p x d - zn p r d) ((x - r)*zn p x (quo p r d))
 | []=>Cg.of_eq (by show (0:Int) - 0=(x - r)*0; lia)
 | [c]=>by
  have h1:Cg p (zn p x [c]) (c+x*0):=zad p x c [];have h2:Cg p (zn p r [c]) (c+r*0):=zad p r c [];refine (h1.sub h2).trans (Cg.of_eq ?_);show c+x*0 - (c+r*0)=(x - r)*0;lia
 | c :: d :: cs=>by
  have h1:=zad p x c (d :: cs);have h2:=zad p r c (d :: cs);have ih:=zkk (p:=p) (r:=r) (x:=x) (d :: cs);have h3:Cg p (zn p x (quo p r (c :: d :: cs))) (zn p r (d :: cs)+x*zn p x (quo p r (d :: cs))):=zad p x _ _;have h4:=(Cg.refl p (x - r)).mul h3;have h5:=(Cg.refl p x).mul ih;refine (h1.sub h2).trans (Cg.symm (h4.trans ?_));refine (Cg.of_eq (show _=(x - r)*zn p r (d :: cs)+x*((x - r)*zn p x (quo p r (d :: cs))) by grind)).trans ?_;refine ((Cg.refl p ((x - r)*zn p r (d :: cs))).add h5.symm).trans (Cg.of_eq (by grind))
theorem zgp {p r:Int}:∀ d:List Int,Cg p (zn p r d) 0→(∀ c∈quo p r d,Cg p c 0)→∀ c∈d,Cg p c 0
 | [],_,_,c,hc=>by cases hc
 | [a],h,_,c,hc=>by
  obtain rfl:c=a:=by simpa using hc
  have h1:Cg p (zn p r [c]) (c+r*0):=zad p r c [];exact ((Cg.of_eq #[O]).trans h1.symm).trans h
 | a :: d :: cs,h,hq,c,hc=>by
  have h0:Cg p (zn p r (d :: cs)) 0:=hq _ az;rcases (aC.mp hc) with rfl | hc
  ·have h1:=zad p r c (d :: cs);have h2:=(Cg.refl p r).mul h0;have h3:=(h1.symm.trans h).sub h2;exact (Cg.of_eq #[O]).trans (h3.trans (Cg.of_eq #[O]))
  ·exact zgp (d :: cs) h0 (fun c hc=>hq c (aj _ hc)) c hc
theorem ze4 {p a y:Int} (hp:p∈zp) (ha0:a % p≠0) (h:Cg p (a*y) 0):Cg p y 0:=by
 have rp:=zu hp;have g0:=aJ a (show p≠0 by lia);have g1:=aD a (show 0 < p by lia);have hi:=zfo hp (h:=a % p) #[O] g1;have h1:Cg p (inv p (a % p)*(a % p)*y) (1*y):=hi.mul (Cg.refl p y);have h2:Cg p (inv p (a % p)*(a % p)*y) (inv p (a % p)*(a*y)):=by
  have:=((Cg.refl p (inv p (a % p))).mul (Cg.emod p a)).mul (Cg.refl p y);exact this.trans (Cg.of_eq (by grind))
 have h3:=(Cg.refl p (inv p (a % p))).mul h;exact (Cg.of_eq #[O]).trans (h1.symm.trans (h2.trans (h3.trans (Cg.of_eq #[O]))))
theorem zee {p:Int} (hp:p∈zp):∀ (n:Nat) (d xs:List Int),d.length=n→n≤xs.length→xs.Nodup→(∀ x∈xs,0≤x∧x < p)→(∀ x∈xs,Cg p (zn p x d) 0)→∀ c∈d,Cg p c 0
 | 0,d,xs,hd,_,_,_,_,c,hc=>by
  rw [ig] at hd;subst hd;cases hc
 | n+1,d,[],hd,hx,_,_,_,c,hc=>by simp at hx
 | n+1,[],r :: xs,hd,hx,_,_,_,c,hc=>by cases hc
 | n+1,a :: cs,r :: xs,hd,hx,nD,qU,hz,c,hc=>by
  have rp:=zu hp;obtain⟨r0,r1⟩:=qU r az;have hr:=hz r az;refine zgp (a :: cs) hr (zee hp n (quo p r (a :: cs)) xs (by rw [zh6]; simpa using hd) (by simpa using hx) (cS.mp nD).2 (fun x h=>qU x (aj _ h)) fun x h=>?_) c hc;obtain⟨x0,x1⟩:=qU x (aj _ h);have lY:x≠r:=fun e=>(cS.mp nD).1 (e ▸ h)
  have he:=zkk (p:=p) (r:=r) (x:=x) (a :: cs);have h0:=(hz x (aj _ h)).sub hr;refine ze4 hp (a:=x - r) (fun e=>?_) (he.symm.trans (h0.trans (Cg.of_eq #[O])));have:Cg p x r:=by
   have h1:Cg p (x - r) 0:=Cg.of_mod (by rw [e]; simp);have h2:=h1.add (Cg.refl p r);exact (Cg.of_eq #[O]).trans (h2.trans (Cg.of_eq #[O]))
  exact lY (this.eq x0 x1 r0 r1)
theorem zgq {p x:Int}:∀ {a b:List Int},a.length=b.length→Cg p (zn p x (a8 (· - ·) a b)) (zn p x a - zn p x b)
 | [],[],_=>Cg.of_eq rfl
 | c :: a,d :: b,h=>by
  have ih:=zgq (p:=p) (x:=x) (a:=a) (b:=b) (by simpa using h);have h1:=zad p x c a;have h2:=zad p x d b;have h3:Cg p (zn p x (a8 (· - ·) (c :: a) (d :: b))) (c - d+x*zn p x (a8 (· - ·) a b)):=zad p x (c - d) _;refine h3.trans (((Cg.refl p (c - d)).add ((Cg.refl p x).mul ih)).trans (Cg.symm ((h1.sub h2).trans (Cg.of_eq (by grind)))))
 | [],_ :: _,h=>by simp at h
 | _ :: _,[],h=>by simp at h
theorem zgr {p:Int}:∀ {a b:List Int},a.length=b.length→(∀ c∈a,0≤c∧c < p)→(∀ c∈b,0≤c∧c < p)→(∀ c∈a8 (· - ·) a b,Cg p c 0)→a=b
 | [],[],_,_,_,_=>rfl
 | c :: a,d :: b,h,ha,hb,hz=>by
  obtain⟨c0,c1⟩:=ha c az;obtain⟨d0,d1⟩:=hb d az;have h1:Cg p (c - d) 0:=hz _ az;have h2:Cg p c d:=(Cg.of_eq #[O]).trans ((h1.add (Cg.refl p d)).trans (Cg.of_eq #[O]));rw [h2.eq c0 c1 d0 d1,zgr (by simpa using h) (fun c hc=>ha c (aj _ hc)) (fun c hc=>hb c (aj _ hc)) (fun c hc=>hz c (aj _ hc))]
 | [],_ :: _,h,_,_,_=>by simp at h
 | _ :: _,[],h,_,_,_=>by simp at h
theorem zcf {p:Int} (hp:p∈zp) {a b xs:List Int} (hl:a.length=b.length) (hx:a.length≤xs.length) (nD:xs.Nodup) (qU:∀ x∈xs,0≤x∧x < p) (ha:∀ c∈a,0≤c∧c < p) (hb:∀ c∈b,0≤c∧c < p)
  (he:∀ x∈xs,zn p x a=zn p x b):a=b:=by
 refine zgr hl ha hb (zee hp a.length _ xs (by rw [dg]; lia) hx nD qU fun x h=>?_);refine (zgq hl).trans (Cg.of_eq ?_);rw [he x h];lia
theorem zhd {p:Int} (hp:p∈zp) {pk:List (Int×Int)} (hP:Pts p pk) {q:List Int} (hl:q.length=pk.length) (hq:∀ c∈q,0≤c∧c < p) (hh:∀ a∈pk,zn p a.1 q=a.2):q=thr p pk:=by
 obtain⟨h1,h2,h3⟩:=zd3 hp hP;refine zcf hp (xs:=pk.map (·.1)) #[O] (by rw [ab]; lia) hP.nd (fun x hx=>?_) hq h2 fun x hx=>?_
 ·obtain⟨a,ha,rfl⟩:=aB.mp hx;exact⟨(hP.rg a ha).1,(hP.rg a ha).2.1⟩
 ·obtain⟨a,ha,rfl⟩:=aB.mp hx;rw [hh a ha,h3 a ha]
theorem Pts.sub {p:Int} {pk kQ:List (Int×Int)} (h:Pts p kQ) (hs:pk.Sublist kQ):Pts p pk:=⟨(hs.map _).nodup h.nd,fun q hq=>h.rg q (hs.subset hq)⟩
theorem zh7 {α:Type} {xs:List α}:∀ {m:Nat} {c:Nat×List α},c∈chs xs m→c.2.Sublist (xs.take c.1)∧c.2.length=m∧c.1≤xs.length
 | 0,c,h=>by
  unfold chs at h;rw [aN] at h;subst h;exact⟨g6 _,rfl,bh _⟩
 | m+1,c,h=>by
  unfold chs at h;obtain⟨c',hm,hc⟩:=et.mp h;obtain⟨h1,h2,h3⟩:=zh7 hm;unfold nxt at hc;obtain⟨j,hj,rfl⟩:=aB.mp hc
  (have oB:=bx.mp hj)
  have lF:c'.1+j < xs.length:=by lia
  have e:xs[c'.1+j]? = some xs[c'.1+j]:=ap lF;dsimp only;rw [e];refine⟨?_,by rw [ao,h2]; rfl,#[O]⟩;rw [take_snoc e];refine List.Sublist.append (h1.trans ?_) (List.Sublist.refl _);have:xs.take c'.1=(xs.take (c'.1+j)).take c'.1:=by rw [kx]; congr 1; lia
  rw [this];exact cj _ _
theorem sub_one {α:Type} {l:List α} {x:α} (h:l.Sublist [x]):l = []∨l = [x]:=by
 cases h with
 | cons _ h=>exact .inl (g7.mp h)
 | cons_cons _ h=>exact .inr (by rw [g7.mp h])
theorem zdG {α:Type} {xs:List α}:∀ {m n:Nat} {pk:List α},pk.Sublist (xs.take n)→pk.length=m→∃ s,s≤n∧(s,pk)∈chs xs m
 | 0,n,pk,h,hl=>by
  rw [ig] at hl;subst hl;exact⟨0,bh _,by unfold chs; exact aN.mpr rfl⟩
 | m+1,0,pk,h,hl=>by
  rw [dJ] at h;rw [g7.mp h] at hl;simp at hl
 | m+1,n+1,pk,h,hl=>by
  cases e:xs[n]? with
  | none =>
   have:xs.take (n+1)=xs.take n:=by
    have:=gM.mp e;rw [aQ #[O],aQ this]
   rw [this] at h;obtain⟨s,h1,h2⟩:=zdG (m:=m+1) (n:=n) h hl;exact⟨s,#[O],h2⟩
  | some x =>
   rw [take_snoc e] at h;obtain⟨l1,l2,rfl,h1,h2⟩:=List.sublist_append_iff.mp h;rcases (sub_one h2) with rfl | rfl
   ·rw [bI] at hl ⊢;obtain⟨s,a1,a2⟩:=zdG (m:=m+1) (n:=n) h1 hl;exact⟨s,#[O],a2⟩
   ·obtain⟨s,a1,a2⟩:=zdG (m:=m) (n:=n) h1 (by simpa using hl);refine⟨n+1,af _,?_⟩;unfold chs;refine et.mpr ⟨(s,l1),a2,?_⟩;have lF:=(aA.mp e).1;unfold nxt;refine aB.mpr ⟨n - s,bx.mpr (by show n - s < xs.length - s; lia),?_⟩;have es:s+(n - s)=n:=by lia
    dsimp only;rw [es,e];rfl
theorem zfy {α:Type} {xs pk:List α} {m:Nat}:pk∈(chs xs m).map (·.2)↔pk.Sublist xs∧pk.length=m:=by
 constructor
 ·intro h;obtain⟨c,hc,rfl⟩:=aB.mp h;obtain⟨h1,h2,h3⟩:=zh7 hc;exact⟨h1.trans (cj _ _),h2⟩
 ·rintro⟨h1,h2⟩;obtain⟨s,_,hs⟩:=zdG (xs:=xs) (n:=xs.length) (by rw [aV]; exact h1) h2;exact aB.mpr ⟨_,hs,rfl⟩
def hit (p:Int) (q:List Int) (a:Int×Int):Bool:=decide (zn p a.1 q=a.2)
def hits (p:Int) (q:List Int) (kQ:List (Int×Int)):Nat:=(kQ.filter (hit p q)).length
def IsP (p:Int) (k:Nat) (q:List Int):Prop:=q.length=k∧∀ c∈q,0≤c∧c < p
theorem zhe {p:Int} (hp:p∈zp) {kQ:List (Int×Int)} (hP:Pts p kQ) {q:List Int} {k t n:Nat} (hq:IsP p k q) (hk:k≤t) (hn:kQ.length≤n+(t - k)) (ht:t≤hits p q kQ) :
  ∃ pk,pk∈(chs (kQ.take n) k).map (·.2)∧q=thr p pk:=by
 have Dd:hits p q kQ=((kQ.take n).filter (hit p q)).length+((kQ.drop n).filter (hit p q)).length:=by
  unfold hits
  conv=>lhs; rw [← b7 n kQ]
  rw [dW,ao]
 have hd:=ee (hit p q) (kQ.drop n);rw [bQ] at hd;have uE:k≤((kQ.take n).filter (hit p q)).length:=by lia
 have hs:(((kQ.take n).filter (hit p q)).take k).Sublist (kQ.take n):=(cj _ _).trans (List.filter_sublist);have hl:(((kQ.take n).filter (hit p q)).take k).length=k:=by rw [aI]; lia
 refine⟨_,zfy.mpr ⟨hs,hl⟩,zhd hp (hP.sub (hs.trans (cj _ _))) (by rw [hl]; exact hq.1) hq.2 fun a ha=>?_⟩;have:=(ck.mp ((cj _ _).subset ha)).2;simpa [hit] using this
theorem zh8 {p:Int} (hp:p∈zp) {kQ pk:List (Int×Int)} (hP:Pts p kQ) {k:Nat} (h:pk∈(chs kQ k).map (·.2)):IsP p k (thr p pk):=by
 obtain⟨h1,h2⟩:=zfy.mp h;obtain⟨a,b,_⟩:=zd3 hp (hP.sub h1);exact⟨a.trans h2,b⟩
def lD:List Int→List (Option Int)→List (Int×Int)
 | x :: pl,some y :: rw=>(x,y) :: lD pl rw
 | _ :: pl,none :: rw=>lD pl rw
 | _,_=>[]
theorem zef:∀ {pl:List Int} {rw:List (Option Int)} {i:Nat} {x:Int} {o:Option Int},pl[i]? = some x→rw[i]? = some o→lD (pl.take (i+1)) (rw.take (i+1))=lD (pl.take i) (rw.take i)++(match o with | some y=>[(x,y)] | none=>[])
 | [],_,i,x,o,h,_=>by simp at h
 | _ :: _,[],i,x,o,_,h=>by simp at h
 | a :: pl,b :: rw,0,x,o,h1,h2=>by
  simp only [fb,jM] at h1 h2;subst h1 h2;cases b <;> rfl
 | a :: pl,b :: rw,i+1,x,o,h1,h2=>by
  rw [dQ] at h1 h2;have ih:=zef h1 h2;cases b with
  | none=>exact ih
  | some y =>
   show (a,y) :: lD (pl.take (i+1)) (rw.take (i+1))=(a,y) :: lD (pl.take i) (rw.take i)++_;rw [ih];rfl
theorem zcU:∀ (pl:List Int) (rw:List (Option Int)),(lD pl rw).length≤pl.length
 | [],rw=>by unfold lD; simp
 | a :: pl,[]=>by unfold lD; simp
 | a :: pl,none :: rw=>by
  have:=zcU pl rw;show (lD pl rw).length≤pl.length+1;lia
 | a :: pl,some y :: rw=>by
  have:=zcU pl rw;show (lD pl rw).length+1≤pl.length+1;lia
theorem zcm:∀ {pl:List Int} {rw:List (Option Int)} {a:Int×Int},a∈lD pl rw→a.1∈pl∧some a.2∈rw
 | [],_,a,h=>by unfold lD at h; cases h
 | _ :: _,[],a,h=>by unfold lD at h; cases h
 | x :: pl,none :: rw,a,h=>by
  obtain⟨h1,h2⟩:=zcm (pl:=pl) (rw:=rw) h;exact⟨aj _ h1,aj _ h2⟩
 | x :: pl,some y :: rw,a,h=>by
  rcases (aC.mp h) with rfl | h
  ·exact⟨az,az⟩
  ·obtain⟨h1,h2⟩:=zcm (pl:=pl) (rw:=rw) h;exact⟨aj _ h1,aj _ h2⟩
theorem zfz:∀ (pl:List Int) (rw:List (Option Int)),((lD pl rw).map (·.1)).Sublist pl
 | [],_=>by unfold lD; exact g6 _
 | _ :: _,[]=>by unfold lD; exact g6 _
 | x :: pl,none :: rw=>(zfz pl rw).cons _
 | x :: pl,some y :: rw=>(zfz pl rw).cons_cons _
theorem zh9 {p:Int} {pl:List Int} {rw:List (Option Int)} (h1:pl.Nodup) (h2:∀ x∈pl,0≤x∧x < p) (h3:∀ z,some z∈rw→0≤z∧z < p):Pts p (lD pl rw) :=
 ⟨(zfz pl rw).nodup h1,fun q hq=>⟨(h2 _ (zcm hq).1).1,(h2 _ (zcm hq).1).2,(h3 _ (zcm hq).2).1,(h3 _ (zcm hq).2).2⟩⟩
theorem zgs {p:Int} {pl:List Int} {rw:List (Option Int)} {q:List Int} (hl:rw.length=pl.length):∀ n,n≤pl.length→(zbd p pl rw q n).length=hits p q (lD (pl.take n) (rw.take n))
 | 0,_=>by simp [zbd,hits,lD]
 | n+1,hn=>by
  have ih:=zgs (p:=p) (q:=q) hl n #[O];have e1:pl[n]? = some pl[n]:=ap #[O];have e2:rw[n]? = some rw[n]:=ap #[O];rw [ze0,ao,ih,zef e1 e2];unfold hits;rw [dW,ao];congr 1;unfold zak;rw [e1,e2];cases rw[n] with
  | none=>rfl
  | some y =>
   show (if decide (y=zn p pl[n] q)=true then [(n:Int)] else []).length=([(pl[n],y)].filter (hit p q)).length;by_cases e:y=zn p pl[n] q
   ·rw [fc (by simp [hit,e])];simp [e]
   ·rw [fe (by simp [hit]; exact fun z=>e z.symm)];simp [e]
theorem zdH {p:Int} {pl:List Int} {rw:List (Option Int)} {q:List Int} (hl:rw.length=pl.length):(zbd p pl rw q pl.length).length=hits p q (lD pl rw):=by
 have:=zgs (p:=p) (q:=q) hl pl.length (af _);rw [aV,aQ #[O]] at this;exact this
def zgt (p:Int) (k:Nat) (qs:List (List Int)):Prop:=(∀ q∈qs,IsP p k q)∧qs.Pairwise fun a b=>Srt.num p a < Srt.num p b
theorem zcV {B:Int} (hB:1≤B):∀ {a b:List Int},a.length=b.length→(∀ n∈a,0≤n∧n < B)→(∀ n∈b,0≤n∧n < B)→Srt.num B a=Srt.num B b→a=b
 | [],[],_,_,_,_=>rfl
 | c :: a,d :: b,h,ha,hb,e=>by
  have h':a.length=b.length:=by simpa using h
  have ra:=Srt.num_rng hB (ns:=a) fun n hn=>ha n (aj _ hn)
  have rb:=Srt.num_rng hB (ns:=b) fun n hn=>hb n (aj _ hn)
  have e':c*B ^ a.length+Srt.num B a=d*B ^ b.length+Srt.num B b:=e;rw [← h'] at e' rb;generalize B ^ a.length=M at e' ra rb;have hM:0 < M:=by lia
  have qF:c=d:=by
   have e2:(c - d)*M=Srt.num B b - Srt.num B a:=by
    rw [Int.sub_mul];lia
   rcases (jL c d) with lF | heq | hgt
   ·have:(c - d)*M≤(-1)*M:=cq #[O] #[O];lia
   ·exact heq
   ·have:1*M≤(c - d)*M:=cq #[O] #[O];lia
  subst qF;rw [zcV hB h' (fun n hn=>ha n (aj _ hn)) (fun n hn=>hb n (aj _ hn)) #[O]]
 | [],_ :: _,h,_,_,_=>by simp at h
 | _ :: _,[],h,_,_,_=>by simp at h
theorem zlH {p:Int} (hp:1≤p) {k:Nat} {qs:List (List Int)} (h1:∀ q∈qs,IsP p k q) (h2:qs.Nodup) (h3:qs.Pairwise fun a b=>Srt.num p a≤Srt.num p b):zgt p k qs:=by
 refine⟨h1,?_⟩;have h4:=h3.and h2;refine cD (fun {a b} ha hb h=>?_) h4;have lY:Srt.num p a≠Srt.num p b:=fun e=>h.2 (zcV hp ((h1 a ha).1.trans (h1 b hb).1.symm) (h1 a ha).2 (h1 b hb).2 e)
 have:=h.1;lia
theorem zgt.filter {p:Int} {k:Nat} {qs:List (List Int)} (f:List Int→Bool) (h:zgt p k qs):zgt p k (qs.filter f):=⟨fun q hq=>h.1 q (ck.mp hq).1,h.2.filter f⟩
def sm:Nat→(Nat→Int)→Int
 | 0,_=>0
 | n+1,f=>sm n f+f n
theorem zaA {f g:Nat→Int}:∀ {n:Nat},(∀ i,i < n→f i=g i)→sm n f=sm n g
 | 0,_=>rfl
 | n+1,h=>by
  show sm n f+f n=sm n g+g n;rw [zaA (n:=n) fun i hi=>h i #[O],h n #[O]]
theorem zgu {p:Int} {f g:Nat→Int}:∀ {n:Nat},(∀ i,i < n→Cg p (f i) (g i))→Cg p (sm n f) (sm n g)
 | 0,_=>Cg.refl _ _
 | n+1,h=>(zgu (n:=n) fun i hi=>h i #[O]).add (h n #[O])
theorem zhf {f g:Nat→Int}:∀ n:Nat,sm n (fun i=>f i+g i)=sm n f+sm n g
 | 0=>rfl
 | n+1=>by
  show sm n (fun i=>f i+g i)+(f n+g n)=sm n f+f n+(sm n g+g n);rw [zhf n];lia
theorem zc6 {c:Int} {f:Nat→Int}:∀ n:Nat,sm n (fun i=>c*f i)=c*sm n f
 | 0=>by show (0:Int)=c*0; lia
 | n+1=>by
  show sm n (fun i=>c*f i)+c*f n=c*(sm n f+f n);rw [zc6 n,Int.mul_add]
theorem zbo {f:Nat→Int}:∀ {n:Nat},(∀ i,i < n→f i=0)→sm n f=0
 | 0,_=>rfl
 | n+1,h=>by
  show sm n f+f n=0;rw [zbo (n:=n) fun i hi=>h i #[O],h n #[O]];rfl
theorem zhg {f:Nat→Int} {j:Nat}:∀ {n:Nat},j < n→(∀ i,i < n→i≠j→f i=0)→sm n f=f j
 | 0,hj,_=>by lia
 | n+1,hj,h=>by
  show sm n f+f n=f j;by_cases e:j=n
  ·subst e;rw [zbo fun i hi=>h i #[O] #[O]];lia
  ·rw [zhg (n:=n) #[O] fun i hi lY=>h i #[O] lY,h n #[O] #[O]];lia
theorem zia {f:Nat→Int}:∀ n:Nat,sm (n+1) f=f 0+sm n (fun i=>f (i+1))
 | 0=>by show (0:Int)+f 0=f 0+0; lia
 | n+1=>by
  show sm (n+1) f+f (n+1)=f 0+(sm n (fun i=>f (i+1))+f (n+1));rw [zia n];lia
theorem zib {f:Nat→Nat→Int} (m:Nat):∀ n:Nat,sm n (fun i=>sm m (fun j=>f i j))=sm m (fun j=>sm n fun i=>f i j)
 | 0=>(zbo fun _ _=>rfl).symm
 | n+1=>by
  show sm n (fun i=>sm m (fun j=>f i j))+sm m (fun j=>f n j)=sm m (fun j=>sm n (fun i=>f i j)+f n j);rw [zib m n,← zhf]
theorem zic {f:Nat→Int} {m:Nat}:∀ {n:Nat},m≤n→(∀ i,m≤i→i < n→f i=0)→sm n f=sm m f
 | 0,h,_=>by rw [show m=0 by lia]
 | n+1,h,hz=>by
  by_cases e:m=n+1
  ·rw [e]
  ·show sm n f+f n=_;rw [zic (n:=n) #[O] fun i h1 h2=>hz i h1 #[O],hz n #[O] #[O]];lia
def gl (w:List Int) (y:Nat):Int:=w.getD y 0
theorem zb4 {w:List Int} {y:Nat} {c:Int} (h:w[y]? = some c):gl w y=c:=by
 unfold gl;rw [aW,h];rfl
theorem za5 {w:List Int} {y:Nat} (h:w.length≤y):gl w y=0:=by
 unfold gl;rw [aW,cu h];rfl
theorem zaY {w:List Int} {y:Nat} (h:y < w.length):w[y]? = some (gl w y):=by
 rw [ap h,zb4 (ap h)]
theorem zeg {w:List Int} {p:Int} (hp:0 < p) (h:∀ c∈w,0≤c∧c < p) (y:Nat):0≤gl w y∧gl w y < p:=by
 by_cases hy:y < w.length
 ·exact h _ (aE (zaY hy))
 ·rw [za5 #[O]];lia
theorem znd {f:Int→Int} {w:List Int} {y:Nat} (h:y < w.length):gl (w.map f) y=f (gl w y):=zb4 (by rw [ak,zaY h]; rfl)
theorem zne {f:Int→Int→Int} {v w:List Int} {y:Nat} (h:y < v.length) (h':y < w.length):gl (a8 f v w) y=f (gl v y) (gl w y):=zb4 (by rw [cQ,zaY h,zaY h'])
theorem zid {p x:Int}:∀ q:List Int,Cg p (zn p x q) (sm q.length fun i=>gl q i*x ^ i)
 | []=>Cg.refl _ _
 | c :: q=>by
  refine (zad p x c q).trans ?_;rw [bK,zia];have e:sm q.length (fun i=>gl (c :: q) (i+1)*x ^ (i+1))=x*sm q.length (fun i=>gl q i*x ^ i):=by
   rw [← zc6];refine zaA fun i _=>?_
   show gl q i*x ^ (i+1)=_;rw [fK];grind
  rw [e];refine Cg.add (Cg.of_eq ?_) ((Cg.refl p x).mul (zid q));show c=c*x ^ 0;rw [Int.pow_zero,jR]
theorem zbM {p x:Int} {q:List Int} {n:Nat} (h:q.length≤n):Cg p (zn p x q) (sm n fun i=>gl q i*x ^ i):=by
 rw [zic h fun i h1 _=>by rw [za5 h1,eh]];exact zid q
def vx (vs:List (List Int)) (i x:Nat):Int:=gl (vs.getD i []) x
def Rel (p:Int) (L N:Nat) (vs:List (List Int)) (u:Nat→Int):Prop:=∀ x,x < L→Cg p (u x) (sm N fun i=>u (L+i)*vx vs i x)
theorem Rel.sub {p:Int} {L N:Nat} {vs:List (List Int)} {u w r:Nat→Int} (hu:Rel p L N vs u) (hw:Rel p L N vs w) (t:Int) (hr:∀ y,y < L+N→Cg p (r y) (u y - t*w y)):Rel p L N vs r:=fun x hx=>by
 refine (hr x #[O]).trans (((hu x hx).sub ((Cg.refl p t).mul (hw x hx))).trans ?_);have e:sm N (fun i=>u (L+i)*vx vs i x) - t*sm N (fun i=>w (L+i)*vx vs i x)=sm N (fun i=>(u (L+i) - t*w (L+i))*vx vs i x):=by
  rw [show ∀ a b:Int,a - t*b=a+(-t)*b by intros; grind,← zc6,← zhf];exact zaA fun i _=>by grind
 rw [e];exact zgu fun i hi=>(hr (L+i) #[O]).symm.mul (Cg.refl _ _)
structure Ech (p:Int) (L N m:Nat) (vs:List (List Int)) (cl:List (Nat×List Int)):Prop where
 ln:cl.length=m
 one:∀ (j:Nat) (a:Nat×List Int),cl[j]? = some a→a.1 < L∧a.2.length=L+N∧(∀ c∈a.2,0≤c∧c < p)∧Rel p L N vs (gl a.2)∧gl a.2 a.1=1∧∀ i,j < i→i < N→gl a.2 (L+i)=0
 up:∀ (j j':Nat) (a a':Nat×List Int),cl[j]? = some a→cl[j']? = some a'→j < j'→gl a'.2 a.1=0
 ii:∀ u:Nat→Int,Rel p L N vs u→(∀ i,m≤i→i < N→Cg p (u (L+i)) 0)→(∀ a∈cl,Cg p (u a.1) 0)→∀ i,i < N→Cg p (u (L+i)) 0
theorem Ech.start (p:Int) (L N:Nat) (vs:List (List Int)):Ech p L N 0 vs [] where
 ln:=rfl
 one:=fun _ _ h=>by simp at h
 up:=fun _ _ _ _ h=>by simp at h
 ii:=fun u _ h _ i hi=>h i (bh _) hi
structure Wh (p:Int) (L N m:Nat) (vs:List (List Int)) (cl:List (Nat×List Int)) (w:List Int):Prop where
 ln:w.length=L+N
 rg:∀ c∈w,0≤c∧c < p
 rel:Rel p L N vs (gl w)
 top:gl w (L+m)=1
 up:∀ j,m < j→j < N→gl w (L+j)=0
 z:∀ a∈cl,gl w a.1=0
theorem zkl {p:Int} (hp:p∈zp) {L N m:Nat} {vs:List (List Int)} {v:List Int} (hm:m < N) (hv:vs[m]? = some v) (hl:v.length=L) (hr:∀ c∈v,0≤c∧c < p):Wh p L N m vs [] ((v++aw N 0).set (L+m) 1):=by
 have rp:=zu hp;have De:∀ y,y < L→gl ((v++aw N 0).set (L+m) 1) y=gl v y:=fun y hy=>zb4 (by
  rw [dD #[O],bG #[O],zaY #[O]])
 have yO:gl ((v++aw N 0).set (L+m) 1) (L+m)=1:=zb4 (by
  rw [fj (by rw [ao,aT]; lia)])
 have hz:∀ j,j < N→j≠m→gl ((v++aw N 0).set (L+m) 1) (L+j)=0:=fun j hj lY=>zb4 (by
  rw [dD #[O],bD #[O],df];rw [if_pos #[O]])
 refine⟨by rw [im,ao,aT,hl],fun c hc=>?_,fun x hx=>?_,yO,fun j h1 h2=>hz j h2 #[O],fun a ha=>by cases ha⟩
 ·rcases List.mem_or_eq_of_mem_set hc with h | rfl
  ·rcases (aK.mp h) with h | h
   ·exact hr c h
   ·rw [dM h]; lia
  ·lia
 ·rw [De x hx,zhg (j:=m) hm fun i hi lY=>by rw [hz i hi lY,eh],yO,iJ];unfold vx;rw [aW,hv];exact Cg.refl _ _
theorem zlI {p:Int} (hp:p∈zp) {L N m i:Nat} {vs:List (List Int)} {cl:List (Nat×List Int)} {w:List Int} {a:Nat×List Int} (E:Ech p L N m vs cl) (hm:m < N) (ha:cl[i]? = some a) (W:Wh p L N m vs (cl.take i) w) :
  Wh p L N m vs (cl.take (i+1)) (a8 (fun x y=>(x - gl w a.1*y) % p) w a.2):=by
 have rp:=zu hp;obtain⟨a1,a2,a3,a4,a5,a6⟩:=E.one i a ha;have him:i < m:=by rw [← E.ln]; exact (aA.mp ha).1
 have hg:∀ y,y < L+N→gl (a8 (fun x y=>(x - gl w a.1*y) % p) w a.2) y=(gl w y - gl w a.1*gl a.2 y) % p:=fun y hy=>zne (by rw [W.ln]; exact hy) #[O]
 refine⟨by rw [dg,W.ln,a2,Nat.min_self],fun c hc=>?_,W.rel.sub a4 (gl w a.1) fun y hy=>by rw [hg y hy]; exact Cg.emod _ _,?_,fun j h1 h2=>?_,fun b hb=>?_⟩
 ·obtain⟨x,y,rfl⟩:=zd0 hc;exact⟨aJ _ #[O],aD _ #[O]⟩
 ·rw [hg _ #[O],W.top,a6 m him hm,cX,jC];exact cG #[O] #[O]
 ·rw [hg _ #[O],W.up j h1 h2,a6 j #[O] h2,cX];rfl
 ·rw [take_snoc ha] at hb;rcases (aK.mp hb) with hb | hb
  ·obtain⟨j,hj⟩:=cF hb;have hji:j < i:=by
    have:=(aA.mp hj).1;rw [aI] at this;lia
   have oB:cl[j]? = some b:=by rw [cv hji] at hj; exact hj
   have rN:=(E.one j b oB).1;rw [hg _ #[O],W.z b hb,E.up j i b a oB ha hji,cX];rfl
  ·obtain rfl:b=a:=by simpa using hb
   rw [hg _ #[O],a5,jR,Int.sub_self];rfl
theorem zkm {p:Int} (hp:p∈zp) {L N m:Nat} {vs:List (List Int)} {cl:List (Nat×List Int)} {w:List Int} {ld:Nat} (E:Ech p L N m vs cl) (hm:m < N) (W:Wh p L N m vs cl w) (Br:ld < L) (h0:gl w ld≠0) :
  Ech p L N (m+1) vs (cl++[(ld,w.map fun x=>x*inv p (gl w ld) % p)]):=by
 have rp:=zu hp;obtain⟨g0,g1⟩:=zeg (show 0 < p by lia) W.rg ld;have hi:=zfo hp (h:=gl w ld) #[O] g1;have hg:∀ y,y < L+N→gl (w.map fun x=>x*inv p (gl w ld) % p) y=gl w y*inv p (gl w ld) % p:=fun y hy=>znd (f:=fun x=>x*inv p (gl w ld) % p) (by rw [W.ln]; exact hy)
 have mV:∀ j a,(cl++[(ld,w.map fun x=>x*inv p (gl w ld) % p)])[j]? = some a→(j < m∧cl[j]? = some a)∨(j=m∧a=(ld,w.map fun x=>x*inv p (gl w ld) % p)):=fun j a h=>by
  by_cases hj:j < m
  ·rw [bG (by rw [E.ln]; exact hj)] at h;exact .inl ⟨hj,h⟩
  ·rw [bD (by rw [E.ln]; lia),E.ln] at h;have qS:j - m=0:=by
    have:=(aA.mp h).1;simp at this;lia
   rw [qS] at h;exact .inr ⟨#[O],(by simpa using h.symm)⟩
 refine⟨by rw [ao,E.ln]; rfl,fun j a h=>?_,fun j j' a a' h h' lF=>?_,fun u hu hup hz i nK=>?_⟩
 ·rcases mV j a h with ⟨_,h⟩ | ⟨rfl,rfl⟩
  ·exact E.one j a h
  ·refine⟨Br,by rw [ab,W.ln],fun c hc=>?_,?_,?_,fun i h1 h2=>?_⟩
   ·obtain⟨x,_,rfl⟩:=aB.mp hc;exact⟨aJ _ #[O],aD _ #[O]⟩
   ·refine Rel.sub (u:=fun _=>0) (fun x _=>Cg.of_eq (zbo fun i _=>eh _).symm) W.rel (-inv p (gl w ld)) fun y hy=>?_
    rw [hg y hy];exact (Cg.emod _ _).trans (Cg.of_eq (by grind))
   ·rw [hg ld #[O]];have h2:Cg p (gl w ld*inv p (gl w ld)) 1:=(Cg.of_eq (eS _ _)).trans hi;rw [h2.mod_eq];exact cG #[O] #[O]
   ·rw [hg _ #[O],W.up i h1 h2,eh];rfl
 ·rcases mV j' a' h' with ⟨oB,h'⟩ | ⟨rfl,rfl⟩
  ·rcases mV j a h with ⟨_,h⟩ | ⟨rfl,_⟩
   ·exact E.up j j' a a' h h' lF
   ·lia
  ·rcases mV j a h with ⟨_,h⟩ | ⟨rfl,_⟩
   ·have:=(E.one j a h).1;rw [hg _ #[O],W.z a (aE h),eh];rfl
   ·lia
 ·have hru:Rel p L N vs (fun y=>u y - u (L+m)*gl w y):=hu.sub W.rel (u (L+m)) fun y _=>Cg.refl _ _
  have nF:=E.ii (fun y=>u y - u (L+m)*gl w y) hru (fun i h1 h2=>by
   by_cases e:i=m
   ·subst e;show Cg p (u (L+i) - u (L+i)*gl w (L+i)) 0;rw [W.top];exact Cg.of_eq #[O]
   ·show Cg p (u (L+i) - u (L+m)*gl w (L+i)) 0;rw [W.up i #[O] h2,cX,jC];exact hup i #[O] h2) (fun a ha=>by
   show Cg p (u a.1 - u (L+m)*gl w a.1) 0;rw [W.z a ha,cX,jC];exact hz a (aP _ ha))
  have yP:Cg p (u ld - u (L+m)*gl w ld) 0:=(hru ld Br).trans ((zgu (g:=fun _=>0) fun i hi=>((nF i hi).mul (Cg.refl _ _)).trans (Cg.of_eq (eh _))).trans (Cg.of_eq (zbo fun _ _=>rfl)));have oH:=hz (ld,_) (aH _ (aN.mpr rfl));have hc:Cg p (gl w ld*u (L+m)) 0:=by
   have:=oH.sub yP;exact (Cg.of_eq (by show gl w ld*u (L+m)=u ld - (u ld - u (L+m)*gl w ld); grind)).trans (this.trans (Cg.of_eq #[O]))
  have tT:Cg p (u (L+m)) 0:=ze4 hp (by rw [cG g0 g1]; exact h0) hc;have:=nF i nK;have h3:=this.add (tT.mul (Cg.refl p (gl w (L+i))));exact (Cg.of_eq (by show u (L+i)=u (L+i) - u (L+m)*gl w (L+i)+u (L+m)*gl w (L+i); lia)).trans (h3.trans (Cg.of_eq #[O]))
def Indep (p:Int) (L:Nat) (vs:List (List Int)):Prop:=∀ u:Nat→Int,(∀ x,x < L→Cg p (sm vs.length fun i=>u i*vx vs i x) 0)→∀ i,i < vs.length→Cg p (u i) 0
def Dep (p:Int) (L:Nat) (vs:List (List Int)) (c:List Int):Prop:=∀ x,x < L→Cg p (sm vs.length fun i=>gl c i*vx vs i x) 0
theorem zkn {p:Int} {L:Nat} {vs:List (List Int)} {cl:List (Nat×List Int)} (E:Ech p L vs.length vs.length vs cl):Indep p L vs:=fun u hu i hi=>by
 have h:=E.ii (fun y=>if y < L then sm vs.length (fun i=>u i*vx vs i y) else u (y - L)) (fun x hx=>?_) (fun i h1 h2=>by lia) (fun a ha=>?_) i hi
 ·rw [if_neg #[O],ij] at h;exact h
 ·dsimp only;rw [if_pos hx];refine Cg.of_eq (zaA fun i _=>?_);rw [if_neg #[O],ij]
 ·obtain⟨j,hj⟩:=cF ha;have:=(E.one j a hj).1;rw [if_pos this];exact hu _ this
theorem znf {p:Int} {L m:Nat} {vs:List (List Int)} {cl:List (Nat×List Int)} {w:List Int} (W:Wh p L vs.length m vs cl w) (hm:m < vs.length) (hz:∀ x,x < L→gl w x=0) :
  IsP p (m+1) ((w.drop L).take (m+1))∧gl ((w.drop L).take (m+1)) m=1∧Dep p L vs ((w.drop L).take (m+1)):=by
 have hg:∀ i,i≤m→gl ((w.drop L).take (m+1)) i=gl w (L+i):=fun i hi=>zb4 (by
  rw [cv #[O],dX];exact zaY (by rw [W.ln]; lia))
 have hl:((w.drop L).take (m+1)).length=m+1:=by
  rw [aI,bQ,W.ln];lia
 refine⟨⟨hl,fun c hc=>W.rg c (fI (c7 hc))⟩,by rw [hg m (af _)]; exact W.top,fun x hx=>?_⟩;have h:=W.rel x hx;rw [hz x hx] at h;refine Cg.trans (Cg.of_eq (zaA fun i hi=>?_)) h.symm;by_cases e:i≤m
 ·rw [hg i e]
 ·rw [W.up i #[O] hi,za5 #[O]]
theorem zlJ {α β:Type} (f:α→β) (xs:List α) (c:Nat×List α):nxt (xs.map f) (c.1,c.2.map f)=(nxt xs c).map fun d=>(d.1,d.2.map f):=by
 unfold nxt;rw [bt,ab];refine bZ fun j _=>?_
 show (c.1+j+1,c.2.map f++(xs.map f)[c.1+j]?.toList)=(c.1+j+1,(c.2++xs[c.1+j]?.toList).map f);rw [ak,aq];cases xs[c.1+j]? <;> rfl
theorem zie {α β:Type} (f:α→β) (xs:List α):∀ m,chs (xs.map f) m=(chs xs m).map fun d=>(d.1,d.2.map f)
 | 0=>rfl
 | m+1=>by
  show (chs (xs.map f) m).flatMap (nxt (xs.map f))=((chs xs m).flatMap (nxt xs)).map _;rw [zie f xs m,List.map_flatMap,List.flatMap_map];congr 1;funext c;exact zlJ f xs c
theorem ze5 {α β:Type} (f:α→β) (xs:List α) (m:Nat):(chs (xs.map f) m).map (·.2)=((chs xs m).map (·.2)).map (·.map f):=by
 rw [zie,bt,bt];rfl
def PtB (H:Hp):List Addr→List (Int×Int)→Prop:=Paired fun b q=>H b=some (.tup [.int q.1,.int q.2])
theorem PtB.same {H H':Hp} (s:zy H H') {bs:List Addr} {kQ:List (Int×Int)} (h:PtB H bs kQ):PtB H' bs kQ:=bw (fun _ _ z=>s _ _ z) h
theorem PtB.zs {H:Hp}:∀ {bs:List Addr} {kQ:List (Int×Int)},PtB H bs kQ→∃ zs:List (Addr×Int×Int),bs=zs.map (·.1)∧kQ=zs.map (·.2)∧∀ z∈zs,H z.1=some (.tup [.int z.2.1,.int z.2.2])
 | _,_,.nil=>⟨[],rfl,rfl,#[M]⟩
 | _,_,.cons (a:=b) (b:=q) r t=>by
  obtain⟨zs,h1,h2,h3⟩:=PtB.zs t;refine⟨(b,q) :: zs,by rw [h1]; rfl,by rw [h2]; rfl,fun z hz=>?_⟩;rcases (aC.mp hz) with rfl | hz
  ·exact r
  ·exact h3 z hz
theorem PtB.take {H:Hp} {bs:List Addr} {kQ:List (Int×Int)} (h:PtB H bs kQ) (n:Nat):PtB H (bs.take n) (kQ.take n):=by
 induction h generalizing n with
 | nil=>rw [gq,gq]; exact .nil
 | cons r t ih =>
  cases n with
  | zero=>exact .nil
  | succ n=>exact .cons r (ih n)
def zaG (H:Hp):List Addr→List (List Int)→Prop:=Paired fun r q=>H r=some (.tup (q.map V.int))
theorem zaG.same {H H':Hp} (s:zy H H') {rs:List Addr} {qs:List (List Int)} (h:zaG H rs qs):zaG H' rs qs:=bw (fun _ _ z=>s _ _ z) h
theorem zaG.of {H:Hp}:∀ {ps:List (Addr×List Int)},(∀ q∈ps,H q.1=some (.tup (q.2.map V.int)))→zaG H (ps.map (·.1)) (ps.map (·.2))
 | [],_=>.nil
 | a :: ps,h=>.cons (h a az) (zaG.of fun q hq=>h q (aj _ hq))
theorem zko {κ:Type} [DecidableEq κ] (kZ:List (κ×V)) (k:κ) (v:V):(putK kZ k v).map (·.1)=if k∈kZ.map (·.1) then kZ.map (·.1) else kZ.map (·.1)++[k]:=by
 unfold putK;by_cases h:(kZ.any fun kv=>decide (kv.1=k))=true
 ·rw [if_pos h];obtain⟨kv,h1,h2⟩:=g8.mp h;have h2:kv.1=k:=by simpa using h2
  rw [if_pos (by rw [← h2]; exact dP h1),bt];refine bZ fun a _=>?_
  show (if a.1=k then (a.1,v) else a).1=a.1;split <;> rfl
 ·rw [if_neg h];rw [if_neg (fun hm=>h ?_),aq]
  ·rfl
  ·obtain⟨kv,h1,h2⟩:=aB.mp hm;exact g8.mpr ⟨kv,h1,by simpa using h2⟩
theorem zlK {a b:List Int} (h:(a.map c9:List Key)=b.map c9):a=b:=by
 induction a generalizing b with
 | nil=>cases b with
  | nil=>rfl
  | cons _ _=>simp at h
 | cons x a ih=>cases b with
  | nil=>simp at h
  | cons y b =>
   rw [aS,aS] at h;obtain⟨h1,h2⟩:=fq h;rw [kN h1,ih h2]
def KeysAre (kZ:List (List Key×V)) (mM:List (List Int)):Prop:=kZ.map (·.1)=mM.map (·.map c9)
theorem zkp {kZ:List (List Key×V)} {mM:List (List Int)} (h:KeysAre kZ mM) (hn:mM.Nodup) (q:List Int) (v:V):∃ se,KeysAre (putK kZ (q.map c9) v) se∧se.Nodup∧se.length≤mM.length+1∧∀ x,x∈se↔x∈mM∨x=q:=by
 unfold KeysAre at h ⊢;rw [zko,h];have hm:(q.map c9:List Key)∈mM.map (·.map c9)↔q∈mM:=by
  constructor
  ·intro hm;obtain⟨x,hx,e⟩:=aB.mp hm;rw [← zlK e];exact hx
  ·intro hm;exact dP hm
 by_cases hq:q∈mM
 ·refine⟨mM,by rw [if_pos (hm.mpr hq)],hn,#[O],fun x=>⟨.inl,fun z=>z.elim id fun e=>e ▸ hq⟩⟩
 ·refine⟨mM++[q],by rw [if_neg fun z=>hq (hm.mp z),aq]; rfl,?_,by rw [ao]; exact af _,fun x=>by rw [aK,aN]⟩;rw [gD];exact⟨hn,#[M],fun a ha b hb e=>hq (by rw [← aN.mp hb,← e]; exact ha)⟩
def zlL (K:ag):Sp:=fun vs H Q _=>∃ (c tt r:Addr) (p k:Int) (pl:List Int) (rw:List (Option Int)),vs = [.ref c,.ref r]∧zbu H c tt p k pl∧RowAt K H r pl.length rw∧pl.length≤1000 ∧
 ∀ (l:Addr) (bs:List Addr) (H':Hp),H l=none→zy H H'→H' l=some (.lst (bs.map V.ref))→PtB H' bs (lD pl rw)→Q (.ref l) H'
def zeh (K:ag):Sp:=fun vs H Q _=>∃ (c tt a:Addr) (p:Int) (k:Nat) (pl:List Int) (bs:List Addr) (kQ:List (Int×Int)),vs = [.ref c,.ref a]∧zbu H c tt p k pl∧kS K H a (bs.map V.ref)∧PtB H bs kQ∧kQ.length≤16∧p∈zp∧Pts p kQ∧1≤k∧k≤100 ∧
 ∀ (l:Addr) (rs:List Addr) (qs:List (List Int)) (H':Hp),H l=none→zy H H'→H' l=some (.lst (rs.map V.ref))→zaG H' rs qs→qs.length≤65536→zgt p k qs→(∀ q,q∈qs↔∃ pk∈(chs kQ k).map (·.2),q=thr p pk)→Q (.ref l) H'
end My
end
section
namespace L2
open PySem PySem.Spec PyProof.Rows
def zng (K:ag):R2:=fun x y H Q=>∃ a b xs ys,x = .ref a∧y = .ref b∧k6 K H a xs∧k6 K H b ys∧ys≠[]∧xs.length+ys.length≤sizeLine ∧
 (xs = []→Q (.ref b) H)∧(xs≠[]→∀ p,H p=none→Q (.ref p) (kW H p (.tup (xs++ys))))
theorem ze6 {X:Cx} {K:ag} (hK:X.K=K):OpR X (binaryOp .Add) (zng K):=by
 subst hK;intro kP s σ H x y v u Q I rx ry h;obtain⟨a,b,xs,ys,rfl,rfl,ha,hb,hy,hz,q1,q2⟩:=h;by_cases hx:xs = []
 ·cases rx;cases ry;obtain⟨kR,r1,p1,_⟩:=I.tuple ha;obtain⟨me,r2,p2,_⟩:=I.tuple hb;obtain⟨⟨cls,dd,data,sl⟩,ho,hc,n,hd⟩:=id p1;obtain⟨⟨yf,vK,data2,vL⟩,pN,uD,n2,hd2⟩:=id p2;simp only at hc hd uD hd2;subst hc hd uD hd2;exact jr ⟨_,ho,rfl⟩ ⟨_,pN,rfl⟩ gR i7 fk eZ (eM _ _)
   (tuple_addW0 a b kR.toArray me.toArray n n2 dd vK sl vL (by simp [r1.nil_iff.mpr hx])) ⟨ho,pN,⟨.ref b,H,I,rfl,q1 hx⟩⟩
 ·exact zk8 kP s σ H _ _ v u Q I rx ry ⟨a,b,xs,ys,rfl,rfl,ha,hb,hx,hz,fun z=>absurd z hy,fun _=>q2 hx⟩
end L2
end
section
namespace My
open PySem L2 PyProof.Rows
theorem znh {X:Cx} {st:Stmt} {ts:TS} (h:PS X st ts):PS X st (fun D σ H=>∃ Pv:L2.St→Hp→Prop,ts { D with nx:=Pv } σ H∧∀ σ' H',Pv σ' H'→D.nx σ' H'):=by
 intro kP s σ H D I hq;obtain⟨Pv,h1,h2⟩:=hq;refine thn (h kP s σ H _ I h1) fun f s1 q=>?_
 cases f with
 | next =>
  obtain⟨σ',H',I',p⟩:=q;exact⟨σ',H',I',h2 _ _ p⟩
 | ret v=>exact q
 | brk=>exact q
 | cont=>exact q
theorem PtB.pts {K:ag} {H:Hp} {a:Addr} {bs:List Addr} {kQ:List (Int×Int)} (ha:H a=some (.lst (bs.map V.ref))) (h:PtB H bs kQ):zjR K H a kQ:=by
 refine⟨bs,kS.of ha,h.length,fun i b q h1 h2=>?_⟩;obtain⟨q',h3,h4⟩:=Paired.get h h1;rw [h2] at h3;cases h3;exact h4
end My
end
section
namespace L2
open PySem PySem.Spec PyProof.Rows
theorem zc7:fillsNumberSlot (.type "tuple") "mul" = pure false :=
 PySem.fillsNumberSlot_seq (id:="tuple.__mul__") (r:=some (.builtin "tuple.__rmul__")) PySem.F.slot_tuple_mul.lookup #[N] PySem.F.slot_tuple_rmul.lookup #[N]
theorem zfA:seqRepeat? (.type "tuple")=pure (some (.builtin "tuple.__mul__")):=by
 unfold seqRepeat?;rw [j8 (T:="tuple") (name:="__mul__") (id:="tuple.__mul__") PySem.F.slot_tuple_mul.lookup #[N],j8 (T:="tuple") (name:="__rmul__") (id:="tuple.__rmul__") PySem.F.slot_tuple_rmul.lookup #[N]];rfl
theorem zei (a:Int) (t:Tok) (l:Addr) (items:Array Value) (n:Nat) (dd:Option Addr) (sl:Array (Option Value)) :
  Meets (Builtin.«int.__rmul__» ⟨[.int a t,.ref l],[]⟩) (fun _ R s=>s.heap.get? l=some { cls:=.type "tuple",dict:=dd,data:=.seq items n,slots:=sl }∧R (.ok (.ret iX)) s) :=
 .of_wp fun prog w A R s h=>by (obtain⟨hp,g,d,tk,os⟩:=s; obtain⟨hl,h⟩:=h; wp_walk using bX hl; exact⟨_,rfl,h⟩)
theorem zkq (l:Addr) (items:Array Value) (n:Nat) (dd:Option Addr) (sl:Array (Option Value)) (u:Tok) :
  Meets (Builtin.«tuple.__mul__» ⟨[.ref l,.int 1 u],[]⟩) (fun _ R s=>s.heap.get? l=some { cls:=.type "tuple",dict:=dd,data:=.seq items n,slots:=sl }∧R (.ok (.ret (.ref l))) s) :=
 .of_wp fun prog w A R s h=>by
  (obtain⟨hp,g,d,tk,os⟩:=s)
  obtain⟨hl,h⟩:=h;have f1:=hU;have f2:=dL
  wp_walk using bX hl; exact⟨_,rfl,h⟩
theorem zkr (l:Addr) (items:Array Value) (n:Nat) (dd:Option Addr) (sl:Array (Option Value)) (k:Int) (u:Tok) (tT:(decide (k < -(2 ^ 63)) || decide (k≥2 ^ 63))=false) (sR:(items.isEmpty || k == 1)=false) (uD:(decide (k≤0) || items.isEmpty)=true) :
  Meets (Builtin.«tuple.__mul__» ⟨[.ref l,.int k u],[]⟩) (fun _ R s=>s.heap.get? l=some { cls:=.type "tuple",dict:=dd,data:=.seq items n,slots:=sl }∧R (.ok (.ret (aO s.heap.objs.size))) { s with heap:=s.heap.push { cls:=iT "tuple",data:=kM #[] },toks:=s.toks }) :=
 .of_wp fun prog w A R s h=>by
  (obtain⟨hp,g,d,tk,os⟩:=s)
  obtain⟨hl,h⟩:=h;have f1:=hU;have f2:=dL
  wp_walk using bX hl; refine iz (by rw [tT]; rfl) ?_
  wp_walk using bX hl; exact⟨_,rfl,h⟩
theorem zkt (l:Addr) (items:Array Value) (n:Nat) (dd:Option Addr) (sl:Array (Option Value)) (k:Int) (u:Tok) (tT:(decide (k < -(2 ^ 63)) || decide (k≥2 ^ 63))=false) (sR:(items.isEmpty || k == 1)=false) (uD:(decide (k≤0) || items.isEmpty)=false)
  (hc3:¬(items.size:Int)*k > (2 ^ 63 - 1) / 8) (hc4:gr (items.size*k)=false) (hsz:(fC (fun x1 x2=>x1++x2) #[] (aw k.toNat items)).size≤sizeLine) :
  Meets (Builtin.«tuple.__mul__» ⟨[.ref l,.int k u],[]⟩) (fun _ R s=>s.heap.get? l=some { cls:=.type "tuple",dict:=dd,data:=.seq items n,slots:=sl }∧R (.ok (.ret (aO s.heap.objs.size))) { s with heap:=s.heap.push { cls:=iT "tuple",data:=kM (fC (fun x1 x2=>x1++x2) #[] (aw k.toNat items)) },toks:=s.toks }) :=
 .of_wp fun prog w A R s h=>by
  (obtain⟨hp,g,d,tk,os⟩:=s)
  obtain⟨hl,h⟩:=h;have f1:=hU;have f2:=dL
  wp_walk using bX hl; refine iz (by rw [tT]; rfl) ?_
  wp_walk using bX hl; refine iz (decide_eq_false hc3) ?_
  wp_walk using bX hl; exact⟨_,rfl,h⟩
def zn9 (K:ag):R2:=fun x y H Q=>∃ a k xs,x = .ref a∧y = .int k∧k6 K H a xs∧xs≠[]∧-(2 ^ 63)≤k∧k < 2 ^ 63∧xs.length*k.toNat≤sizeLine ∧
 (k=1→Q (.ref a) H)∧(k≠1→∀ p,H p=none→Q (.ref p) (kW H p (.tup (aw k.toNat xs).flatten)))
theorem zif {X:Cx}:OpR X (binaryOp .Mult) (zn9 X.K):=by
 intro kP s σ H x y v u Q I rx ry h;obtain⟨a,k,xs,rfl,rfl,hx,lY,h1,h2,hz,q,q2⟩:=h;cases rx;obtain⟨t,rfl⟩:=ry;obtain⟨kR,r,p1,_⟩:=I.tuple hx;obtain⟨⟨cls,dd,data,sl⟩,ho,hc,n,hd⟩:=id p1;simp only at hc hd;subst hc hd;have hl:xs.length=kR.length:=r.length;have Df:kR≠[]:=fun e=>lY (r.nil_iff.mp e)
 have he:kR.toArray.isEmpty=false:=by simpa using Df
 have tT:(decide (k < -(2 ^ 63)) || decide (k≥2 ^ 63))=false:=by
  rw [decide_eq_false #[O],decide_eq_false #[O]]; rfl
 refine gK (T:="tuple") (U:="int") #[D] ⟨_,ho,rfl⟩ (fun s'=>gJ s' k t) zc7 F.fills_int_mul fE zfA F.slot_int_index.lookup
  (dS fE (gJ s k t) jZ (jI _ _) (zei k t a kR.toArray n dd sl) ⟨ho,rfl,⟨_,ho,rfl⟩,?_⟩)
 by_cases e1:k=1
 ·subst e1;refine dS hV ⟨_,ho,rfl⟩ gG (ge _ _) (zkq a kR.toArray n dd sl t) ⟨ho,?_⟩;exact⟨.ref a,H,I,rfl,q rfl⟩
 have sR:(kR.toArray.isEmpty || k == 1)=false:=by rw [he]; simpa using e1
 by_cases e0:k≤0
 ·refine dS hV ⟨_,ho,rfl⟩ gG (ge _ _) (zkr a kR.toArray n dd sl k t tT sR (by rw [decide_eq_true e0]; rfl)) ⟨ho,?_⟩;have hf:=I.hok.fresh (af _);have e:(aw k.toNat xs).flatten = []:=by rw [show k.toNat=0 by lia]; rfl
  refine⟨.ref s.heap.objs.size,_,I.laid (t':=s.toks) (o:=.tup []) (fun b ob q=>ah _ q) (af _) ?_,rfl,by rw [← e]; exact q2 e1 _ hf⟩;exact⟨bh _,[],.nil,f' _ _⟩
 ·have hm:(kR.toArray.size:Int)*k=((xs.length*k.toNat:Nat):Int):=by
   rw [am,← hl,Int.natCast_mul,Int.toNat_of_nonneg #[O]]
  have oD:(sizeLine:Nat)≤16777216:=by decide
  have uQ:fC (fun x1 x2=>x1++x2) #[] (aw k.toNat kR.toArray)=(aw k.toNat kR).flatten.toArray:=by
   have:=foldl_rep kR k.toNat [];rw [ip] at this;exact this
  refine dS hV ⟨_,ho,rfl⟩ gG (ge _ _) (zkt a kR.toArray n dd sl k t tT sR (by rw [decide_eq_false e0,he]; rfl) (by rw [hm]; lia) (by rw [hm]; unfold gr; exact decide_eq_false #[O]) (by rw [uQ,am,len_rep,jw,← hl]; exact hz)) ⟨ho,?_⟩;have hf:=I.hok.fresh (af _);rw [uQ];refine⟨.ref s.heap.objs.size,_,I.laid (t':=s.toks) (o:=.tup (aw k.toNat xs).flatten) (fun b ob q=>ah _ q) (af _) ?_,rfl,q2 e1 _ hf⟩;exact⟨by rw [len_rep,jw]; exact hz,_,r.rep k.toNat,f' _ _⟩
def zoa (K:ag):R2:=fun x y H Q=>∃ a k xs,x = .ref a∧y = .int k∧k6 K H a xs∧xs≠[]∧-(2 ^ 63)≤k∧k < 2 ^ 63∧xs.length*k.toNat≤sizeLine ∧
 ∀ p H',zy H H'→k6 K H' p (aw k.toNat xs).flatten→Q (.ref p) H'
theorem zlM {X:Cx}:OpR X (binaryOp .Mult) (zoa X.K):=by
 intro kP s σ H x y v u Q I rx ry h;obtain⟨a,k,xs,rfl,rfl,hx,lY,h1,h2,hz,q⟩:=h;exact zif kP s σ H _ _ v u Q I rx ry ⟨a,k,xs,rfl,rfl,hx,lY,h1,h2,hz,fun e=>q a H (fun _ _ e=>e) (by rw [e]; simpa using hx),fun _ p hp=>q p _ (fun b o z=>by rw [zq (fun e=>by rw [e,hp] at z; cases z)]; exact z) (k6.of zd)⟩
theorem zlN {X:Cx} {K:ag} {tg l:Expr} {tl:TE} (hK:X.K=K) (hl:PE X l tl):PI X tg l (znE K tl):=by subst hK; exact zmB hl
end L2
end
section
namespace HT
open PySem PySem.Spec PyProof.Rows
section
variable {prog:Program} {w:World} {A:Around} {E:Value→Shared→Prop} {s:Shared}
theorem getItem_tuple_whole {t sl:Addr} {items:Array Value} {vl vu:Value} {lo hi:Option Int} {Q:Value→Shared→Prop} (ht:IsTup s.heap t items) (hs:s.heap.IsSliceOf sl vl vu .none) (pl:IsPart vl lo) (pu:IsPart vu hi)
  (hw:sIx items.size 0 lo=0∧sIx items.size items.size hi=items.size) (h:Q (.ref t) s):wpAny (model prog w) A (getItem (.ref t) (.ref sl)) Q E s:=by
 obtain⟨os,qG,xA,uP⟩:=id hs;have yg:s.TypeIs (.ref sl) "slice":=⟨os,qG,xA⟩;unfold getItem
 try with_reducible refine bP ?_
 first | refine ae (ai ?_) | skip
 refine ae (gw ht.typeIs #[D] ?_);refine ae (ba (name:=bL "__getitem__") ht.typeIs bU
  (be bU ht.typeIs fO ?_ (f9 _ _)))
 show wpAny _ _ (eC (.ref t) >>= _) _ _ s;refine ae (i8 ht ?_);refine ae (gS yg ?_);rw [if_pos #[D]];refine ae (zbI hs pl pu ?_);have Dg:(((sIx items.size 0 lo:Nat):Int) == 0 && (1:Int) == 1 && (sIx items.size items.size hi - sIx items.size 0 lo) == items.size)=true:=by
  rw [hw.1,hw.2];simp
 show wpAny _ _ (if (((sIx items.size 0 lo:Nat):Int) == 0 && (1:Int) == 1 && (sIx items.size items.size hi - sIx items.size 0 lo) == items.size)=true then _ else _) _ _ s;rw [if_pos Dg];refine ae (m:=Builtin.Tuple.tupleIsExact _) (ae (gS ht.typeIs (ai ?_)));rw [if_pos #[D]]
 first
  | exact ae (cg (ai ⟨_,rfl,ai h⟩))
  | exact ae (ae (cg (ai ⟨_,rfl,ai h⟩)))
end
end HT
namespace L2
open PySem PySem.Spec PyProof.Rows
def zob (K:ag):V→Option Int→Option Int→Hp→VK→Prop:=fun x lo hi H Q=>∃ a xs,x = .ref a∧k6 K H a xs∧∀ p H',zy H H'→k6 K H' p (zba xs lo hi)→Q (.ref p) H'
theorem zlO {X:Cx}:SlR X (zob X.K):=by
 intro kP s σ H x v vl vu lo hi sl Q I rx hs pl pu h;obtain⟨a,xs,rfl,hx,q⟩:=h;by_cases hw:HT.sIx xs.length 0 lo=0∧HT.sIx xs.length xs.length hi=xs.length
 ·have rx':=rx;cases rx;obtain⟨kR,r,ht,hz⟩:=I.tuple hx;have kY:kR.toArray.size=xs.length:=by rw [am]; exact r.length.symm
  refine⟨"tuple",_,PyProof.Rows.slot_tuple_getitem.lookup,ht.typeIs,?_⟩;refine HT.getItem_tuple_whole ht hs pl pu (by rw [kY]; exact hw) ⟨.ref a,H,I,rfl,q a H (fun _ _ e=>e) ?_⟩;have e:zba xs lo hi=xs:=by
   unfold zba;rw [hw.1,hw.2,dI,eU,aV]
  rw [e];exact hx
 ·exact zju kP s σ H (.ref a) v vl vu lo hi sl Q I rx hs pl pu ⟨a,xs,rfl,hx,hw,fun p hp=>q p _ (fun b o z=>by rw [zq (fun e=>by rw [e,hp] at z; cases z)]; exact z) (k6.of zd)⟩
theorem zku {X:Cx} {K:ag} (hK:X.K=K):SlR X (zob K):=by subst hK; exact zlO
def zoE:V→Option Int→Option Int→Hp→VK→Prop:=fun x lo hi H Q=>∃ a xs,x = .ref a∧H a=some (.tup xs)∧∀ p H',zy H H'→H' p=some (.tup (zba xs lo hi))→Q (.ref p) H'
theorem zig {X:Cx}:SlR X zoE:=by
 intro kP s σ H x v vl vu lo hi sl Q I rx hs pl pu h;obtain⟨a,xs,rfl,hx,q⟩:=h;have hX:k6 X.K H a xs:=k6.of hx;by_cases hw:HT.sIx xs.length 0 lo=0∧HT.sIx xs.length xs.length hi=xs.length
 ·cases rx;obtain⟨kR,r,ht,hz⟩:=I.tuple hX;have kY:kR.toArray.size=xs.length:=by rw [am]; exact r.length.symm
  refine⟨"tuple",_,PyProof.Rows.slot_tuple_getitem.lookup,ht.typeIs,?_⟩;refine HT.getItem_tuple_whole ht hs pl pu (by rw [kY]; exact hw) ⟨.ref a,H,I,rfl,q a H (fun _ _ e=>e) ?_⟩;have e:zba xs lo hi=xs:=by
   unfold zba;rw [hw.1,hw.2,dI,eU,aV]
  rw [e];exact hx
 ·exact zju kP s σ H (.ref a) v vl vu lo hi sl Q I rx hs pl pu ⟨a,xs,rfl,hX,hw,fun p hp=>q p _ (fun b o z=>by rw [zq (fun e=>by rw [e,hp] at z; cases z)]; exact z) zd⟩
def zoc:R2:=fun x y H Q=>∃ a b xs ys,x = .ref a∧y = .ref b∧H a=some (.tup xs)∧H b=some (.tup ys)∧xs.length+ys.length≤sizeLine∧ys≠[]∧∀ p H',zy H H'→H' p=some (.tup (xs++ys))→Q (.ref p) H'
theorem zfB {X:Cx}:OpR X (binaryOp .Add) zoc:=by
 intro kP s σ H x y v u Q I rx ry h;obtain⟨a,b,xs,ys,rfl,rfl,ha,hb,hz,hy,q⟩:=h;refine ze6 rfl kP s σ H _ _ v u Q I rx ry ⟨a,b,xs,ys,rfl,rfl,k6.of ha,k6.of hb,hy,hz,fun e=>?_,fun _ p hp=>q p _ (fun b o z=>by rw [zq (fun e=>by rw [e,hp] at z; cases z)]; exact z) zd⟩;subst e;exact q b H (fun _ _ e=>e) hb
def zod:R2:=fun x y H Q=>∃ a k xs,x = .ref a∧y = .int k∧H a=some (.tup xs)∧xs≠[]∧-(2 ^ 63)≤k∧k < 2 ^ 63∧xs.length*k.toNat≤sizeLine∧∀ p H',zy H H'→H' p=some (.tup (aw k.toNat xs).flatten)→Q (.ref p) H'
theorem zlP {X:Cx}:OpR X (binaryOp .Mult) zod:=by
 intro kP s σ H x y v u Q I rx ry h;obtain⟨a,k,xs,rfl,rfl,hx,lY,h1,h2,hz,q⟩:=h;refine zif kP s σ H _ _ v u Q I rx ry ⟨a,k,xs,rfl,rfl,k6.of hx,lY,h1,h2,hz,fun e=>q a H (fun _ _ e=>e) (by rw [e]; simpa using hx),fun _ p hp=>q p _ (fun b o z=>by rw [zq (fun e=>by rw [e,hp] at z; cases z)]; exact z) zd⟩
end L2
end
section
namespace My
open PySem L2 PyProof.Rows
def md (p:Int) (q:Int×Int):Int×Int:=(q.1,q.2 % p)
theorem zgv (p:Int) (s:List Int×List Int) (q:Int×Int):zcc p s (md p q)=zcc p s q:=by
 unfold zcc md;have:(q.2 % p - zn p q.1 s.1)*inv p (zn p q.1 s.2) % p=(q.2 - zn p q.1 s.1)*inv p (zn p q.1 s.2) % p:=(((Cg.emod p q.2).sub (Cg.refl p _)).mul (Cg.refl p _)).mod_eq;dsimp only;rw [this]
theorem zih (p:Int):∀ (kQ:List (Int×Int)) (s:List Int×List Int),(kQ.map (md p)).foldl (zcc p) s=kQ.foldl (zcc p) s
 | [],s=>rfl
 | q :: kQ,s=>by
  rw [aS,io,io,zgv,zih p kQ]
theorem zni (p:Int) (kQ:List (Int×Int)):thr p (kQ.map (md p))=thr p kQ:=by
 unfold thr znZ;rw [zih,ab]
def zgw (K:ag):Sp:=fun vs H Q _=>∃ (p:Int) (a:Addr) (kQ:List (Int×Int)),vs = [.int p,.ref a]∧zjR K H a kQ∧kQ.length≤100∧p∈zp∧Pts p (kQ.map (md p))∧(∀ q∈kQ,0≤q.2∧q.2 < 10000) ∧
 ∀ (l:Addr) (H':Hp),H l=none→zy H H'→H' l=some (.tup ((thr p (kQ.map (md p))).map V.int))→Q (.ref l) H'
def zhh (K:ag):Sp:=fun vs H Q _=>∃ (p tm:Int) (a b:Addr) (as bs:List Int),vs = [.int p,.ref a,.int tm,.ref b]∧H a=some (.lst (as.map V.int))∧H b=some (.lst (bs.map V.int))∧as.length=bs.length∧as.length≤1000∧0 < p∧0≤tm∧tm < 1000 ∧
 ∀ (l:Addr) (H':Hp),H l=none→zy H H'→H' l=some (.lst ((a8 (fun x y=>(x - tm*y) % p) as bs).map V.int))→Q (.ref l) H'
def LsA (H:Hp):List Addr→List (List Int)→Prop:=Paired fun b v=>H b=some (.lst (v.map V.int))
theorem LsA.same {H H':Hp} (s:zy H H') {bs:List Addr} {vv:List (List Int)} (h:LsA H bs vv):LsA H' bs vv:=bw (fun _ _ z=>s _ _ z) h
def ClA (ca:Addr) (H:Hp):List Addr→List (Nat×List Int)→Prop:=Paired fun b a=>∃ wa,H b=some (.tup [.int (a.1:Int),.ref wa])∧H wa=some (.lst (a.2.map V.int))∧wa≠ca
theorem ClA.same {ca:Addr} {H H':Hp} (s:zy H H') {bs:List Addr} {cl:List (Nat×List Int)} (h:ClA ca H bs cl):ClA ca H' bs cl:=bw (fun _ _ ⟨wa,z1,z2,z3⟩=>⟨wa,s _ _ z1,s _ _ z2,z3⟩) h
theorem ClA.put {ca:Addr} {H:Hp} {bs:List Addr} {cl:List (Nat×List Int)} {xs:List V} {o:HO} (h:ClA ca H bs cl) (hf:H ca=some (.lst xs)):ClA ca (kW H ca o) bs cl:=bw (fun b _ ⟨wa,z1,z2,z3⟩=>⟨wa,by
 rw [zq (fun e=>by rw [e,hf] at z1; cases z1)]; exact z1,by rw [zq z3]; exact z2,z3⟩) h
theorem zlQ {xs:List V} {a b:Nat} (h:b≤xs.length):zba xs (some (a:Int)) (some (b:Int))=(xs.drop a).take (b - a):=by
 unfold zba;rw [HT.sIx_nat,HT.sIx_nat];by_cases ha:a≤xs.length
 ·rw [c6 ha,c6 h]
 ·rw [show min a xs.length=xs.length by lia,c6 h,d6 (af _),d6 (show xs.length≤a by lia),gq,gq]
def zcW (K:ag):Sp:=fun vs H Q _=>∃ (p:Int) (a:Addr) (ls:List Addr) (vv:List (List Int)) (L:Nat),vs = [.int p,.ref a]∧H a=some (.lst (ls.map V.ref))∧LsA H ls vv∧vv≠[]∧vv.length≤100∧L≤800∧(∀ v∈vv,v.length=L∧∀ c∈v,0≤c∧c < p)∧p∈zp ∧
 (∀ H',zy H H'→Indep p L vv→Q .non H')∧(∀ (l:Addr) (c:List Int) (m:Nat) (H':Hp),H l=none→zy H H'→H' l=some (.lst (c.map V.int))→IsP p (m+1) c→m < vv.length→gl c m=1→Dep p L vv c→Q (.ref l) H')
theorem znj {K:ag} {H H':Hp} {a:Addr} {xs:List V} (e:zy H H') (h:k6 K H a xs):k6 K H' a xs:=by
 rcases h with (h | ⟨o,h⟩) | h
 ·exact .inl (.inl (e _ _ h))
 ·exact .inl (.inr ⟨o,e _ _ h⟩)
 ·exact .inr h
def tmP (p:Int) (l:List Int) (kQ:List (Int×Int)):List (Int×Int):=kQ.map fun a=>(a.1,zn p a.1 l*a.2 % p)
theorem zcn {p:Int} (p0:0 < p) {l:List Int} {kQ:List (Int×Int)} (hP:Pts p kQ):Pts p (tmP p l kQ):=by
 refine⟨?_,fun q hq=>?_⟩
 ·unfold tmP;rw [bt];exact hP.nd
 ·obtain⟨a,ha,rfl⟩:=aB.mp hq;obtain⟨h1,h2,_⟩:=hP.rg a ha;exact⟨h1,h2,aJ _ #[O],aD _ p0⟩
theorem zkv (p:Int) (l:List Int) (kQ:List (Int×Int)):(kQ.map fun a=>(a.1,zn p a.1 l*a.2)).map (md p)=tmP p l kQ:=by
 rw [bt];rfl
def zc8 (K:ag):Sp:=fun vs H Q _=>∃ (p:Int) (la a:Addr) (l:List Int) (bs:List Addr) (kQ:List (Int×Int)),vs = [.int p,.ref la,.ref a]∧k6 K H la (l.map V.int)∧kS K H a (bs.map V.ref)∧PtB H bs kQ∧kQ.length≤100∧p∈zp∧Pts p kQ ∧
 ∀ (z:Addr) (H':Hp),H z=none→zy H H'→H' z=some (.tup ((thr p (tmP p l kQ)).map V.int))→Q (.ref z) H'
def bey (m:Nat) (rs:List (List Int)):List Int:=rs.flatMap fun r=>r.drop m
theorem zgx (m:Nat) {rs:List (List Int)} {i:Nat} {r:List Int} (h:rs[i]? = some r):bey m (rs.take (i+1))=bey m (rs.take i)++r.drop m:=by
 unfold bey;rw [take_snoc h,fQ];simp
def zi4 (K:ag):Sp:=fun vs H Q _=>∃ (a:Addr) (m:Nat) (bs:List Addr) (rs:List (List Int)),vs = [.ref a,.int (m:Int)]∧kS K H a (bs.map V.ref)∧zaG H bs rs∧(∀ i,(bey m (rs.take i)).length≤10000) ∧
 ∀ (z:Addr) (H':Hp),H z=none→zy H H'→H' z=some (.lst ((bey m rs).map V.int))→Q (.ref z) H'
def szd (q:List Int) (m:Nat):List Int:=(q++aw m 0).take m
def zkw (K:ag):Sp:=fun vs H Q _=>∃ (a:Addr) (m:Nat) (q:List Int),vs = [.ref a,.int (m:Int)]∧H a=some (.tup (q.map V.int))∧1≤m∧q.length+m≤10000 ∧
 ∀ (z:Addr) (H':Hp),zy H H'→H' z=some (.tup ((szd q m).map V.int))→Q (.ref z) H'
def unit (i:Nat):List Int:=aw i 0++[1]
theorem zii (i j:Nat):gl (unit i) j=if j=i then 1 else 0:=by
 unfold unit;by_cases h:j < i
 ·rw [if_neg #[O]];exact zb4 (by rw [bG (by rw [aT]; exact h),df,if_pos h])
 ·by_cases e:j=i
  ·rw [if_pos e];exact zb4 (by rw [bD (by rw [aT]; lia),aT,e,fM]; rfl)
  ·rw [if_neg e];exact za5 (by rw [ao,aT]; show i+1≤j; lia)
theorem zi5 {p x:Int} (i:Nat):Cg p (zn p x (unit i)) (x ^ i):=by
 refine (zbM (n:=i+1) (by unfold unit; rw [ao,aT]; exact af _)).trans ?_;rw [zhg (j:=i) #[O] fun j _ lY=>by rw [zii,if_neg lY,eh],zii,if_pos rfl,iJ];exact Cg.refl _ _
def Tp (p:Int) (kQ:List (Int×Int)) (i:Nat):List Int:=thr p (tmP p (unit i) kQ)
theorem zcE {p:Int} (hp:p∈zp) {kQ:List (Int×Int)} (hP:Pts p kQ) (l:List Int):(thr p (tmP p l kQ)).length=kQ.length:=by
 have rp:=zu hp;rw [(zd3 hp (zcn (l:=l) #[O] hP)).1];unfold tmP;rw [ab]
theorem zkx {p:Int} (hp:p∈zp) {kQ:List (Int×Int)} (hP:Pts p kQ) (l:List Int):∀ c∈thr p (tmP p l kQ),0≤c∧c < p:=by
 have rp:=zu hp;exact (zd3 hp (zcn (l:=l) #[O] hP)).2.1
theorem zmn {p:Int} (hp:p∈zp) {kQ:List (Int×Int)} (hP:Pts p kQ) (l:List Int) {a:Int×Int} (ha:a∈kQ):zn p a.1 (thr p (tmP p l kQ))=zn p a.1 l*a.2 % p:=by
 have rp:=zu hp;exact (zd3 hp (zcn (l:=l) #[O] hP)).2.2 _ (aB.mpr ⟨a,ha,rfl⟩)
theorem zij {p:Int} (hp:p∈zp) {kQ:List (Int×Int)} (hP:Pts p kQ) {l:List Int} {N:Nat} (hl:l.length≤N) (x:Nat):Cg p (gl (thr p (tmP p l kQ)) x) (sm N fun i=>gl l i*gl (Tp p kQ i) x):=by
 have rp:=zu hp;have p0:0 < p:=by lia
 obtain⟨C,hC⟩:∃ C,C=(aR kQ.length).map fun x=>(sm N fun i=>gl l i*gl (Tp p kQ i) x) % p:=⟨_,rfl⟩
 have hCl:C.length=kQ.length:=by rw [hC,ab,bM]
 have hCg:∀ x,x < kQ.length→gl C x=(sm N fun i=>gl l i*gl (Tp p kQ i) x) % p:=fun x hx=>zb4 (by rw [hC,ak,dh hx]; rfl)
 have hCr:∀ c∈C,0≤c∧c < p:=fun c hc=>by
  rw [hC] at hc;obtain⟨x,_,rfl⟩:=aB.mp hc;exact⟨aJ _ #[O],aD _ p0⟩
 have Dh:∀ a∈kQ,zn p a.1 C=zn p a.1 l*a.2 % p:=fun a ha=>by
  refine Cg.eq ?_ (zaN p0 _) (zaO p0 _) (aJ _ #[O]) (aD _ p0);refine (zbM (n:=kQ.length) #[O]).trans ?_;have h1:Cg p (sm kQ.length fun x=>gl C x*a.1 ^ x) (sm kQ.length fun x=>sm N fun i=>gl l i*(gl (Tp p kQ i) x*a.1 ^ x)):=zgu fun x hx=>by
   rw [hCg x hx];refine ((Cg.emod _ _).mul (Cg.refl p _)).trans (Cg.of_eq ?_);rw [eS,← zc6];exact zaA fun i _=>by grind
  refine h1.trans ?_;rw [zib];have h2:Cg p (sm N fun i=>sm kQ.length fun x=>gl l i*(gl (Tp p kQ i) x*a.1 ^ x)) (sm N fun i=>a.2*(gl l i*a.1 ^ i)):=zgu fun i _=>by
   rw [zc6];have e1:Cg p (sm kQ.length fun x=>gl (Tp p kQ i) x*a.1 ^ x) (zn p a.1 (Tp p kQ i)):=(zbM (by unfold Tp; rw [zcE hp hP]; exact af _)).symm;have e2:Cg p (zn p a.1 (Tp p kQ i)) (a.1 ^ i*a.2):=by
    unfold Tp;rw [zmn hp hP (unit i) ha];exact (Cg.emod _ _).trans ((zi5 i).mul (Cg.refl p _))
   exact ((Cg.refl p (gl l i)).mul (e1.trans e2)).trans (Cg.of_eq (by grind))
  refine h2.trans ?_;rw [zc6];refine ((Cg.refl p a.2).mul (zbM hl).symm).trans ((Cg.of_eq (eS _ _)).trans (Cg.emod _ _).symm)
 have Di:C=thr p (tmP p l kQ):=zhd hp (zcn p0 hP) (by unfold tmP; rw [ab]; exact hCl) hCr fun a ha=>by
  obtain⟨b,hb,rfl⟩:=aB.mp ha;exact Dh b hb
 rw [← Di];by_cases hx:x < kQ.length
 ·rw [hCg x hx];exact Cg.emod _ _
 ·rw [za5 #[O]];refine Cg.of_eq (zbo fun i _=>?_).symm;rw [za5 (w:=Tp p kQ i) (by unfold Tp; rw [zcE hp hP]; lia),cX]
theorem zhi {a b:List Int} (x:Nat):gl (a++b) x=if x < a.length then gl a x else gl b (x - a.length):=by
 unfold gl;rw [aW,aW,aW];by_cases h:x < a.length
 ·rw [if_pos h,bG h]
 ·rw [if_neg h,bD #[O]]
theorem zlR {a:List Int} (m x:Nat):gl (a.drop m) x=gl a (m+x):=by
 unfold gl;rw [aW,aW,dX]
theorem zik {p:Int} (hp:p∈zp) {c:Nat→Int} {N m:Nat}:∀ {kU:List (List (Int×Int))},(∀ kQ∈kU,Pts p kQ) →
  ((∀ x,Cg p (sm N fun i=>c i*gl (bey m (kU.map fun kQ=>Tp p kQ i)) x) 0)↔∀ kQ∈kU,∀ y,m≤y→Cg p (sm N fun i=>c i*gl (Tp p kQ i) y) 0)
 | [],_=>by
  refine⟨fun _ kQ h=>by (cases h),fun _ x=>Cg.of_eq (zbo fun i _=>?_)⟩;show c i*gl [] x=0;rw [za5 (bh _),cX]
 | kQ :: kU,hP=>by
  have ih:=zik hp (c:=c) (N:=N) (m:=m) (kU:=kU) fun q hq=>hP q (aj _ hq)
  have hl:∀ i,((Tp p kQ i).drop m).length=kQ.length - m:=fun i=>by
   rw [bQ];unfold Tp;rw [zcE hp (hP kQ az)]
  have hb:∀ i x,gl (bey m ((kQ :: kU).map fun kQ=>Tp p kQ i)) x=if x < kQ.length - m then gl (Tp p kQ i) (m+x) else gl (bey m (kU.map fun kQ=>Tp p kQ i)) (x - (kQ.length - m)):=fun i x=>by
   have:bey m ((kQ :: kU).map fun kQ=>Tp p kQ i)=(Tp p kQ i).drop m++bey m (kU.map fun kQ=>Tp p kQ i):=rfl;rw [this,zhi,hl,zlR]
  constructor
  ·intro h q hq y hy;rcases (aC.mp hq) with rfl | hq
   ·by_cases hyl:y < q.length
    ·have:=h (y - m);refine Cg.trans (Cg.of_eq (zaA fun i _=>?_)) this;rw [hb,if_pos #[O],show m+(y - m)=y by lia]
    ·refine Cg.of_eq (zbo fun i _=>?_);rw [za5 (by unfold Tp; rw [zcE hp (hP q az)]; lia),cX]
   ·refine ih.mp (fun x=>?_) q hq y hy;have:=h (kQ.length - m+x);refine Cg.trans (Cg.of_eq (zaA fun i _=>?_)) this;rw [hb,if_neg #[O],show kQ.length - m+x - (kQ.length - m)=x by lia]
  ·intro h x;by_cases hx:x < kQ.length - m
   ·have:=h kQ az (m+x) #[O];refine Cg.trans (Cg.of_eq (zaA fun i _=>?_)) this;rw [hb,if_pos hx]
   ·have:=ih.mpr (fun q hq=>h q (aj _ hq)) (x - (kQ.length - m));refine Cg.trans (Cg.of_eq (zaA fun i _=>?_)) this;rw [hb,if_neg hx]
def Good (p:Int) (k e:Nat) (kU:List (List (Int×Int))) (l:List Int):Prop:=∀ kQ∈kU,∃ right,IsP p (k+e) right∧∀ a∈kQ,zn p a.1 right=zn p a.1 l*a.2 % p
theorem zky (q:List Int) (m x:Nat):gl (szd q m) x=if x < m then gl q x else 0:=by
 unfold szd;by_cases h:x < m
 ·rw [if_pos h];unfold gl;rw [aW,cv h,← aW];show gl (q++aw m 0) x=_;rw [zhi];split
  ·rfl
  ·show gl (aw m 0) _=q.getD x 0;rw [show q.getD x 0=gl q x from rfl,za5 (w:=q) #[O]];unfold gl;rw [aW,df];split <;> rfl
 ·rw [if_neg h];exact za5 (by rw [aI]; lia)
theorem zil {p:Int} (p0:0 < p) {q:List Int} (hq:∀ c∈q,0≤c∧c < p) (m:Nat):IsP p m (szd q m):=by
 unfold szd;refine⟨by rw [aI,ao,aT]; lia,fun c hc=>?_⟩;rcases aK.mp (c7 hc) with h | h
 ·exact hq c h
 ·rw [dM h]; lia
theorem zgy {p:Int} (p0:0 < p) {q:List Int} {m:Nat} (hz:∀ y,m≤y→gl q y=0) (x:Int):zn p x (szd q m)=zn p x q:=by
 refine Cg.eq ?_ (zaN p0 _) (zaO p0 _) (zaN p0 _) (zaO p0 _);refine (zbM (n:=q.length+m) (by unfold szd; rw [aI,ao,aT]; lia)).trans (Cg.trans (Cg.of_eq (zaA fun i _=>?_)) (zbM (n:=q.length+m) #[O]).symm);rw [zky];by_cases h:i < m
 ·rw [if_pos h]
 ·rw [if_neg h,hz i #[O]]
theorem zkz {p:Int} (hp:p∈zp) {k e:Nat} {kQ:List (Int×Int)} (hP:Pts p kQ) {l:List Int} (hz:∀ y,k+e≤y→gl (thr p (tmP p l kQ)) y=0) :
  IsP p (k+e) (szd (thr p (tmP p l kQ)) (k+e))∧∀ a∈kQ,zn p a.1 (szd (thr p (tmP p l kQ)) (k+e))=zn p a.1 l*a.2 % p:=by
 have rp:=zu hp;refine⟨zil #[O] (zkx hp hP l) _,fun a ha=>?_⟩;rw [zgy #[O] hz];exact zmn hp hP l ha
theorem zi6 {p:Int} (hp:p∈zp) {k e:Nat} {kQ:List (Int×Int)} (hP:Pts p kQ) {l right:List Int} (hr:IsP p (k+e) right) (Dh:∀ a∈kQ,zn p a.1 right=zn p a.1 l*a.2 % p) (y:Nat) (hy:k+e≤y):gl (thr p (tmP p l kQ)) y=0:=by
 have rp:=zu hp;by_cases hyl:y < kQ.length
 ·have e1:right++aw (kQ.length - (k+e)) 0=thr p (tmP p l kQ):=zhd hp (zcn #[O] hP) (by unfold tmP; rw [ab,ao,aT,hr.1]; lia) (fun c hc=>by
   rcases aK.mp hc with h | h
   ·exact hr.2 c h
   ·rw [dM h]; lia) fun a ha=>by
    obtain⟨b,hb,rfl⟩:=aB.mp ha;rw [zf1];exact Dh b hb
  rw [← e1,zhi,hr.1,if_neg #[O]];unfold gl;rw [aW,df];split <;> rfl
 ·exact za5 (by rw [zcE hp hP]; lia)
def za6 (p:Int) (k e:Nat) (kU:List (List (Int×Int))):List (List Int):=(aR (e+1)).map fun i=>bey (k+e) (kU.map fun kQ=>Tp p kQ i)
theorem zlS {p:Int} {k e:Nat} {kU:List (List (Int×Int))} {i:Nat} (hi:i < e+1) (x:Nat):vx (za6 p k e kU) i x=gl (bey (k+e) (kU.map fun kQ=>Tp p kQ i)) x:=by
 unfold vx za6;rw [aW,ak,dh hi];rfl
theorem zdI {p:Int} (hp:p∈zp) {m i:Nat}:∀ {kU:List (List (Int×Int))},(∀ kQ∈kU,Pts p kQ)→(bey m (kU.map fun kQ=>Tp p kQ i)).length=(kU.map fun kQ=>kQ.length - m).sum
 | [],_=>rfl
 | kQ :: kU,hP=>by
  have:bey m ((kQ :: kU).map fun kQ=>Tp p kQ i)=(Tp p kQ i).drop m++bey m (kU.map fun kQ=>Tp p kQ i):=rfl;rw [this,ao,zdI hp fun q hq=>hP q (aj _ hq),bQ,aS,ft];unfold Tp;rw [zcE hp (hP kQ az)]
def zcg (k e:Nat) (kU:List (List (Int×Int))):Nat:=(kU.map fun kQ=>kQ.length - (k+e)).sum
theorem zlT {p:Int} (hp:p∈zp) {k e:Nat} {kU:List (List (Int×Int))} (hP:∀ kQ∈kU,Pts p kQ):∀ v∈za6 p k e kU,v.length=zcg k e kU∧∀ c∈v,0≤c∧c < p:=fun v hv=>by
 obtain⟨i,_,rfl⟩:=aB.mp hv;refine⟨zdI hp hP,fun c hc=>?_⟩;obtain⟨r,hr,hcr⟩:=et.mp hc;obtain⟨kQ,lG,rfl⟩:=aB.mp hr;exact zkx hp (hP kQ lG) _ c (fI hcr)
theorem zmo {p:Int} (hp:p∈zp) {k e:Nat} {kU:List (List (Int×Int))} (hP:∀ kQ∈kU,Pts p kQ) {c:Nat→Int} :
  (∀ x,x < zcg k e kU→Cg p (sm (za6 p k e kU).length fun i=>c i*vx (za6 p k e kU) i x) 0)↔∀ kQ∈kU,∀ y,k+e≤y→Cg p (sm (e+1) fun i=>c i*gl (Tp p kQ i) y) 0:=by
 have hn:(za6 p k e kU).length=e+1:=by unfold za6; rw [ab,bM]
 rw [hn,← zik hp hP];have hs:∀ x,sm (e+1) (fun i=>c i*vx (za6 p k e kU) i x)=sm (e+1) fun i=>c i*gl (bey (k+e) (kU.map fun kQ=>Tp p kQ i)) x:=fun x=>zaA fun i hi=>by rw [zlS hi]
 constructor
 ·intro h x;by_cases hx:x < zcg k e kU
  ·rw [← hs]; exact h x hx
  ·refine Cg.of_eq (zbo fun i _=>?_);rw [za5 (by rw [zdI hp hP]; exact gU hx),cX]
 ·intro h x _;rw [hs];exact h x
theorem zkA {p:Int} (hp:p∈zp) {k e:Nat} {kU:List (List (Int×Int))} (hP:∀ kQ∈kU,Pts p kQ) (hI:Indep p (zcg k e kU) (za6 p k e kU)) {l:List Int} (hl:IsP p (e+1) l) (hg:Good p k e kU l):∀ i,gl l i=0:=by
 have rp:=zu hp;have hn:(za6 p k e kU).length=e+1:=by unfold za6; rw [ab,bM]
 intro i;by_cases hi:i < e+1
 ·have h:=hI (gl l) ((zmo hp hP).mpr fun kQ lG y hy=>?_) i #[O]
  ·obtain⟨g0,g1⟩:=zeg (show 0 < p by lia) hl.2 i;exact h.eq g0 g1 (bT _) #[O]
  ·obtain⟨right,h1,h2⟩:=hg kQ lG;refine (zij hp (hP kQ lG) (by rw [hl.1]; exact af _) y).symm.trans (Cg.of_eq ?_);exact zi6 hp (hP kQ lG) h1 h2 y hy
 ·exact za5 (by rw [hl.1]; lia)
theorem zkB {p:Int} (hp:p∈zp) {k e:Nat} {kU:List (List (Int×Int))} (hP:∀ kQ∈kU,Pts p kQ) {c:List Int} (hc:c.length≤e+1) (hD:Dep p (zcg k e kU) (za6 p k e kU) c):∀ kQ∈kU,∀ y,k+e≤y→gl (thr p (tmP p c kQ)) y=0:=fun kQ lG y hy=>by
 have rp:=zu hp;have h:=(zmo hp hP).mp hD kQ lG y hy;obtain⟨g0,g1⟩:=zeg (show 0 < p by lia) (zkx hp (hP kQ lG) c) y;exact ((zij hp (hP kQ lG) hc y).trans h).eq g0 g1 (bT _) #[O]
theorem zkC {p:Int} (hp:p∈zp) {k e n:Nat} {kU:List (List (Int×Int))} (hn:∀ kQ∈kU,kQ.length≤n) (hI:Indep p (zcg k e kU) (za6 p k e kU)):k+e < n:=by
 have rp:=zu hp;refine Nat.lt_of_not_le fun h=>?_
 have h0:zcg k e kU=0:=by
  unfold zcg;refine List.sum_eq_zero_iff_forall_eq_nat.mpr fun x hx=>?_
  obtain⟨kQ,lG,rfl⟩:=aB.mp hx;have:=hn kQ lG;lia
 have hl:(za6 p k e kU).length=e+1:=by unfold za6; rw [ab,bM]
 have:=hI (fun _=>1) (fun x hx=>by lia) 0 #[O];have:=this.eq #[O] #[O] (bT _) #[O];lia
structure LocOk (p:Int) (k:Nat) (kU:List (List (Int×Int))) (e:Nat) (left:List Int) (oI:List (List Int)):Prop where
 lf:IsP p (e+1) left
 nz:∃ i,gl left i≠0
 rt:oI=kU.map fun kQ=>szd (thr p (tmP p left kQ)) (k+e)
 ok:∀ kQ∈kU,IsP p (k+e) (szd (thr p (tmP p left kQ)) (k+e))∧∀ a∈kQ,zn p a.1 (szd (thr p (tmP p left kQ)) (k+e))=zn p a.1 left*a.2 % p
 mn:∀ e',e' < e→∀ l,IsP p (e'+1) l→Good p k e' kU l→∀ i,gl l i=0
theorem zlU {p:Int} (p0:0 < p) {c:List Int} {m:Nat} (hc:c.length≤m) (kQ:List (Int×Int)):tmP p (szd c m) kQ=tmP p c kQ:=by
 unfold tmP;refine bZ fun a _=>?_
 rw [zgy p0 fun y hy=>za5 #[O]]
theorem znk {p:Int} (hp:p∈zp) {k e:Nat} {kU:List (List (Int×Int))} (hP:∀ kQ∈kU,Pts p kQ) {c:List Int} {m:Nat} (hc:IsP p (m+1) c) (hm:m < e+1) (h1:gl c m=1) (hD:Dep p (zcg k e kU) (za6 p k e kU) c)
  (wC:∀ e',e' < e→Indep p (zcg k e' kU) (za6 p k e' kU)):LocOk p k kU e (szd c (e+1)) (kU.map fun kQ=>szd (thr p (tmP p (szd c (e+1)) kQ)) (k+e)):=by
 have rp:=zu hp;have qH:c.length≤e+1:=by rw [hc.1]; lia
 refine⟨zil #[O] hc.2 _,⟨m,by rw [zky,if_pos hm,h1]; decide⟩,rfl,fun kQ lG=>?_,fun e' vQ l hl hg=>zkA hp hP (wC e' vQ) hl hg⟩;refine zkz hp (hP kQ lG) fun y hy=>?_
 rw [zlU #[O] qH];exact zkB hp hP qH hD kQ lG y hy
theorem zaG.put {H:Hp} {rs:List Addr} {qs:List (List Int)} {f:Addr} {xs:List V} {o:HO} (h:zaG H rs qs) (hf:H f=some (.lst xs)):zaG (kW H f o) rs qs:=bw (fun a q z=>by
 have:a≠f:=fun e=>by rw [e,hf] at z; cases z
 show kW H f o a=_;rw [zq this];exact z) h
def zi7 (n:Nat) (H:Hp):List Addr→List (List (Option Int))→Prop:=Paired fun b rw=>H b=some (.lst (rw.map mJ))∧rw.length=n
def zfC (H:Hp):List Addr→List (List (Int×Int))→Prop:=Paired fun b kQ=>∃ bs,H b=some (.lst (bs.map V.ref))∧PtB H bs kQ
theorem zfC.same {H H':Hp} (s:zy H H') {bs:List Addr} {kU:List (List (Int×Int))} (h:zfC H bs kU):zfC H' bs kU:=bw (fun _ _ ⟨bs,z,z'⟩=>⟨bs,s _ _ z,z'.same s⟩) h
def NdA (p:Int) (kU:List (List (Int×Int))) (na:Addr) (H:Hp):List Addr→List Nat→Prop:=Paired fun b i=>∃ us,H b=some (.lst (us.map V.ref))∧b≠na∧zaG H us (kU.map fun kQ=>Tp p kQ i)
theorem NdA.same {p:Int} {kU:List (List (Int×Int))} {na:Addr} {H H':Hp} (s:zy H H') {bs:List Addr} {is:List Nat} (h:NdA p kU na H bs is):NdA p kU na H' bs is:=bw (fun _ _ ⟨us,z,z',z2⟩=>⟨us,s _ _ z,z',z2.same s⟩) h
theorem NdA.put {p:Int} {kU:List (List (Int×Int))} {na:Addr} {H:Hp} {bs:List Addr} {is:List Nat} {xs:List V} {o:HO} (h:NdA p kU na H bs is) (hf:H na=some (.lst xs)):NdA p kU na (kW H na o) bs is:=bw (fun _ _ ⟨us,z,z',z2⟩=>⟨us,by rw [zq z']; exact z,z',z2.put hf⟩) h
theorem zhj {α:Type} {f:α→Nat} {b:Nat}:∀ {l:List α},(∀ x∈l,f x≤b)→(l.map f).sum≤l.length*b
 | [],_=>by simp
 | x :: l,h=>by
  have ih:=zhj (f:=f) (b:=b) (l:=l) fun y hy=>h y (aj _ hy)
  have:=h x az;rw [aS,ft,bK,Nat.succ_mul];lia
def zc9 (K:ag):Sp:=fun vs H Q _=>∃ (c tt ra:Addr) (p:Int) (k:Nat) (pl:List Int) (sh:List Addr) (rws:List (List (Option Int))),vs = [.ref c,.ref ra]∧zbu H c tt p k pl∧kS K H ra (sh.map V.ref)∧zi7 pl.length H sh rws∧rws.length≤10∧pl.length≤16∧p∈zp∧pl.Nodup∧(∀ x∈pl,0≤x∧x < p)∧(∀ rw∈rws,∀ z,some z∈rw→0≤z∧z < p)∧1≤k∧k≤100 ∧
 ∀ (z la l3:Addr) (us:List Addr) (e:Nat) (left:List Int) (oI:List (List Int)) (H':Hp),zy H H'→H' z=some (.tup [.int (e:Int),.ref la,.ref l3])→H' la=some (.tup (left.map V.int))→H' l3=some (.lst (us.map V.ref))→zaG H' us oI→e≤16→LocOk p k (rws.map (lD pl)) e left oI→Q (.ref z) H'
end My
end
section
namespace L2
open PySem PySem.Spec PyProof.Rows
theorem zi8 {X:Cx} (hc:X.calm=true):zca X (.builtin "max") (fun xs H Q=>∃ (p:Addr) (ns:List Int),xs = [.ref p]∧kS X.K H p (ns.map V.int)∧ns≠[]∧∀ M:Int,M∈ns→(∀ a∈ns,a≤M)→Q (.int M) H):=by
 intro kP s σ H xs us Q I r h;obtain⟨p,ns,rfl,hq,hn,q⟩:=h;obtain⟨u,rfl,rx⟩:=vals1 r;cases rx;obtain⟨kR,rv,pl,hz⟩:=I.list hq;have hi:IntsAre kR ns:=by simpa using intsAre_of rv
 (obtain⟨xs,e⟩:=hi.allInts.items)
 have xC:ns=xs.toList.map (·.1):=by rw [← hi.numsOf,← nums_intItems,← e]
 have hsz:0 < xs.size:=by
  have h3:=jj.mpr hn;rw [xC,ab,bp] at h3;exact h3
 have hl:=pl.isList;rw [e] at hl;refine max_intList (I.ok.hd hc) hl hsz fun v h' tk hv hk=>?_
 (obtain⟨t,rfl⟩:=intItems_at hv)
 (obtain⟨h1,h2⟩:=argBest_gt (numAt xs) (xs.size - 1))
 refine⟨.int _,H,I.kept hk,⟨_,rfl⟩,q _ ?_ fun a ha=>?_⟩
 ·(rw [xC,numAt_eq]; exact getD_mem (by rw [ab,bp]; lia))
 ·rw [xC] at ha
  (obtain⟨j,hj,rfl⟩:=mem_getD ha)
  (rw [ab,bp] at hj)
  (rw [← numAt_eq]; exact h2 j #[O])
end L2
end
section
namespace My
open PySem L2 PyProof.Rows
theorem zhk {S:List Nat}:∀ {l:List Nat},l.Nodup→l.length≤(l.filter fun i=>decide (i∉S)).length+S.length:=by
 induction S with
 | nil =>
  intro l _;rw [List.filter_eq_self.mpr #[M]];exact af _
 | cons a S ih =>
  intro l hl;have h1:=ih hl;have h2:l.filter (fun i=>decide (i∉a :: S))=(l.filter fun i=>decide (i∉S)).filter (fun i=>i != a):=by
   rw [List.filter_filter];refine List.filter_congr fun i _=>?_
   by_cases e:i=a <;> by_cases e2:i∈S <;> simp [e,e2]
  have h3:=List.Nodup.erase_eq_filter (hl.filter fun i=>decide (i∉S)) a;have h4:(l.filter fun i=>decide (i∉S)).length≤((l.filter fun i=>decide (i∉S)).erase a).length+1:=by
   rw [List.length_erase];split <;> lia
  rw [h2,← h3,bK];lia
end My
end
section
namespace My
open PySem PySem.Spec L2 PyProof.Rows
noncomputable def isAt (H:Hp) (q:List Int) (u:Value):Bool:=@decide (∃ b,u = .ref b∧H b=some (.tup (q.map V.int))) (ik _)
theorem zim {p q:List Int} (h:some (HO.tup (p.map V.int))=some (HO.tup (q.map V.int))):p=q :=
 (List.map_inj_right fun a b z=>by simpa using z).mp (HO.tup.inj (aM h))
theorem zin {H:Hp} {q q':List Int} {b:Addr} (h:H b=some (.tup (q'.map V.int))):isAt H q (.ref b)=decide (q'=q):=by
 unfold isAt;rw [cf,@decide_eq_true_iff _ (ik _),decide_eq_true_iff];constructor
 ·rintro⟨b',eb,hb⟩;cases eb;exact zim (h.symm.trans hb)
 ·rintro rfl;exact⟨b,rfl,h⟩
theorem zdm {H:Hp} {q:List Int}:∀ {rs:List Addr} {qs:List (List Int)} {us:List Value},zaG H rs qs→zF (rs.map V.ref) us→us.any (isAt H q)=decide (q∈qs)
 | _,_,_,.nil,.nil=>by simp
 | r :: rs,q' :: qs,u :: us,.cons h t,.cons ru tu=>by
  have ih:=zdm (q:=q) t tu;cases ru;rw [eD,ih,zin h,cf,kg,decide_eq_true_iff,decide_eq_true_iff,decide_eq_true_iff,aC];exact⟨fun z=>z.imp Eq.symm id,fun z=>z.imp Eq.symm id⟩
theorem ze7 {X:Cx} {K:ag} (hK:X.K=K) (hu:X.A.units+20 < cLine):OpR X (compareOp .NotIn) (fun x y H Q=>∃ (a l:Addr) (q:List Int) (rs:List Addr) (qs:List (List Int)),x = .ref a∧y = .ref l∧H a=some (.tup (q.map V.int))∧kS K H l (rs.map V.ref)∧zaG H rs qs∧Q (.bl (!decide (q∈qs))) H):=by
 subst hK;intro kP s σ H x y v u Q I rx ry h;obtain⟨a,l,q,rs,qs,rfl,rfl,ha,hl,hT,hQ⟩:=h;cases rx;cases ry;obtain⟨kR,r,pl,hz⟩:=I.list hl;refine SeqAt.notIn_listAt (isAt H q) pl.isList (fun w hw=>?_) ⟨.bl _,H,I,rfl,?_⟩
 ·have hw:w∈kR:=by simpa using hw
  obtain⟨j,hj⟩:=List.mem_iff_getElem?.mp hw;obtain⟨vc,p9⟩:=aA.mp hj;obtain⟨z,qj,rz⟩:=r.getE (j:=j) vc;obtain⟨b,rfl,hb⟩:=zP qj;obtain⟨q',qT,hH⟩:=Paired.get hT hb;have tO:kR.toArray[j]=w:=by simpa using p9
  rw [tO] at rz;cases rz;have hH:H b=some (.tup (q'.map V.int)):=hH;rw [zin hH];by_cases e:b=a
  ·subst e;rw [zim (hH.symm.trans ha),decide_eq_true rfl];exact (EqD.same (K:=X.K) (H:=H) (d:=8) (a:=b)).at I X.A.in1 (.ref b) (.ref b) rfl rfl (by simp only [cN]; lia)
  ·have e2:=(EqD.tups (d:=8) e (k6.of hH) (k6.of ha) zjI).at I X.A.in1 (.ref b) (.ref a) rfl rfl (by simp only [cN]; lia);have e4:((aR (min (q'.map V.int).length (q.map V.int).length)).all (fun j=>decide (q'[j]? = q[j]?)) && (q'.map V.int).length == (q.map V.int).length)=decide (q'=q):=by
    rw [ab,ab,cf];simp only [cM,dj,bx,decide_eq_true_eq,beq_iff_eq];constructor
    ·rintro⟨h1,h2⟩;refine fi fun j=>?_
     by_cases hj:j < q'.length
     ·exact h1 j #[O]
     ·rw [cu #[O],cu #[O]]
    ·rintro rfl;exact⟨fun _ _=>rfl,rfl⟩
   rw [← e4];exact e2
 ·rw [List.any_toArray,zdm hT r];exact hQ
end My
end
section
namespace L2
open PySem PySem.Spec PyProof.Rows
end L2
end
section
namespace My
open PySem L2 PyProof.Rows
def top (i:Nat):Stmt:=PySem.Challenge.pw_slipcurve_k38_whole_together_and_alone.main.body.getD i (.Pass ⟨0,0,0,0⟩)
abbrev zbZ:Stmt:=top 1
abbrev zco:Stmt:=top 2
abbrev za7:Stmt:=top 3
abbrev zej:Stmt:=top 4
abbrev zcp:Stmt:=top 5
abbrev zaJ:Stmt:=top 10
abbrev zek:Stmt:=top 11
abbrev zbr:Stmt:=top 13
abbrev zaT:Stmt:=top 14
abbrev zbv:Stmt:=top 15
abbrev zbN:Stmt:=top 17
abbrev zam:Stmt:=top 18
abbrev zbw:Stmt:=top 20
abbrev za8:Stmt:=top 21
abbrev zaB:Stmt:=top 22
abbrev s_beyond:Stmt:=top 23
abbrev zdJ:Stmt:=top 24
abbrev zab:Stmt:=top 25
abbrev zcX:Stmt:=top 27
abbrev zcq:Stmt:=top 28
abbrev zch:Stmt:=top 29
abbrev zcr:Stmt:=top 30
abbrev zaK:Stmt:=top 31
abbrev zcY:Stmt:=top 32
abbrev zbz:Stmt:=top 33
structure Adr where
 SlipError:Addr
 TooFew:Addr
 value_at:Addr
 inverse:Addr
 times_root:Addr
 bent:Addr
 through:Addr
 heard_points:Addr
 fits:Addr
 choices:Addr
 all_through:Addr
 all_near:Addr
 without:Addr
 first_relation:Addr
 heard_at:Addr
 joint_near:Addr
 times_entries:Addr
 beyond:Addr
 sized:Addr
 joint_locator:Addr
 l_cell:Addr
 l_draws:Addr
 l_code:Addr
 l_value:Addr
 l_polynomial:Addr
 l_row:Addr
 law:Addr
structure Txt (K:ag) (mg:Str→Option Value) (t:Adr):Prop where
 len_:mg "len" = none
 range_:mg "range" = none
 list_:mg "list" = none
 tuple_:mg "tuple" = none
 min_:mg "min" = none
 max_:mg "max" = none
 zip_:mg "zip" = none
 enumerate_:mg "enumerate" = none
 reversed_:mg "reversed" = none
 sorted_:mg "sorted" = none
 ValueError_:mg "ValueError" = none
 x_SlipError:mg "SlipError" = some (.ref t.SlipError)
 x_TooFew:mg "TooFew" = some (.ref t.TooFew)
 sb:kH K t.SlipError (.type "BaseException")=some true
 m_value_at:mg "value_at" = some (.ref t.value_at)
 m_inverse:mg "inverse" = some (.ref t.inverse)
 m_times_root:mg "times_root" = some (.ref t.times_root)
 m_bent:mg "bent" = some (.ref t.bent)
 m_through:mg "through" = some (.ref t.through)
 m_heard_points:mg "heard_points" = some (.ref t.heard_points)
 m_fits:mg "fits" = some (.ref t.fits)
 m_choices:mg "choices" = some (.ref t.choices)
 m_all_through:mg "all_through" = some (.ref t.all_through)
 m_all_near:mg "all_near" = some (.ref t.all_near)
 m_without:mg "without" = some (.ref t.without)
 m_first_relation:mg "first_relation" = some (.ref t.first_relation)
 m_heard_at:mg "heard_at" = some (.ref t.heard_at)
 m_joint_near:mg "joint_near" = some (.ref t.joint_near)
 m_times_entries:mg "times_entries" = some (.ref t.times_entries)
 m_beyond:mg "beyond" = some (.ref t.beyond)
 m_sized:mg "sized" = some (.ref t.sized)
 m_joint_locator:mg "joint_locator" = some (.ref t.joint_locator)
 m_l_cell:mg "_law_cell" = some (.ref t.l_cell)
 m_l_draws:mg "_law_draws" = some (.ref t.l_draws)
 m_l_code:mg "_law_code" = some (.ref t.l_code)
 m_l_value:mg "_law_value" = some (.ref t.l_value)
 m_l_polynomial:mg "_law_polynomial" = some (.ref t.l_polynomial)
 m_l_row:mg "_law_row" = some (.ref t.l_row)
 f_value_at:∃ fd,Fun K "value_at" "value_at" zbZ t.value_at fd∧Binds K fd ["p","polynomial","x"] []
 f_inverse:∃ fd,Fun K "inverse" "inverse" zco t.inverse fd∧Binds K fd ["p","number"] []
 f_times_root:∃ fd,Fun K "times_root" "times_root" za7 t.times_root fd∧Binds K fd ["p","polynomial","root"] []
 f_bent:∃ fd,Fun K "bent" "bent" zej t.bent fd∧Binds K fd ["p","polynomial","vanishing","point"] []
 f_through:∃ fd,Fun K "through" "through" zcp t.through fd∧Binds K fd ["p","points"] []
 f_heard_points:∃ fd,Fun K "heard_points" "heard_points" zaJ t.heard_points fd∧Binds K fd ["code","row"] []
 f_fits:∃ fd,Fun K "fits" "fits" zek t.fits fd∧Binds K fd ["code","row","polynomial"] []
 f_choices:∃ fd,Fun K "choices" "choices" zbr t.choices fd∧Binds K fd ["things","many"] []
 f_all_through:∃ fd,Fun K "all_through" "all_through" zaT t.all_through fd∧Binds K fd ["code","points"] []
 f_all_near:∃ fd,Fun K "all_near" "all_near" zbv t.all_near fd∧Binds K fd ["code","row","t"] []
 f_without:∃ fd,Fun K "without" "without" zbN t.without fd∧Binds K fd ["p","vector","times","other"] []
 f_first_relation:∃ fd,Fun K "first_relation" "first_relation" zam t.first_relation fd∧Binds K fd ["p","vectors"] []
 f_heard_at:∃ fd,Fun K "heard_at" "heard_at" zbw t.heard_at fd∧Binds K fd ["row","numbers"] []
 f_joint_near:∃ fd,Fun K "joint_near" "joint_near" za8 t.joint_near fd∧Binds K fd ["code","rows","t"] []
 f_times_entries:∃ fd,Fun K "times_entries" "times_entries" zaB t.times_entries fd∧Binds K fd ["p","left","points"] []
 f_beyond:∃ fd,Fun K "beyond" "beyond" s_beyond t.beyond fd∧Binds K fd ["rights","many"] []
 f_sized:∃ fd,Fun K "sized" "sized" zdJ t.sized fd∧Binds K fd ["polynomial","many"] []
 f_joint_locator:∃ fd,Fun K "joint_locator" "joint_locator" zab t.joint_locator fd∧Binds K fd ["code","rows"] []
 f_l_cell:∃ fd,Fun K "_law_cell" "_law_cell" zcX t.l_cell fd∧Binds K fd ["script","k"] []
 f_l_draws:∃ fd,Fun K "_law_draws" "_law_draws" zcq t.l_draws fd∧Binds K fd ["script","k","many","base"] []
 f_l_code:∃ fd,Fun K "_law_code" "_law_code" zch t.l_code fd∧Binds K fd ["script","at","most_k","most_n"] []
 f_l_value:∃ fd,Fun K "_law_value" "_law_value" zcr t.l_value fd∧Binds K fd ["p","polynomial","x"] []
 f_l_polynomial:∃ fd,Fun K "_law_polynomial" "_law_polynomial" zaK t.l_polynomial fd∧Binds K fd ["draws","p","k"] []
 f_l_row:∃ fd,Fun K "_law_row" "_law_row" zcY t.l_row fd∧Binds K fd ["script","at","code"] []
section
variable {P:Program} {w:World} {K:ag} {mg:Str→Option Value} {base:Heap} {t:Adr}
theorem zi9:FnScope ["script","k"] ["script","k"] (zj zcX):=#[S]
theorem zja {fd:FuncData} (T:Txt K mg t) (F:Fun K "_law_cell" "_law_cell" zcX t.l_cell fd):FnOk P w K mg base CX0 1 t.l_cell fd ["script","k"] (ziO K):=by
 refine F.ok zi9 (fun vs H Q E h=>?_) (fun lP A outer s H vs Q E hr h=>?_)
 ·obtain⟨a,ns,k,rfl,_⟩:=h; rfl
 ·obtain⟨a,ns,k,rfl,hS,kY,k0,k1,q⟩:=h;refine zbi ?_; intro zX;refine⟨_,#[zf,#[zbj,#[zK,#[zjp],#[pvx,1],#[zQ,#[zO],T.len_,c8,#[ya,#[pvx,0]]],(zag _)],#[zo,#[zM,#[zL,#[zG],#[pvx,0],#[pvx,1]]]],#[zau]],#[zf,#[zbj,#[zK,#[zeJ],#[zQ,#[zO],T.len_,c8,#[ya,#[pvx,0]]],#[zh],(zag _)],#[zo,#[zM,#[zl,#[z8],#[zl,#[zan],#[zh],#[pvx,1]],#[zh]]]],#[zau]],#[zo,#[zM,#[zl,#[z8],#[zl,#[zJ],#[zL,#[zG],#[pvx,0],#[zl,#[zJ],#[pvx,1],#[zQ,#[zO],T.len_,c8,#[ya,#[pvx,0]]]]],#[zh]],#[zl,#[zan],#[zh],#[pvx,1]]]]]]],?_⟩;refine zjC ?_; intro qI qd;refine⟨_,rfl,_,rfl,a,_,rfl,.inl hS,_,_,rfl,rfl,_,rfl,?_⟩; rw [ab];refine zaX (fun h=>?_) (fun h=>?_)
  ·have h:k < (ns.length:Int):=by simpa using h
   obtain⟨c,hc⟩:=zdx k0 h;exact⟨_,rfl,_,rfl,a,_,k,_,rfl,rfl,hS,hc,q c⟩
  ·have h:¬ k < (ns.length:Int):=by simpa using h
   refine⟨_,rfl,a,_,rfl,.inl hS,rfl,_,rfl,?_⟩;rw [ab];refine zaX (fun h2=>?_) (fun h2=>?_)
   ·exact⟨_,rfl,_,_,rfl,rfl,.inl ⟨#[D],#[D]⟩,_,_,rfl,rfl,q _⟩
   ·have h2:¬ V.int (ns.length:Int)=V.int 0:=by simpa using h2
    have yQ:0 < (ns.length:Int):=by
     have:(ns.length:Int)≠0:=fun z=>h2 (by rw [z])
     lia
    have m0:=aJ k (show (ns.length:Int)≠0 by lia);have m1:=aD k yQ;obtain⟨c,hc⟩:=zdx m0 m1;refine⟨_,rfl,_,rfl,_,rfl,a,_,rfl,.inl hS,_,_,rfl,rfl,by rw [ab]; exact yQ,a,_,_,_,rfl,rfl,hS,by rw [ab]; exact hc,_,_,rfl,rfl,(by show (0:Int) < 1000003; decide),?_⟩;exact⟨_,rfl,_,_,rfl,rfl,.inl ⟨#[D],#[D]⟩,_,_,rfl,rfl,q _⟩
theorem zae:FnScope ["script","k","many","base","primes","cell","rest","row","j","mash"] ["script","k","many","base"] (zj zcq):=#[S]
theorem zel {fd:FuncData} (T:Txt K mg t) (F:Fun K "_law_draws" "_law_draws" zcq t.l_draws fd):FnOk P w K mg base CX0 2 t.l_draws fd ["script","k","many","base"] (zg2 K):=by
 obtain⟨su,qt,oJ⟩:=T.f_l_cell;have tU:=zja (P:=P) (w:=w) (base:=base) T qt;refine F.ok zae (fun vs H Q E h=>?_) (fun lP A outer s H vs Q E hr h=>?_)
 ·obtain⟨a,ns,k,many,base,rfl,_⟩:=h;rfl
 ·obtain⟨a,ns,k,many,bs,rfl,hS,kY,k0,k1,m0,m1,b0,b1,q⟩:=h;refine zbi ?_; intro zX;refine⟨_,#[zf,#[zr,4,zae.nd,#[A],#[zaH,#[zcz,#[zcz,#[zcz,#[zcz,#[zcz,#[zc,#[zh],#[zc,#[zh],#[ya,#[zh]]]]]]]]]]],#[zf,#[zr,5,zae.nd,#[A],#[zw,tU,(hr.mono #[D]),T.m_l_cell,qt.kp,oJ,#[zR],#[zc,#[pvx,0],#[ya,#[pvx,1]]]]],#[zf,#[zr,6,zae.nd,#[A],#[zh]],#[zf,#[zbj,#[zK,#[zmd],#[pvx,5],#[zl,(@zmF _),#[zh],#[zh]],(zag _)],#[zo,#[zr,6,zae.nd,#[A],#[pvx,5]]],#[zau]],#[zf,#[zr,7,zae.nd,#[A],#[zac,#[zg]]],#[zf,#[zaP,br,#[zbp,T.range_,#[ya,#[pvx,2]]],#[zi,8,zae.nd,#[A]],#[zf,#[zr,9,zae.nd,#[A],#[zl,#[zan],#[zl,#[zJ],#[pvx,5],#[zL,#[zbb],#[pvx,4],#[zl,#[zJ],#[pvx,8],#[zh]]]],#[zl,#[z8],#[zh],#[zl,#[zan],#[zl,#[zan],#[zh],#[pvx,8]],#[pvx,8]]]]],#[zf,#[zr,9,zae.nd,#[A],#[zl,#[z8],#[zl,#[z8],#[pvx,9],#[zl,#[zan],#[zl,#[zan],#[zh],#[zl,#[z8],#[pvx,8],#[zh]]],#[zl,#[z8],#[pvx,8],#[zh]]]],#[zl,#[zan],#[zh],#[pvx,1]]]],#[zf,#[zr,9,zae.nd,#[A],#[zl,#[zJ],#[pvx,9],#[zL,#[zbb],#[pvx,4],#[zl,#[zJ],#[zl,#[z8],#[zl,#[zan],#[zh],#[pvx,8]],#[pvx,1]],#[zh]]]]],#[zf,#[zr,9,zae.nd,#[A],#[zl,#[zJ],#[zl,#[zan],#[zl,#[zan],#[pvx,9],#[pvx,9]],#[pvx,9]],#[zL,#[zbb],#[pvx,4],#[zl,#[zJ],#[zl,#[z8],#[pvx,8],#[zh]],#[zh]]]]],#[zf,#[zbj,#[zK,#[zhB],#[pvx,6],#[zh],(zag _)],#[zo,#[zr,9,zae.nd,#[A],#[pvx,6]]],#[zau]],#[zf,#[zbP,#[zdg,bV,b8,b9,#[zbc],#[pvx,7],#[ya,#[zl,#[zJ],#[pvx,9],#[pvx,3]]]]],#[zo,#[zr,6,zae.nd,#[A],#[zl,#[zdt],#[pvx,6],#[pvx,3]]]]]]]]]]],#[zo,#[zM,#[pvx,7]]]]]]]]],?_⟩;refine zmN ?_; intro Bs yR w8 tV qI qd;refine⟨by show 8≤sizeLine; rw [bi]; decide,fun tp ht=>?_⟩;have s1:zy H (kW H tp (.tup zlg)):=ze ht;refine⟨_,rfl,_,rfl,a,ns,k,rfl,s1.seq hS,kY,k0,k1,fun c=>?_⟩;refine⟨_,rfl,_,_,rfl,rfl,⟨#[D],#[D],#[D]⟩,_,_,rfl,rfl,_,rfl,?_⟩;refine zaX (fun _=>⟨_,rfl,?_⟩) (fun _=>?_)
  all_goals
   refine⟨bh _,fun l hl=>?_⟩;have yS:H l=none:=zy.free s1 hl;have uK:tp≠l:=zH zd hl;refine⟨_,rfl,many,rfl,#[O],#[O],zcB (lo:=0) (n:=many.toNat) (fun i σ H'=>∃ (r:Int) (v8 v9:Option V) (ds:List Int),σ = [some (.ref a),some (.int k),some (.int many),some (.int bs),some (.ref tp),some (.int c),some (.int r),some (.ref l),v8,v9]∧zhP i bs ds∧zy H H'∧H' tp=some (.tup zlg)∧H' l=some (.lst (ds.map V.int)))
    ⟨_,none,none,[],rfl,⟨rfl,#[M]⟩,zal s1 yS,by rw [zq uK]; exact zd,zd⟩ ?_ ?_⟩
   ·rintro zD zT i σ H2 hi ⟨r,v8,v9,ds,rfl,hd,s2,yT,vj⟩;obtain⟨q1,e1,q1p,q1l⟩:=zd4 (0+(i:Int));obtain⟨q2,e2,q2p,q2l⟩:=zd4 (3*(0+(i:Int))+k);obtain⟨q3,e3,q3p,q3l⟩:=zd4 (0+(i:Int)+5);have c1:=aJ c (show q1≠0 by lia);have c2:=aD c q1p;have nK:(i:Int) < 1000:=by lia
    refine⟨_,rfl,_,rfl,_,rfl,_,_,rfl,rfl,(by show (0:Int) < 8; decide),tp,_,_,_,rfl,rfl,k6.of yT,e1,_,_,rfl,rfl,q1p,_,rfl,_,_,rfl,rfl,.inl ⟨#[D],#[D]⟩,_,rfl,_,_,rfl,rfl,.inl ⟨#[O],#[O]⟩,_,_,rfl,rfl,_,_,rfl,rfl,.inl ⟨#[O],#[O]⟩,?_⟩;refine⟨_,rfl,_,rfl,_,_,rfl,rfl,_,_,rfl,rfl,.inl ⟨#[D],#[D]⟩,_,rfl,_,_,rfl,rfl,_,_,rfl,rfl,.inl ⟨#[O],#[O]⟩,_,_,rfl,rfl,_,rfl,_,_,rfl,rfl,.inl ⟨#[D],#[D]⟩,_,_,rfl,rfl,?_⟩;refine⟨_,rfl,_,rfl,_,rfl,_,_,rfl,rfl,.inl ⟨#[D],#[D]⟩,_,rfl,_,_,rfl,rfl,_,_,rfl,rfl,(by show (0:Int) < 8; decide),tp,_,_,_,rfl,rfl,k6.of yT,e2,_,_,rfl,rfl,q2p,?_⟩;generalize c % q1*(48271+2*(0+(i:Int))*(0+(i:Int)))+7919*(0+(i:Int)+1)*(0+(i:Int)+1)+104729*k=ms;have d1:=aJ ms (show q2≠0 by lia);have d2:=aD ms q2p;refine⟨_,rfl,_,rfl,_,_,rfl,rfl,.inl ⟨#[O],#[O]⟩,_,rfl,_,_,rfl,rfl,.inr ⟨#[O],#[O]⟩,_,rfl,_,rfl,_,_,rfl,rfl,_,_,rfl,rfl,(by show (0:Int) < 8; decide),tp,_,_,_,rfl,rfl,k6.of yT,e3,_,_,rfl,rfl,q3p,?_⟩;refine⟨_,rfl,_,_,rfl,rfl,_,rfl,?_⟩;have Dj:=hd.1;refine zaX (fun _=>⟨_,rfl,?_⟩) (fun _=>?_)
    all_goals
     refine⟨_,rfl,.inl ⟨rfl,_,kS.of vj⟩,_,rfl,_,rfl,_,_,rfl,rfl,b0,l,_,_,rfl,rfl,vj,zao (by rw [ab]; lia),?_⟩;refine⟨_,rfl,_,rfl,_,_,rfl,rfl,⟨b0,b1⟩,?_⟩;refine⟨_,_,_,ds++[_],rfl,⟨by rw [ao,Dj]; rfl,fun d hm=>?_⟩,zal s2 yS,by rw [zq uK]; exact yT,by rw [zd,aq]; rfl⟩; rcases aK.mp hm with hm | hm
     ·exact hd.2 d hm
     ·have e:=aN.mp hm;rw [e];exact⟨aJ _ #[O],aD _ b0⟩
   ·rintro σ H2 ⟨r,v8,v9,ds,rfl,hd,s2,yT,vj⟩;exact⟨_,rfl,q l ds H2 yS s2 hd vj⟩
theorem zbe:FnScope ["script","at","most_k","most_n","plan","primes","p","k","many","left"] ["script","at","most_k","most_n"] (zj zch):=#[S]
theorem zjb {fd:FuncData} (T:Txt K mg t) (F:Fun K "_law_code" "_law_code" zch t.l_code fd):FnOk P w K mg base CX0 3 t.l_code fd ["script","at","most_k","most_n"] (ziP K):=by
 obtain⟨oK,lV,lW⟩:=T.f_l_draws;have m7:=zel (P:=P) (w:=w) (base:=base) T lV;refine F.ok zbe (fun vs H Q E h=>?_) (fun lP A outer s H vs Q E hr h=>?_)
 ·obtain⟨a,ns,at',mk,mn,rfl,_⟩:=h;rfl
 ·obtain⟨a,ns,at',mk,mn,rfl,hS,kY,a0,a1,k1,k5,kn,sS,q⟩:=h;refine zbi ?_; intro zX;refine⟨_,#[zf,#[zr,4,zbe.nd,(dv rfl),#[zw,m7,(hr.mono #[D]),T.m_l_draws,lV.kp,lW,#[zR],#[zc,#[pvx,0],by exact #[zc,#[pvx,1],#[zc,#[zh],#[ya,#[zh]]]]]]],(by exact (@zjK _ 5 _ _ _ _ _ _ _ [5,7,11,13,17,19,23,29,31,37,41,43,47,53,59,61,67,71,73,79,83,89,97] #[N] zbe.nd rfl #[A] (by first | exact .inl rfl | exact .inr rfl) (by exact #[zf,#[zr,6,zbe.nd,#[A],#[zL,#[zG],#[zac,#[zc,#[zL,#[zG],#[pvx,5],#[zl,#[zJ],#[zL,#[zG],#[pvx,4],#[zh]],#[zh]]],#[ya,#[zL,#[zG],#[pvx,5],#[zl,#[zJ],#[zL,#[zG],#[pvx,4],#[zh]],#[zh]]]]]],#[zl,#[zJ],#[zL,#[zG],#[pvx,4],#[zh]],#[zh]]]],#[zf,#[zr,7,zbe.nd,#[A],#[zl,#[z8],#[zh],#[zl,#[zJ],#[zL,#[zG],#[pvx,4],#[zh]],#[zQ,#[zeK],T.min_,boot_min,#[zc,#[pvx,2],#[ya,#[pvx,6]]]]]]],#[zf,#[zr,8,zbe.nd,#[A],#[zl,#[z8],#[pvx,7],#[zl,#[zJ],#[zL,#[zG],#[pvx,4],#[zh]],#[zl,#[z8],#[zl,#[zc2],#[zQ,#[zeK],T.min_,boot_min,#[zc,#[pvx,3],#[ya,#[pvx,6]]]],#[pvx,7]],#[zh]]]]],#[zf,#[zr,9,zbe.nd,(dv rfl),#[zaL,#[zcy],T.list_,boot_list,#[ya,#[zaL,#[zdj],T.range_,iV,#[ya,#[pvx,6]]]]]],#[zo,#[zM,#[zaH,#[zc,#[pvx,6],#[zc,#[pvx,7],#[ya,#[zaL,#[zaS],T.tuple_,gN,#[ya,#[zaj,(CompSc.of (N':=["j","left","plan"]) (ix:=[none,some 9,some 4]) (zj zch) ["script","at","most_k","most_n","plan","primes","p","k","many","left"] rfl rfl #[N]),#[zaM],#[zbp,T.range_,#[ya,#[pvx,8]]],(fun _ _ _ _=>#[zi,0,(show (["j","left","plan"]:List Str).Nodup from #[N]),#[A]]),(fun _ _ _ _=>#[zN]),(fun _ _ _ _=>(@zmV _ (K) _ _ _ _ _ _ _ _ _ _ _ rfl bV PySem.F.slot_list_pop PySem.F.type_list_pop (@zjy _) #[pvx,1] #[ya,#[zl,#[zJ],#[zL,#[zdZ,(K)],#[pvx,2],#[zl,#[z8],#[zh],#[pvx,0]]],#[zQ,#[zbF,(K)],T.len_,c8,#[ya,#[pvx,1]]]]] (by rfl) (by rfl) (by rfl) (by rfl) (by rfl)))]]]]]]]]]]]]])))],?_⟩;refine zmN ?_; intro Bs yR w8 tV qI qd;refine⟨_,rfl,_,rfl,a,ns,at',20,27720,rfl,hS,kY,a0,a1,#[D],#[D],#[D],#[D],fun l ds H1 hl s1 hd mq=>?_⟩;have Dj:ds.length=20:=hd.1;have dat:∀ m:Int,0≤m→m < 20→∃ c:Int,atI (ds.map V.int) m=some (.int c):=fun m h0 h1=>zdx h0 #[O]
  refine⟨by show 23≤sizeLine; rw [bi]; decide,fun pr Bt=>?_⟩;have Dk:l≠pr:=zH mq Bt;obtain⟨d0,ed0⟩:=dat 0 #[D] #[D];obtain⟨d1,ed1⟩:=dat 1 #[D] #[D];obtain⟨d2,ed2⟩:=dat 2 #[D] #[D];obtain⟨d3,ed3⟩:=dat 3 #[D] #[D];have pz:(kW H1 pr (.lst (zp.map V.int))) l=some (.lst (ds.map V.int)):=by rw [zq Dk]; exact mq
  obtain⟨p1,mp1,ep1⟩:=zjQ (ns:=zp) (k:=d0 % 23) (aJ _ #[D]) (aD _ #[D]);obtain⟨p2,mp2,ep2⟩:=zjQ (ns:=zp) (k:=d0 % 3) (aJ _ #[D]) (by have:=aD d0 (show (0:Int) < 3 by decide); have e:(zp.length:Int)=23:=rfl; lia);obtain⟨p,ep,hpp⟩:=zmX (x:=p1) (y:=p2) (m:=d1 % 2) (aJ _ #[D]) (aD _ #[D]);have mp:p∈zp:=by rcases hpp with e | e <;> rw [e] <;> assumption
  have rp:=zu mp;refine⟨_,rfl,_,rfl,l,_,_,_,rfl,rfl,kS.of pz,ed0,_,_,rfl,rfl,(by show (0:Int) < 23; decide),pr,_,_,_,rfl,rfl,kS.of zd,ep1,
   _,rfl,_,rfl,l,_,_,_,rfl,rfl,kS.of pz,ed0,_,_,rfl,rfl,(by show (0:Int) < 3; decide),pr,_,_,_,rfl,rfl,kS.of zd,ep2,zaI,fun l2 qL=>?_⟩
  have Dl:l≠l2:=zH pz qL;have uJ:(kW (kW H1 pr (.lst (zp.map V.int))) l2 (.lst [.int p1,.int p2])) l=some (.lst (ds.map V.int)):=by rw [zq Dl]; exact pz
  refine⟨_,rfl,l,_,_,_,rfl,rfl,kS.of uJ,ed1,_,_,rfl,rfl,(by show (0:Int) < 2; decide),l2,_,_,_,rfl,rfl,kS.of zd,ep,?_⟩;have uG:(0:Int) < (if p < mk then p else mk):=by split <;> lia
  have p8:(if p < mk then p else mk)≤mk:=by split <;> lia
  have C2:(if p < mk then p else mk)≤p:=by split <;> lia
  refine⟨_,rfl,l,_,_,_,rfl,rfl,kS.of uJ,ed2,_,rfl,_,rfl,_,_,rfl,_,_,rfl,rfl,uG,_,_,rfl,rfl,?_⟩;generalize (if p < mk then p else mk)=mm at uG p8 C2 ⊢;have sP:=aJ d2 (show mm≠0 by lia);have Bm:=aD d2 uG;have rL:(if p < mn then p else mn)≤mn:=by split <;> lia
  have pF:(if p < mn then p else mn)≤p:=by split <;> lia
  have hn3:mm≤(if p < mn then p else mn):=by split <;> lia
  refine⟨_,rfl,_,rfl,l,_,_,_,rfl,rfl,kS.of uJ,ed3,_,rfl,_,rfl,_,_,rfl,_,rfl,_,_,rfl,rfl,_,_,rfl,rfl,_,_,rfl,rfl,#[O],_,_,rfl,rfl,?_⟩;generalize (if p < mn then p else mn)=nn at rL pF hn3 ⊢;have hq0:=aJ d3 (show nn - (1+d2 % mm)+1≠0 by lia);have pj:=aD d3 (show 0 < nn - (1+d2 % mm)+1 by lia);refine⟨_,rfl,p,rfl,fun r vU=>⟨r,p,rfl,zd,#[O],#[O],fun lf Dm=>?_⟩⟩;have xI:l≠r:=zH uJ vU;have yU:l≠lf:=by
   refine zH (H:=kW (kW (kW H1 pr (.lst (zp.map V.int))) l2 (.lst [.int p1,.int p2])) r (.rng 0 p)) (o:=.lst (ds.map V.int)) ?_ Dm;rw [zq xI]; exact uJ
  have sA:zy H (kW (kW H1 pr (.lst (zp.map V.int))) l2 (.lst [.int p1,.int p2])):=(s1.trans (ze Bt)).trans (ze qL);have sB:=(sA.trans (ze (o:=.rng 0 p) vU)).trans (ze (o:=.lst ((zaw 0 p.toNat).map V.int)) Dm);have Dp:H lf=none:=(sA.trans (ze (o:=.rng 0 p) vU)).free Dm;obtain⟨nd0,rg0⟩:=ziQ p;refine⟨_,rfl,_,rfl,_,rfl,_,rfl,#[O],#[O],z9 (n:=(1+d2 % mm+d3 % (nn - (1+d2 % mm)+1)).toNat) (fun i ys H'=>∃ xs ls:List Int,ys=xs.map V.int∧xs.length=i∧zy H H'∧H' l=some (.lst (ds.map V.int))∧H' lf=some (.lst (ls.map V.int))∧ls.length+i=p.toNat∧(xs++ls).Nodup∧∀ y∈xs++ls,0≤y∧y < p)
   ⟨[],zaw 0 p.toNat,rfl,rfl,sB,by rw [zq yU,zq xI]; exact uJ,zd,by rw [zcx]; rfl,by simpa using nd0,by simpa using rg0⟩ (fun i ys H' hi _=>hi) (fun ys H' _=>af _) ?_ ?_⟩
  ·rintro zS zT zE i x ys H4 H5 hi ⟨xs,ls,rfl,C5,s4,xa,vm,xQ,nd,rg⟩ ⟨rfl,rfl⟩;refine gY ?_;obtain⟨c,ec⟩:=dat (4+(0+(i:Int))) #[O] #[O];have lpos:0 < ls.length:=by lia
   have lm:((ls.map V.int).length:Int)=(ls.length:Int):=by rw [ab]
   have c0:=aJ c (show (ls.length:Int)≠0 by lia);have c1:=aD c (show (0:Int) < ls.length by lia);have oD:=bi;obtain⟨y,ey⟩:∃ y,ls[(c % (ls.length:Int)).toNat]? = some y:=⟨ls[(c % (ls.length:Int)).toNat]'#[O],#[M]⟩;refine⟨_,rfl,.inl ⟨rfl,_,kS.of vm⟩,_,rfl,_,rfl,_,_,rfl,rfl,l,_,_,_,rfl,rfl,kS.of xa,ec,_,rfl,lf,_,rfl,.inl (kS.of vm),_,_,rfl,rfl,(by rw [lm]; lia),lf,_,_,(c % (ls.length:Int)).toNat,.int y,rfl,rfl,vm,?_⟩;rw [lm];refine⟨#[O],#[O],by rw [ab]; exact fZ c0 c1,by rw [ak,ey]; rfl,zao (by rw [ab]; lia),xs++[y],ls.eraseIdx (c % (ls.length:Int)).toNat,by rw [aq]; rfl,by rw [ao,C5]; rfl,zal s4 Dp,by rw [zq yU]; exact xa,by rw [zd,zeW],?_,zli ey nd rg⟩;rw [List.length_eraseIdx];split <;> lia
  ·rintro ys H4 D ⟨xs,ls,rfl,C5,s4,xa,vm,xQ,nd,rg⟩ hD;refine⟨D,_,rfl,.inl ⟨kS.of zd,fun tt yV=>⟨by show 3≤sizeLine; rw [bi]; decide,fun c hc=>?_⟩⟩⟩;have s5:=(s4.trans (ze (o:=.lst (xs.map V.int)) hD)).trans (ze (o:=.tup (xs.map V.int)) yV);refine q c tt p _ xs _ (s5.free hc) (s5.trans (ze hc)) ⟨mp,#[O],#[O],#[O],#[O],(gD.mp nd).1,fun y hy=>rg y (aP _ hy)⟩ zd ?_;rw [zq (zH zd hc)];exact zd
theorem zbf:FnScope ["p","polynomial","x","total","power","number"] ["p","polynomial","x"] (zj zcr):=#[S]
theorem zhl {fd:FuncData} (T:Txt K mg t) (F:Fun K "_law_value" "_law_value" zcr t.l_value fd):FnOk P w K mg base CX0 1 t.l_value fd ["p","polynomial","x"] (zg3 K):=by
 refine F.ok zbf (fun vs H Q E h=>?_) (fun lP A outer s H vs Q E hr h=>?_)
 ·obtain⟨p,x,a,cs,rfl,_⟩:=h;rfl
 ·obtain⟨p,x,a,cs,rfl,hS,p0,p1,x0,x1,q⟩:=h;refine zbi ?_; intro zX;refine⟨_,#[zf,#[zr,3,zbf.nd,#[A],#[zh]],#[zf,#[zr,4,zbf.nd,#[A],#[zh]],#[zf,#[zaP,br,(@zmU _ _ _ _ #[pvx,1]),#[zi,5,zbf.nd,#[A]],#[zf,#[zr,3,zbf.nd,#[A],#[zl,#[zJ],#[zl,#[z8],#[pvx,3],#[zl,#[zan],#[pvx,5],#[pvx,4]]],#[pvx,0]]],#[zo,#[zr,4,zbf.nd,#[A],#[zl,#[zJ],#[zl,#[zan],#[pvx,4],#[pvx,2]],#[pvx,0]]]]]],#[zo,#[zM,#[pvx,3]]]]]],?_⟩;refine zlc ?_; intro tV qI qd;refine⟨_,rfl,a,rfl,?_⟩;rcases hS with hS | hS
  ·refine .inl ⟨⟨_,hS⟩,zaC (K:=K) (a:=a) (xs:=cs.map V.int) (fun i σ H'=>H'=H∧∃ (k8 power:Int) (nb:Option V),σ = [some (.int p),some (.ref a),some (.int x),some (.int k8),some (.int power),nb]∧0≤power∧power≤97∧lv p x k8 power (cs.drop i)=lv p x 0 1 cs)
    ⟨rfl,0,1,none,rfl,#[D],#[D],rfl⟩ (fun i σ H' _ ⟨e,_⟩=>by rw [e]; exact hS) ?_ ?_⟩
   ·rintro zD zT i y σ H1 hy ⟨rfl,k8,power,nb,rfl,w0,w1,hl⟩;obtain⟨c,rfl,hc⟩:=zar hy;have m0:=aJ (power*x) (show p≠0 by lia);have m1:=aD (power*x) p0;refine⟨_,rfl,_,rfl,_,rfl,_,_,rfl,rfl,.inr ⟨#[O],#[O]⟩,_,_,rfl,rfl,_,rfl,_,_,rfl,rfl,p0,?_⟩;refine⟨_,rfl,_,rfl,_,_,rfl,rfl,.inl ⟨#[O],#[O]⟩,_,rfl,_,_,rfl,rfl,p0,?_⟩;exact⟨rfl,_,_,_,rfl,m0,#[O],(zhQ hc).symm.trans hl⟩
   ·rintro σ H1 ⟨rfl,k8,power,nb,rfl,w0,w1,hl⟩;rw [ab,fz] at hl;have hl:k8=lv p x 0 1 cs:=hl;rw [zhL p0] at hl;rw [← hl] at q;exact⟨_,rfl,q⟩
  ·refine .inr ⟨⟨_,hS⟩,zjE (K:=K) (a:=a) (xs:=cs.map V.int) (fun i σ H'=>H'=H∧∃ (k8 power:Int) (nb:Option V),σ = [some (.int p),some (.ref a),some (.int x),some (.int k8),some (.int power),nb]∧0≤power∧power≤97∧lv p x k8 power (cs.drop i)=lv p x 0 1 cs)
    ⟨rfl,0,1,none,rfl,#[D],#[D],rfl⟩ (fun i σ H' _ ⟨e,_⟩=>by rw [e]; exact hS) ?_ ?_⟩
   ·rintro zD zT i y σ H1 hy ⟨rfl,k8,power,nb,rfl,w0,w1,hl⟩;obtain⟨c,rfl,hc⟩:=zar hy;have m0:=aJ (power*x) (show p≠0 by lia);have m1:=aD (power*x) p0;refine⟨_,rfl,_,rfl,_,rfl,_,_,rfl,rfl,.inr ⟨#[O],#[O]⟩,_,_,rfl,rfl,_,rfl,_,_,rfl,rfl,p0,?_⟩;refine⟨_,rfl,_,rfl,_,_,rfl,rfl,.inl ⟨#[O],#[O]⟩,_,rfl,_,_,rfl,rfl,p0,?_⟩;exact⟨rfl,_,_,_,rfl,m0,#[O],(zhQ hc).symm.trans hl⟩
   ·rintro σ H1 ⟨rfl,k8,power,nb,rfl,w0,w1,hl⟩;rw [ab,fz] at hl;have hl:k8=lv p x 0 1 cs:=hl;rw [zhL p0] at hl;rw [← hl] at q;exact⟨_,rfl,q⟩
theorem zkD (xs:List V) (j:Nat):zba xs none (some (j:Int))=xs.take j:=by
 unfold zba;rw [HT.sIx_nat,HT.sIx_none,eU,dI];by_cases h:j≤xs.length
 ·rw [c6 h]
 ·rw [show min j xs.length=xs.length by lia,aQ (af _),aQ (show xs.length≤j by lia)]
def zjc (K:ag):Sp:=fun vs H Q _=>∃ (a:Addr) (ds:List Int) (p k:Int),vs = [.ref a,.int p,.int k]∧kS K H a (ds.map V.int)∧ds.length≤1000∧0 < p ∧
 ∀ (l:Addr) (lJ:List Int) (H':Hp),H l=none→zy H H'→(lJ.length≤ds.length∧∀ x∈lJ,0≤x∧x < p)→H' l=some (.tup (lJ.map V.int))→(∀ n:Nat,k=(n:Int)→n≤ds.length→lJ.length=n)→Q (.ref l) H'
theorem zdr:FnScope ["draws","p","k"] ["draws","p","k"] (zj zaK):=#[S]
theorem zds {fd:FuncData} (T:Txt K mg t) (F:Fun K "_law_polynomial" "_law_polynomial" zaK t.l_polynomial fd):FnOk P w K mg base CX0 1 t.l_polynomial fd ["draws","p","k"] (zjc K):=by
 refine F.ok zdr (fun vs H Q E h=>?_) (fun lP A outer s H vs Q E hr h=>?_)
 ·obtain⟨a,ds,p,k,rfl,_⟩:=h;rfl
 ·obtain⟨a,ds,p,k,rfl,ha,hn,p0,q⟩:=h;refine zbi ?_; intro zX;refine⟨_,#[zo,#[zM,#[zaL,#[zaS],T.tuple_,gN,#[ya,#[zaj,(CompSc.of (N':=["draw","p"]) (ix:=[none,some 1]) (zj zaK) ["draws","p","k"] rfl rfl #[N]),#[zaM],#[z0,#[zaR,zbR,#[pvx,0],#[zbl],#[za3,#[pvx,2]]]],(fun _ _ _ _=>#[zi,0,(show (["draw","p"]:List Str).Nodup from #[N]),#[A]]),(fun _ _ _ _=>#[zN]),(fun _ _ _ _=>#[zl,#[zJ],#[pvx,0],#[pvx,1]])]]]]],?_⟩;obtain⟨ms,Bu,lms⟩:=zf7 ds none (some k);refine⟨_,rfl,_,rfl,_,rfl,a,_,rfl,ha,fun z hz=>?_⟩;rw [Bu];have s4:=ze (o:=.lst (ms.map V.int)) hz;refine⟨z,rfl,⟨_,kS.of zd⟩,zeZ (K:=K) (xs:=ms.map V.int) (fs:=ms.map fun d=>V.int (d % p)) (kS.of zd) (by rw [ab,ab]) (by rw [ab]; lia) ?_ ?_⟩
  ·intro j x y R B hx hy hR;obtain⟨c,_,rfl,rfl⟩:=zf8 hx hy;refine gY ?_;exact⟨_,rfl,_,rfl,_,_,rfl,rfl,p0,hR⟩
  intro D hD;have Dq:(ms.map fun d=>V.int (d % p))=(ms.map (· % p)).map V.int:=by rw [bt]; rfl
  rw [Dq];refine⟨D,_,rfl,.inl ⟨kS.of zd,fun po yW=>?_⟩⟩;have s5:=s4.trans (ze (o:=.lst ((ms.map (· % p)).map V.int)) hD);refine q po _ _ (s5.free yW) (s5.trans (ze yW)) ⟨by rw [ab]; exact lms,fun x hx=>?_⟩ zd (fun n Bl hle=>?_)
  ·obtain⟨d,_,rfl⟩:=aB.mp hx;exact⟨aJ _ #[O],aD _ p0⟩
  ·have h1:=congrArg dY Bu;rw [Bl,zkD,aI,ab,ab] at h1;rw [ab];lia
def zkE (K:ag):Sp:=fun vs H Q _=>∃ (a c tt:Addr) (ns:List Int) (at' p k:Int) (pl:List Int),vs = [.ref a,.int at',.ref c]∧kS K H a (ns.map V.int)∧ns.length≤63∧0≤at'∧at'≤900∧zbu H c tt p k pl∧0 < p∧p≤97∧(∀ x∈pl,0≤x∧x < p)∧pl.length≤16 ∧
 ∀ (l:Addr) (rw:List (Option Int)) (H':Hp),H l=none→zy H H'→rw.length=pl.length→(∀ z,some z∈rw→0≤z∧z < p)→H' l=some (.lst (rw.map mJ))→Q (.ref l) H'
theorem znl {a b m:Int} (h0:0≤m) (h1:m < 6) (a0:0≤a) (a1:a < 3) (b0:0≤b) (b1:b < 3):∃ z:Int,atI [V.int 0,.int 0,.int a,.int b,.int 0,.int 0] m=some (.int z)∧0≤z∧z < 3:=by
 have:m=0∨m=1∨m=2∨m=3∨m=4∨m=5:=by lia
 rcases this with e | e | e | e | e | e <;> subst e
 ·exact⟨0,rfl,#[D],#[D]⟩
 ·exact⟨0,rfl,#[D],#[D]⟩
 ·exact⟨a,rfl,a0,a1⟩
 ·exact⟨b,rfl,b0,b1⟩
 ·exact⟨0,rfl,#[D],#[D]⟩
 ·exact⟨0,rfl,#[D],#[D]⟩
theorem zlV {m:Int} (h0:0≤m) (h1:m < 6):∃ z:Int,atI [V.int 4,.int 9,.int 9,.int 9,.int 2,.int 1] m=some (.int z)∧0 < z:=by
 have:m=0∨m=1∨m=2∨m=3∨m=4∨m=5:=by lia
 rcases this with e | e | e | e | e | e <;> subst e <;> exact⟨_,rfl,#[D]⟩
theorem zlW {m:Int} (h0:0≤m) (h1:m < 2):∃ z:Int,atI [V.int 9,.int 3] m=some (.int z)∧0 < z:=by
 have:m=0∨m=1:=by lia
 rcases this with e | e <;> subst e <;> exact⟨_,rfl,#[D]⟩
theorem zoe (n:Nat):(aw n [V.non]).flatten=(aw n (none:Option Int)).map mJ:=by
 induction n with
 | zero=>rfl
 | succ n ih=>rw [bS,dB,ih,bS]; rfl
def zfD (H:Hp) (on:Addr):Prop:=∃ os:List Addr,os.length=3∧H on=some (.lst (os.map V.ref))∧∀ o∈os,∃ ms:List Int,H o=some (.tup (ms.map V.int))
theorem zfD.same {H H':Hp} {on:Addr} (s:zy H H') (h:zfD H on):zfD H' on:=by
 obtain⟨os,h1,h2,h3⟩:=h;exact⟨os,h1,s _ _ h2,fun o ho=>let ⟨ms,e⟩:=h3 o ho; ⟨ms,s _ _ e⟩⟩
theorem zkF {p:Int} {rw:List (Option Int)} (h:∀ z,some z∈rw→0≤z∧z < p):∀ z,some z∈rw++[none]→0≤z∧z < p:=by
 intro z hz;rcases aK.mp hz with m | m
 ·exact h z m
 ·cases aN.mp m
theorem zgz {p i:Int} {rw:List (Option Int)} (h:∀ z,some z∈rw→0≤z∧z < p) (hi:0≤i∧i < p):∀ z,some z∈rw++[some i]→0≤z∧z < p:=by
 intro z hz;rcases aK.mp hz with m | m
 ·exact h z m
 ·cases aN.mp m;exact hi
theorem zgA {p x:Int} {cs:List Int} (hp:0 < p):0≤zn p x cs∧zn p x cs < p:=⟨zaN hp cs,zaO hp cs⟩
theorem zas:FnScope ["script","at","code","p","k","places","plan","ones","slips","way","row","number","which","entry"] ["script","at","code"] (zj zcY):=#[S]
theorem zkG {fd:FuncData} (T:Txt K mg t) (F:Fun K "_law_row" "_law_row" zcY t.l_row fd):FnOk P w K mg base CX0 3 t.l_row fd ["script","at","code"] (zkE K):=by
 obtain⟨oK,lV,lW⟩:=T.f_l_draws;have m7:=zel (P:=P) (w:=w) (base:=base) T lV;obtain⟨oj,mZ,lZ⟩:=T.f_l_polynomial;have oM:=zds (P:=P) (w:=w) (base:=base) T mZ;obtain⟨qV,pK,nL⟩:=T.f_l_value;have sv:=zhl (P:=P) (w:=w) (base:=base) T pK;refine F.ok zas (fun vs H Q E h=>?_) (fun lP A outer s H vs Q E hr h=>?_)
 ·obtain⟨a,c,tt,ns,at',p,k,pl,rfl,_⟩:=h;rfl
 ·obtain⟨a,c,tt,ns,at',p,k,pl,rfl,hS,kY,a0,a1,hc,p0,p1,mq,hn,q⟩:=h;refine zbi ?_; intro zX;refine⟨_,#[zf,#[zb7,#[pvx,2],#[za2,#[zm,#[zi,3,zas.nd,(dv rfl)],#[zm,#[zi,4,zas.nd,(dv rfl)],#[zm,#[zi,5,zas.nd,#[A]],#[zY]]]]]],#[zf,#[zr,6,zas.nd,(dv rfl),#[zw,m7,(hr.mono #[D]),T.m_l_draws,lV.kp,lW,#[zR],#[zc,#[pvx,0],by exact #[zc,#[pvx,1],#[zc,#[zh],#[ya,#[zh]]]]]]],#[zf,#[zbW,7,zas.nd,#[A],(CompSc.of (N':=["j","plan","p","k"]) (ix:=[none,some 6,some 3,some 4]) (zj zcY) ["script","at","code","p","k","places","plan","ones","slips","way","row","number","which","entry"] rfl rfl #[N]),#[zaM],#[zbp,T.range_,#[ya,#[zh]]],(fun _ _ _ _=>#[zi,0,(show (["j","plan","p","k"]:List Str).Nodup from #[N]),#[A]]),(fun _ _ _ _=>#[zN]),(fun _ _ _ _=>#[zw,oM,(hr.mono #[D]),T.m_l_polynomial,mZ.kp,lZ,#[zR],#[zc,#[zaR,(zjL (K:=K) rfl),#[pvx,1],#[za3,#[zl,#[zan],#[zh],#[pvx,0]]],#[zbl]],#[zc,#[pvx,2],#[ya,#[pvx,3]]]]])],#[zf,#[zr,8,zas.nd,#[A],#[zw,m7,(hr.mono #[D]),T.m_l_draws,lV.kp,lW,#[zR],#[zc,#[pvx,0],by exact #[zc,#[zl,#[z8],#[pvx,1],#[zh]],#[zc,#[zh],#[ya,#[zh]]]]]]],#[zf,#[zr,9,zas.nd,#[A],#[zl,#[zJ],#[zL,#[zG],#[pvx,8],#[zh]],#[zh]]],#[zf,#[zr,10,zas.nd,#[A],#[zac,#[zg]]],#[zf,#[zaP,br,#[zbp,T.range_,#[ya,#[zQ,#[zO],T.len_,c8,#[ya,#[pvx,5]]]]],#[zi,11,zas.nd,#[A]],#[zf,#[zr,12,zas.nd,#[A],#[zL,#[zG],#[zac,#[zcz,#[zcz,#[zc,#[zl,#[zJ],#[zL,#[zG],#[pvx,8],#[pvx,11]],#[zh]],by exact #[zc,#[zl,#[zJ],#[zL,#[zG],#[pvx,8],#[pvx,11]],#[zh]],#[zc,#[zh],#[ya,#[zh]]]]]]]],#[pvx,9]]],#[zf,#[zr,13,zas.nd,#[A],#[zw,sv,(hr.mono #[D]),T.m_l_value,pK.kp,nL,#[zR],#[zc,#[pvx,3],#[zc,#[zL,#[zG],#[pvx,7],#[pvx,12]],#[ya,#[zL,#[zbb],#[pvx,5],#[pvx,11]]]]]]],#[zf,#[zbj,#[zK,#[zeJ],#[zl,#[zJ],#[zl,#[zdt],#[zL,#[zG],#[pvx,8],#[pvx,11]],#[zh]],#[zL,#[zG],#[zac,#[zcz,#[zcz,#[zcz,#[zc,#[zh],#[zc,#[zh],#[ya,#[zh]]]]]]]],#[pvx,9]]],#[zh],(zag _)],#[zo,#[zr,13,zas.nd,#[A],#[zl,#[zJ],#[zl,#[zdt],#[zL,#[zG],#[pvx,8],#[pvx,11]],#[zh]],#[pvx,3]]]],#[zau]],#[zf,#[zbj,(@PW.pt _ _ _ (@zmw _ _ _ _ _ _ _ #[zK,#[zeJ],#[zl,#[zJ],#[zl,#[zdt],#[zL,#[zG],#[pvx,8],#[pvx,11]],#[zh]],#[zL,#[zG],#[zac,#[zc,#[zh],#[ya,#[zh]]]],#[zl,#[zJ],#[zL,#[zG],#[pvx,8],#[zh]],#[zh]]]],#[zh],(zag _)] (@zk2 _ _ _ _ #[zK,#[zhB],#[zl,#[zJ],#[zL,#[zG],#[pvx,8],#[zh]],#[zh]],#[zh],(zag _)]))),#[zo,#[zr,13,zas.nd,#[A],#[zbC]]],#[zau]],#[zo,#[zbP,#[zdg,bV,b8,b9,#[zbc],#[pvx,10],#[ya,#[pvx,13]]]]]]]]]],#[zo,#[zM,#[zdP,#[zK,#[zeJ],#[zl,#[zJ],#[zL,#[zG],#[pvx,8],#[zh]],#[zh]],#[zh],(zag _)],#[zl,#[zgV],#[zac,#[ya,#[zbC]]],#[zQ,#[zO],T.len_,c8,#[ya,#[pvx,10]]]],#[pvx,10]]]]]]]]]]],?_⟩;refine znV ?_; intro zN8 Bs yR w8 tV qI qd;have oD:=bi;refine⟨_,rfl,c,_,rfl,k6.of hc.1,rfl,_,_,rfl,_,_,rfl,_,_,rfl,rfl,?_⟩;refine⟨_,rfl,_,rfl,a,ns,at',16,27720,rfl,hS,kY,a0,#[O],#[D],#[D],#[D],#[D],fun l ds H1 hl s1 hd vY=>?_⟩;have Dj:ds.length=16:=hd.1;refine⟨3,rfl,#[D],#[D],z9 (n:=3) (fun i ys H'=>zy H1 H'∧∃ os:List Addr,os.length=i∧ys=os.map V.ref∧∀ o∈os,∃ ms:List Int,H' o=some (.tup (ms.map V.int))) ⟨fun _ _ e=>e,[],rfl,rfl,#[M]⟩ (fun i ys H' hi _=>hi) (fun ys H' _=>af _) ?_ ?_⟩
  ·rintro zS zT zE i xx ys H4 H5 hi ⟨s4,os,ho,rfl,qG⟩ ⟨rfl,rfl⟩;refine gY ?_;refine⟨_,rfl,_,rfl,_,_,rfl,rfl,.inl ⟨#[D],#[D]⟩,_,rfl,l,_,rfl,kS.of (s4 _ _ vY),fun z hz=>?_⟩;obtain⟨ms,Bu,lms⟩:=zf7 ds (some (3*(0+(i:Int)))) none;rw [Bu];refine⟨_,rfl,_,rfl,z,ms,p,k,rfl,kS.of zd,#[O],p0,fun po lJ H6 yW s6 _ h6 _=>?_⟩;have s5:=(ze (o:=.lst (ms.map V.int)) hz).trans s6;refine⟨zao (by rw [ab]; lia),s4.trans s5,os++[po],by rw [ao,ho]; rfl,by rw [aq]; rfl,fun o hm=>?_⟩;rcases (aK.mp hm) with hm | hm
   ·obtain⟨m2,e⟩:=qG o hm;exact⟨m2,s5 _ _ e⟩
   ·rw [aN.mp hm]; exact⟨lJ,h6⟩
  ·rintro ys H4 on ⟨s4,os,ho,rfl,qG⟩ hon;have s5:=s1.trans (s4.trans (ze (o:=.lst (os.map V.ref)) hon));have vZ:zfD (kW H4 on (.lst (os.map V.ref))) on:=⟨os,ho,zd,fun o hm=>let ⟨ms,e⟩:=qG o hm; ⟨ms,(ze hon) _ _ e⟩⟩;generalize kW H4 on (.lst (os.map V.ref))=H5 at s5 vZ ⊢;refine⟨_,rfl,_,rfl,_,_,rfl,rfl,a,ns,at'+1,20,27720,rfl,s5.seq hS,kY,#[O],#[O],#[D],#[D],#[D],#[D],fun sl es H6 hsl6 s6 he Dr=>?_⟩;have sT:es.length=20:=he.1;have her:=he.2;have yX:∀ m:Int,0≤m→m < 20→∃ c:Int,atI (es.map V.int) m=some (.int c):=fun m h0 h1=>zdx h0 #[O]
   obtain⟨Ds,e16⟩:=yX 16 #[D] #[D];obtain⟨d17,e17⟩:=yX 17 #[D] #[D];obtain⟨d18,e18⟩:=yX 18 #[D] #[D];obtain⟨d19,e19⟩:=yX 19 #[D] #[D];have w0:=aJ Ds (show (6:Int)≠0 by decide);have w1:=aD Ds (show (0:Int) < 6 by decide);refine⟨_,rfl,sl,_,_,_,rfl,rfl,kS.of Dr,e16,_,_,rfl,rfl,(by show (0:Int) < 6; decide),?_⟩;obtain⟨way,yY⟩:∃ way,Ds % 6=way:=⟨_,rfl⟩;rw [yY] at w0 w1;refine⟨bh _,fun ro yZ=>?_⟩;have rO:sl≠ro:=zH Dr yZ;have Dt:H ro=none:=(s5.trans s6).free yZ;have xb:H5 ro=none:=s6.free yZ;refine⟨_,rfl,tt,_,rfl,.inr (k6.of ((((s5.trans s6).trans (ze yZ))) _ _ hc.2)),_,rfl,by rw [ab]; lia,by rw [ab]; lia,?_⟩;rw [ab,bz];refine zcB (lo:=0) (n:=pl.length) (fun i σ H'=>∃ (rw:List (Option Int)) (v11 Du Dv:Option V),σ = [some (.ref a),some (.int at'),some (.ref c),some (.int p),some (.int k),some (.ref tt),some (.ref l),some (.ref on),some (.ref sl),some (.int way),some (.ref ro),v11,Du,Dv] ∧
    rw.length=i∧zy H5 H'∧H' ro=some (.lst (rw.map mJ))∧H' sl=some (.lst (es.map V.int))∧∀ z,some z∈rw→0≤z∧z < p)
    ⟨[],none,none,none,by subst yY; rfl,rfl,s6.trans (ze yZ),zd,by rw [zq rO]; exact Dr,fun z hz=>by simp at hz⟩ ?_ ?_
   ·rintro zD zT i σ H7 hi ⟨rw,v11,Du,Dv,rfl,qe,s7,Bv,y4,qU⟩;obtain⟨di,ei⟩:=yX (0+(i:Int)) #[O] #[O];obtain⟨x,hx⟩:∃ x,pl[i]? = some x:=⟨pl[i]'hi,#[M]⟩;obtain⟨x0,x1⟩:=mq x (aE hx);have Dw:atI (pl.map V.int) (0+(i:Int))=some (.int x):=by rw [jD]; exact zbm (by rw [ak,hx]; rfl)
    have m20:=aJ di (show (2:Int)≠0 by decide);have m21:=aD di (show (0:Int) < 2 by decide);have m30:=aJ di (show (3:Int)≠0 by decide);have m31:=aD di (show (0:Int) < 3 by decide);obtain⟨wh,ewh,wh0,wh1⟩:=znl w0 w1 m20 #[O] m30 m31;refine⟨_,rfl,_,rfl,sl,_,_,_,rfl,rfl,kS.of y4,ei,_,_,rfl,rfl,(by show (0:Int) < 2; decide),_,rfl,_,rfl,sl,_,_,_,rfl,rfl,kS.of y4,ei,_,_,rfl,rfl,(by show (0:Int) < 3; decide),by show 6≤sizeLine; lia,fun l6 Dx=>?_⟩;refine⟨_,rfl,l6,_,_,_,rfl,rfl,kS.of zd,ewh,?_⟩;have s8:=s7.trans (ze (o:=.lst [.int 0,.int 0,.int (di % 2),.int (di % 3),.int 0,.int 0]) Dx);have h8r:=(ze (o:=.lst [.int 0,.int 0,.int (di % 2),.int (di % 3),.int 0,.int 0]) Dx) _ _ Bv;have Dy:=(ze (o:=.lst [.int 0,.int 0,.int (di % 2),.int (di % 3),.int 0,.int 0]) Dx) _ _ y4;obtain⟨H8,hH8⟩:∃ H8,H8=kW H7 l6 (.lst [.int 0,.int 0,.int (di % 2),.int (di % 3),.int 0,.int 0]):=⟨_,rfl⟩;rw [← hH8] at s8 h8r Dy ⊢;have hc8:=hc.same (s5.trans s8);obtain⟨Dz,o1,o2,o3⟩:=vZ.same s8;obtain⟨ow,how⟩:∃ ow,Dz[wh.toNat]? = some ow:=⟨Dz[wh.toNat]'#[O],#[M]⟩;obtain⟨mw,hmw⟩:=o3 ow (aE how);have DA:atI (Dz.map V.ref) wh=some (.ref ow):=by
     have e:((wh.toNat:Nat):Int)=wh:=by lia
     rw [← e];exact zbm (by rw [ak,how]; rfl)
    refine⟨_,rfl,_,rfl,_,rfl,on,_,_,_,rfl,rfl,kS.of o2,DA,_,rfl,_,rfl,tt,_,_,_,rfl,rfl,k6.of hc8.2,Dw,p,x,ow,mw,rfl,.inr (k6.of hmw),p0,p1,x0,x1,?_⟩;obtain⟨z6,ez6,z60⟩:=zlV w0 w1;refine⟨_,rfl,_,rfl,sl,_,_,_,rfl,rfl,kS.of Dy,ei,_,_,rfl,rfl,⟨#[D],#[D]⟩,by show 6≤sizeLine; lia,fun l7 hl7=>?_⟩;have u7:=ze (o:=.lst [.int 4,.int 9,.int 9,.int 9,.int 2,.int 1]) hl7;refine⟨_,rfl,l7,_,_,_,rfl,rfl,kS.of zd,ez6,_,_,rfl,rfl,z60,rfl,_,rfl,?_⟩;have s9:=s8.trans u7;have h9r:=u7 _ _ h8r;have Bw:=u7 _ _ Dy;generalize kW H8 l7 (.lst [.int 4,.int 9,.int 9,.int 9,.int 2,.int 1])=H9 at s9 h9r Bw ⊢;have t0:=aJ d17 (show (2:Int)≠0 by decide);have t1:=aD d17 (show (0:Int) < 2 by decide);obtain⟨z2,ez2,z20⟩:=zlW t0 t1;refine zaX (fun _=>⟨_,rfl,_,rfl,sl,_,_,_,rfl,rfl,kS.of Bw,ei,_,_,rfl,rfl,⟨#[D],#[D]⟩,_,rfl,_,_,rfl,rfl,p0,?_⟩) (fun _=>?_)
    all_goals
     refine⟨_,rfl,_,rfl,sl,_,_,_,rfl,rfl,kS.of Bw,ei,_,_,rfl,rfl,⟨#[D],#[D]⟩,zaI,fun l8 hl8=>?_⟩;have u8:=ze (o:=.lst [.int 9,.int 3]) hl8;have sX:=s9.trans u8;have xR:=u8 _ _ h9r;have y6:=u8 _ _ Bw;refine⟨_,rfl,sl,_,_,_,rfl,rfl,kS.of y6,e17,_,_,rfl,rfl,(by show (0:Int) < 2; decide),l8,_,_,_,rfl,rfl,kS.of zd,ez2,_,_,rfl,rfl,z20,rfl,_,rfl,?_⟩; refine zaX (fun _=>?_) (fun _=>?_)
     ·refine⟨_,rfl,sl,_,_,_,rfl,rfl,kS.of y6,e18,_,_,rfl,rfl,(by show (0:Int) < 3; decide),_,_,rfl,rfl,_,rfl,?_⟩; refine zaX (fun _=>?_) (fun _=>?_)
      ·exact⟨_,rfl,.inl ⟨rfl,_,kS.of xR⟩,_,rfl,ro,_,_,rfl,rfl,xR,zao (by rw [ab]; lia),rw++[none],_,_,_,rfl,by rw [ao,qe]; rfl,zal sX xb,by rw [zd,aq]; rfl,by rw [zq rO]; exact y6,zkF qU⟩
      ·exact⟨_,rfl,.inl ⟨rfl,_,kS.of xR⟩,_,rfl,ro,_,_,rfl,rfl,xR,zao (by rw [ab]; lia),rw++[some _],_,_,_,rfl,by rw [ao,qe]; rfl,zal sX xb,by rw [zd,aq]; rfl,by rw [zq rO]; exact y6,zgz qU (by first | exact⟨aJ _ #[O],aD _ p0⟩ | exact zgA p0)⟩
     ·refine zjB ?_;exact⟨_,rfl,.inl ⟨rfl,_,kS.of xR⟩,_,rfl,ro,_,_,rfl,rfl,xR,zao (by rw [ab]; lia),rw++[some _],_,_,_,rfl,by rw [ao,qe]; rfl,zal sX xb,by rw [zd,aq]; rfl,by rw [zq rO]; exact y6,zgz qU (by first | exact⟨aJ _ #[O],aD _ p0⟩ | exact zgA p0)⟩
   ·rintro σ H7 ⟨rw,v11,Du,Dv,rfl,qe,s7,Bv,y4,qU⟩;refine⟨_,rfl,sl,_,_,_,rfl,rfl,kS.of y4,e19,_,_,rfl,rfl,(by show (0:Int) < 30; decide),rfl,_,rfl,?_⟩;refine zaX (fun _=>?_) (fun _=>⟨_,rfl,q ro rw H7 Dt (s5.trans s7) qe qU Bv⟩);refine⟨by show 1≤sizeLine; lia,fun z hz=>⟨_,rfl,ro,_,rfl,.inl (kS.of ((ze hz) _ _ Bv)),z,_,[.non],rfl,rfl,zd,by rw [ab]; lia,by rw [ab]; lia,by rw [ab]; show 1*_≤sizeLine; lia,fun y hy=>?_⟩⟩;have s8:=(s5.trans s7).trans (ze (o:=.lst [.non]) hz);refine q y (aw pl.length none) _ (s8.free hy) (s8.trans (ze hy)) (by rw [aT]) (fun z hz=>by cases dM hz) ?_;rw [zd,ab,zoe,qe,bz]
theorem zbA:FnScope ["p","polynomial","x","value","number"] ["p","polynomial","x"] (zj zbZ):=#[S]
theorem zci {fd:FuncData} (T:Txt K mg t) (F:Fun K "value_at" "value_at" zbZ t.value_at fd):FnOk P w K mg base CX0 1 t.value_at fd ["p","polynomial","x"] (zdk K):=by
 refine F.ok zbA (fun vs H Q E h=>?_) (fun lP A outer s H vs Q E hr h=>?_)
 ·obtain⟨p,x,a,cs,rfl,_⟩:=h;rfl
 ·obtain⟨p,x,a,cs,rfl,hS,p0,p1,x0,x1,q⟩:=h;refine zbi ?_; intro zX;refine⟨_,#[zf,#[zr,3,zbA.nd,#[A],#[zh]],#[zf,#[zaP,br,(@zmT _ _ _ _ _ _ rfl T.reversed_ #[ya,#[pvx,1]] (by rfl)),#[zi,4,zbA.nd,#[A]],#[zo,#[zr,3,zbA.nd,#[A],#[zl,#[zJ],#[zl,#[z8],#[zl,#[zan],#[pvx,3],#[pvx,2]],#[pvx,4]],#[pvx,0]]]]],#[zo,#[zM,#[pvx,3]]]]],?_⟩;refine zjC ?_; intro qI qd;refine⟨_,rfl,a,cs.map V.int,rfl,?_⟩;rcases hS with hS | hS
  ·refine .inl ⟨hS,?_⟩;rw [ab];refine zdu (n:=cs.length) (fun i σ H'=>H'=H∧∃ nb,σ = [some (.int p),some (.ref a),some (.int x),some (.int (zn p x (cs.drop (cs.length - i)))),nb]) ⟨rfl,none,by rw [eU,fz]; rfl⟩
    (fun i σ H' hi ⟨e,_⟩=>⟨hi,cs.map V.int,by rw [e]; exact hS,by rw [ab]⟩) (fun σ H' _=>af _) ?_ ?_
   ·rintro zD zT i y σ H1 H2 hi ⟨rfl,nb,rfl⟩ ⟨rfl,hy⟩;obtain⟨c,rfl,hc⟩:=zar (hy _ hS);have v0:=zaN (x:=x) p0 (cs.drop (cs.length - i));have v1:=zaO (x:=x) p0 (cs.drop (cs.length - i));refine⟨_,rfl,_,rfl,_,_,rfl,rfl,.inl ⟨#[O],#[O]⟩,_,rfl,_,_,rfl,rfl,_,rfl,_,_,rfl,rfl,p0,?_⟩;refine⟨rfl,some (.int c),?_⟩;rw [zeX hi hc];show _ = [some (V.int p),_,_,some (V.int ((c+x*zn p x (cs.drop (cs.length - i))) % p)),_];rw [Int.add_comm c,eS x];rfl
   ·rintro σ H1 ⟨rfl,nb,rfl⟩;rw [fM,dI];exact⟨_,rfl,q⟩
  ·refine .inr ⟨hS,?_⟩;rw [ab];refine zdu (n:=cs.length) (fun i σ H'=>H'=H∧∃ nb,σ = [some (.int p),some (.ref a),some (.int x),some (.int (zn p x (cs.drop (cs.length - i)))),nb]) ⟨rfl,none,by rw [eU,fz]; rfl⟩
    (fun i σ H' hi ⟨e,_⟩=>⟨hi,cs.map V.int,by rw [e]; exact hS,by rw [ab]⟩) (fun σ H' _=>af _) ?_ ?_
   ·rintro zD zT i y σ H1 H2 hi ⟨rfl,nb,rfl⟩ ⟨rfl,hy⟩;obtain⟨c,rfl,hc⟩:=zar (hy _ hS);have v0:=zaN (x:=x) p0 (cs.drop (cs.length - i));have v1:=zaO (x:=x) p0 (cs.drop (cs.length - i));refine⟨_,rfl,_,rfl,_,_,rfl,rfl,.inl ⟨#[O],#[O]⟩,_,rfl,_,_,rfl,rfl,_,rfl,_,_,rfl,rfl,p0,?_⟩;refine⟨rfl,some (.int c),?_⟩;rw [zeX hi hc];show _ = [some (V.int p),_,_,some (V.int ((c+x*zn p x (cs.drop (cs.length - i))) % p)),_];rw [Int.add_comm c,eS x];rfl
   ·rintro σ H1 ⟨rfl,nb,rfl⟩;rw [fM,dI];exact⟨_,rfl,q⟩
theorem zaZ:FnScope ["p","number","product","square","left"] ["p","number"] (zj zco):=#[S]
theorem zem {fd:FuncData} (T:Txt K mg t) (F:Fun K "inverse" "inverse" zco t.inverse fd):FnOk P w K mg base CX0 1 t.inverse fd ["p","number"] (zg4 K):=by
 refine F.ok zaZ (fun vs H Q E h=>?_) (fun lP A outer s H vs Q E hr h=>?_)
 ·obtain⟨p,h,rfl,_⟩:=h;rfl
 ·obtain⟨p,hh,rfl,mp,h0,h1,q⟩:=h;refine zbi ?_; intro zX;refine⟨_,#[zf,#[zr,2,zaZ.nd,#[A],#[zh]],#[zf,#[zr,3,zaZ.nd,#[A],#[zl,#[zJ],#[pvx,1],#[pvx,0]]],#[zf,#[zr,4,zaZ.nd,#[A],#[zl,#[zc2],#[pvx,0],#[zh]]],#[zf,#[zfQ,br,#[zK,#[zhB],#[pvx,4],#[zh],(zag _)],#[zf,#[zbj,#[zK,#[zeJ],#[zl,#[zJ],#[pvx,4],#[zh]],#[zh],(zag _)],#[zo,#[zr,2,zaZ.nd,#[A],#[zl,#[zJ],#[zl,#[zan],#[pvx,2],#[pvx,3]],#[pvx,0]]]],#[zau]],#[zf,#[zr,3,zaZ.nd,#[A],#[zl,#[zJ],#[zl,#[zan],#[pvx,3],#[pvx,3]],#[pvx,0]]],#[zo,#[zjj,4,zaZ.nd,#[A],#[zh],zjn]]]]],#[zo,#[zM,#[pvx,2]]]]]]],?_⟩;refine znU ?_; intro w8 tV qI qd;have rp:=zu mp;have e0:=aJ hh (show p≠0 by lia);have e1:=aD hh (show 0 < p by lia);refine⟨_,rfl,_,rfl,_,_,rfl,rfl,(by show 0 < p; lia),_,rfl,_,_,rfl,rfl,?_⟩;refine zjm (fun σ H'=>H'=H∧∃ (prod sq left:Int) (n:Nat),σ = [some (.int p),some (.int hh),some (.int prod),some (.int sq),some (.int left)]∧0≤prod∧prod < p∧0≤sq∧sq < p∧0≤left∧left < 2 ^ n∧zck p n prod sq left=inv p hh) (fun σ _=>zmY σ)
   ⟨rfl,1,hh % p,p - 2,7,rfl,#[O],#[O],e0,e1,#[O],#[O],rfl⟩ ?_ ?_
  ·rintro σ H1 ⟨rfl,prod,sq,left,n,rfl,b0,b1,s0,s1,l0,l1,hi⟩;refine⟨_,rfl,_,_,rfl,rfl,_,rfl,?_⟩;refine zaX (fun hl=>?_) (fun hl=>?_)
   ·have hl:0 < left:=by simpa using hl
    obtain⟨m,rfl⟩:∃ m,n=m+1:=by
     cases n with
     | zero=>lia
     | succ m=>exact⟨m,rfl⟩
    rw [zfp hl l1] at hi;have l2:left / 2 < 2 ^ m:=by
     have:(2:Int) ^ (m+1)=2 ^ m*2:=fK ..;lia
    have m0:=aJ (prod*sq) (show p≠0 by lia);have m1:=aD (prod*sq) (show 0 < p by lia);have n0:=aJ (sq*sq) (show p≠0 by lia);have n1:=aD (sq*sq) (show 0 < p by lia);refine⟨_,rfl,_,_,rfl,rfl,(by show (0:Int) < 2; decide),rfl,_,rfl,?_⟩; refine zaX (fun ho=>?_) (fun ho=>?_)
    ·have ho:left % 2=1:=by simpa using ho
     rw [if_pos ho] at hi;refine⟨_,rfl,_,rfl,_,_,rfl,rfl,.inl ⟨#[O],#[O]⟩,_,rfl,_,_,rfl,rfl,(by show 0 < p; lia),?_⟩;refine⟨_,rfl,_,rfl,_,_,rfl,rfl,.inl ⟨#[O],#[O]⟩,_,rfl,_,_,rfl,rfl,(by show 0 < p; lia),?_⟩;refine⟨_,rfl,_,_,rfl,rfl,⟨#[D],#[D]⟩,⟨rfl,_,_,_,m,rfl,m0,m1,n0,n1,#[O],l2,hi⟩,?_⟩;show (left / 2).toNat < left.toNat;lia
    ·have ho:¬ left % 2=1:=by simpa using ho
     rw [if_neg ho] at hi;refine⟨_,rfl,_,rfl,_,_,rfl,rfl,.inl ⟨#[O],#[O]⟩,_,rfl,_,_,rfl,rfl,(by show 0 < p; lia),?_⟩;refine⟨_,rfl,_,_,rfl,rfl,⟨#[D],#[D]⟩,⟨rfl,_,_,_,m,rfl,b0,b1,n0,n1,#[O],l2,hi⟩,?_⟩;show (left / 2).toNat < left.toNat;lia
   ·have hl:¬ 0 < left:=by simpa using hl
    have el:left=0:=by lia
    subst el;rw [zf5] at hi;rw [← hi] at q;exact⟨_,rfl,q⟩
  ·rintro σ H1 Q1 Q2 hq ⟨v,e,i,j,e1,e2,k,e3,q⟩;exact⟨v,e,i,j,e1,e2,k,e3,hq _ _ q⟩
def zen (K:ag):Sp:=fun vs H Q _=>∃ (p r:Int) (a:Addr) (cs:List Int),vs = [.int p,.ref a,.int r]∧H a=some (.lst (cs.map V.int))∧cs.length≤1000∧0 < p∧-97≤r∧r≤97 ∧
 ∀ (l:Addr) (H':Hp),H l=none→zy H H'→H' l=some (.lst ((zcJ p r cs).map V.int))→Q (.ref l) H'
theorem zbG:FnScope ["p","polynomial","root","raised","kept"] ["p","polynomial","root"] (zj za7):=#[S]
theorem zeC {fd:FuncData} (T:Txt K mg t) (F:Fun K "times_root" "times_root" za7 t.times_root fd):FnOk P w K mg base CX0 1 t.times_root fd ["p","polynomial","root"] (zen K):=by
 refine F.ok zbG (fun vs H Q E h=>?_) (fun lP A outer s H vs Q E hr h=>?_)
 ·obtain⟨p,r,a,cs,rfl,_⟩:=h;rfl
 ·obtain⟨p,r,a,cs,rfl,ha,kY,p0,r0,r1,q⟩:=h;refine zbi ?_; intro zX;refine⟨_,#[zf,#[zr,3,zbG.nd,#[A],#[zl,#[zbS],#[zac,#[ya,#[zh]]],#[pvx,1]]],#[zf,#[zr,4,zbG.nd,#[A],#[zl,#[zbS],#[pvx,1],#[zac,#[ya,#[zh]]]]],#[zo,#[zM,#[zaj,(CompSc.of (N':=["high","low","root","p"]) (ix:=[none,none,some 2,some 0]) (zj za7) ["p","polynomial","root","raised","kept"] rfl rfl #[N]),#[zbs,#[zW,#[zW,#[za4]]]],#[zdw,T.zip_,#[zc,#[pvx,3],#[ya,#[pvx,4]]]],(fun _ _ _ _=>#[zaU,(K),2,#[zm,#[zi,0,(show (["high","low","root","p"]:List Str).Nodup from #[N]),#[A]],#[zm,#[zi,1,(show (["high","low","root","p"]:List Str).Nodup from #[N]),#[A]],#[zY]]]]),(fun _ _ _ _=>#[zN]),(fun _ _ _ _=>#[zl,#[zJ],#[zl,#[zc2],#[pvx,0],#[zl,#[zan],#[pvx,2],#[pvx,1]]],#[pvx,3]])]]]]],?_⟩;refine zjC ?_; intro qI qd;have oD:=bi;refine⟨by show 1≤sizeLine; lia,fun z hz=>⟨_,rfl,z,a,[.int 0],cs.map V.int,rfl,rfl,zd,by rw [zq (zH ha hz)]; exact ha,by rw [ab]; show 1+cs.length≤sizeLine; lia,fun ra pR=>?_⟩⟩;have s1:zy H (kW (kW H z (.lst [.int 0])) ra (.lst ([.int 0]++cs.map V.int))):=(ze hz).trans (ze pR);refine⟨_,rfl,by show 1≤sizeLine; lia,fun z2 uT=>⟨a,z2,cs.map V.int,[.int 0],rfl,rfl,by rw [zq (zH (s1 _ _ ha) uT)]; exact s1 _ _ ha,zd,by rw [ab]; show cs.length+1≤sizeLine; lia,fun ke hke=>?_⟩⟩;have s2:=s1.trans ((ze (o:=.lst [.int 0]) uT).trans (ze (o:=.lst (cs.map V.int++[.int 0])) hke));have tW:kW (kW (kW (kW H z (.lst [.int 0])) ra (.lst ([.int 0]++cs.map V.int))) z2 (.lst [.int 0])) ke (.lst (cs.map V.int++[.int 0])) ra=some (.lst ((0 :: cs).map V.int)) :=
   ((ze (o:=.lst [.int 0]) uT).trans (ze (o:=.lst (cs.map V.int++[.int 0])) hke)) _ _ zd
  have tX:kW (kW (kW (kW H z (.lst [.int 0])) ra (.lst ([.int 0]++cs.map V.int))) z2 (.lst [.int 0])) ke (.lst (cs.map V.int++[.int 0])) ke=some (.lst ((cs++[0]).map V.int)):=by rw [zd,aq]; rfl
  generalize kW (kW (kW (kW H z (.lst [.int 0])) ra (.lst ([.int 0]++cs.map V.int))) z2 (.lst [.int 0])) ke (.lst (cs.map V.int++[.int 0]))=H2 at s2 tW tX ⊢;refine⟨_,rfl,_,rfl,ra,ke,_,_,rfl,kS.of tW,kS.of tX,z9 (n:=cs.length+1) (fun i ys H'=>ys=((zcJ p r cs).take i).map V.int∧zy H2 H') ⟨#[M],fun _ _ e=>e⟩ ?_ ?_ ?_ ?_⟩
  ·rintro i ys H3 hi ⟨_,s3⟩;obtain⟨x,hx⟩:∃ x,(0 :: cs)[i]? = some x:=⟨(0 :: cs)[i]'(by simpa using hi),#[M]⟩;obtain⟨y,hy⟩:∃ y,(cs++[0])[i]? = some y:=⟨(cs++[0])[i]'(by simpa using hi),#[M]⟩;exact⟨_,_,.int x,.int y,kS.of (s3 _ _ tW),kS.of (s3 _ _ tX),by rw [ak,hx]; rfl,by rw [ak,hy]; rfl⟩
  ·rintro ys H3 ⟨_,s3⟩;exact⟨_,_,kS.of (s3 _ _ tW),kS.of (s3 _ _ tX),.inl #[M]⟩
  ·rintro zS zT zE i x ys H3 H4 hi ⟨rfl,s3⟩ ⟨T,u,v,hT,rfl,rfl,hu,hv⟩;obtain⟨x,rfl,hx⟩:=zar (hu _ (kS.of (s3 _ _ tW)));obtain⟨y,rfl,hy⟩:=zar (hv _ (kS.of (s3 _ _ tX)));refine gY2 (k6.of zd) ?_;refine⟨_,rfl,_,rfl,_,rfl,_,_,rfl,rfl,.inl ⟨#[O],#[O]⟩,_,_,rfl,rfl,_,rfl,_,_,rfl,rfl,p0,zao ?_,?_,s3.trans (ze hT)⟩
   ·rw [ab];exact aU (fP _ _) #[O]
   ·show _=(List.take (i+1) (a8 (trF p r) (0 :: cs) (cs++[0]))).map V.int;rw [zf6 hx hy,aq];rfl
  ·rintro ys H3 D ⟨rfl,s3⟩ hD;refine q D _ ((s2.trans s3).free hD) ((s2.trans s3).trans (ze hD)) ?_;rw [zd,aQ (by rw [zeU]; exact af _)]
theorem zkH {p f:Int}:∀ (cs vs:List Int),vs.length≤cs.length→ad p f cs vs=a8 (fun number other=>(number+f*other) % p) cs vs++cs.drop vs.length
 | [],[],_=>rfl
 | _ :: _,[],_=>rfl
 | [],_ :: _,h=>by simp at h
 | c :: cs,v :: vs,h=>by
  show (c+f*v) % p :: ad p f cs vs=(c+f*v) % p :: (a8 _ cs vs++cs.drop vs.length);rw [zkH cs vs (by simpa using h)]
theorem zkI {xs:List V} {k:Nat} (h:k≤xs.length):zba xs (some (k:Int)) none=xs.drop k:=by
 have e1:HT.sIx xs.length 0 (some (k:Int))=k:=by
  unfold HT.sIx;simp;split <;> lia
 have e2:HT.sIx xs.length xs.length none=xs.length:=rfl;unfold zba;rw [e1,e2];exact aQ (by rw [bQ]; exact af _)
def zlX (K:ag):Sp:=fun vs H Q _=>∃ (p x y:Int) (c v b:Addr) (cs ws:List Int),vs = [.int p,.ref c,.ref v,.ref b]∧H c=some (.lst (cs.map V.int))∧H v=some (.lst (ws.map V.int))∧H b=some (.tup [.int x,.int y])∧p∈zp∧0≤x∧x < p∧0≤y∧y < 10000∧0 < zn p x ws∧zn p x ws < p∧ws.length≤cs.length∧cs.length≤1000 ∧
 ∀ (l:Addr) (H':Hp),H l=none→zy H H'→H' l=some (.lst ((ad p ((y - zn p x cs)*inv p (zn p x ws) % p) cs ws).map V.int))→Q (.ref l) H'
theorem zcs:FnScope ["p","polynomial","vanishing","point","x","y","missing","factor","added"] ["p","polynomial","vanishing","point"] (zj zej):=#[S]
theorem zlY {fd:FuncData} (T:Txt K mg t) (F:Fun K "bent" "bent" zej t.bent fd):FnOk P w K mg base CX0 2 t.bent fd ["p","polynomial","vanishing","point"] (zlX K):=by
 obtain⟨m5,lu,ly⟩:=T.f_value_at;have lK:=zci (P:=P) (w:=w) (base:=base) T lu;obtain⟨oO,mC,mE⟩:=T.f_inverse;have nM:=zem (P:=P) (w:=w) (base:=base) T mC;refine F.ok zcs (fun vs H Q E h=>?_) (fun lP A outer s H vs Q E hr h=>?_)
 ·obtain⟨p,x,y,c,v,b,cs,ws,rfl,_⟩:=h;rfl
 ·obtain⟨p,x,y,c,v,b,cs,ws,rfl,hc,hv,hb,mp,x0,x1,y0,y1,g0,g1,hle,kY,q⟩:=h;refine zbi ?_; intro zX;refine⟨_,#[zf,#[zb7,#[pvx,3],#[za2,#[zm,#[zi,4,zcs.nd,#[A]],#[zm,#[zi,5,zcs.nd,#[A]],#[zY]]]]],#[zf,#[zr,6,zcs.nd,#[A],#[zl,#[zc2],#[pvx,5],#[zw,lK,(hr.mono #[D]),T.m_value_at,lu.kp,ly,#[zR],#[zc,#[pvx,0],#[zc,#[pvx,1],#[ya,#[pvx,4]]]]]]],#[zf,#[zr,7,zcs.nd,(dv rfl),#[zl,#[zJ],#[zl,#[zan],#[pvx,6],#[zw,nM,(hr.mono #[D]),T.m_inverse,mC.kp,mE,#[zR],#[zc,#[pvx,0],#[ya,#[zw,lK,(hr.mono #[D]),T.m_value_at,lu.kp,ly,#[zR],#[zc,#[pvx,0],#[zc,#[pvx,2],#[ya,#[pvx,4]]]]]]]]],#[pvx,0]]],#[zf,#[zbW,8,zcs.nd,#[A],(CompSc.of (N':=["number","other","factor","p"]) (ix:=[none,none,some 7,some 0]) (zj zej) ["p","polynomial","vanishing","point","x","y","missing","factor","added"] rfl rfl #[N]),#[zbs,#[zW,#[zW,#[za4]]]],#[zdw,T.zip_,#[zc,#[pvx,1],#[ya,#[pvx,2]]]],(fun _ _ _ _=>#[zaU,(K),2,#[zm,#[zi,0,(show (["number","other","factor","p"]:List Str).Nodup from #[N]),#[A]],#[zm,#[zi,1,(show (["number","other","factor","p"]:List Str).Nodup from #[N]),#[A]],#[zY]]]]),(fun _ _ _ _=>#[zN]),(fun _ _ _ _=>#[zl,#[zJ],#[zl,#[z8],#[pvx,0],#[zl,#[zan],#[pvx,2],#[pvx,1]]],#[pvx,3]])],#[zo,#[zM,#[zl,#[zbS],#[pvx,8],#[zaR,zbR,#[pvx,1],#[za3,#[zQ,#[zO],T.len_,c8,#[ya,#[pvx,8]]]],#[zbl]]]]]]]]],?_⟩;refine znU ?_; intro w8 tV qI qd;have oD:=bi;have rp:=zu mp;have p0:0 < p:=by lia
  have v0:=zaN (x:=x) p0 cs;have v1:=zaO (x:=x) p0 cs;refine⟨_,rfl,b,_,rfl,k6.of hb,rfl,_,_,rfl,_,_,rfl,rfl,?_⟩;refine⟨_,rfl,_,rfl,_,rfl,_,rfl,p,x,c,cs,rfl,.inl (kS.of hc),p0,#[O],x0,x1,_,_,rfl,rfl,?_⟩;refine⟨_,rfl,_,rfl,_,rfl,_,rfl,_,rfl,p,x,v,ws,rfl,.inl (kS.of hv),p0,#[O],x0,x1,p,_,rfl,mp,#[O],#[O],_,_,rfl,rfl,.inl ⟨#[O],#[O]⟩,_,rfl,_,_,rfl,rfl,p0,?_⟩;have f0:=aJ ((y - zn p x cs)*inv p (zn p x ws)) (show p≠0 by lia);have f1:=aD ((y - zn p x cs)*inv p (zn p x ws)) p0;refine⟨_,rfl,_,rfl,c,v,_,_,rfl,kS.of hc,kS.of hv,zeY (n:=ws.length) (f:=fun number other=>(number+((y - zn p x cs)*inv p (zn p x ws) % p)*other) % p) hc hv hle (af _) (.inr (af _)) #[O] ?_ ?_⟩
  ·intro j u w H6 T R B hu hv s6 hT hR;refine gY2 (k6.of zd) ?_;exact⟨_,rfl,_,rfl,_,rfl,_,_,rfl,rfl,.inl ⟨#[O],#[O]⟩,_,_,rfl,rfl,_,rfl,_,_,rfl,rfl,p0,hR⟩
  ·intro D H6 s6 hD;obtain⟨f,hf⟩:∃ f,(y - zn p x cs)*inv p (zn p x ws) % p=f:=⟨_,rfl⟩;rw [hf] at q ⊢;have lz:(a8 (fun number other=>(number+f*other) % p) cs ws).length=ws.length:=by rw [dg]; lia
   have s7:=s6.trans (ze (o:=.lst ((a8 (fun number other=>(number+f*other) % p) cs ws).map V.int)) hD);have sU:kW H6 D (.lst ((a8 (fun number other=>(number+f*other) % p) cs ws).map V.int)) D=some (.lst ((a8 (fun number other=>(number+f*other) % p) cs ws).map V.int)):=zd;generalize kW H6 D (.lst ((a8 (fun number other=>(number+f*other) % p) cs ws).map V.int))=H7 at s7 sU ⊢;have y8:=s7 _ _ hc;refine⟨_,rfl,_,rfl,_,rfl,D,_,rfl,.inl (kS.of sU),?_⟩;refine⟨_,rfl,c,_,rfl,kS.of y8,fun z hz=>?_⟩;have ec:zba (cs.map V.int) (some ((((a8 (fun number other=>(number+f*other) % p) cs ws).map V.int).length:Nat):Int)) none=(cs.drop ws.length).map V.int:=by
    rw [ab,lz,zkI (by rw [ab]; exact hle),gn]
   rw [ec];have s8:=ze (o:=.lst ((cs.drop ws.length).map V.int)) hz;refine⟨D,z,_,_,rfl,rfl,s8 _ _ sU,zd,by rw [ab,ab,lz,bQ]; lia,fun l hl=>q l _ (((s7.trans s8).free hl)) ((s7.trans s8).trans (ze hl)) ?_⟩;rw [zd,zkH cs ws hle,aq]
theorem za0:FnScope ["p","points","polynomial","vanishing","x","y"] ["p","points"] (zj zcp):=#[S]
theorem zeo {fd:FuncData} (T:Txt K mg t) (F:Fun K "through" "through" zcp t.through fd):FnOk P w K mg base CX0 3 t.through fd ["p","points"] (zgw K):=by
 obtain⟨vn,tY,qW⟩:=T.f_bent;have xc:=zlY (P:=P) (w:=w) (base:=base) T tY;obtain⟨pA,nB,mN⟩:=T.f_times_root;have pS:=zeC (P:=P) (w:=w) (base:=base) T nB;refine F.ok za0 (fun vs H Q E h=>?_) (fun lP A outer s H vs Q E hr h=>?_)
 ·obtain⟨p,a,kQ,rfl,_⟩:=h;rfl
 ·obtain⟨p,a,kQ,rfl,hP,kY,mp,hp,hyr,q⟩:=h;refine zbi ?_; intro zX;refine⟨_,#[zf,#[zr,2,za0.nd,#[A],#[zl,#[zgV],#[zac,#[ya,#[zh]]],#[zQ,#[zO],T.len_,c8,#[ya,#[pvx,1]]]]],#[zf,#[zr,3,za0.nd,#[A],#[zac,#[ya,#[zh]]]],#[zf,#[zaP,br,#[z0,#[pvx,1]],#[za2,#[zm,#[zi,4,za0.nd,#[A]],#[zm,#[zi,5,za0.nd,#[A]],#[zY]]]],#[zf,#[zr,2,za0.nd,#[A],#[zw,xc,(hr.mono #[D]),T.m_bent,tY.kp,qW,#[zR],#[zc,#[pvx,0],by exact #[zc,#[pvx,2],#[zc,#[pvx,3],#[ya,#[zaH,#[zc,#[pvx,4],#[ya,#[pvx,5]]]]]]]]]],#[zo,#[zr,3,za0.nd,#[A],#[zw,pS,(hr.mono #[D]),T.m_times_root,nB.kp,mN,#[zR],#[zc,#[pvx,0],#[zc,#[pvx,3],#[ya,#[pvx,4]]]]]]]]],#[zo,#[zM,#[zaL,#[zaS],T.tuple_,gN,#[ya,#[pvx,2]]]]]]]],?_⟩;refine zlc ?_; intro tV qI qd;have oD:=bi;have rp:=zu mp;have p0:0 < p:=by lia
  obtain⟨bs,hS,vo,hb⟩:=id hP;refine⟨by show 1≤sizeLine; lia,fun z hz=>⟨_,rfl,a,_,rfl,.inl ((ze hz).seq hS),z,_,[.int 0],rfl,rfl,zd,by rw [ab]; lia,by rw [ab]; lia,by rw [ab]; show 1*_≤sizeLine; lia,fun c hc=>?_⟩⟩;have s0:=ze (o:=.lst [.int 0]) hz;have hcH:H c=none:=s0.free hc;refine⟨by show 1≤sizeLine; lia,fun v hv=>?_⟩;have hcv:c≠v:=zH zd hv;rw [ab,zcK,vo,bz] at hv ⊢;have s2:zy H (kW (kW (kW H z (.lst [.int 0])) c (.lst ((aw kQ.length 0).map V.int))) v (.lst [.int 1])):=(s0.trans (ze hc)).trans (ze hv);refine⟨_,rfl,a,rfl,⟨_,s2.seq hS⟩,zaC (K:=K) (a:=a) (xs:=bs.map V.ref) (fun i σ H'=>∃ (c v:Addr) (s:List Int×List Int) (e4 e5:Option V),σ = [some (.int p),some (.ref a),some (.ref c),some (.ref v),e4,e5] ∧
   s=(kQ.take i).foldl (zcc p) (aw kQ.length 0,[1])∧Nw p kQ.length ((kQ.take i).map (md p)) s∧zy H H'∧H' c=some (.lst (s.1.map V.int))∧H' v=some (.lst (s.2.map V.int)))
   ⟨c,v,_,none,none,rfl,rfl,by rw [dJ]; exact zf4 mp _,s2,by rw [zq hcv]; exact zd,zd⟩ (fun i σ H' _ ⟨_,_,_,_,_,_,_,_,s3,_⟩=>s3.seq hS) ?_ ?_⟩
  ·rintro zD zT i y σ H1 hy ⟨c,v,s,e4,e5,rfl,hs,nw,s1,pT,DB⟩;obtain⟨b,rfl,y9⟩:=zP hy;obtain⟨hi,_⟩:=aA.mp y9;obtain⟨⟨x,y⟩,hq⟩:∃ q,kQ[i]? = some q:=⟨kQ[i]'#[O],#[M]⟩;have hbq:=s1 _ _ (hb i b _ y9 hq);have uC:=zd6 hq;have qg:=hp;rw [uC,aq,aS] at qg;have Bx:=qg.apart;obtain⟨x0,x1,m0,m1⟩:=hp.rg _ (aB.mpr ⟨_,aE hq,rfl⟩);obtain⟨y0,y1⟩:=hyr _ (aE hq);dsimp only [md] at x0 x1 m0 m1 y0 y1;have hil:i < kQ.length:=by lia
   have uK:(kQ.take i).length=i:=by rw [aI]; lia
   have DC:=zhO mp nw (q:=md p (x,y)) (by rw [ab,uK]; exact hil) x0 x1 m0 m1 Bx;rw [zgv] at DC;obtain⟨xf,vi⟩:=zhN mp nw (q:=(x,y)) x0 x1 (fun a ha=>⟨(Bx a ha).1,(Bx a ha).2.1,(Bx a ha).2.2.1⟩);dsimp only at xf vi;have o8:zcc p s (x,y)=(ad p ((y - zn p x s.1)*inv p (zn p x s.2) % p) s.1 s.2,zcJ p x s.2):=rfl;rw [o8] at DC;have l1:=nw.lc;have l2:=nw.lv;rw [ab,uK] at l2;refine⟨b,_,rfl,k6.of hbq,rfl,_,_,rfl,_,_,rfl,rfl,?_⟩;refine⟨_,rfl,_,rfl,_,rfl,_,rfl,_,rfl,by show 2≤sizeLine; lia,fun tt ht=>?_⟩;have t1:=ze (o:=.tup [.int x,.int y]) ht;refine⟨p,x,y,c,v,tt,s.1,s.2,rfl,t1 _ _ pT,t1 _ _ DB,zd,mp,x0,x1,y0,y1,xf,vi,#[O],#[O],fun l H3 hl s3 v3=>?_⟩;have s4:=t1.trans s3;refine⟨_,rfl,_,rfl,_,rfl,p,x,v,s.2,rfl,s4 _ _ DB,#[O],p0,#[O],#[O],fun l2 H4 qL s5 h4l=>?_⟩;refine⟨l,l2,zcc p s (x,y),_,_,rfl,?_,?_,(s1.trans s4).trans s5,?_,?_⟩
   ·rw [take_snoc hq,List.foldl_append,← hs];rfl
   ·rw [take_snoc hq,o8,aq];exact DC
   ·rw [o8];exact s5 _ _ v3
   ·rw [o8];exact h4l
  ·rintro σ H1 ⟨c,v,s,e4,e5,rfl,hs,nw,s1,pT,DB⟩;rw [ab,vo,aV] at hs;refine⟨_,rfl,c,_,rfl,.inl ⟨kS.of pT,fun l hl=>q l _ (s1.free hl) (s1.trans (ze hl)) ?_⟩⟩;rw [zd,hs,zni];rfl
theorem zaW:FnScope ["code","row","p","k","places"] ["code","row"] (zj zaJ):=#[S]
theorem zb5 {fd:FuncData} (T:Txt K mg t) (F:Fun K "heard_points" "heard_points" zaJ t.heard_points fd):FnOk P w K mg base CX0 1 t.heard_points fd ["code","row"] (zlL K):=by
 refine F.ok zaW (fun vs H Q E h=>?_) (fun lP A outer s H vs Q E hr h=>?_)
 ·obtain⟨c,tt,r,p,k,pl,rw,rfl,_⟩:=h;rfl
 ·obtain⟨c,tt,r,p,k,pl,rw,rfl,hc,pU,hn,q⟩:=h;refine zbi ?_; intro zX;refine⟨_,#[zf,#[zb7,#[pvx,0],#[za2,#[zm,#[zi,2,zaW.nd,#[A]],#[zm,#[zi,3,zaW.nd,#[A]],#[zm,#[zi,4,zaW.nd,#[A]],#[zY]]]]]],#[zo,#[zM,#[zaj,(CompSc.of (N':=["place","entry"]) (ix:=[none,none]) (zj zaJ) ["code","row","p","k","places"] rfl rfl #[N]),#[zbs,#[zW,#[zW,#[za4]]]],(@zjY _ _ _ _ _ _ _ _ _ rfl T.zip_ #[zc,#[pvx,4],#[ya,#[pvx,1]]] (by rfl) (by rfl)),(fun _ _ _ _=>#[zaU,(K),2,#[zm,#[zi,0,(show (["place","entry"]:List Str).Nodup from #[N]),#[A]],#[zm,#[zi,1,(show (["place","entry"]:List Str).Nodup from #[N]),#[A]],#[zY]]]]),(fun _ _ _ _=>#[zcH,#[zK,(@zk5 _),#[pvx,1],#[zbC],(zag _)]]),(fun _ _ _ _=>#[zaH,#[zc,#[pvx,0],#[ya,#[pvx,1]]]])]]]],?_⟩;refine znT ?_; intro qd;have oD:=bi;have hl:=pU.len;refine⟨_,rfl,c,_,rfl,k6.of hc.1,rfl,_,_,rfl,_,_,rfl,_,_,rfl,rfl,?_⟩;refine⟨_,rfl,_,rfl,tt,r,_,_,rfl,k6.of hc.2,pU.at',z9 (n:=pl.length) (fun i ys H'=>zy H H'∧∃ us:List Addr,ys=us.map V.ref∧PtB H' us (lD (pl.take i) (rw.take i))) ⟨fun _ _ e=>e,[],rfl,.nil⟩ ?_ ?_ ?_ ?_⟩
  ·rintro i ys H3 hi ⟨s3,_⟩;obtain⟨o,ho⟩:∃ o,rw[i]? = some o:=⟨rw[i]'#[O],#[M]⟩;exact⟨_,_,.int pl[i],mJ o,k6.of (s3 _ _ hc.2),s3.seq pU.at',by rw [ak,ap hi]; rfl,by rw [ak,ho]; rfl⟩
  ·rintro ys H3 ⟨s3,_⟩;exact⟨_,_,k6.of (s3 _ _ hc.2),s3.seq pU.at',.inl (by rw [ab])⟩
  ·rintro zS zT zE i xx ys H3 H4 hi ⟨s3,us,rfl,mF⟩ ⟨T,u,v,hT,rfl,rfl,hu,hv⟩;obtain⟨x,rfl,hx⟩:=zar (hu _ (k6.of (s3 _ _ hc.2)));obtain⟨o,rfl,ho⟩:=zcL (hv _ (s3.seq pU.at'));have v4:=ze (o:=.tup [.int x,mJ o]) hT;have s4:=s3.trans v4;have hs:=zef hx ho;have oH:=mF.length;have hb:=zcU (pl.take i) (rw.take i);rw [aI] at hb;refine⟨T,_,rfl,k6.of zd,rfl,_,_,rfl,_,_,rfl,rfl,?_⟩;refine⟨_,rfl,rfl,_,rfl,?_⟩;cases o with
   | none =>
    refine zjB ⟨s4,us,rfl,?_⟩;rw [hs,bI];exact mF.same v4
   | some z =>
    refine zoy ⟨_,rfl,_,rfl,by show 2≤sizeLine; lia,fun T2 sV=>⟨by rw [ab]; lia,s4.trans (ze sV),us++[T2],by rw [aq]; rfl,?_⟩⟩;rw [hs];exact bH (mF.same (v4.trans (ze sV))) zd
  ·rintro ys H3 D ⟨s3,us,rfl,mF⟩ hD;rw [aV,aQ #[O]] at mF;exact q D us _ (s3.free hD) (s3.trans (ze hD)) zd (mF.same (ze hD))
end
section
variable {P:Program} {w:World} {K:ag} {mg:Str→Option Value} {base:Heap} {t:Adr}
theorem zhm:FnScope ["p","vector","times","other"] ["p","vector","times","other"] (zj zbN):=#[S]
theorem zhn {fd:FuncData} (T:Txt K mg t) (F:Fun K "without" "without" zbN t.without fd):FnOk P w K mg base CX0 1 t.without fd ["p","vector","times","other"] (zhh K):=by
 refine F.ok zhm (fun vs H Q E h=>?_) (fun lP A outer s H vs Q E hr h=>?_)
 ·obtain⟨p,tm,a,b,as,bs,rfl,_⟩:=h;rfl
 ·obtain⟨p,tm,a,b,as,bs,rfl,ha,hb,hl,hn,p0,t0,t1,q⟩:=h;refine zbi ?_; intro zX;refine⟨_,#[zo,#[zM,#[zaj,(CompSc.of (N':=["number","less","times","p"]) (ix:=[none,none,some 2,some 0]) (zj zbN) ["p","vector","times","other"] rfl rfl #[N]),#[zbs,#[zW,#[zW,#[za4]]]],#[zdw,T.zip_,#[zc,#[pvx,1],#[ya,#[pvx,3]]]],(fun _ _ _ _=>#[zaU,(K),2,#[zm,#[zi,0,(show (["number","less","times","p"]:List Str).Nodup from #[N]),#[A]],#[zm,#[zi,1,(show (["number","less","times","p"]:List Str).Nodup from #[N]),#[A]],#[zY]]]]),(fun _ _ _ _=>#[zN]),(fun _ _ _ _=>#[zl,#[zJ],#[zl,#[zc2],#[pvx,0],#[zl,#[zan],#[pvx,2],#[pvx,1]]],#[pvx,3]])]]],?_⟩;have oD:=bi;refine⟨_,rfl,_,rfl,a,b,_,_,rfl,kS.of ha,kS.of hb,zeY (n:=as.length) (f:=fun x y=>(x - tm*y) % p) ha hb (af _) #[O] (.inl (af _)) #[O] ?_ ?_⟩
  ·intro j u w H6 T R B hu hv s6 hT hR;refine gY2 (k6.of zd) ?_;exact⟨_,rfl,_,rfl,_,rfl,_,_,rfl,rfl,.inl ⟨#[O],#[O]⟩,_,_,rfl,rfl,_,rfl,_,_,rfl,rfl,p0,hR⟩
  ·intro D H6 s6 hD;exact q D _ (s6.free hD) (s6.trans (ze hD)) zd
theorem zC:FnScope ["p","vectors","length","cleared","count","vector","whole","lead","other","leads","factor"] ["p","vectors"] (zj zam):=#[S]
theorem zcZ {fd:FuncData} (T:Txt K mg t) (F:Fun K "first_relation" "first_relation" zam t.first_relation fd):FnOk P w K mg base CX0 2 t.first_relation fd ["p","vectors"] (zcW K):=by
 obtain⟨qX,pL,nN⟩:=T.f_without;have sx:=zhn (P:=P) (w:=w) (base:=base) T pL;obtain⟨oO,mC,mE⟩:=T.f_inverse;have nM:=zem (P:=P) (w:=w) (base:=base) T mC;refine F.ok zC (fun vs H Q E h=>?_) (fun lP A outer s H vs Q E hr h=>?_)
 ·obtain⟨p,a,ls,vv,L,rfl,_⟩:=h;rfl
 ·obtain⟨p,a,ls,vv,L,rfl,ha,DD,lY,hN,hL,hvv,hp,qn,qs⟩:=h;refine zbi ?_; intro zX;refine⟨_,#[zf,#[zr,2,zC.nd,#[A],#[zQ,#[zO],T.len_,c8,#[ya,#[zL,#[zG],#[pvx,1],#[zh]]]]],#[zf,#[zr,3,zC.nd,#[A],#[zac,#[zg]]],#[zf,#[zaP,br,#[zfW,T.enumerate_,#[ya,#[pvx,1]]],#[za2,#[zm,#[zi,4,zC.nd,#[A]],#[zm,#[zi,5,zC.nd,#[A]],#[zY]]]],#[zf,#[zr,6,zC.nd,(dv rfl),#[zl,#[zbS],#[pvx,5],#[zl,#[zgV],#[zac,#[ya,#[zh]]],#[zQ,#[zO],T.len_,c8,#[ya,#[pvx,1]]]]]],#[zf,#[zb7,#[zh],(@zmA _ _ _ _ _ _ _ #[pvx,6] #[zl,#[z8],#[pvx,2],#[pvx,4]] set_list (by intro _; rfl))],#[zf,#[zaP,br,#[z0,#[pvx,3]],#[za2,#[zm,#[zi,7,zC.nd,#[A]],#[zm,#[zi,8,zC.nd,#[A]],#[zY]]]],#[zo,#[zr,6,zC.nd,(dv rfl),#[zw,sx,(hr.mono #[D]),T.m_without,pL.kp,nN,#[zR],#[zc,#[pvx,0],by exact #[zc,#[pvx,6],#[zc,#[zL,#[zG],#[pvx,6],#[pvx,7]],#[ya,#[pvx,8]]]]]]]]],#[zf,#[zbW,9,zC.nd,#[A],(CompSc.of (N':=["at","whole"]) (ix:=[none,some 6]) (zj zam) ["p","vectors","length","cleared","count","vector","whole","lead","other","leads","factor"] rfl rfl #[N]),#[zaM],#[zbp,T.range_,#[ya,#[pvx,2]]],(fun _ _ _ _=>#[zi,0,(show (["at","whole"]:List Str).Nodup from #[N]),#[A]]),(fun _ _ _ _=>#[zcH,#[zK,#[zhA],#[zL,#[zdZ,(K)],#[pvx,1],#[pvx,0]],#[zh],(zag _)]]),(fun _ _ _ _=>#[pvx,0])],#[zf,#[zbj,(@zmx _ _ _ _ (@zjq _ _ _ #[pvx,9] (fun _=>rfl))),#[zo,#[zM,#[zaR,zbR,#[pvx,6],#[za3,#[pvx,2]],#[za3,#[zl,#[z8],#[zl,#[z8],#[pvx,2],#[pvx,4]],#[zh]]]]]],#[zau]],#[zf,#[zr,10,zC.nd,(dv rfl),#[zw,nM,(hr.mono #[D]),T.m_inverse,mC.kp,mE,#[zR],#[zc,#[pvx,0],#[ya,#[zL,#[zG],#[pvx,6],#[zL,#[zG],#[pvx,9],#[zh]]]]]]],#[zo,#[zbP,#[zdg,bV,b8,b9,#[zbc],#[pvx,3],#[ya,#[zaH,#[zc,#[zL,#[zG],#[pvx,9],#[zh]],#[ya,#[zaj,(CompSc.of (N':=["number","factor","p"]) (ix:=[none,some 10,some 0]) (zj zam) ["p","vectors","length","cleared","count","vector","whole","lead","other","leads","factor"] rfl rfl #[N]),#[zaM],#[z0,#[pvx,6]],(fun _ _ _ _=>#[zi,0,(show (["number","factor","p"]:List Str).Nodup from #[N]),#[A]]),(fun _ _ _ _=>#[zN]),(fun _ _ _ _=>#[zl,#[zJ],#[zl,#[zan],#[pvx,0],#[pvx,1]],#[pvx,2]])]]]]]]]]]]]]]]],#[zo,#[zM,#[zbC]]]]]],?_⟩;refine zlc ?_; intro tV qI qd;have oD:=bi;have rp:=zu hp;have p0:0 < p:=by lia
  have xQ:=DD.length;have hN0:0 < vv.length:=jj.mpr lY;obtain⟨l0,sW⟩:∃ l0,ls[0]? = some l0:=⟨ls[0]'#[O],#[M]⟩;obtain⟨v0,hv0,DE⟩:=Paired.get DD sW;have DF:=(hvv v0 (aE hv0)).1;refine⟨_,rfl,a,_,_,.ref l0,rfl,rfl,kS.of ha,zbm (j:=0) (by rw [ak,sW]; rfl),l0,_,rfl,.inl (kS.of DE),?_⟩;rw [ab,DF];refine⟨by show 0≤sizeLine; lia,fun ca hca=>?_⟩;have u1:=ze (o:=.lst []) hca;refine⟨_,rfl,a,_,rfl,kS.of (u1 _ _ ha),zdu (n:=vv.length) (fun i σ H'=>∃ (cs:List Addr) (cl:List (Nat×List Int)) (e4 e5 e6 e7 e8 e9 qf:Option V),σ = [some (.int p),some (.ref a),some (.int (L:Int)),some (.ref ca),e4,e5,e6,e7,e8,e9,qf]∧zy H H'∧H' ca=some (.lst (cs.map V.ref))∧ClA ca H' cs cl∧Ech p L vv.length i vv cl)
   ⟨[],[],none,none,none,none,none,none,none,rfl,u1,zd,.nil,Ech.start p L vv.length vv⟩ ?_ ?_ ?_ ?_⟩
  ·rintro i σ H1 hi ⟨cs,cl,e4,e5,e6,e7,e8,e9,qf,rfl,s1,_⟩;exact⟨_,.ref (ls[i]'#[O]),kS.of (s1 _ _ ha),by rw [ak,ap #[O]]; rfl⟩
  ·rintro σ H1 ⟨cs,cl,e4,e5,e6,e7,e8,e9,qf,rfl,s1,_⟩;exact⟨_,kS.of (s1 _ _ ha),by rw [ab]; lia⟩
  ·rintro zD zT i x σ H1 H2 hi ⟨cs,cl,e4,e5,e6,e7,e8,e9,qf,rfl,s1,pT,qH,E⟩ ⟨T,v,hT,rfl,rfl,hv⟩;obtain⟨lv,rfl,hlv⟩:=zP (hv _ (kS.of (s1 _ _ ha)));obtain⟨vec,Aa,hva⟩:=Paired.get DD hlv;obtain⟨rG,hvr⟩:=hvv vec (aE Aa);have t2:=ze (o:=.tup [.int (i:Int),.ref lv]) hT;refine⟨T,_,rfl,k6.of zd,rfl,_,_,rfl,_,_,rfl,rfl,?_⟩;have s2:=s1.trans t2;have DG:=t2 _ _ pT;have Ab:=qH.same t2;generalize kW H1 T (.tup [.int (i:Int),.ref lv])=H2 at t2 s2 DG Ab ⊢;refine⟨_,rfl,by show 1≤sizeLine; lia,fun z hz=>⟨_,rfl,a,_,rfl,.inl (kS.of ((s2.trans (ze hz)) _ _ ha)),z,_,[.int 0],rfl,rfl,zd,by rw [ab]; lia,by rw [ab]; lia,by rw [ab]; show 1*_≤sizeLine; lia,fun y hy=>?_⟩⟩;rw [ab,zcK,xQ,bz];have t3:=(ze (o:=.lst [.int 0]) hz).trans (ze (o:=.lst ((aw vv.length (0:Int)).map V.int)) hy);have h3y:kW (kW H2 z (.lst [.int 0])) y (.lst ((aw vv.length (0:Int)).map V.int)) y=some (.lst ((aw vv.length (0:Int)).map V.int)):=zd;generalize kW (kW H2 z (.lst [.int 0])) y (.lst ((aw vv.length (0:Int)).map V.int))=H3 at t3 h3y ⊢;refine⟨lv,y,_,_,rfl,rfl,(s2.trans t3) _ _ hva,h3y,by rw [ab,ab,aT]; lia,fun wl tw=>?_⟩;rw [← aq];have t4:=ze (o:=.lst ((vec++aw vv.length (0:Int)).map V.int)) tw;refine⟨_,rfl,_,rfl,_,rfl,_,_,rfl,rfl,wl,_,_,L+i,rfl,rfl,zd,?_,?_⟩
   ·rw [← iA];exact zlj (by rw [ab,ao,aT]; lia)
   have ew:((vec++aw vv.length (0:Int)).map V.int).set (L+i) (.int 1)=((vec++aw vv.length (0:Int)).set (L+i) 1).map V.int:=by rw [List.map_set]
   rw [ew,zkZ];have t4:=t3.trans (ze (o:=.lst (((vec++aw vv.length (0:Int)).set (L+i) 1).map V.int)) tw);have DH:kW H3 wl (.lst (((vec++aw vv.length (0:Int)).set (L+i) 1).map V.int)) wl=some (.lst (((vec++aw vv.length (0:Int)).set (L+i) 1).map V.int)):=zd;have W0:=zkl hp (N:=vv.length) hi Aa rG hvr;have hwc:wl≠ca:=fun e=>by
    have:=t3 _ _ DG;rw [← e,tw] at this;cases this
   generalize kW H3 wl (.lst (((vec++aw vv.length (0:Int)).set (L+i) 1).map V.int))=H4 at t4 DH ⊢;generalize (vec++aw vv.length (0:Int)).set (L+i) 1=w0 at W0 DH ⊢;have s4:=s2.trans t4;have By:=t4 _ _ DG;have xg:=Ab.same t4;have Ac:=xg.length;refine⟨_,rfl,ca,rfl,⟨_,kS.of By⟩,zaC (K:=K) (a:=ca) (xs:=cs.map V.ref) (fun j σ H'=>∃ (wa:Addr) (w:List Int) (e7 e8:Option V),σ = [some (.int p),some (.ref a),some (.int (L:Int)),some (.ref ca),some (.int (i:Int)),some (.ref lv),some (.ref wa),e7,e8,e9,qf]∧zy H4 H'∧H' wa=some (.lst (w.map V.int))∧wa≠ca∧Wh p L vv.length i vv (cl.take j) w)
    ⟨wl,w0,_,_,rfl,fun _ _ e=>e,DH,hwc,W0⟩ (fun j σ H' _ ⟨_,_,_,_,_,s5,_⟩=>kS.of (s5 _ _ By)) ?_ ?_⟩
   ·rintro zD zT j y σ H5 hy ⟨wa,w,e7,e8,rfl,s5,Ad,hwa,W⟩;obtain⟨b,rfl,hb⟩:=zP hy;obtain⟨aa,Ae,oa,rN,tM,xJ⟩:=Paired.get xg hb;obtain⟨o1,o2,o3,_⟩:=E.one j aa Ae;refine⟨b,_,rfl,k6.of (s5 _ _ rN),rfl,_,_,rfl,_,_,rfl,rfl,?_⟩;have hg:=zeg p0 W.rg aa.1;refine⟨_,rfl,_,rfl,_,rfl,_,rfl,wa,_,_,.int (gl w aa.1),rfl,rfl,kS.of Ad,zbm (by rw [ak,zaY (by rw [W.ln]; lia)]; rfl),_,rfl,p,gl w aa.1,wa,oa,w,aa.2,rfl,Ad,s5 _ _ tM,by rw [W.ln,o2],by rw [W.ln]; lia,p0,hg.1,#[O],fun l H6 hl s6 h6l=>?_⟩;refine⟨l,_,_,_,rfl,s5.trans s6,h6l,fun e=>?_,zlI hp E hi Ae W⟩;have:=s5 _ _ By;rw [← e,hl] at this;cases this
   ·rintro σ H5 ⟨wa,w,e7,e8,rfl,s5,Ad,hwa,W⟩;rw [ab,Ac,aV] at W;have h5c:=s5 _ _ By;have DI:=xg.same s5;have s15:=s4.trans s5;refine⟨_,rfl,_,rfl,#[O],#[O],?_⟩;rw [bz];refine z9 (n:=L) (fun j ys H'=>H'=H5∧ys=(((aR j).filter fun m=>decide (gl w m≠0)).map fun m:Nat=>(m:Int)).map V.int) ⟨rfl,rfl⟩ (fun j ys H' hj _=>hj) (fun ys H' _=>af _) ?_ ?_
    ·rintro zS zT zE j xx ys H6 H7 hj ⟨rfl,rfl⟩ ⟨rfl,rfl⟩;have hgj:(w.map V.int)[j]? = some (.int (gl w j)):=by rw [ak,zaY (by rw [W.ln]; lia)]; rfl
     refine⟨_,rfl,_,rfl,wa,_,_,.int (gl w j),rfl,rfl,kS.of Ad,by rw [jD]; exact zbm hgj,rfl,_,rfl,?_⟩;have xS:=ee (fun m=>decide (gl w m≠0)) (aR j);rw [bM] at xS;rw [iu,dW,aq,aq];by_cases h0:gl w j=0
     ·refine zaX (fun h=>absurd h (by rw [h0]; simp)) (fun _=>⟨rfl,?_⟩);rw [fe (by simpa using h0),iB,eP,eP,bI]
     ·refine zaX (fun _=>⟨_,rfl,zao (by rw [ab,ab]; lia),rfl,?_⟩) (fun h=>absurd (by simpa using h0) h);rw [fc (by simpa using h0),iB,jD];rfl
    ·rintro ys H6 D ⟨rfl,rfl⟩ hD;have t7:=ze (o:=.lst ((((aR L).filter fun m=>decide (gl w m≠0)).map fun m:Nat=>(m:Int)).map V.int)) hD;have sU:kW H6 D (.lst ((((aR L).filter fun m=>decide (gl w m≠0)).map fun m:Nat=>(m:Int)).map V.int)) D=_:=zd;generalize kW H6 D (.lst ((((aR L).filter fun m=>decide (gl w m≠0)).map fun m:Nat=>(m:Int)).map V.int))=H7 at t7 sU ⊢;have s7:=s15.trans t7;have Bz:=t7 _ _ Ad;have y8:=t7 _ _ h5c;have DJ:=DI.same t7;refine⟨_,rfl,_,.inl ⟨_,kS.of sU,rfl⟩,?_⟩;cases xh:(aR L).filter fun m=>decide (gl w m≠0) with
     | nil =>
      refine zaX (fun _=>?_) (fun h=>absurd rfl h);have hz:∀ x,x < L→gl w x=0:=fun x hx=>by
       have:=iL.mp xh x (bx.mpr hx);simpa using this
      refine⟨_,rfl,_,rfl,_,rfl,_,rfl,_,rfl,_,_,rfl,rfl,_,_,rfl,rfl,_,rfl,wa,_,rfl,kS.of Bz,fun l hl=>?_⟩;have ec:zba (w.map V.int) (some (L:Int)) (some ((L:Int)+(i:Int)+1))=((w.drop L).take (i+1)).map V.int:=by
       rw [show (L:Int)+(i:Int)+1=((L+i+1:Nat):Int) by lia,zlQ (by rw [ab,W.ln]; lia),← gn,← eE,show L+i+1 - L=i+1 by lia]
      rw [ec];obtain⟨d1,d2,d3⟩:=znf W hi hz;exact qs l _ i _ (s7.free hl) (s7.trans (ze hl)) zd d1 hi d2 d3
     | cons ld lds =>
      refine zaX (fun h=>absurd h #[M]) (fun _=>?_);have hm:ld∈(aR L).filter fun m=>decide (gl w m≠0):=by rw [xh]; exact az
      (obtain⟨uG,p8⟩:=ck.mp hm)
      have Br:ld < L:=bx.mp uG;have xf:gl w ld≠0:=by simpa using p8
      obtain⟨g0,g1⟩:=zeg p0 W.rg ld;rw [xh] at sU;have Af:atI ((((ld :: lds).map fun m:Nat=>(m:Int))).map V.int) 0=some (.int (ld:Int)):=zbm (j:=0) rfl;refine⟨_,rfl,_,rfl,_,rfl,D,_,_,.int (ld:Int),rfl,rfl,kS.of sU,Af,wa,_,_,.int (gl w ld),rfl,rfl,kS.of Bz,zbm (by rw [ak,zaY (by rw [W.ln]; lia)]; rfl),p,gl w ld,rfl,hp,g0,g1,?_⟩;refine⟨_,rfl,.inl ⟨rfl,_,kS.of y8⟩,_,rfl,D,_,_,.int (ld:Int),rfl,rfl,kS.of sU,Af,_,rfl,wa,rfl,⟨_,kS.of Bz⟩,zeZ (fs:=(w.map fun x=>x*inv p (gl w ld) % p).map V.int) (kS.of Bz) (by rw [ab,ab,ab]) (by rw [ab,W.ln]; lia) ?_ ?_⟩
      ·intro j x y R B hx hy hR;obtain⟨n,rfl,hn⟩:=zar hx;obtain⟨n',rfl,xw⟩:=zar hy;rw [ak,hn] at xw;cases xw;have hnr:=W.rg n (aE hn);exact gY ⟨_,rfl,_,rfl,_,_,rfl,rfl,.inl ⟨#[O],#[O]⟩,_,rfl,_,_,rfl,rfl,p0,hR⟩
      ·intro D2 v5;have t8:=ze (o:=.lst ((w.map fun x=>x*inv p (gl w ld) % p).map V.int)) v5;have h8D:kW H7 D2 (.lst ((w.map fun x=>x*inv p (gl w ld) % p).map V.int)) D2=some (.lst ((w.map fun x=>x*inv p (gl w ld) % p).map V.int)):=zd;have hDc:D2≠ca:=fun e=>by rw [e,y8] at v5; cases v5
       generalize kW H7 D2 (.lst ((w.map fun x=>x*inv p (gl w ld) % p).map V.int))=H8 at t8 h8D ⊢;refine⟨by show 2≤sizeLine; lia,fun tb htb=>?_⟩;have t9:=ze (o:=.tup [.int (ld:Int),.ref D2]) htb;have BA:kW H8 tb (.tup [.int (ld:Int),.ref D2]) tb=some (.tup [.int (ld:Int),.ref D2]):=zd;have BB:=t9 _ _ (t8 _ _ y8);have s9:=(s7.trans t8).trans t9;have Ag:=(DJ.same t8).same t9;have Ah:=t9 _ _ h8D;generalize kW H8 tb (.tup [.int (ld:Int),.ref D2])=H9 at t9 BA BB s9 Ag Ah ⊢;have yS:=E.ln;refine⟨ca,_,_,rfl,rfl,BB,by rw [ab,Ac,yS]; lia,cs++[tb],_,_,_,_,_,_,_,_,rfl,zal s9 hca,by rw [zd,aq]; rfl,bH (Ag.put BB) ⟨D2,?_,?_,hDc⟩,zkm hp E hi W Br xf⟩
       ·rw [zq (fun e=>by rw [e,BB] at BA; cases BA)];exact BA
       ·rw [zq hDc];exact Ah
  ·rintro σ H1 ⟨cs,cl,e4,e5,e6,e7,e8,e9,qf,rfl,s1,pT,qH,E⟩;exact qn H1 s1 (zkn E)
theorem zda:FnScope ["p","left","points"] ["p","left","points"] (zj zaB):=#[S]
theorem zdb {fd:FuncData} (T:Txt K mg t) (F:Fun K "times_entries" "times_entries" zaB t.times_entries fd):FnOk P w K mg base CX0 4 t.times_entries fd ["p","left","points"] (zc8 K):=by
 obtain⟨oP,mG,mH⟩:=T.f_through;have nO:=zeo (P:=P) (w:=w) (base:=base) T mG;obtain⟨m5,lu,ly⟩:=T.f_value_at;have lK:=zci (P:=P) (w:=w) (base:=base) T lu;refine F.ok zda (fun vs H Q E h=>?_) (fun lP A outer s H vs Q E hr h=>?_)
 ·obtain⟨p,la,a,l,bs,kQ,rfl,_⟩:=h;rfl
 ·obtain⟨p,la,a,l,bs,kQ,rfl,hla,ha,hB,hn,hp,hP,q⟩:=h;refine zbi ?_; intro zX;refine⟨_,#[zo,#[zM,#[zw,nO,(hr.mono #[D]),T.m_through,mG.kp,mH,#[zR],#[zc,#[pvx,0],#[ya,#[zaj,(CompSc.of (N':=["x","y","p","left"]) (ix:=[none,none,some 0,some 1]) (zj zaB) ["p","left","points"] rfl rfl #[N]),#[zbs,#[zW,#[zW,#[za4]]]],#[z0,#[pvx,2]],(fun _ _ _ _=>#[zaU,(K),2,#[zm,#[zi,0,(show (["x","y","p","left"]:List Str).Nodup from #[N]),#[A]],#[zm,#[zi,1,(show (["x","y","p","left"]:List Str).Nodup from #[N]),#[A]],#[zY]]]]),(fun _ _ _ _=>#[zN]),(fun _ _ _ _=>#[zaH,#[zc,#[pvx,0],#[ya,#[zl,#[zan],#[zw,lK,(hr.mono #[D]),T.m_value_at,lu.kp,ly,#[zR],#[zc,#[pvx,2],#[zc,#[pvx,3],#[ya,#[pvx,0]]]]],#[pvx,1]]]]])]]]]]],?_⟩;have oD:=bi;have rp:=zu hp;have p0:0 < p:=by lia
  have vo:=hB.length;refine⟨_,rfl,_,rfl,a,rfl,⟨_,ha⟩,z9 (n:=bs.length) (fun i ys H'=>zy H H'∧∃ us:List Addr,ys=us.map V.ref∧PtB H' us ((kQ.take i).map fun a=>(a.1,zn p a.1 l*a.2))) ⟨fun _ _ e=>e,[],rfl,.nil⟩ ?_ ?_ ?_ ?_⟩
  ·rintro i ys H1 hi ⟨s1,_⟩;exact⟨_,.ref bs[i],s1.seq ha,by rw [ak,ap hi]; rfl⟩
  ·rintro ys H1 ⟨s1,_⟩;exact⟨_,s1.seq ha,by rw [ab]; exact af _⟩
  ·rintro zS zT zE i y ys H1 H2 hi ⟨s1,us,rfl,mF⟩ ⟨rfl,hy⟩;obtain⟨b,rfl,hb⟩:=zP (hy _ (s1.seq ha));obtain⟨pt,BC,mV⟩:=Paired.get hB hb;obtain⟨x0,x1,y0,y1⟩:=hP.rg pt (aE BC);have oH:=mF.length;rw [ab,aI] at oH;have v0:=zaN (x:=pt.1) p0 l;have v1:=zaO (x:=pt.1) p0 l;refine gY2 (k6.of (s1 _ _ mV)) ⟨_,rfl,_,rfl,_,rfl,_,rfl,p,pt.1,la,l,rfl,.inr (znj s1 hla),p0,#[O],x0,x1,_,rfl,_,_,rfl,rfl,.inl ⟨#[O],#[O]⟩,by show 2≤sizeLine; lia,fun z hz=>?_⟩;refine⟨by rw [ab]; lia,s1.trans (ze hz),us++[z],by rw [aq]; rfl,?_⟩;rw [take_snoc BC,aq];exact bH (mF.same (ze hz)) zd
  ·rintro ys H1 D ⟨s1,us,rfl,mF⟩ hD;rw [vo,aV] at mF;have t2:=ze (o:=.lst (us.map V.ref)) hD;have xT:kW H1 D (.lst (us.map V.ref)) D=some (.lst (us.map V.ref)):=zd;have qY:=mF.same t2;generalize kW H1 D (.lst (us.map V.ref))=H2 at t2 xT qY ⊢;refine⟨p,D,_,rfl,qY.pts xT,by rw [ab]; lia,hp,by rw [zkv]; exact zcn p0 hP,fun q hq=>?_,fun z H3 hz s3 h3=>q z H3 ((s1.trans t2).free hz) ((s1.trans t2).trans s3) (by rw [zkv] at h3; exact h3)⟩;obtain⟨b,hb,rfl⟩:=aB.mp hq;obtain⟨_,_,y0,y1⟩:=hP.rg b hb;have v0:=zaN (x:=b.1) p0 l;have v1:=zaO (x:=b.1) p0 l;dsimp only;have h1:zn p b.1 l*b.2≤97*97:=Int.mul_le_mul #[O] #[O] y0 #[O];have h2:=ky v0 y0;lia
theorem zjd:FnScope ["rights","many"] ["rights","many"] (zj s_beyond):=#[S]
theorem zje {fd:FuncData} (T:Txt K mg t) (F:Fun K "beyond" "beyond" s_beyond t.beyond fd):FnOk P w K mg base CX0 1 t.beyond fd ["rights","many"] (zi4 K):=by
 refine F.ok zjd (fun vs H Q E h=>?_) (fun lP A outer s H vs Q E hr h=>?_)
 ·obtain⟨a,m,bs,rs,rfl,_⟩:=h;rfl
 ·obtain⟨a,m,bs,rs,rfl,ha,hT,kY,q⟩:=h;refine zbi ?_; intro zX;refine⟨_,#[zo,#[zM,(@zlB _ _ _ _ _ _ _ _ _ _ _ _ _ _ _ _ _ _ _ _ _ (CompSc.of (N':=["right","number","many"]) (ix:=[none,none,some 1]) (zj s_beyond) ["rights","many"] rfl rfl #[N]) rfl (zdv (js:=[0]) (i:=0) #[D]) (zdv (js:=[1]) (i:=1) #[D]) #[D] #[D] #[z0,#[pvx,0]] (fun _ _ _ _=>#[zi,0,(show (["right","number","many"]:List Str).Nodup from #[N]),#[A]]) (fun _ _ _ _=>#[zN]) (fun _ _ _ _=>(@zlN _ (K) _ _ _ rfl #[zaR,(zku (K:=K) rfl),#[pvx,0],#[za3,#[pvx,2]],#[zbl]])) (fun _ _ _ _=>#[zi,1,(show (["right","number","many"]:List Str).Nodup from #[N]),#[A]]) (fun _ _ _ _=>#[zN]) (fun _ _ _ _=>#[pvx,1]) (by intro _; rfl) (by intros; rfl))]],?_⟩;have oD:=bi;have vo:=hT.length;refine⟨_,rfl,a,rfl,⟨_,ha⟩,zh2 (n:=bs.length) (fun i ys H'=>ys=(bey m (rs.take i)).map V.int∧zy H H') ⟨rfl,fun _ _ e=>e⟩ ?_ ?_ ?_ ?_⟩
  ·rintro i ys H1 hi ⟨_,s1⟩;exact⟨_,.ref bs[i],s1.seq ha,by rw [ak,ap hi]; rfl⟩
  ·rintro ys H1 ⟨_,s1⟩;exact⟨_,s1.seq ha,by rw [ab]; exact af _⟩
  ·rintro i y ys H1 H2 hi ⟨rfl,s1⟩ ⟨rfl,hy⟩;obtain⟨b,rfl,hb⟩:=zP (hy _ (s1.seq ha));obtain⟨r,pU,mV⟩:=Paired.get hT hb;have Ai:=kY (i+1);rw [zgx m pU,ao] at Ai;refine gY ⟨_,rfl,_,rfl,_,rfl,b,_,rfl,k6.of (s1 _ _ mV),fun z H3 t2 Aj=>?_⟩;have ec:zba (r.map V.int) (some (m:Int)) none=(r.drop m).map V.int:=by
    unfold zba;rw [HT.sIx_nat,HT.sIx_none,ab,gn,aQ (by rw [bQ,ab]; exact af _)];by_cases h:m≤r.length
    ·rw [c6 h]
    ·rw [show min m r.length=r.length by lia,d6 (by rw [ab]; exact af _),d6 (by rw [ab]; lia)]
   rw [ec] at Aj;refine⟨z,rfl,⟨_,Aj⟩,zh2 (n:=(r.drop m).length) (fun j ys H'=>ys=(bey m (rs.take i)++(r.drop m).take j).map V.int∧H'=H3) ⟨by rw [dJ,bI],rfl⟩ ?_ ?_ ?_ ?_⟩
   ·rintro j ys H4 hj ⟨_,rfl⟩;exact⟨_,.int (r.drop m)[j],Aj,by rw [ak,ap hj]; rfl⟩
   ·rintro ys H4 ⟨_,rfl⟩;exact⟨_,Aj,by rw [ab]; exact af _⟩
   ·rintro j y ys H4 H5 hj ⟨rfl,rfl⟩ ⟨rfl,hy⟩;obtain⟨n,rfl,hn⟩:=zar (hy _ (Aj));refine gY ⟨_,rfl,?_,?_,rfl⟩
    ·rw [ab,ao,aI];lia
    ·rw [take_snoc hn,← bj,aq (l₂:=[n])];rfl
   ·rintro ys H4 ⟨rfl,rfl⟩;exact⟨by rw [aV,zgx m pU],s1.trans t2⟩
  ·rintro ys H1 ⟨rfl,s1⟩ D hD;rw [vo,aV] at *;exact q D _ (s1.free hD) (s1.trans (ze hD)) zd
theorem zkJ:FnScope ["polynomial","many"] ["polynomial","many"] (zj zdJ):=#[S]
theorem zkK {fd:FuncData} (T:Txt K mg t) (F:Fun K "sized" "sized" zdJ t.sized fd):FnOk P w K mg base CX0 1 t.sized fd ["polynomial","many"] (zkw K):=by
 refine F.ok zkJ (fun vs H Q E h=>?_) (fun lP A outer s H vs Q E hr h=>?_)
 ·obtain⟨a,m,q,rfl,_⟩:=h;rfl
 ·obtain⟨a,m,cs,rfl,ha,m1,kY,q⟩:=h;refine zbi ?_; intro zX;refine⟨_,#[zo,#[zM,#[zaR,zig,#[zl,#[zfB],#[pvx,0],#[zl,(@zlP _),#[zaH,#[ya,#[zh]]],#[pvx,1]]],#[zbl],#[za3,#[pvx,1]]]]],?_⟩;have oD:=bi;refine⟨_,rfl,by show 1≤sizeLine; lia,fun t1 w6=>⟨_,rfl,t1,_,[.int 0],rfl,rfl,zd,#[M],#[O],#[O],by show 1*_≤sizeLine; lia,fun z H1 s1 h1z=>?_⟩⟩;rw [bz,zcK] at h1z;have s01:=(ze (o:=.tup [.int 0]) w6).trans s1;refine⟨a,z,_,_,rfl,rfl,s01 _ _ ha,h1z,by rw [ab,ab,aT]; lia,fun e=>?_,fun y H2 s2 h2y=>?_⟩
  ·have:=congrArg dY e;rw [ab,aT] at this;exact absurd this (by show ¬ m=0; lia)
  rw [← aq] at h2y;refine⟨_,rfl,_,rfl,y,_,rfl,h2y,fun x H3 s3 h3x=>?_⟩;have ec:zba ((cs++aw m 0).map V.int) none (some (m:Int))=(szd cs m).map V.int:=by
   unfold zba szd;rw [HT.sIx_nat,HT.sIx_none,dI,eU,ab,ao,aT,c6 #[O],eE]
  rw [ec] at h3x;exact q x H3 ((s01.trans s2).trans s3) h3x
theorem zB:FnScope ["code","rows","p","k","places","parts","e","needed","relation","power","left"] ["code","rows"] (zj zab):=#[S]
theorem zdc {fd:FuncData} (T:Txt K mg t) (F:Fun K "joint_locator" "joint_locator" zab t.joint_locator fd):FnOk P w K mg base CX0 5 t.joint_locator fd ["code","rows"] (zc9 K):=by
 obtain⟨mT,lA,lB⟩:=T.f_heard_points;have l4:=zb5 (P:=P) (w:=w) (base:=base) T lA;obtain⟨nP,lQ,lE⟩:=T.f_times_entries;have mU:=zdb (P:=P) (w:=w) (base:=base) T lQ;obtain⟨nC,mI,lL⟩:=T.f_first_relation;have nQ:=zcZ (P:=P) (w:=w) (base:=base) T mI;obtain⟨sy,qu,oQ⟩:=T.f_beyond;have tZ:=zje (P:=P) (w:=w) (base:=base) T qu;obtain⟨uc,pV,oq⟩:=T.f_sized;have rP:=zkK (P:=P) (w:=w) (base:=base) T pV;refine F.ok zB (fun vs H Q E h=>?_) (fun lP A outer s H vs Q E hr h=>?_)
 ·obtain⟨c,tt,ra,p,k,pl,sh,rws,rfl,_⟩:=h;rfl
 ·obtain⟨c,tt,ra,p,k,pl,sh,rws,rfl,hc,pR,mW,ve,hn,hp,nD,mq,hok,k0,k1,q⟩:=h;refine zbi ?_; intro zX;refine⟨_,#[zf,#[zb7,#[pvx,0],#[za2,#[zm,#[zi,2,zB.nd,(dv rfl)],#[zm,#[zi,3,zB.nd,(dv rfl)],#[zm,#[zi,4,zB.nd,#[A]],#[zY]]]]]],#[zf,#[zbW,5,zB.nd,#[A],(CompSc.of (N':=["row","code"]) (ix:=[none,some 0]) (zj zab) ["code","rows","p","k","places","parts","e","needed","relation","power","left"] rfl rfl #[N]),#[zaM],#[z0,#[pvx,1]],(fun _ _ _ _=>#[zi,0,(show (["row","code"]:List Str).Nodup from #[N]),#[A]]),(fun _ _ _ _=>#[zN]),(fun _ _ _ _=>#[zw,l4,(hr.mono #[D]),T.m_heard_points,lA.kp,lB,#[zR],#[zc,#[pvx,1],#[ya,#[pvx,0]]]])],#[zf,#[zr,6,zB.nd,(dv rfl),#[zhw,zfe,#[zh]]],#[zf,#[zr,7,zB.nd,#[A],#[zac,#[zg]]],#[zf,#[zr,8,zB.nd,#[A],#[zbC]],#[zf,#[zfQ,br,#[zK,#[zgP],#[pvx,8],#[zbC],(zag _)],#[zf,#[zjj,6,zB.nd,(dv rfl),#[zh],zk4],#[zf,(znh #[zr,9,zB.nd,(dv rfl),#[zl,(@ze6 _ (K) rfl),#[zl,(@zlM _),#[zaH,#[ya,#[zh]]],#[pvx,6]],#[zaH,#[ya,#[zh]]]]]),#[zf,#[zbP,#[zdg,bV,b8,b9,#[zbc],#[pvx,7],#[ya,#[zaj,(CompSc.of (N':=["points","p","power"]) (ix:=[none,some 2,some 9]) (zj zab) ["code","rows","p","k","places","parts","e","needed","relation","power","left"] rfl rfl #[N]),#[zaM],#[z0,#[pvx,5]],(fun _ _ _ _=>#[zi,0,(show (["points","p","power"]:List Str).Nodup from #[N]),#[A]]),(fun _ _ _ _=>#[zN]),(fun _ _ _ _=>#[zw,mU,(hr.mono #[D]),T.m_times_entries,lQ.kp,lE,#[zR],#[zc,#[pvx,1],#[zc,#[pvx,2],#[ya,#[pvx,0]]]]])]]]],#[zo,#[zr,8,zB.nd,#[A],#[zw,nQ,(hr.mono #[D]),T.m_first_relation,mI.kp,lL,#[zR],#[zc,#[pvx,2],#[ya,#[zaj,(CompSc.of (N':=["rights","k","e"]) (ix:=[none,some 3,some 6]) (zj zab) ["code","rows","p","k","places","parts","e","needed","relation","power","left"] rfl rfl #[N]),#[zaM],#[z0,#[pvx,7]],(fun _ _ _ _=>#[zi,0,(show (["rights","k","e"]:List Str).Nodup from #[N]),#[A]]),(fun _ _ _ _=>#[zN]),(fun _ _ _ _=>#[zw,tZ,(hr.mono #[D]),T.m_beyond,qu.kp,oQ,#[zR],#[zc,#[pvx,0],#[ya,#[zl,#[z8],#[pvx,1],#[pvx,2]]]]])]]]]]]]]]],#[zf,#[zr,10,zB.nd,(dv rfl),#[zw,rP,(hr.mono #[D]),T.m_sized,pV.kp,oq,#[zR],#[zc,#[zaL,#[zaS],T.tuple_,gN,#[ya,#[pvx,8]]],#[ya,#[zl,#[z8],#[pvx,6],#[zh]]]]]],#[zo,#[zM,#[zaH,#[zc,#[pvx,6],#[zc,#[pvx,10],#[ya,#[zaj,(CompSc.of (N':=["points","p","left","k","e"]) (ix:=[none,some 2,some 10,some 3,some 6]) (zj zab) ["code","rows","p","k","places","parts","e","needed","relation","power","left"] rfl rfl #[N]),#[zaM],#[z0,#[pvx,5]],(fun _ _ _ _=>#[zi,0,(show (["points","p","left","k","e"]:List Str).Nodup from #[N]),#[A]]),(fun _ _ _ _=>#[zN]),(fun _ _ _ _=>#[zw,rP,(hr.mono #[D]),T.m_sized,pV.kp,oq,#[zR],#[zc,#[zw,mU,(hr.mono #[D]),T.m_times_entries,lQ.kp,lE,#[zR],#[zc,#[pvx,1],#[zc,#[pvx,2],#[ya,#[pvx,0]]]]],#[ya,#[zl,#[z8],#[pvx,3],#[pvx,4]]]]])]]]]]]]]]]]]]],?_⟩;refine znV ?_; intro zN8 Bs yR w8 tV qI qd;have oD:=bi;have rp:=zu hp;have p0:0 < p:=by lia
  have qe:=mW.length;obtain⟨kU,qv⟩:∃ kU,kU=rws.map (lD pl):=⟨_,rfl⟩;have hP:∀ kQ∈kU,Pts p kQ:=fun kQ h=>by
   rw [qv] at h;obtain⟨rw,h1,rfl⟩:=aB.mp h;exact zh9 nD mq (hok rw h1)
  have Ak:∀ kQ∈kU,kQ.length≤16:=fun kQ h=>by
   rw [qv] at h;obtain⟨rw,h1,rfl⟩:=aB.mp h;exact aU (zcU pl rw) hn
  have BC:kU.length=rws.length:=by rw [qv,ab]
  refine⟨_,rfl,c,_,rfl,k6.of hc.1,rfl,_,_,rfl,_,_,rfl,_,_,rfl,rfl,?_⟩;refine⟨_,rfl,ra,rfl,⟨_,pR⟩,z9 (n:=sh.length) (fun i ys H'=>zy H H'∧∃ us:List Addr,ys=us.map V.ref∧zfC H' us (kU.take i)) ⟨fun _ _ e=>e,[],rfl,.nil⟩ ?_ ?_ ?_ ?_⟩
  ·rintro i ys H1 hi ⟨s1,_⟩;exact⟨_,.ref sh[i],s1.seq pR,by rw [ak,ap hi]; rfl⟩
  ·rintro ys H1 ⟨s1,_⟩;exact⟨_,s1.seq pR,by rw [ab]; exact af _⟩
  ·rintro zS zT zE i y ys H1 H2 hi ⟨s1,us,rfl,mF⟩ ⟨rfl,hy⟩;obtain⟨b,rfl,hb⟩:=zP (hy _ (s1.seq pR));obtain⟨rw,DK,mV,xi⟩:=Paired.get mW hb;have oH:=mF.length;rw [aI] at oH;refine gY ⟨_,rfl,_,rfl,c,tt,b,p,k,pl,rw,rfl,hc.same s1,⟨kS.of (s1 _ _ mV),xi⟩,#[O],fun l bs H3 hl3 s3 v3 hB=>?_⟩;refine⟨by rw [ab]; lia,s1.trans s3,us++[l],by rw [aq]; rfl,?_⟩;have hpi:kU[i]? = some (lD pl rw):=by rw [qv,ak,DK]; rfl
   rw [take_snoc hpi];exact bH (mF.same s3) ⟨bs,v3,hB⟩
  ·rintro ys H1 pa ⟨s1,us,rfl,mF⟩ hpa;rw [qe,← BC,aV] at mF;have t2:=ze (o:=.lst (us.map V.ref)) hpa;have DL:kW H1 pa (.lst (us.map V.ref)) pa=some (.lst (us.map V.ref)):=zd;have qY:=mF.same t2;have s2:=s1.trans t2;generalize kW H1 pa (.lst (us.map V.ref))=H2 at t2 DL qY s2 ⊢;have oH:=qY.length;refine⟨_,rfl,bh _,fun na yF=>?_⟩;have t3:=ze (o:=.lst []) yF;refine⟨fun m σ H'=>∃ (n:Nat) (ns:List Addr) (ev:Int) (rel:V) (e9 qf:Option V),σ = [some (.ref c),some (.ref ra),some (.int p),some (.int (k:Int)),some (.ref tt),some (.ref pa),some (.int ev),some (.ref na),some rel,e9,qf]∧zy H2 H'∧H' na=some (.lst (ns.map V.ref))∧NdA p kU na H' ns (aR n) ∧
    ((rel = .non∧ev=(n:Int) - 1∧m=20 - n∧n≤16∧∀ e',e' < n→Indep p (zcg k e' kU) (za6 p k e' kU))∨(∃ (rl:Addr) (cc:List Int) (mm e:Nat),rel = .ref rl∧ev=(e:Int)∧e≤16∧H' rl=some (.lst (cc.map V.int))∧IsP p (mm+1) cc∧mm < e+1∧gl cc mm=1∧Dep p (zcg k e kU) (za6 p k e kU) cc∧∀ e',e' < e→Indep p (zcg k e' kU) (za6 p k e' kU))),
    ⟨20,0,[],_,_,_,_,rfl,t3,zd,.nil,.inl ⟨rfl,rfl,rfl,#[O],fun _ h=>by lia⟩⟩,?_⟩
   rintro m σ H3 ⟨n,ns,ev,rel,e9,qf,rfl,s3,h3n,Al,o8⟩;have xU:=Al.length;rw [bM] at xU;rcases o8 with ⟨rfl,rfl,rfl,DM,vp⟩ | ⟨rl,cc,mm,e,rfl,rfl,DN,DO,mh,Bb,sR,DP,vp⟩
   ·refine⟨_,rfl,rfl,_,rfl,?_⟩;refine zaX (fun _=>?_) (fun h=>absurd rfl h);refine⟨fun σ' H'=>∃ m',m' < 20 - n∧∃ (n:Nat) (ns:List Addr) (ev:Int) (rel:V) (e9 qf:Option V),σ' = [some (.ref c),some (.ref ra),some (.int p),some (.int (k:Int)),some (.ref tt),some (.ref pa),some (.int ev),some (.ref na),some rel,e9,qf]∧zy H2 H'∧H' na=some (.lst (ns.map V.ref))∧NdA p kU na H' ns (aR n) ∧
     ((rel = .non∧ev=(n:Int) - 1∧m'=20 - n∧n≤16∧∀ e',e' < n→Indep p (zcg k e' kU) (za6 p k e' kU))∨(∃ (rl:Addr) (cc:List Int) (mm e:Nat),rel = .ref rl∧ev=(e:Int)∧e≤16∧H' rl=some (.lst (cc.map V.int))∧IsP p (mm+1) cc∧mm < e+1∧gl cc mm=1∧Dep p (zcg k e kU) (za6 p k e kU) cc∧∀ e',e' < e→Indep p (zcg k e' kU) (za6 p k e' kU))),fun _ _ z=>z,?_⟩
    refine⟨_,rfl,_,_,rfl,rfl,?_⟩;have e1:(n:Int) - 1+1=(n:Int):=by lia
    refine⟨fun σ' H'=>∃ pw:Addr,σ' = [some (.ref c),some (.ref ra),some (.int p),some (.int (k:Int)),some (.ref tt),some (.ref pa),some (.int (n:Int)),some (.ref na),some .non,some (.ref pw),qf]∧zy H3 H'∧k6 K H' pw ((unit n).map V.int),?_,?_⟩
    ·refine⟨by show 1≤sizeLine; lia,fun t1 w6=>⟨_,rfl,t1,_,[.int 0],rfl,rfl,k6.of zd,#[M],#[O],#[O],by show 1*_≤sizeLine; lia,fun z H4 s4 h4z=>?_⟩⟩;rw [e1,bz,zcK] at h4z;have s34:=(ze (o:=.tup [.int 0]) w6).trans s4;refine⟨by show 1≤sizeLine; lia,fun t2 vh=>⟨z,t2,_,_,rfl,rfl,znj (ze vh) h4z,k6.of zd,#[M],by rw [ab,aT]; show n+1≤sizeLine; lia,fun e0=>?_,fun _ pw vq=>?_⟩⟩
     ·have DQ:n=0:=by
       have:=congrArg dY e0;rw [ab,aT] at this;exact this
      subst DQ;exact⟨t2,congrArg (fun v:Int=>[some (V.ref c),some (.ref ra),some (.int p),some (.int (k:Int)),some (.ref tt),some (.ref pa),some (.int v),some (.ref na),some .non,some (.ref t2),qf]) e1,s34.trans (ze vh),k6.of zd⟩
     ·refine⟨pw,congrArg (fun v:Int=>[some (V.ref c),some (.ref ra),some (.int p),some (.int (k:Int)),some (.ref tt),some (.ref pa),some (.int v),some (.ref na),some .non,some (.ref pw),qf]) e1,(s34.trans (ze vh)).trans (ze vq),?_⟩;have:(unit n).map V.int=(aw n (0:Int)).map V.int++[.int 1]:=by unfold unit; rw [aq]; rfl
      rw [this];exact k6.of zd
    ·rintro σ' H4 ⟨pw,rfl,s4,h4p⟩;have DR:=s3.trans s4;have vw:=DR _ _ DL;have DS:=qY.same DR;have DT:=s4 _ _ h3n;have DU:=Al.same s4;refine⟨_,rfl,.inl ⟨rfl,_,kS.of DT⟩,_,rfl,pa,rfl,⟨_,kS.of vw⟩,z9 (n:=us.length) (fun i ys H'=>zy H4 H'∧∃ ws:List Addr,ys=ws.map V.ref∧zaG H' ws ((kU.take i).map fun kQ=>Tp p kQ n)) ⟨fun _ _ e=>e,[],rfl,.nil⟩ ?_ ?_ ?_ ?_⟩
     ·rintro i ys H5 hi ⟨s5,_⟩;exact⟨_,.ref us[i],kS.of (s5 _ _ vw),by rw [ak,ap hi]; rfl⟩
     ·rintro ys H5 ⟨s5,_⟩;exact⟨_,kS.of (s5 _ _ vw),by rw [ab]; exact af _⟩
     ·rintro zS zT zE i y ys H5 H6 hi ⟨s5,ws,rfl,ud⟩ ⟨rfl,hy⟩;obtain⟨b,rfl,hb⟩:=zP (hy _ (kS.of (s5 _ _ vw)));obtain⟨kQ,lG,bs,mV,hB⟩:=Paired.get DS hb;have tw:=ud.length;rw [ab,aI] at tw;have hm:=aE lG;refine gY ⟨_,rfl,_,rfl,_,rfl,p,pw,b,unit n,bs,kQ,rfl,znj s5 h4p,kS.of (s5 _ _ mV),hB.same s5,aU (Ak kQ hm) #[D],hp,hP kQ hm,fun z H7 hz s7 DV=>?_⟩;refine⟨by rw [ab]; lia,s5.trans s7,ws++[z],by rw [aq]; rfl,?_⟩;rw [take_snoc lG,aq];exact bH (ud.same s7) DV
     ·rintro ys H5 D2 ⟨s5,ws,rfl,ud⟩ v5;rw [oH,aV] at ud;have t6:=ze (o:=.lst (ws.map V.ref)) v5;have h6D:kW H5 D2 (.lst (ws.map V.ref)) D2=some (.lst (ws.map V.ref)):=zd;have hDn:D2≠na:=fun e=>by
       have:=s5 _ _ DT;rw [← e,v5] at this;cases this
      have BD:=s5.trans t6;have Am:=ud.same t6;generalize kW H5 D2 (.lst (ws.map V.ref))=H6 at t6 h6D BD Am ⊢;have DW:=BD _ _ DT;have DX:=DU.same BD;refine⟨na,_,_,rfl,rfl,DW,by rw [ab]; lia,?_⟩;have An:zy H2 (kW H6 na (.lst (ns.map V.ref++[.ref D2]))):=zal (DR.trans BD) yF;have xj:kW H6 na (.lst (ns.map V.ref++[.ref D2])) na=some (.lst ((ns++[D2]).map V.ref)):=by rw [zd,aq]; rfl
      have ue:NdA p kU na (kW H6 na (.lst (ns.map V.ref++[.ref D2]))) (ns++[D2]) (aR (n+1)):=by
       rw [iu];exact bH (DX.put DW) ⟨ws,by rw [zq hDn]; exact h6D,hDn,Am.put DW⟩
      generalize kW H6 na (.lst (ns.map V.ref++[.ref D2]))=H7 at An xj ue ⊢;have hn7:=ue.length;rw [bM] at hn7;refine⟨_,rfl,_,rfl,na,rfl,⟨_,kS.of xj⟩,z9 (n:=(ns++[D2]).length) (fun i ys H'=>zy H7 H'∧∃ vs:List Addr,ys=vs.map V.ref∧LsA H' vs ((za6 p k n kU).take i)) ⟨fun _ _ e=>e,[],rfl,.nil⟩ ?_ ?_ ?_ ?_⟩
      ·rintro i ys H8 hi ⟨s8,_⟩;exact⟨_,.ref (ns++[D2])[i],kS.of (s8 _ _ xj),by rw [ak,ap hi]; rfl⟩
      ·rintro ys H8 ⟨s8,_⟩;exact⟨_,kS.of (s8 _ _ xj),by rw [ab]; exact af _⟩
      ·rintro zS zT zE i y ys H8 H9 hi ⟨s8,vs,rfl,pg⟩ ⟨rfl,hy⟩;obtain⟨b,rfl,hb⟩:=zP (hy _ (kS.of (s8 _ _ xj)));obtain⟨i',nK,us',mV,_,hT⟩:=Paired.get ue hb;have og:i < n+1:=by lia
       rw [dh og] at nK;cases nK;have rG:=pg.length;rw [aI] at rG;refine gY ⟨_,rfl,_,rfl,_,rfl,_,_,rfl,rfl,b,k+n,us',_,(by show [V.ref b,V.int ((k:Int)+(n:Int))]=_; rw [iA]),kS.of (s8 _ _ mV),hT.same s8,fun j=>?_,fun z Ha hz sa xV=>?_⟩
       ·rw [← eE,zdI hp fun q hq=>hP q (c7 hq)];refine aU (zhj (b:=16) fun q hq=>?_) ?_
        ·have:=Ak q (c7 hq);lia
        ·rw [aI];lia
       ·refine⟨by rw [ab]; lia,s8.trans sa,vs++[z],by rw [aq]; rfl,?_⟩;have yc:(za6 p k n kU)[i]? = some (bey (k+n) (kU.map fun kQ=>Tp p kQ i)):=by
         unfold za6;rw [ak,dh og];rfl
        rw [take_snoc yc];exact bH (pg.same sa) xV
      ·rintro ys H8 D3 ⟨s8,vs,rfl,pg⟩ Ca;have DY:(za6 p k n kU).length=n+1:=by unfold za6; rw [ab,bM]
       rw [hn7,← DY,aV] at pg;have t9:=ze (o:=.lst (vs.map V.ref)) Ca;have Ah:kW H8 D3 (.lst (vs.map V.ref)) D3=some (.lst (vs.map V.ref)):=zd;have Ao:=pg.same t9;have uf:=s8.trans t9;generalize kW H8 D3 (.lst (vs.map V.ref))=H9 at t9 Ah Ao uf ⊢;refine⟨p,D3,vs,za6 p k n kU,zcg k n kU,rfl,Ah,Ao,(fun e=>by (rw [e] at DY; cases DY)),#[O],?_,zlT hp hP,hp,fun Ha sa hI=>?_,fun l cc mm Ha hl sa xk mh Bb sR hD=>?_⟩
       ·refine aU (zhj (b:=16) fun q hq=>?_) #[O];have:=Ak q hq;lia
       ·have lF:=zkC hp Ak hI;refine⟨20 - (n+1),#[O],n+1,ns++[D2],_,_,_,_,rfl,An.trans (uf.trans sa),(uf.trans sa) _ _ xj,ue.same (uf.trans sa),.inl ⟨rfl,#[O],rfl,#[O],fun e' vQ=>?_⟩⟩;by_cases e:e'=n
        ·subst e; exact hI
        ·exact vp e' #[O]
       ·exact⟨0,#[O],n+1,ns++[D2],_,_,_,_,rfl,An.trans (uf.trans sa),(uf.trans sa) _ _ xj,ue.same (uf.trans sa),.inr ⟨l,cc,mm,n,rfl,rfl,DM,xk,mh,#[O],sR,hD,vp⟩⟩
   ·refine⟨_,rfl,rfl,_,rfl,?_⟩;refine zaX (fun h=>absurd h #[M]) (fun _=>?_);have h3a:=s3 _ _ DL;have DZ:=qY.same s3;have qH:cc.length=mm+1:=mh.1;refine⟨_,rfl,rl,_,rfl,.inl ⟨kS.of DO,fun tl uK=>?_⟩⟩;have t4:=ze (o:=.tup (cc.map V.int)) uK;have h4t:kW H3 tl (.tup (cc.map V.int)) tl=some (.tup (cc.map V.int)):=zd;generalize kW H3 tl (.tup (cc.map V.int))=H4 at t4 h4t ⊢;refine⟨_,rfl,_,_,rfl,rfl,tl,e+1,cc,rfl,h4t,#[O],#[O],fun lf H5 s5 D0=>?_⟩;have L:=znk hp (k:=k) hP mh Bb sR DP vp;generalize szd cc (e+1)=left at D0 L ⊢;have D4:=t4.trans s5;have BE:=D4 _ _ h3a;have D5:=DZ.same D4;refine⟨_,rfl,_,rfl,_,rfl,pa,rfl,⟨_,kS.of BE⟩,z9 (n:=us.length) (fun i ys H'=>zy H5 H'∧∃ ws:List Addr,ys=ws.map V.ref∧zaG H' ws ((kU.take i).map fun kQ=>szd (thr p (tmP p left kQ)) (k+e))) ⟨fun _ _ e=>e,[],rfl,.nil⟩ ?_ ?_ ?_ ?_⟩
    ·rintro i ys H6 hi ⟨s6,_⟩;exact⟨_,.ref us[i],kS.of (s6 _ _ BE),by rw [ak,ap hi]; rfl⟩
    ·rintro ys H6 ⟨s6,_⟩;exact⟨_,kS.of (s6 _ _ BE),by rw [ab]; exact af _⟩
    ·rintro zS zT zE i y ys H6 H7 hi ⟨s6,ws,rfl,ud⟩ ⟨rfl,hy⟩;obtain⟨b,rfl,hb⟩:=zP (hy _ (kS.of (s6 _ _ BE)));obtain⟨kQ,lG,bs,mV,hB⟩:=Paired.get D5 hb;have tw:=ud.length;rw [ab,aI] at tw;have hm:=aE lG;have D6:=Ak kQ hm;refine gY ⟨_,rfl,_,rfl,_,rfl,p,lf,b,left,bs,kQ,rfl,k6.of (s6 _ _ D0),kS.of (s6 _ _ mV),hB.same s6,aU D6 #[D],hp,hP kQ hm,fun z H8 hz s8 h8z=>?_⟩;refine⟨_,rfl,_,rfl,_,_,rfl,rfl,z,k+e,_,(by show [V.ref z,V.int ((k:Int)+(e:Int))]=_; rw [iA]),h8z,#[O],by rw [zcE hp (hP kQ hm)]; lia,fun x H9 s9 h9x=>?_⟩;refine⟨by rw [ab]; lia,s6.trans (s8.trans s9),ws++[x],by rw [aq]; rfl,?_⟩;rw [take_snoc lG,aq];exact bH (ud.same (s8.trans s9)) h9x
    ·rintro ys H6 D2 ⟨s6,ws,rfl,ud⟩ v5;rw [oH,aV] at ud;have t7:=ze (o:=.lst (ws.map V.ref)) v5;have sU:kW H6 D2 (.lst (ws.map V.ref)) D2=some (.lst (ws.map V.ref)):=zd;have Ap:=ud.same t7;have D7:=s6.trans t7;generalize kW H6 D2 (.lst (ws.map V.ref))=H7 at t7 sU Ap D7 ⊢;refine⟨by show 3≤sizeLine; lia,fun z hz=>?_⟩;have t8:=ze (o:=.tup [.int (e:Int),.ref lf,.ref D2]) hz;have An:=(s2.trans s3).trans (D4.trans D7);exact q z lf D2 ws e left _ _ (An.trans t8) zd ((D7.trans t8) _ _ D0) (t8 _ _ sU) (Ap.same t8) DN (by rw [← qv]; exact L)
end
section
variable {P:Program} {w:World} {K:ag} {mg:Str→Option Value} {base:Heap} {t:Adr}
theorem zb0:FnScope ["things","many","chosen","step"] ["things","many"] (zj zbr):=#[S]
theorem zho {fd:FuncData} (T:Txt K mg t) (F:Fun K "choices" "choices" zbr t.choices fd):FnOk P w K mg base CX0 1 t.choices fd ["things","many"] (zhc K):=by
 refine F.ok zb0 (fun vs H Q E h=>?_) (fun lP A outer s H vs Q E hr h=>?_)
 ·obtain⟨a,m,xs,rfl,_⟩:=h;rfl
 ·obtain⟨a,m,xs,rfl,hS,hx,hm,q⟩:=h;refine zbi ?_; intro zX;refine⟨_,#[zf,#[zr,2,zb0.nd,#[A],#[zac,#[ya,#[zaH,#[zc,#[zh],#[ya,#[zac,#[zg]]]]]]]],#[zf,#[zaP,br,#[zbp,T.range_,#[ya,#[pvx,1]]],#[zi,3,zb0.nd,#[A]],#[zo,(@zhb _ _ _ _ _ _ _ _ _ _ _ _ _ _ _ _ _ _ _ _ _ (2) _ _ _ zb0.nd rfl #[A] (CompSc.of (N':=["start","picked","at","things"]) (ix:=[none,none,none,some 0]) (zj zbr) ["things","many","chosen","step"] rfl rfl #[N]) rfl (zjF (js:=[0,1]) (zdX (js:=[0,1]) (i:=0) #[D] (zdX (js:=[0,1]) (i:=1) #[D] (zhG (js:=[0,1]))))) (zdv (js:=[2]) (i:=2) #[D]) #[D] #[D] #[z0,#[pvx,2]] (fun _ _ _ _=>#[zaU,(K),2,#[zm,#[zi,0,(show (["start","picked","at","things"]:List Str).Nodup from #[N]),#[A]],#[zm,#[zi,1,(show (["start","picked","at","things"]:List Str).Nodup from #[N]),#[A]],#[zY]]]]) (fun _ _ _ _=>#[zN]) (fun _ _ _ _=>(@ziz _ _ _ _ _ _ _ rfl T.range_ #[zc,#[pvx,0],#[ya,#[zQ,#[zbF,(K)],T.len_,c8,#[ya,#[pvx,3]]]]] (by rfl) (by rfl))) (fun _ _ _ _=>#[zi,2,(show (["start","picked","at","things"]:List Str).Nodup from #[N]),#[A]]) (fun _ _ _ _=>#[zN]) (fun _ _ _ _=>#[zaH,#[zc,#[zl,#[z8],#[pvx,2],#[zh]],#[ya,#[zl,#[zbS],#[pvx,1],#[zac,#[ya,#[zL,#[zdZ,(K)],#[pvx,3],#[pvx,2]]]]]]]]) (by rfl) (by intro _; rfl) (by intros; rfl) (by trivial))]],#[zo,#[zM,#[zaj,(CompSc.of (N':=["start","picked"]) (ix:=[none,none]) (zj zbr) ["things","many","chosen","step"] rfl rfl #[N]),#[zbs,#[zW,#[zW,#[za4]]]],#[z0,#[pvx,2]],(fun _ _ _ _=>#[zaU,(K),2,#[zm,#[zi,0,(show (["start","picked"]:List Str).Nodup from #[N]),#[A]],#[zm,#[zi,1,(show (["start","picked"]:List Str).Nodup from #[N]),#[A]],#[zY]]]]),(fun _ _ _ _=>#[zN]),(fun _ _ _ _=>#[pvx,1])]]]]],?_⟩;refine zjC ?_; intro qI qd;have oD:=bi;refine⟨bh _,fun L0 hL0=>⟨by show 2≤sizeLine; lia,fun T0 hT0=>⟨by show 1≤sizeLine; lia,fun c hc=>?_⟩⟩⟩;have u0:=ze (o:=.lst []) hL0;have u1:=ze (o:=.tup [.int 0,.ref L0]) hT0;have u2:=ze (o:=.lst [.ref T0]) hc;have Aq:zed (kW (kW (kW H L0 (.lst [])) T0 (.tup [.int 0,.ref L0])) c (.lst [.ref T0])) [T0] (chs xs 0):=.cons ⟨L0,u2 _ _ zd,(u1.trans u2) _ _ zd⟩ .nil;have tT:kW (kW (kW H L0 (.lst [])) T0 (.tup [.int 0,.ref L0])) c (.lst [.ref T0]) c=some (.lst ([T0].map V.ref)):=zd;have s0:=(u0.trans u1).trans u2;generalize kW (kW (kW H L0 (.lst [])) T0 (.tup [.int 0,.ref L0])) c (.lst [.ref T0])=H0 at Aq tT s0 ⊢;refine⟨_,rfl,_,rfl,#[O],#[O],?_⟩;rw [bz];refine zcB (lo:=0) (n:=m) (fun i σ H'=>∃ (c:Addr) (ts:List Addr) (e3:Option V),σ = [some (.ref a),some (.int m),some (.ref c),e3]∧zy H H'∧H' c=some (.lst (ts.map V.ref))∧zed H' ts (chs xs i)) ⟨c,[T0],none,rfl,s0,tT,Aq⟩ ?_ ?_
  ·rintro zD zT i σ H1 hi ⟨c,ts,e3,rfl,s1,pT,qE⟩;have qH:=qE.length;have yC:=zc5 (xs:=xs) (i+1) hx;have xS:((chs xs i).flatMap (nxt xs)).length≤65536:=yC;refine⟨_,rfl,c,rfl,⟨_,kS.of pT⟩,zh2 (n:=ts.length) (fun i' ys H'=>∃ us:List Addr,ys=us.map V.ref∧zy H1 H'∧zed H' us (((chs xs i).take i').flatMap (nxt xs))) ⟨[],rfl,fun _ _ e=>e,.nil⟩ ?_ ?_ ?_ ?_⟩
   ·rintro i' ys H2 nK ⟨us,_,s2,_⟩;exact⟨_,.ref ts[i'],kS.of (s2 _ _ pT),by rw [ak,ap nK]; rfl⟩
   ·rintro ys H2 ⟨us,_,s2,_⟩;exact⟨_,kS.of (s2 _ _ pT),by rw [ab]; exact af _⟩
   ·rintro i' y ys H2 H3 nK ⟨us,rfl,s2,mF⟩ ⟨rfl,hy⟩;obtain⟨tt,rfl,yV⟩:=zP (hy _ (kS.of (s2 _ _ pT)));obtain⟨cc,mh,mV⟩:=Paired.get qE yV;obtain⟨L,xF,xG⟩:=mV.same s2;have hle:=znc (aE mh);have mq:=zgn (aE mh);obtain⟨st,pk⟩:=cc;dsimp only at xF xG hle mq;refine gY2 (k6.of xF) ?_;refine⟨_,rfl,_,rfl,a,xs,rfl,.inl ((s1.trans s2).seq hS),_,_,rfl,⟨#[O],#[O],#[O],#[O]⟩,?_⟩;have en:((xs.length:Int) - (st:Int)).toNat=xs.length - st:=by lia
    rw [en];refine zh2 (n:=xs.length - st) (fun j ys H'=>∃ us:List Addr,ys=us.map V.ref∧zy H3 H'∧zed H' us (((chs xs i).take i').flatMap (nxt xs)++(nxt xs (st,pk)).take j)) ⟨us,rfl,fun _ _ e=>e,by rw [dJ,bI]; exact mF⟩ (fun j ys H' hj _=>hj) (fun ys H' _=>af _) ?_ ?_
    ·rintro j z ys H4 H5 hj ⟨us,rfl,s4,mF⟩ ⟨rfl,rfl⟩;obtain⟨x,tD⟩:∃ x,xs[st+j]? = some x:=⟨xs[st+j]'#[O],#[M]⟩;have mV:atI xs ((st:Int)+(j:Int))=some x:=by
      have e:((st+j:Nat):Int)=(st:Int)+j:=by lia
      rw [← e];exact zbm tD
     have hng:=zlD (c:=(st,pk)) tD;have oH:=mF.length;have hpart:=zi2 (f:=nxt xs) mh (show j < (nxt xs (st,pk)).length by rw [zfx]; exact hj);have xU:=zfx xs (st,pk);refine gY ?_;refine⟨_,rfl,_,_,rfl,rfl,_,rfl,_,rfl,_,rfl,a,xs,_,x,rfl,rfl,((s1.trans s2).trans s4).seq hS,mV,by show 1≤sizeLine; lia,fun b hb=>?_⟩;have v1:=ze (o:=.lst [x]) hb;refine⟨L,b,pk,[x],rfl,rfl,(s4.trans v1) _ _ xG,zd,by show pk.length+1≤sizeLine; lia,fun L2 Ar=>⟨by show 2≤sizeLine; lia,fun T2 sV=>⟨?_,us++[T2],by rw [aq]; rfl,?_,?_⟩⟩⟩
     ·rw [ab,oH,ao,aI];lia
     ·exact s4.trans (v1.trans ((ze Ar).trans (ze sV)))
     ·rw [take_snoc hng,← bj];refine bH (mF.same (v1.trans ((ze Ar).trans (ze sV)))) ⟨L2,?_,(ze sV) _ _ zd⟩;rw [zd];show some (HO.tup [.int ((st:Int)+(j:Int)+1),.ref L2])=some (HO.tup [.int ((st+j+1:Nat):Int),.ref L2]);have e:((st+j+1:Nat):Int)=(st:Int)+j+1:=by lia
      rw [e]
    ·rintro ys H4 ⟨us,rfl,s4,mF⟩;rw [aQ (l:=nxt xs (st,pk)) (by rw [zfx]; exact af _)] at mF;exact⟨us,rfl,s2.trans s4,by rw [zi3 mh]; exact mF⟩
   ·rintro ys H2 ⟨us,rfl,s2,mF⟩ D hD;rw [qH,aQ (af _)] at mF;exact⟨D,us,_,rfl,s1.trans (s2.trans (ze hD)),zd,mF.same (ze hD)⟩
  ·rintro σ H1 ⟨c,ts,e3,rfl,s1,pT,qE⟩;have qH:=qE.length;have yC:=zc5 (xs:=xs) m hx;refine⟨_,rfl,c,rfl,⟨_,kS.of pT⟩,z9 (n:=ts.length) (fun i ys H'=>H'=H1∧∃ us:List Addr,ys=us.map V.ref∧zgo H1 us (((chs xs m).map (·.2)).take i)) ⟨rfl,[],rfl,.nil⟩ ?_ ?_ ?_ ?_⟩
   ·rintro i ys H2 hi ⟨rfl,_⟩;exact⟨_,.ref ts[i],kS.of pT,by rw [ak,ap hi]; rfl⟩
   ·rintro ys H2 ⟨rfl,_⟩;exact⟨_,kS.of pT,by rw [ab]; exact af _⟩
   ·rintro zS zT zE i y ys H2 H3 hi ⟨rfl,us,rfl,mF⟩ ⟨rfl,hy⟩;obtain⟨tt,rfl,yV⟩:=zP (hy _ (kS.of pT));obtain⟨cc,mh,L,xF,xG⟩:=Paired.get qE yV;have oH:=mF.length;refine gY2 (k6.of xF) ⟨_,rfl,?_,rfl,us++[L],by rw [aq]; rfl,?_⟩
    ·rw [ab,oH,aI,ab];lia
    ·have D9:((chs xs m).map (·.2))[i]? = some cc.2:=by rw [ak,mh]; rfl
     rw [take_snoc D9];exact bH mF xG
   ·rintro ys H2 D ⟨rfl,us,rfl,mF⟩ hD;rw [aQ (by rw [ab,qH]; exact af _)] at mF;exact q D us _ (s1.free hD) (s1.trans (ze hD)) zd (mF.same (ze hD))
theorem zdK:FnScope ["code","row","polynomial","p","k","places"] ["code","row","polynomial"] (zj zek):=#[S]
theorem zio {fd:FuncData} (T:Txt K mg t) (F:Fun K "fits" "fits" zek t.fits fd):FnOk P w K mg base CX0 2 t.fits fd ["code","row","polynomial"] (zln K):=by
 obtain⟨m5,lu,ly⟩:=T.f_value_at;have lK:=zci (P:=P) (w:=w) (base:=base) T lu;refine F.ok zdK (fun vs H Q E h=>?_) (fun lP A outer s H vs Q E hr h=>?_)
 ·obtain⟨c,tt,ra,po,p,k,pl,lJ,rw,rfl,_⟩:=h;rfl
 ·obtain⟨c,tt,ra,po,p,k,pl,lJ,rw,rfl,hc,pR,qe,yW,p0,p1,mq,hn,q⟩:=h;refine zbi ?_; intro zX;refine⟨_,#[zf,#[zb7,#[pvx,0],#[za2,#[zm,#[zi,3,zdK.nd,(dv rfl)],#[zm,#[zi,4,zdK.nd,#[A]],#[zm,#[zi,5,zdK.nd,#[A]],#[zY]]]]]],#[zo,#[zM,#[zaj,(CompSc.of (N':=["at","place","entry","p","polynomial"]) (ix:=[none,none,none,some 3,some 2]) (zj zek) ["code","row","polynomial","p","k","places"] rfl rfl #[N]),#[zbs,#[zW,(@ziH _ _ _ #[zbs,#[zW,#[zW,#[za4]]]] #[za4] zg8)]],(@zg7 _ _ _ _ _ _ _ _ _ _ _ rfl T.enumerate_ rfl T.zip_ #[zc,#[pvx,5],#[ya,#[pvx,1]]] (by rfl) (by rfl) (by rfl)),(fun _ _ _ _=>#[zaU,(K),2,#[zm,#[zi,0,(show (["at","place","entry","p","polynomial"]:List Str).Nodup from #[N]),#[A]],#[zm,#[zaU,(K),2,#[zm,#[zi,1,(show (["at","place","entry","p","polynomial"]:List Str).Nodup from #[N]),#[A]],#[zm,#[zi,2,(show (["at","place","entry","p","polynomial"]:List Str).Nodup from #[N]),#[A]],#[zY]]]],#[zY]]]]),(fun _ _ _ _=>#[zcH,#[zK,#[zeJ],#[pvx,2],#[zw,lK,(hr.mono #[D]),T.m_value_at,lu.kp,ly,#[zR],#[zc,#[pvx,3],#[zc,#[pvx,4],#[ya,#[pvx,1]]]]],(zag _)]]),(fun _ _ _ _=>#[pvx,0])]]]],?_⟩;refine znT ?_; intro qd;refine⟨_,rfl,c,_,rfl,k6.of hc.1,rfl,_,_,rfl,_,_,rfl,_,_,rfl,rfl,?_⟩;refine⟨_,rfl,_,rfl,tt,ra,_,_,rfl,k6.of hc.2,kS.of pR,z9 (n:=pl.length) (fun i ys H'=>ys=(zbd p pl rw lJ i).map V.int∧zy H H') ⟨rfl,fun _ _ e=>e⟩ ?_ ?_ ?_ ?_⟩
  ·rintro i ys H3 hi ⟨_,s3⟩;obtain⟨o,ho⟩:∃ o,rw[i]? = some o:=⟨rw[i]'#[O],#[M]⟩;exact⟨_,_,.int pl[i],mJ o,k6.of (s3 _ _ hc.2),kS.of (s3 _ _ pR),by rw [ak,ap hi]; rfl,by rw [ak,ho]; rfl⟩
  ·rintro ys H3 ⟨_,s3⟩;exact⟨_,_,k6.of (s3 _ _ hc.2),kS.of (s3 _ _ pR),by rw [ab]⟩
  ·rintro zS zT zE i xx ys H3 H4 hi ⟨rfl,s3⟩ ⟨T1,T2,u,v,hT1,sV,lY,rfl,rfl,hu,hv⟩;obtain⟨x,rfl,hx⟩:=zar (hu _ (k6.of (s3 _ _ hc.2)));obtain⟨o,rfl,ho⟩:=zcL (hv _ (kS.of (s3 _ _ pR)));obtain⟨x0,x1⟩:=mq x (aE hx);have s4:zy H3 (kW (kW H3 T1 (.tup [.int x,mJ o])) T2 (.tup [.int i,.ref T1])):=zal (ze hT1) sV;refine⟨T2,_,rfl,k6.of zd,rfl,_,_,rfl,_,_,rfl,T1,_,rfl,k6.of (by rw [zq lY]; exact zd),rfl,_,_,rfl,_,_,rfl,rfl,rfl,?_⟩;refine⟨_,rfl,_,rfl,_,rfl,_,rfl,p,x,po,lJ,rfl,.inr (k6.of ((s3.trans s4) _ _ yW)),p0,p1,x0,x1,zjV o _,_,rfl,?_⟩;rw [ze0,zjW hx ho,aq];have kY:=zgb p pl rw lJ i;refine zaX (fun h1=>⟨_,rfl,zao (by rw [ab]; lia),?_,s3.trans s4⟩) (fun h1=>⟨?_,s3.trans s4⟩)
   ·rw [if_pos h1];rfl
   ·rw [if_neg h1];simp
  ·rintro ys H3 D ⟨rfl,s3⟩ hD;exact q D _ (s3.free hD) (s3.trans (ze hD)) zd
theorem zmp {p:Int} {kQ:List (Int×Int)} (hP:Pts p kQ):kQ.map (md p)=kQ:=by
 refine (bZ fun q hq=>?_).trans (iK _);obtain⟨_,_,h1,h2⟩:=hP.rg q hq;show (q.1,q.2 % p)=q;rw [cG h1 h2]
theorem zax:FnScope ["code","points","p","k","places","found","picked"] ["code","points"] (zj zaT):=#[S]
theorem zep {fd:FuncData} (T:Txt K mg t) (F:Fun K "all_through" "all_through" zaT t.all_through fd):FnOk P w K mg base CX0 4 t.all_through fd ["code","points"] (zeh K):=by
 obtain⟨qZ,pM,nR⟩:=T.f_choices;have sC:=zho (P:=P) (w:=w) (base:=base) T pM;obtain⟨oP,mG,mH⟩:=T.f_through;have nO:=zeo (P:=P) (w:=w) (base:=base) T mG;refine F.ok zax (fun vs H Q E h=>?_) (fun lP A outer s H vs Q E hr h=>?_)
 ·obtain⟨c,tt,a,p,k,pl,bs,kQ,rfl,_⟩:=h;rfl
 ·obtain⟨c,tt,a,p,k,pl,bs,kQ,rfl,hc,hS,hB,hn,hp,hP,k0,k1,q⟩:=h;have hu:(A.deeper (envOfC (bL "all_through") (zj zaT) s.heap.objs.size t.all_through lP)).units+1 < cLine:=by have:=hr.units; lia
  refine zbi ?_; intro zX;refine⟨_,#[zf,#[zb7,#[pvx,0],#[za2,#[zm,#[zi,2,zax.nd,#[A]],#[zm,#[zi,3,zax.nd,#[A]],#[zm,#[zi,4,zax.nd,#[A]],#[zY]]]]]],#[zf,#[zr,5,zax.nd,#[A],(@zj3 _ _)],#[zf,#[zaP,br,#[z0,#[zw,sC,(hr.mono #[D]),T.m_choices,pM.kp,nR,#[zR],#[zc,#[pvx,1],#[ya,#[pvx,3]]]]],#[zi,6,zax.nd,#[A]],#[zo,(@zlp _ _ _ _ _ _ _ _ _ hu #[pvx,5] #[zw,nO,(hr.mono #[D]),T.m_through,mG.kp,mH,#[zR],#[zc,#[pvx,2],#[ya,#[pvx,6]]]] #[zde] rfl)]],#[zo,#[zM,#[zQ,(@zfw _ rfl),T.sorted_,iM,#[ya,#[pvx,5]]]]]]]],?_⟩;refine zlc ?_; intro tV qI qd;have oD:=bi;have rp:=zu hp;obtain⟨zs,rfl,rfl,hz⟩:=hB.zs;rw [ab] at hn;refine⟨_,rfl,c,_,rfl,k6.of hc.1,rfl,_,_,rfl,_,_,rfl,_,_,rfl,rfl,fun D hD=>?_⟩;have s0:=ze (o:=.dT []) hD;have D':kW H D (.dT []) D=some (.dT []):=zd;generalize kW H D (.dT [])=H0 at s0 D' ⊢;refine⟨_,rfl,_,rfl,a,k,_,rfl,s0.seq hS,by rw [ab,ab]; lia,#[O],fun l ls H1 hl s1 vY BF=>?_⟩;have hlD:l≠D:=fun e=>by rw [e,D'] at hl; cases hl
  rw [bt,ze5 (V.ref ∘ fun z:Addr×Int×Int=>z.1) zs k] at BF;have mq:=BF.length;rw [ab,ab] at mq;have yC:=zc5 (xs:=zs) k hn;obtain⟨xW,vy⟩:∃ xW,(chs zs k).map (·.2)=xW:=⟨_,rfl⟩;rw [vy] at BF;have hzl:ls.length=xW.length:=by rw [mq,← vy,ab]
  have As:H1 D=some (.dT []):=s1 _ _ D';have hid:=zgc H1 D;refine⟨l,rfl,⟨_,kS.of vY⟩,zaC (K:=K) (a:=l) (xs:=ls.map V.ref) (fun i σ H'=>∃ (kZ:List (List Key×V)) (mM:List (List Int)) (e6:Option V),σ = [some (.ref c),some (.ref a),some (.int p),some (.int k),some (.ref tt),some (.ref D),e6] ∧
   zy (hide H1 D) H'∧H' D=some (.dT kZ)∧KeysAre kZ mM∧mM.Nodup∧mM.length≤i∧∀ x,x∈mM↔∃ zk∈xW.take i,x=thr p (zk.map (·.2)))
   ⟨[],[],none,rfl,hid,As,rfl,#[M],af _,fun x=>by simp⟩ (fun i σ H' _ ⟨_,_,_,_,s3,_⟩=>kS.of (s3 _ _ (zaE vY hlD))) ?_ ?_⟩
  ·rintro zD zT i y σ H2 hy ⟨kZ,mM,e6,rfl,s2,xT,wY,nD,Ea,mL⟩;obtain⟨b,rfl,y9⟩:=zP hy;obtain⟨hi,_⟩:=aA.mp y9;obtain⟨vk,Au,rN⟩:=Paired.get BF y9;obtain⟨zk,hzk,rfl⟩:∃ zk,xW[i]? = some zk∧vk=zk.map (V.ref ∘ fun z:Addr×Int×Int=>z.1):=by
    rw [ak] at Au;cases e:xW[i]? with
    | none=>rw [e] at Au; cases Au
    | some zk=>rw [e] at Au; exact⟨zk,rfl,(aM Au).symm⟩
   have hbD:b≠D:=fun e=>by rw [e,As] at rN; cases rN
   obtain⟨uY,kY⟩:=zfy.mp (by rw [vy]; exact aE hzk:zk∈(chs zs k).map (·.2));have BG:Pts p (zk.map (·.2)):=hP.sub (uY.map _);have lG:zjR K H2 b (zk.map (·.2)):=by
    refine⟨zk.map (·.1),?_,by rw [ab,ab],fun j b' q' h1 h2=>?_⟩
    ·have:=s2 _ _ (zaE rN hbD);rw [bt];exact kS.of this
    ·rw [ak] at h1 h2;cases e:zk[j]? with
     | none=>rw [e] at h1; cases h1
     | some z =>
      rw [e] at h1 h2;cases h1;cases h2;have qj:=hz z (uY.subset (aE e));have hzD:z.1≠D:=zH qj hD;exact s2 _ _ (zaE ((s0.trans s1) _ _ qj) hzD)
   have hmf:kZ.length=mM.length:=by
    have:=congrArg dY wY;rw [ab,ab] at this;exact this
   refine⟨_,rfl,_,rfl,_,rfl,p,b,_,rfl,lG,by rw [ab]; lia,hp,(by rw [zmp BG]; exact BG),(fun q hq=>by have:=BG.rg q hq; lia),fun tl H3 uK s3 h3=>?_⟩;rw [zmp BG] at h3;have h3D:=s3 _ _ xT;refine⟨D,_,rfl,zj1.t (k:=(thr p (zk.map (·.2))).map c9) h3D (by rw [h3,bt]; rfl) #[O],?_⟩;obtain⟨se,m1,m2,m3,m4⟩:=zkp wY nD (thr p (zk.map (·.2))) (.bl true);refine⟨_,se,_,rfl,?_,zd,m1,m2,#[O],fun x=>?_⟩
   ·refine zal (s2.trans s3) ?_;unfold hide;rw [if_pos rfl]
   ·rw [m4 x,mL x,take_snoc hzk];constructor
    ·rintro (⟨Eb,h1,h2⟩ | e)
     ·exact⟨Eb,aP _ h1,h2⟩
     ·exact⟨zk,aH _ (aN.mpr rfl),e⟩
    ·rintro⟨Eb,h1,h2⟩;rcases (aK.mp h1) with h1 | h1
     ·exact .inl ⟨Eb,h1,h2⟩
     ·rw [aN.mp h1] at h2;exact .inr h2
  ·rintro σ H2 ⟨kZ,mM,e6,rfl,s2,xT,wY,nD,Ea,mL⟩;rw [ab,hzl] at mL Ea;rw [aV] at mL;rw [← hzl,mq] at Ea;have nF:∀ x,x∈mM↔∃ pk∈(chs (zs.map (·.2)) k).map (·.2),x=thr p pk:=fun x=>by
    rw [mL x,ze5,vy];constructor
    ·rintro⟨zk,h1,h2⟩;exact⟨_,dP h1,h2⟩
    ·rintro⟨pk,h1,h2⟩;obtain⟨zk,h3,rfl⟩:=aB.mp h1;exact⟨zk,h3,h2⟩
   have Av:∀ x∈mM,IsP p k x:=fun x hx=>by
    obtain⟨pk,h1,rfl⟩:=(nF x).mp hx;exact zh8 hp hP h1
   refine⟨_,rfl,D,k,p,kZ,mM,rfl,xT,wY,fun ms hm=>Av ms hm,k0,#[O],fun r qc pU pJ Aw hH=>?_⟩;have hHs:zy H H2:=fun x u e=>s2 _ _ (zaE ((s0.trans s1) _ _ e) (zH e hD))
   have e1:qc.map (fun q=>V.ref q.1)=(qc.map (·.1)).map V.ref:=by rw [bt]; rfl
   rw [e1];refine q r (qc.map (·.1)) (qc.map (·.2)) _ (hHs.free pU) (hHs.trans (ze pU)) zd ((zaG.of hH).same (ze pU)) (by rw [pJ.length_eq]; lia) (zlH #[O] (fun x hx=>Av x (pJ.mem_iff.mp hx)) (pJ.nodup_iff.mpr nD) ?_) fun x=>?_
   ·rw [bC];exact Aw
   ·rw [pJ.mem_iff];exact nF x
def zfE (K:ag):Sp:=fun vs H Q _=>∃ (c tt r:Addr) (p:Int) (k:Nat) (T:Int) (pl:List Int) (rw:List (Option Int)),vs = [.ref c,.ref r,.int T]∧zbu H c tt p k pl∧H r=some (.lst (rw.map mJ))∧rw.length=pl.length∧pl.length≤16∧p∈zp∧pl.Nodup∧(∀ x∈pl,0≤x∧x < p)∧(∀ z,some z∈rw→0≤z∧z < p)∧1≤k∧k≤100∧(k:Int)≤T ∧
 ∀ (l:Addr) (rs:List Addr) (qs:List (List Int)) (H':Hp),H l=none→zy H H'→H' l=some (.lst (rs.map V.ref))→zaG H' rs qs→zgt p k qs→(∀ q,q∈qs↔IsP p k q∧T≤(hits p q (lD pl rw):Int))→Q (.ref l) H'
theorem zbB:FnScope ["code","row","t","k","points","first"] ["code","row","t"] (zj zbv):=#[S]
theorem zdn {fd:FuncData} (T:Txt K mg t) (F:Fun K "all_near" "all_near" zbv t.all_near fd):FnOk P w K mg base CX0 5 t.all_near fd ["code","row","t"] (zfE K):=by
 obtain⟨mT,lA,lB⟩:=T.f_heard_points;have l4:=zb5 (P:=P) (w:=w) (base:=base) T lA;obtain⟨rQ,oR,oS⟩:=T.f_fits;have rd:=zio (P:=P) (w:=w) (base:=base) T oR;obtain⟨oT,nh,ml⟩:=T.f_all_through;have pB:=zep (P:=P) (w:=w) (base:=base) T nh;refine F.ok zbB (fun vs H Q E h=>?_) (fun lP A outer s H vs Q E hr h=>?_)
 ·obtain⟨c,tt,r,p,k,T',pl,rw,rfl,_⟩:=h;rfl
 ·obtain⟨c,tt,r,p,k,T',pl,rw,rfl,hc,pR,qe,hn,hp,nD,mq,mW,k0,k1,h1,q⟩:=h;refine zbi ?_; intro zX;refine⟨_,#[zf,#[zr,3,zbB.nd,#[A],#[zL,#[zbb],#[pvx,0],#[zh]]],#[zf,#[zbj,#[zK,#[zjp],#[pvx,2],#[pvx,3],(zag _)],(@zix _ _),#[zau]],#[zf,#[zr,4,zbB.nd,#[A],#[zw,l4,(hr.mono #[D]),T.m_heard_points,lA.kp,lB,#[zR],#[zc,#[pvx,0],#[ya,#[pvx,1]]]]],#[zf,#[zbj,#[zK,#[zhB],#[pvx,2],#[zQ,#[zO],T.len_,c8,#[ya,#[pvx,4]]],(zag _)],#[zo,#[zM,#[zac,#[zg]]]],#[zau]],#[zf,#[zr,5,zbB.nd,#[A],#[zaR,zbR,#[pvx,4],#[zbl],#[za3,#[zl,#[z8],#[zl,#[zc2],#[zQ,#[zO],T.len_,c8,#[ya,#[pvx,4]]],#[pvx,2]],#[pvx,3]]]]],#[zo,#[zM,#[zaj,(CompSc.of (N':=["polynomial","code","row","t"]) (ix:=[none,some 0,some 1,some 2]) (zj zbv) ["code","row","t","k","points","first"] rfl rfl #[N]),#[zaM],#[z0,#[zw,pB,(hr.mono #[D]),T.m_all_through,nh.kp,ml,#[zR],#[zc,#[pvx,0],#[ya,#[pvx,5]]]]],(fun _ _ _ _=>#[zi,0,(show (["polynomial","code","row","t"]:List Str).Nodup from #[N]),#[A]]),(fun _ _ _ _=>#[zcH,#[zK,#[zmd],#[zQ,#[zbF,(K)],T.len_,c8,#[ya,#[zw,rd,(hr.mono #[D]),T.m_fits,oR.kp,oS,#[zR],#[zc,#[pvx,1],#[zc,#[pvx,2],#[ya,#[pvx,0]]]]]]],#[pvx,3],(zag _)]]),(fun _ _ _ _=>#[pvx,0])]]]]]]]],?_⟩;refine zoz ?_; intro yR w8 tV qI qd;have oD:=bi;have rp:=zu hp;have hR:RowAt K H r pl.length rw:=⟨kS.of pR,qe⟩;have hP:=zh9 nD mq mW;have hhl:=zcU pl rw;refine⟨_,rfl,c,_,_,_,rfl,rfl,k6.of hc.1,rfl,?_⟩;refine⟨_,rfl,_,rfl,_,_,rfl,rfl,_,rfl,?_⟩
  ·refine zaX (fun h=>absurd (of_decide_eq_true h) #[O]) (fun _=>?_);refine⟨_,rfl,_,rfl,c,tt,r,p,k,pl,rw,rfl,hc,hR,#[O],fun l bs H1 qk s1 vY hB=>?_⟩;have vo:bs.length=(lD pl rw).length:=hB.length;refine⟨_,rfl,_,rfl,l,_,rfl,.inl (kS.of vY),_,_,rfl,rfl,_,rfl,?_⟩;rw [ab];refine zaX (fun lF=>?_) (fun oE=>?_)
   ·have lF:=of_decide_eq_true lF;refine⟨bh _,fun z hz=>q z [] [] _ (s1.free hz) (s1.trans (ze hz)) zd .nil ⟨#[M],.nil⟩ fun x=>?_⟩;have:=ee (hit p x) (lD pl rw);constructor
    ·intro h; cases h
    ·rintro⟨_,h⟩;unfold hits at h;lia
   ·have oE:¬ T' > (bs.length:Int):=fun h=>oE (decide_eq_true h)
    obtain⟨tn,rfl⟩:∃ tn:Nat,T'=tn:=⟨T'.toNat,#[O]⟩;refine⟨_,rfl,_,rfl,l,_,rfl,.inl (kS.of vY),_,rfl,_,_,rfl,rfl,_,rfl,_,_,rfl,rfl,_,rfl,l,_,rfl,kS.of vY,fun z hz=>?_⟩;have Ec:((bs.map V.ref).length:Int) - (tn:Int)+(k:Int)=((bs.length - tn+k:Nat):Int):=by rw [ab]; lia
    rw [Ec,zkD,← eE];have v1:=ze (o:=.lst ((bs.take (bs.length - tn+k)).map V.ref)) hz;have hzz:kW H1 z (.lst ((bs.take (bs.length - tn+k)).map V.ref)) z=some (.lst ((bs.take (bs.length - tn+k)).map V.ref)):=zd;have s2:=s1.trans v1;have qr:=(hB.same v1).take (bs.length - tn+k);generalize kW H1 z (.lst ((bs.take (bs.length - tn+k)).map V.ref))=H2 at v1 hzz s2 qr ⊢;have hPt:Pts p ((lD pl rw).take (bs.length - tn+k)):=hP.sub (cj _ _);refine⟨_,rfl,_,rfl,c,tt,z,p,k,pl,_,_,rfl,hc.same s2,kS.of hzz,qr,by rw [aI]; lia,hp,hPt,k0,k1,fun l2 rs qs H3 qL s3 v3 hT hql Ax mL=>?_⟩;have Ed:=hT.length;have BH:=s2.trans s3;refine⟨l2,rfl,⟨_,kS.of v3⟩,z9 (n:=rs.length) (fun i ys H'=>zy H3 H'∧∃ us:List Addr,ys=us.map V.ref∧us.length≤i∧zaG H' us ((qs.take i).filter fun x=>decide ((tn:Int)≤(hits p x (lD pl rw):Int)))) ⟨fun _ _ e=>e,[],rfl,af _,.nil⟩ ?_ ?_ ?_ ?_⟩
    ·rintro i ys H4 hi ⟨s4,_⟩;exact⟨_,.ref rs[i],kS.of (s4 _ _ v3),by rw [ak,ap hi]; rfl⟩
    ·rintro ys H4 ⟨s4,_⟩;exact⟨_,kS.of (s4 _ _ v3),by rw [ab]; exact af _⟩
    ·rintro zS zT zE i y ys H4 H5 hi ⟨s4,us,rfl,oH,mF⟩ ⟨rfl,hy⟩;obtain⟨rb,rfl,BI⟩:=zP (hy _ (kS.of (s4 _ _ v3)));obtain⟨qq,Ee,mV⟩:=Paired.get hT BI;have Ay:=BH.trans s4;refine⟨_,rfl,_,rfl,_,rfl,c,tt,r,rb,p,k,pl,qq,rw,rfl,hc.same Ay,Ay _ _ pR,qe,s4 _ _ mV,#[O],#[O],mq,#[O],fun fl H6 xS s6 h6=>?_⟩;refine⟨fl,_,rfl,.inl (kS.of h6),_,rfl,_,_,rfl,rfl,_,rfl,?_⟩;have ef:((zbd p pl rw qq pl.length).map V.int).length=hits p qq (lD pl rw):=by rw [ab]; exact zdH qe
     rw [ef];have wM:(qs.take (i+1)).filter (fun x=>decide ((tn:Int)≤(hits p x (lD pl rw):Int)))=(qs.take i).filter (fun x=>decide ((tn:Int)≤(hits p x (lD pl rw):Int)))++[qq].filter (fun x=>decide ((tn:Int)≤(hits p x (lD pl rw):Int))):=by rw [take_snoc Ee,dW]
     refine zaX (fun h=>⟨_,rfl,?_,s4.trans s6,us++[rb],by rw [aq]; rfl,by rw [ao]; exact jX oH,?_⟩) (fun h=>⟨s4.trans s6,us,rfl,#[O],?_⟩)
     ·rw [ab]; lia
     ·rw [wM,fc (p:=fun x=>decide ((tn:Int)≤(hits p x (lD pl rw):Int))) h];exact bH (mF.same s6) ((s4.trans s6) _ _ mV)
     ·rw [wM,fe (p:=fun x=>decide ((tn:Int)≤(hits p x (lD pl rw):Int))) h,iB,bI];exact mF.same s6
    ·rintro ys H4 D ⟨s4,us,rfl,oH,mF⟩ hD;rw [Ed,aV] at mF;have Ay:=BH.trans s4;refine q D us _ _ (Ay.free hD) (Ay.trans (ze hD)) zd (mF.same (ze hD)) (Ax.filter _) fun x=>?_
     rw [ck,mL x,decide_eq_true_iff];constructor
     ·rintro⟨⟨pk,h1,rfl⟩,h2⟩;exact⟨zh8 hp hPt h1,h2⟩
     ·rintro⟨h1',h2⟩;exact⟨zhe hp hP h1' (t:=tn) #[O] #[O] #[O],h2⟩
end
theorem zkL {l:List Nat} {d:Nat} (h:l.Nodup) (hl:∀ x∈l,x < d):l.length≤d:=by
 have h1:=zhk (S:=aR d) h;rw [iL.mpr (fun x hx=>by have:=hl x hx; simpa using this),bM] at h1;simpa using h1
def zaa (ms:List Int) (rw:List (Option Int)):List (Option Int):=(aR rw.length).map fun i:Nat=>if (i:Int)∈ms then rw.getD i none else none
theorem zbO (ms:List Int) (rw:List (Option Int)):(zaa ms rw).length=rw.length:=by unfold zaa; rw [ab,bM]
theorem zfF {ms:List Int} {rw:List (Option Int)} {i:Nat} {o:Option Int} (h:rw[i]? = some o):(zaa ms rw)[i]? = some (if (i:Int)∈ms then o else none):=by
 have hi:=(aA.mp h).1;unfold zaa;rw [ak,dh hi];show some (if (i:Int)∈ms then rw.getD i none else none)=_;rw [aW,h];rfl
theorem zlZ {p:Int} {ms:List Int} {rw:List (Option Int)} (h:∀ z,some z∈rw→0≤z∧z < p):∀ z,some z∈zaa ms rw→0≤z∧z < p:=by
 intro z hz;obtain⟨i,hi⟩:=cF hz;cases ho:rw[i]? with
 | none =>
  have h1:=(aA.mp hi).1;rw [zbO] at h1;rw [ap h1] at ho;cases ho
 | some o =>
  rw [zfF ho] at hi;have hi:=aM hi;by_cases hm:(i:Int)∈ms
  ·rw [if_pos hm] at hi;subst hi;exact h z (aE ho)
  ·rw [if_neg hm] at hi;cases hi
theorem ze8 {p:Int} {pl:List Int} {ms:List Int} {rw:List (Option Int)} {q:List Int} (hl:rw.length=pl.length) (i:Nat):zak p pl (zaa ms rw) q i=true↔(i:Int)∈ms∧zak p pl rw q i=true:=by
 unfold zak;cases hp:pl[i]? with
 | none=>simp
 | some x =>
  have hi:=(aA.mp hp).1;have ho:rw[i]? = some rw[i]:=ap #[O];rw [zfF ho,ho];by_cases hm:(i:Int)∈ms
  ·rw [if_pos hm];simp [hm]
  ·rw [if_neg hm];simp [hm]
theorem zc0 {p:Int} {pl:List Int} {rw:List (Option Int)} {q:List Int} {n:Nat} {z:Int}:z∈zbd p pl rw q n↔∃ j:Nat,z=j∧j < n∧zak p pl rw q j=true:=by
 unfold zbd;constructor
 ·intro h;obtain⟨j,hj,rfl⟩:=aB.mp h;obtain⟨h1,h2⟩:=ck.mp hj;exact⟨j,rfl,bx.mp h1,h2⟩
 ·rintro⟨j,rfl,h1,h2⟩;exact aB.mpr ⟨j,ck.mpr ⟨bx.mpr h1,h2⟩,rfl⟩
theorem zhp {p:Int} {pl:List Int} {rw:List (Option Int)} {q:List Int} {n:Nat}:(zbd p pl rw q n).Nodup:=by
 unfold zbd;exact jN _ (fun a b nJ e=>nJ #[O]) (fv.filter _)
theorem zfG:∀ {pl:List Int} {rw:List (Option Int)} {a:Int×Int},a∈lD pl rw→∃ i:Nat,pl[i]? = some a.1∧rw[i]? = some (some a.2)
 | [],_,a,h=>by simp [lD] at h
 | _ :: _,[],a,h=>by simp [lD] at h
 | x :: pl,none :: rw,a,h=>by
  obtain⟨i,h1,h2⟩:=zfG (pl:=pl) (rw:=rw) (a:=a) (by simpa [lD] using h);exact⟨i+1,h1,h2⟩
 | x :: pl,some y :: rw,a,h=>by
  have h:a=(x,y)∨a∈lD pl rw:=by simpa [lD] using h
  rcases h with rfl | h
  ·exact⟨0,rfl,rfl⟩
  ·obtain⟨i,h1,h2⟩:=zfG h;exact⟨i+1,h1,h2⟩
structure JS (p:Int) (k:Nat) (pl:List Int) (T:Nat) (rows:List (List (Option Int))) (s:List (List Int)×List Int):Prop where
 len:s.1.length=rows.length
 isp:∀ q∈s.1,IsP p k q
 mem:∀ i:Nat,i < pl.length→((i:Int)∈s.2↔∀ (l:Nat) row q,rows[l]? = some row→s.1[l]? = some q→zak p pl row q i=true)
 rg:∀ z∈s.2,∃ i:Nat,z=i∧i < pl.length
 nd:s.2.Nodup
 many:rows≠[]→T≤s.2.length
variable {p:Int} {k T:Nat} {pl:List Int} {rows:List (List (Option Int))}
theorem zl0:JS p k pl T [] ([],zaw 0 pl.length):=by
 have hm:∀ z,z∈zaw 0 pl.length↔∃ i:Nat,z=i∧i < pl.length:=fun z=>by
  unfold zaw;constructor
  ·intro h
   (obtain⟨i,hi,rfl⟩:=aB.mp h)
   exact⟨i,#[O],bx.mp hi⟩
  ·rintro⟨i,rfl,hi⟩;exact aB.mpr ⟨i,bx.mpr hi,#[O]⟩
 refine⟨rfl,fun q h=>(by cases h),fun i hi=>⟨fun _ l row q h=>(by simp at h),fun _=>(hm _).mpr ⟨i,rfl,hi⟩⟩,fun z hz=>(hm z).mp hz,?_,fun h=>absurd rfl h⟩;unfold zaw;exact jN _ (fun a b nJ e=>nJ #[O]) fv
theorem zl1 {qs:List (List Int)} {ms q:List Int} {row:List (Option Int)} (J:JS p k pl T rows (qs,ms)) (hl:row.length=pl.length) (hq:IsP p k q) (ht:T≤hits p q (lD pl (zaa ms row))) :
  JS p k pl T (rows++[row]) (qs++[q],zbd p pl (zaa ms row) q pl.length):=by
 have kY:qs.length=rows.length:=J.len;refine⟨by show (qs++[q]).length=_; rw [ao,ao,kY]; rfl,fun x hx=>?_,fun i hi=>?_,fun z hz=>?_,zhp,fun _=>?_⟩
 ·rcases aK.mp hx with h | h
  ·exact J.isp x h
  ·rw [aN.mp h]; exact hq
 ·have e:(i:Int)∈zbd p pl (zaa ms row) q pl.length↔(i:Int)∈ms∧zak p pl row q i=true:=by
   rw [zc0,← ze8 hl];constructor
   ·rintro⟨j,hj,_,h⟩;have:i=j:=by lia
    subst this;exact h
   ·exact fun h=>⟨i,rfl,hi,h⟩
  show (i:Int)∈zbd p pl (zaa ms row) q pl.length↔_;rw [e,J.mem i hi];constructor
  ·rintro⟨h1,h2⟩ l r x hr hx;rw [List.getElem?_append] at hr hx;rw [kY] at hx;by_cases xQ:l < rows.length
   ·rw [if_pos xQ] at hr hx;exact h1 l r x hr hx
   ·rw [if_neg xQ] at hr hx;cases hd:l - rows.length with
    | zero =>
     rw [hd] at hr hx;cases hr;cases hx;exact h2
    | succ m =>
     rw [hd] at hr;simp at hr
  ·intro h;refine⟨fun l r x hr hx=>h l r x ?_ ?_,h rows.length row q ?_ ?_⟩
   ·rw [bG (aA.mp hr).1]; exact hr
   ·rw [bG (aA.mp hx).1]; exact hx
   ·rw [bD (af _),fM]; rfl
   ·rw [← kY,bD (af _),fM]; rfl
 ·obtain⟨j,rfl,h,_⟩:=zc0.mp hz;exact⟨j,rfl,h⟩
 ·show T≤(zbd p pl (zaa ms row) q pl.length).length;rw [zdH (by rw [zbO]; exact hl)];exact ht
theorem zkM {s:List (List Int)×List Int} (J:JS p k pl T rows s) {l i:Nat} {row:List (Option Int)} {q:List Int} (hr:rows[l]? = some row) (hq:s.1[l]? = some q) (hi:(i:Int)∈s.2):∃ x y,pl[i]? = some x∧row[i]? = some (some y)∧zn p x q=y:=by
 obtain⟨j,hj,Ef⟩:=J.rg _ hi;have:i=j:=by lia
 subst this;have h:=(J.mem i Ef).mp hi l row q hr hq;unfold zak at h;split at h
 ·next x y h1 h2=>exact⟨x,y,h1,h2,(of_decide_eq_true h).symm⟩
 ·cases h
theorem zof (nD:pl.Nodup) {s:List (List Int)×List Int} (J:JS p k pl T rows s):(s.2.map fun z=>gl pl z.toNat).Nodup:=by
 have h:∀ a∈s.2,∀ b∈s.2,a≠b→gl pl a.toNat≠gl pl b.toNat:=fun a ha b hb nJ e=>by
  obtain⟨i,rfl,hi⟩:=J.rg a ha;obtain⟨j,rfl,hj⟩:=J.rg b hb;simp only [bz] at e;have h1:=zaY hi;have h2:=zaY hj;rw [e,← h2] at h1;have:=(jO hi nD).mp h1;exact nJ (by rw [this])
 have nd:=J.nd;generalize s.2=l at h nd;induction l with
 | nil=>exact kw
 | cons a l ih =>
  obtain⟨h1,h2⟩:=cS.mp nd;refine cS.mpr ⟨fun hm=>?_,ih (fun x hx y hy=>h x (aj _ hx) y (aj _ hy)) h2⟩
  (obtain⟨b,hb,e⟩:=aB.mp hm)
  exact h a az b (aj _ hb) (fun z=>h1 (z ▸ hb)) e.symm
theorem znm (hp:p∈zp) (nD:pl.Nodup) (mq:∀ x∈pl,0≤x∧x < p) (hk:k≤T) (lY:rows≠[]) {s s':List (List Int)×List Int} (J:JS p k pl T rows s) (J':JS p k pl T rows s') (h:∀ i:Nat,i < pl.length→((i:Int)∈s.2↔(i:Int)∈s'.2)):s.1=s'.1:=by
 refine fi fun l=>?_
 cases hr:rows[l]? with
 | none =>
  have hl:=gM.mp hr;rw [cu (by rw [J.len]; exact hl),cu (by rw [J'.len]; exact hl)]
 | some row =>
  have hl:=(aA.mp hr).1;have h1:s.1[l]? = some (s.1[l]'(by rw [J.len]; exact hl)):=ap _;have h2:s'.1[l]? = some (s'.1[l]'(by rw [J'.len]; exact hl)):=ap _;rw [h1,h2];congr 1;generalize s.1[l]'(by rw [J.len]; exact hl)=q at h1;generalize s'.1[l]'(by rw [J'.len]; exact hl)=q' at h2;have i1:=J.isp q (aE h1);have i2:=J'.isp q' (aE h2);have hm:=J.many lY;refine zcf hp (xs:=s.2.map fun z=>gl pl z.toNat) (by rw [i1.1,i2.1]) (by rw [i1.1,ab]; lia) (zof nD J) (fun x hx=>?_) i1.2 i2.2 (fun x hx=>?_)
  ·obtain⟨z,hz,rfl⟩:=aB.mp hx;obtain⟨i,rfl,hi⟩:=J.rg z hz;exact mq _ (aE (zaY hi))
  ·obtain⟨z,hz,rfl⟩:=aB.mp hx;obtain⟨i,rfl,hi⟩:=J.rg z hz;obtain⟨x1,y1,a1,a2,a3⟩:=zkM J hr h1 hz;obtain⟨x2,y2,b1,b2,b3⟩:=zkM J' hr h2 ((h i hi).mp hz);rw [a1] at b1;cases b1;rw [a2] at b2;cases b2;show zn p (gl pl i) q=zn p (gl pl i) q';rw [zb4 a1,a3,b3]
def cod (ms:List Int):Nat→Nat
 | 0=>0
 | n+1=>cod ms n+if (n:Int)∈ms then 2 ^ n else 0
theorem zfH (ms:List Int):∀ n,cod ms n < 2 ^ n
 | 0=>by show 0 < 2 ^ 0; decide
 | n+1=>by
  have:=zfH ms n;show cod ms n+(if (n:Int)∈ms then 2 ^ n else 0) < 2 ^ (n+1);rw [Nat.pow_succ];split <;> lia
theorem ziq {ms qJ:List Int}:∀ n,cod ms n=cod qJ n→∀ i,i < n→((i:Int)∈ms↔(i:Int)∈qJ)
 | 0,_,i,hi=>by lia
 | n+1,h,i,hi=>by
  have h1:=zfH ms n;have h2:=zfH qJ n;have h:cod ms n+(if (n:Int)∈ms then 2 ^ n else 0)=cod qJ n+(if (n:Int)∈qJ then 2 ^ n else 0):=h;have key:((n:Int)∈ms↔(n:Int)∈qJ)∧cod ms n=cod qJ n:=by
   by_cases a:(n:Int)∈ms <;> by_cases b:(n:Int)∈qJ
   ·rw [if_pos a,if_pos b] at h;exact⟨⟨fun _=>b,fun _=>a⟩,#[O]⟩
   ·rw [if_pos a,if_neg b] at h;lia
   ·rw [if_neg a,if_pos b] at h;lia
   ·rw [if_neg a,if_neg b] at h;exact⟨⟨fun z=>absurd z a,fun z=>absurd z b⟩,#[O]⟩
  by_cases og:i=n
  ·subst og;exact key.1
  ·exact ziq n key.2 i #[O]
theorem zgB (hp:p∈zp) (nD:pl.Nodup) (mq:∀ x∈pl,0≤x∧x < p) (hk:k≤T) (lY:rows≠[]) {out:List (List (List Int)×List Int)} (h:∀ s∈out,JS p k pl T rows s) (nd:(out.map (·.1)).Nodup):out.length≤2 ^ pl.length:=by
 have h1:(out.map fun s=>cod s.2 pl.length).Nodup:=by
  refine bC.mpr ?_;refine cD (fun ha hb nJ e=>?_) (bC.mp nd);exact nJ (znm hp nD mq hk lY (h _ ha) (h _ hb) (ziq _ e))
 have h2:=zkL h1 (d:=2 ^ pl.length) fun x hx=>by
  obtain⟨s,_,rfl⟩:=aB.mp hx;exact zfH _ _
 rwa [ab] at h2
end My
end
section
namespace Srt
open PySem PyProof.Rows L2
section
variable {prog:Program} {w:World} {A:Around} {E:Value→Shared→Prop} {s:Shared} {κ:SortKind} {val:Keyed→Int}
theorem zhq {v:Value} {vs:List Value} {Q:Value→Shared→Prop} (kY:vs.length≤sizeLine)
  (tS:∀ R:List Value→Shared→Prop,(∀ (h':Heap) (tk:Nat),(∀ b o,s.heap.get? b=some o→h'.get? b=some o)→R vs { s with heap:=h',toks:=tk })→wpAny (model prog w) A.in1 (collect v) R E s)
  (oz:∀ s',(∀ b o,s.heap.get? b=some o→s'.heap.get? b=some o)→2≤vs.length→∀ (A':Around) (Q:SortKind→Shared→Prop) (E:Value→Shared→Prop),Q κ s'→wpAny (model prog w) A' (keyKind' vs.toArray) Q E s')
  (tR:∀ s',(∀ b o,s.heap.get? b=some o→s'.heap.get? b=some o)→Cmp prog w A.in1.in1 s' κ val (pairsOf vs))
  (h:∀ (h':Heap) (tk:Nat) (out:Array Value) (e:Nat) (D:Addr),(∀ b o,s.heap.get? b=some o→h'.get? b=some o)→(∀ b o,s.heap.get? b=some o→b < D)→h'.get? D=some (seqObj "list" out e)→out.toList.Perm vs→(out.toList.Pairwise fun x y=>val (x,x)≤val (y,y))→Q (.ref D) { s with heap:=h',toks:=tk }) :
  wpAny (model prog w) A (call (.builtin "sorted") [v]) Q E s:=by
 refine gL kind_sorted plain_sorted entry_sorted (args_sorted1 _) ?_; unfold Builtin.«sorted»;refine ae (m:=checkCount "sorted" 1 1 _) (ai (ae (cE (tS (fun us s'=>us=vs∧∃ (h':Heap) (tk:Nat),s' = { s with heap:=h',toks:=tk }∧∀ b o,s.heap.get? b=some o→h'.get? b=some o) fun h' tk k=>⟨rfl,h',tk,rfl,k⟩) ?_ fun _ _ e=>e)));rintro us s' ⟨rfl,h1,tk,rfl,kk⟩;refine ae (jd ?_ (hsz:=kY));have uN:(h1.push (seqObj "list" us.toArray 0)).get? h1.objs.size=some (seqObj "list" us.toArray 0):=aG _ rfl;have kn:∀ b o,s.heap.get? b=some o→b≠h1.objs.size:=fun b o e=>bf (aF (kk b o e))
 refine ae (bP (be slot_list_sort ⟨_,uN,rfl⟩ entry_list_sort (ze2 (κ:=κ) (val:=val) uN kY (fun h' hk h2 Q E hq=>oz _ (fun b o e=>hk b o (kn b o e) (ah _ (kk b o e))) h2 _ Q E hq) (fun h' hk=>tR _ fun b o e=>hk b o (kn b o e) (ah _ (kk b o e))) fun out a1 a2=>⟨_,rfl,?_⟩) (args_list_sort _)));obtain⟨e,he⟩:=sortedHeap_at (out:=out) uN;refine ai ⟨_,rfl,h _ tk out e h1.objs.size (fun b o x=>?_) (fun b o x=>aF (kk _ _ x)) he a1 a2⟩;rw [sortedHeap_old (kn b o x) (by rw [bA]; exact dC (aF (kk _ _ x)))];exact ah _ (kk _ _ x)
def zjf:List (List Int)→List (List Int)→Bool
 | x :: xs,y :: ys=>if x=y then zjf xs ys else zdq x y
 | _,_=>false
theorem zgC:∀ xs ys:List Int,HT.lexLt xs ys=zdq xs ys
 | [],[]=>rfl
 | [],_ :: _=>rfl
 | _ :: _,[]=>rfl
 | x :: xs,y :: ys=>by rw [HT.lexLt_cons,zbq,zgC xs ys]
def TkV (h:Heap) (ms:List Int) (a:Addr):Prop:=∃ kR:List Value,zF (ms.map V.int) kR∧IsTup h a kR.toArray
theorem zkN {P:Program} {w:World}:∀ {ns:List Int} {us:List Value},zF (ns.map V.int) us→ItemsAre (intKind P w) ns us
 | [],us,r=>by cases r; exact .nil
 | n :: ns,us,r=>by
  cases r with
  | cons h t =>
   obtain⟨tk,rfl⟩:=h;exact .cons (intKind_is _ _ _ _) (zkN t)
theorem TkV.key {h:Heap} {ms:List Int} {a:Addr} (x:TkV h ms a):IsTupleKey (intKind prog w) h ms a:=by
 obtain⟨kR,r,o,ho,hc,n,hd⟩:=x;exact⟨o,_,n,ho,hc,hd,by simpa using zkN r⟩
theorem zgD {Q:Bool→Shared→Prop} {fin:Bool} (hu:A.units < cLine):∀ {xs ys:List Addr} {ms ns:List (List Int)} (i:Nat),Paired (fun a m=>TkV s.heap m a) xs ms→Paired (fun a m=>TkV s.heap m a) ys ns→ms.length=ns.length→Q (if ms=ns then fin else zjf ms ns) s→kz prog w A false fin Q ((xs.map aO).zip (ys.map aO)) i s
 | [],[],[],[],i,_,_,_,h=>ko (by simpa using h)
 | _ :: _,_,[],_,_,hx,_,_,_=>by cases hx
 | [],_,_ :: _,_,_,hx,_,_,_=>by cases hx
 | _,[],_,_ :: _,_,_,hy,_,_=>by cases hy
 | _,_ :: _,_,[],_,_,hy,_,_=>by cases hy
 | x :: xs,y :: ys,m :: ms,n :: ns,i,hx,hy,hl,h=>by
  cases hx with
  | cons tx hx =>
   cases hy with
   | cons ty hy =>
    refine j4 (wpAny_eqBool_tuple hu tx.key ty.key ?_);by_cases e:m=n
    ·rw [decide_eq_true e];refine kq (zgD hu (i+1) hx hy (by simpa using hl) ?_);subst e;simpa [zjf] using h
    ·rw [decide_eq_false e];have lY:¬ (m :: ms=n :: ns):=fun z=>e (fq z).1
     rw [if_neg lY] at h;have h:Q (zdq m n) s:=by simpa [zjf,e] using h
     refine kA (kr _ _ ?_);obtain⟨i1,r1,p1⟩:=tx;obtain⟨i2,r2,p2⟩:=ty;refine HT.lt_tupInts p1 p2 (intsAre_of r1) (intsAre_of r2) hu ?_;rw [zgC];exact h
end
end Srt
namespace My
open PySem PySem.Spec L2 PyProof.Rows Srt
def nn (p:Int) (k:Nat) (qs:List (List Int)):Int:=num (p ^ k) (qs.map (num p))
theorem zgE (B:Int):∀ (xs:List Int) (x:Int),num B (xs++[x])=num B xs*B+x
 | [],x=>by simp [num]
 | y :: xs,x=>by
  show y*B ^ (xs++[x]).length+num B (xs++[x])=(y*B ^ xs.length+num B xs)*B+x;rw [zgE B xs x,ao,d7,fK];grind
theorem zdL {p:Int} {k:Nat} (qs:List (List Int)) (q:List Int):nn p k (qs++[q])=nn p k qs*p ^ k+num p q:=by
 unfold nn;rw [aq];exact zgE _ _ _
theorem zkO {p:Int} (hp:1≤p) (k:Nat):1≤p ^ k:=by
 induction k with
 | zero=>simp
 | succ k ih =>
  rw [fK];exact Int.mul_pos (show 0 < p ^ k by lia) (show 0 < p by lia)
theorem zfI {p:Int} (hp:1≤p) {k:Nat} {q:List Int} (h:IsP p k q):0≤num p q∧num p q < p ^ k:=by
 have:=num_rng hp h.2;rw [h.1] at this;exact this
theorem zc1 {p:Int} (hp:1≤p) {k:Nat} {qs:List (List Int)} (h:∀ q∈qs,IsP p k q):∀ n∈qs.map (num p),0≤n∧n < p ^ k:=fun n hn=>by
 obtain⟨q,hq,rfl⟩:=aB.mp hn;exact zfI hp (h q hq)
theorem znn {p:Int} (hp:1≤p) {k:Nat} {as bs:List (List Int)} (hl:as.length=bs.length) (ha:∀ q∈as,IsP p k q) (hb:∀ q∈bs,IsP p k q) (e:nn p k as=nn p k bs):as=bs:=by
 have h:=zcV (zkO hp k) (by simpa using hl) (zc1 hp ha) (zc1 hp hb) e;clear e;induction as generalizing bs with
 | nil=>cases bs with
  | nil=>rfl
  | cons=>simp at hl
 | cons a as ih=>cases bs with
  | nil=>simp at hl
  | cons b bs =>
   rw [aS,aS] at h;obtain⟨h1,h2⟩:=fq h;have pa:=ha a az;have pb:=hb b az;rw [zcV hp (pa.1.trans pb.1.symm) pa.2 pb.2 h1,ih (by simpa using hl) (fun q hq=>ha q (aj _ hq)) (fun q hq=>hb q (aj _ hq)) h2]
theorem zgF {p:Int} (hp:1≤p) {k:Nat}:∀ {as bs:List (List Int)},as.length=bs.length→(∀ q∈as,IsP p k q)→(∀ q∈bs,IsP p k q)→zjf as bs=decide (nn p k as < nn p k bs):=by
 intro as bs hl ha hb;unfold nn;rw [← zdF (zkO hp k) (by simpa using hl) (zc1 hp ha) (zc1 hp hb)];induction as generalizing bs with
 | nil=>cases bs with
  | nil=>rfl
  | cons=>simp at hl
 | cons a as ih=>cases bs with
  | nil=>simp at hl
  | cons b bs =>
   have pa:=ha a az;have pb:=hb b az;show (if a=b then zjf as bs else zdq a b)=_;rw [aS,aS,zbq,ih (by simpa using hl) (fun q hq=>ha q (aj _ hq)) (fun q hq=>hb q (aj _ hq))];by_cases e:a=b
   ·rw [if_pos e,if_pos (by rw [e])]
   ·rw [if_neg e,if_neg (fun z=>e (zcV hp (pa.1.trans pb.1.symm) pa.2 pb.2 z))];exact zdF hp (pa.1.trans pb.1.symm) pa.2 pb.2
def zbx (H:Hp):List Addr→List (List (List Int))→Prop:=Paired fun a qs=>∃ rs:List Addr,H a=some (.tup (rs.map V.ref))∧zaG H rs qs
theorem zbx.same {H H':Hp} (s:zy H H') {as:List Addr} {lH:List (List (List Int))} (h:zbx H as lH):zbx H' as lH:=bw (fun _ _ ⟨rs,z1,z2⟩=>⟨rs,s _ _ z1,z2.same s⟩) h
end My
end
section
namespace My
open PySem L2 PyProof.Rows Srt
section
variable {p:Int} {k T:Nat} {pl:List Int} {rows:List (List (Option Int))}
def cmn (p:Int) (pl:List Int) (rows:List (List (Option Int))) (qs:List (List Int)):List Nat:=(aR pl.length).filter fun i=>(rows.zip qs).all fun z=>zak p pl z.1 z.2 i
structure JN (p:Int) (k:Nat) (pl:List Int) (T:Nat) (rows:List (List (Option Int))) (qs:List (List Int)):Prop where
 len:qs.length=rows.length
 isp:∀ q∈qs,IsP p k q
 many:T≤(cmn p pl rows qs).length
theorem zb1 {qs:List (List Int)} {i:Nat}:i∈cmn p pl rows qs↔i < pl.length∧∀ z∈rows.zip qs,zak p pl z.1 z.2 i=true:=by
 unfold cmn;rw [ck,bx,dj]
theorem zeq (qs:List (List Int)):(cmn p pl rows qs).Nodup:=fv.filter _
theorem zip_get {α β:Type} {as:List α} {bs:List β} {l:Nat} {a:α} {b:β} (ha:as[l]? = some a) (hb:bs[l]? = some b):(a,b)∈as.zip bs:=by
 refine aE (i:=l) ?_;rw [gO];exact⟨ha,hb⟩
theorem zmq {qs:List (List Int)} {ms:List Int} (J:JS p k pl T rows (qs,ms)) (i:Nat):(i:Int)∈ms↔i∈cmn p pl rows qs:=by
 rw [zb1];constructor
 ·intro h;obtain⟨j,hj,hl⟩:=J.rg _ h;have:i=j:=by lia
  subst this;refine⟨hl,fun z hz=>?_⟩;obtain⟨l,rE⟩:=cF hz;rw [gO] at rE;exact (J.mem i hl).mp h l z.1 z.2 rE.1 rE.2
 ·rintro⟨hl,h⟩;exact (J.mem i hl).mpr fun l row q h1 h2=>h (row,q) (zip_get h1 h2)
theorem zog {qs:List (List Int)} {ms:List Int} (J:JS p k pl T rows (qs,ms)) (lY:rows≠[]):JN p k pl T rows qs:=by
 refine⟨J.len,J.isp,?_⟩;have h1:=J.many lY;have h2:(ms.map Int.toNat).Nodup:=bC.mpr (cD (fun {a b} ha hb nJ e=>by
  obtain⟨i,rfl,_⟩:=J.rg a ha;obtain⟨j,rfl,_⟩:=J.rg b hb;exact nJ #[O]) J.nd)
 have h3:=cr h2 (l₂:=cmn p pl rows qs) fun i hi=>by
  obtain⟨z,hz,rfl⟩:=aB.mp hi;obtain⟨j,rfl,_⟩:=J.rg z hz;exact (zmq J j).mp hz
 rw [ab] at h3;exact aU h1 h3
theorem zgG {rows:List (List (Option Int))} {row:List (Option Int)} {qs:List (List Int)} {q:List Int} (h:qs.length=rows.length):(rows++[row]).zip (qs++[q])=rows.zip qs++[(row,q)]:=by
 rw [List.zip_append h.symm];rfl
theorem zfJ {row:List (Option Int)} {qs:List (List Int)} {q:List Int} (h:JN p k pl T (rows++[row]) (qs++[q])):JN p k pl T rows qs:=by
 have hl:qs.length=rows.length:=by simpa using h.len
 refine⟨hl,fun x hx=>h.isp x (aK.mpr (.inl hx)),aU h.many ?_⟩;refine cr (zeq _) fun i hi=>?_
 rw [zb1] at hi ⊢;refine⟨hi.1,fun z hz=>hi.2 z ?_⟩;rw [zgG hl];exact aK.mpr (.inl hz)
theorem zl2 {row:List (Option Int)} {qs:List (List Int)} {ms q:List Int} (J:JS p k pl T rows (qs,ms)) (hr:row.length=pl.length) (h:JN p k pl T (rows++[row]) (qs++[q])):IsP p k q∧T≤hits p q (lD pl (zaa ms row)):=by
 refine⟨h.isp q #[M],aU h.many ?_⟩;rw [← zdH (by rw [zbO]; exact hr)];have hn:((cmn p pl (rows++[row]) (qs++[q])).map fun i:Nat=>(i:Int)).Nodup:=bC.mpr (gH (fun {a b} nJ e=>nJ #[O]) (zeq _));have:=cr hn (l₂:=zbd p pl (zaa ms row) q pl.length) fun z hz=>by
  obtain⟨i,hi,rfl⟩:=aB.mp hz;rw [zb1,zgG J.len] at hi;refine zc0.mpr ⟨i,rfl,hi.1,(ze8 hr i).mpr ⟨(zmq J i).mpr (zb1.mpr ⟨hi.1,fun z hz=>hi.2 z (aK.mpr (.inl hz))⟩),hi.2 (row,q) #[M]⟩⟩
 rwa [ab] at this
theorem zl3 (hp:1≤p) {as bs:List (List Int)} {a b:List Int} (ha:IsP p k a) (hb:IsP p k b) (h:nn p k as < nn p k bs):nn p k (as++[a]) < nn p k (bs++[b]):=by
 rw [zdL,zdL];have h1:=zfI hp ha;have h2:=zfI hp hb;have h3:(nn p k as+1)*p ^ k≤nn p k bs*p ^ k:=cq #[O] #[O];rw [Int.add_mul] at h3;lia
theorem zl4 (hp:1≤p) {out:List (List (List Int)×List Int)} {done:List (List (List Int))} {qs:List (List Int)} {L:List (List Int)} (f:List Int→List Int) (nd:(out.map (·.1)).Pairwise fun a b=>nn p k a < nn p k b) (hi:∀ o∈out,∀ q∈o.1,IsP p k q) (hd:∀ o∈out,∃ a x,o.1=a++[x]∧a∈done) (hq:∀ a∈done,nn p k a < nn p k qs) (hL:zgt p k L) :
  ((out++L.map fun q=>(qs++[q],f q)).map (·.1)).Pairwise (fun a b=>nn p k a < nn p k b)∧∀ o∈out++L.map (fun q=>(qs++[q],f q)),∃ a x,o.1=a++[x]∧a∈done++[qs]:=by
 constructor
 ·rw [aq,bt];refine i3.mpr ⟨nd,bC.mpr (gH (fun {a b} nJ=>?_) hL.2),fun a ha b hb=>?_⟩
  ·show nn p k (qs++[a]) < nn p k (qs++[b]);rw [zdL,zdL];lia
  ·obtain⟨o,ho,rfl⟩:=aB.mp ha;obtain⟨q,qT,rfl⟩:=aB.mp hb;obtain⟨c,x,e,hc⟩:=hd o ho;have hx:=hi o ho x (by rw [e]; simp);show nn p k o.1 < nn p k (qs++[q]);rw [e];exact zl3 hp hx (hL.1 q qT) (hq c hc)
 ·intro o ho;rcases aK.mp ho with h | h
  ·obtain⟨a,x,e,ha⟩:=hd o h;exact⟨a,x,e,aK.mpr (.inl ha)⟩
  ·obtain⟨q,_,rfl⟩:=aB.mp h;exact⟨qs,q,rfl,#[M]⟩
theorem zl5 {α:Type} {R:α→α→Prop} {l:List α} {i:Nat} {x:α} (h:l.Pairwise R) (hx:l[i]? = some x):∀ a∈l.take i,R a x:=fun a ha=>by
 obtain⟨j,hj⟩:=cF ha;rw [List.getElem?_take] at hj;split at hj
 ·next lF =>
  obtain⟨h1,e1⟩:=aA.mp hj;obtain⟨h2,e2⟩:=aA.mp hx;rw [← e1,← e2];exact dF.mp h j i h1 h2 lF
 ·cases hj
theorem zno {row:List (Option Int)} {ss out:List (List (List Int)×List Int)} (hr:row.length=pl.length) (hJ:∀ s∈ss,JS p k pl T rows s) (hc:∀ qs,JN p k pl T rows qs→qs∈ss.map (·.1)) (ho:∀ s∈ss,∀ q,IsP p k q→T≤hits p q (lD pl (zaa s.2 row))→s.1++[q]∈out.map (·.1)):∀ qs,JN p k pl T (rows++[row]) qs→qs∈out.map (·.1):=fun qs h=>by
 obtain⟨as,a,rfl⟩:∃ as a,qs=as++[a]:=by
  by_cases hq:qs = []
  ·have:=h.len;rw [hq] at this;simp at this
  ·exact⟨_,_,(List.dropLast_concat_getLast hq).symm⟩
 obtain⟨⟨qs,ms⟩,hs,e⟩:=aB.mp (hc as (zfJ h));have e:qs=as:=e;subst e;obtain⟨h1,h2⟩:=zl2 (hJ _ hs) hr h;exact ho _ hs a h1 h2
theorem zcj {lH:List (List (List Int))} (h:lH.Pairwise fun a b=>nn p k a < nn p k b):lH.Nodup:=h.imp (fun {a b} nJ e=>by rw [e] at nJ; lia)
theorem zgH {α:Type} {f:α→Int}:∀ {as bs:List α},(as.Pairwise fun a b=>f a < f b)→(bs.Pairwise fun a b=>f a < f b)→(∀ q,q∈as↔q∈bs)→as=bs
 | [],[],_,_,_=>rfl
 | [],b :: bs,_,_,h=>by
  have:=(h b).mpr az;cases this
 | a :: as,[],_,_,h=>by
  have:=(h a).mp az;cases this
 | a :: as,b :: bs,ha,hb,h=>by
  obtain⟨pa,ta⟩:=jE.mp ha;obtain⟨pb,tb⟩:=jE.mp hb;have e:a=b:=by
   rcases (aC.mp ((h a).mp az)) with e | ma
   ·exact e
   ·rcases (aC.mp ((h b).mpr az)) with e | mb
    ·exact e.symm
    ·have:=pb a ma;have:=pa b mb;lia
  subst e;rw [zgH ta tb fun q=>?_];constructor
  ·intro hq;rcases aC.mp ((h q).mp (aj _ hq)) with e | hm
   ·rw [e] at hq;have:=pa a hq;lia
   ·exact hm
  ·intro hq;rcases aC.mp ((h q).mpr (aj _ hq)) with e | hm
   ·rw [e] at hq;have:=pb a hq;lia
   ·exact hm
theorem zer (hp:1≤p) {m:Nat} {out src lH:List (List (List Int))} (hs:out.Perm src) (h1:out.Pairwise fun a b=>nn p k a≤nn p k b) (hn:src.Nodup) (hl:∀ qs∈src,qs.length=m∧∀ q∈qs,IsP p k q) (h2:lH.Pairwise fun a b=>nn p k a < nn p k b) (hm:∀ qs,qs∈lH↔qs∈src):lH=out:=by
 refine zgH h2 ?_ fun q=>by rw [hm,hs.mem_iff]
 refine cD (fun {a b} ha hb h=>?_) (h1.and (hs.nodup_iff.mpr hn));have la:=hl a (hs.mem_iff.mp ha);have lb:=hl b (hs.mem_iff.mp hb);have:nn p k a≠nn p k b:=fun e=>h.2 (znn hp (la.1.trans lb.1.symm) la.2 lb.2 e)
 have:=h.1;lia
theorem zir {qs:List (List Int)} {l:Nat} {row:List (Option Int)} {q:List Int} (h:JN p k pl T rows qs) (h1:rows[l]? = some row) (h2:qs[l]? = some q) (hr:row.length=pl.length):IsP p k q∧T≤hits p q (lD pl row):=by
 refine⟨h.isp q (aE h2),aU h.many ?_⟩;rw [← zdH hr];have hn:((cmn p pl rows qs).map fun i:Nat=>(i:Int)).Nodup:=bC.mpr (gH (fun {a b} nJ e=>nJ #[O]) (zeq _));have:=cr hn (l₂:=zbd p pl row q pl.length) fun z hz=>by
  obtain⟨i,hi,rfl⟩:=aB.mp hz;rw [zb1] at hi;exact zc0.mpr ⟨i,rfl,hi.1,hi.2 (row,q) (zip_get h1 h2)⟩
 rwa [ab] at this
end
end My
end
section
namespace My
open PySem L2 PyProof.Rows
section
variable {P:Program} {w:World} {K:ag} {mg:Str→Option Value} {base:Heap} {t:Adr}
theorem zl6 (i:Int) (ms:List Int):inV (.int i) (ms.map V.int)=decide (i∈ms):=by
 rw [cf,decide_eq_true_iff];unfold inV;rw [g8];constructor
 ·rintro⟨y,hy,e⟩;obtain⟨m,hm,rfl⟩:=aB.mp hy;have:m=i:=by simpa [eqV] using e
  rw [← this];exact hm
 ·intro h;exact⟨.int i,aB.mpr ⟨i,h,rfl⟩,by simp [eqV]⟩
def zfK (K:ag):Sp:=fun vs H Q _=>∃ (r a:Addr) (rw:List (Option Int)) (ms:List Int),vs = [.ref r,.ref a]∧H r=some (.lst (rw.map mJ))∧H a=some (.lst (ms.map V.int))∧rw.length≤1000 ∧
 ∀ (l:Addr) (H':Hp),H l=none→zy H H'→H' l=some (.lst ((zaa ms rw).map mJ))→Q (.ref l) H'
theorem zjg {ms:List Int} {rw:List (Option Int)} {i:Nat} {o:Option Int} (h:rw[i]? = some o):(zaa ms rw).take (i+1)=(zaa ms rw).take i++[if (i:Int)∈ms then o else none]:=take_snoc (zfF h)
theorem zgI:FnScope ["row","numbers"] ["row","numbers"] (zj zbw):=#[S]
theorem zgJ {fd:FuncData} (T:Txt K mg t) (F:Fun K "heard_at" "heard_at" zbw t.heard_at fd):FnOk P w K mg base CX0 1 t.heard_at fd ["row","numbers"] (zfK K):=by
 refine F.ok zgI (fun vs H Q E h=>?_) (fun lP A outer s H vs Q E hr h=>?_)
 ·obtain⟨r,a,rw,ms,rfl,_⟩:=h;rfl
 ·obtain⟨r,a,rw,ms,rfl,pU,ha,hn,q⟩:=h;refine zbi ?_; intro zX;refine⟨_,#[zo,#[zM,#[zaj,(CompSc.of (N':=["at","entry","numbers"]) (ix:=[none,none,some 1]) (zj zbw) ["row","numbers"] rfl rfl #[N]),#[zbs,#[zW,#[zW,#[za4]]]],#[zfW,T.enumerate_,#[ya,#[pvx,0]]],(fun _ _ _ _=>#[zaU,(K),2,#[zm,#[zi,0,(show (["at","entry","numbers"]:List Str).Nodup from #[N]),#[A]],#[zm,#[zi,1,(show (["at","entry","numbers"]:List Str).Nodup from #[N]),#[A]],#[zY]]]]),(fun _ _ _ _=>#[zN]),(fun _ _ _ _=>#[zdP,#[zK,(@zg0 _ (K) rfl),#[pvx,0],#[pvx,2],(by with_unfolding_all rfl)],#[pvx,1],#[zbC]])]]],?_⟩;have oD:=bi;refine⟨_,rfl,r,_,rfl,kS.of pU,z9 (n:=rw.length) (fun i ys H'=>ys=((zaa ms rw).take i).map mJ∧zy H H') ⟨rfl,fun _ _ e=>e⟩ ?_ ?_ ?_ ?_⟩
  ·rintro i ys H3 hi ⟨_,s3⟩;exact⟨_,mJ rw[i],kS.of (s3 _ _ pU),by rw [ak,ap hi]; rfl⟩
  ·rintro ys H3 ⟨_,s3⟩;exact⟨_,kS.of (s3 _ _ pU),by rw [ab]; exact af _⟩
  ·rintro zS zT zE i xx ys H3 H4 hi ⟨rfl,s3⟩ ⟨T,u,hT,rfl,rfl,hu⟩;obtain⟨o,rfl,ho⟩:=zcL (hu _ (kS.of (s3 _ _ pU)));have s4:=s3.trans (ze (o:=.tup [.int i,mJ o]) hT);have hl:(((zaa ms rw).take i).map mJ).length < sizeLine:=by rw [ab,aI]; lia
   refine gY2 (k6.of zd) ?_;refine⟨_,rfl,_,rfl,a,_,rfl,.inl (kS.of (s4 _ _ ha)),rfl,?_,_,rfl,?_⟩
   ·rw [dj];intro y hy;obtain⟨m,_,rfl⟩:=aB.mp hy;rfl
   rw [zjg ho,aq,zl6];refine zaX (fun h=>⟨_,rfl,hl,?_,s4⟩) (fun h=>⟨hl,?_,s4⟩)
   ·rw [if_pos (of_decide_eq_true h)]; rfl
   ·rw [if_neg (fun z=>h (decide_eq_true z))]; rfl
  ·rintro ys H3 D ⟨rfl,s3⟩ hD;rw [aQ (by rw [zbO]; exact af _)];exact q D _ (s3.free hD) (s3.trans (ze hD)) zd
def SA0 (H:Hp):List Addr→List (List (List Int)×List Int)→Prop:=Paired fun b s=>∃ ka na rs,H b=some (.tup [.ref ka,.ref na])∧H ka=some (.tup (rs.map V.ref))∧zaG H rs s.1∧H na=some (.lst (s.2.map V.int))
theorem SA0.same {H H':Hp} (s:zy H H') {bs:List Addr} {ss:List (List (List Int)×List Int)} (h:SA0 H bs ss):SA0 H' bs ss:=bw (fun _ _ ⟨ka,na,rs,z1,z2,z3,z4⟩=>⟨ka,na,rs,s _ _ z1,s _ _ z2,z3.same s,s _ _ z4⟩) h
def SAt (lg:Addr) (H:Hp):List Addr→List (List (List Int)×List Int)→Prop:=Paired fun b s=>∃ ka na rs,H b=some (.tup [.ref ka,.ref na])∧H ka=some (.tup (rs.map V.ref))∧zaG H rs s.1∧H na=some (.lst (s.2.map V.int))∧na≠lg
theorem SAt.same {lg:Addr} {H H':Hp} (s:zy H H') {bs:List Addr} {ss:List (List (List Int)×List Int)} (h:SAt lg H bs ss):SAt lg H' bs ss:=bw (fun _ _ ⟨ka,na,rs,z1,z2,z3,z4,z5⟩=>⟨ka,na,rs,s _ _ z1,s _ _ z2,z3.same s,s _ _ z4,z5⟩) h
theorem SAt.zero {lg:Addr} {H:Hp} {bs:List Addr} {ss:List (List (List Int)×List Int)} (h:SAt lg H bs ss):SA0 H bs ss:=bw (fun _ _ ⟨ka,na,rs,z1,z2,z3,z4,_⟩=>⟨ka,na,rs,z1,z2,z3,z4⟩) h
theorem zbH {H:Hp} {a lg:Addr} {xs ys:List V} (h:H a=some (.tup xs)) (hl:H lg=some (.lst ys)):a≠lg:=fun e=>by rw [e,hl] at h; cases h
theorem SAt.hide {lg:Addr} {H:Hp} {bs:List Addr} {ss:List (List (List Int)×List Int)} {xs:List V} (h:SAt lg H bs ss) (hl:H lg=some (.lst xs)):SAt lg (hide H lg) bs ss:=bw (fun _ _ ⟨ka,na,rs,z1,z2,z3,z4,z5⟩=>⟨ka,na,rs,zaE z1 (zbH z1 hl),zaE z2 (zbH z2 hl),bw (fun _ _ z=>zaE z (zbH z hl)) z3,zaE z4 z5,z5⟩) h
theorem SAt.put {lg:Addr} {H:Hp} {bs:List Addr} {ss:List (List (List Int)×List Int)} {xs:List V} {o:HO} (h:SAt lg H bs ss) (hl:H lg=some (.lst xs)):SAt lg (kW H lg o) bs ss:=bw (fun _ _ ⟨ka,na,rs,z1,z2,z3,z4,z5⟩=>⟨ka,na,rs,by rw [zq (zbH z1 hl)]; exact z1,by rw [zq (zbH z2 hl)]; exact z2,z3.put hl,by rw [zq z5]; exact z4,z5⟩) h
def zeD (K:ag):Sp:=fun vs H Q _=>∃ (c tt ra:Addr) (p:Int) (k T:Nat) (pl:List Int) (sh:List Addr) (rws:List (List (Option Int))),vs = [.ref c,.ref ra,.int (T:Int)]∧zbu H c tt p k pl∧H ra=some (.lst (sh.map V.ref))∧zi7 pl.length H sh rws∧rws.length≤10∧pl.length≤16∧p∈zp∧pl.Nodup∧(∀ x∈pl,0≤x∧x < p)∧(∀ rw∈rws,∀ z,some z∈rw→0≤z∧z < p)∧1≤k∧k≤100∧k≤T∧rws≠[] ∧
 ∀ (l:Addr) (us:List Addr) (lH:List (List (List Int))) (H':Hp),H l=none→zy H H'→H' l=some (.lst (us.map V.ref))→us.length≤65536→zbx H' us lH→(lH.Pairwise fun a b=>nn p k a < nn p k b)→(∀ qs,qs∈lH↔JN p k pl T rws qs)→Q (.ref l) H'
theorem zaf:FnScope ["code","rows","t","starts","row","longer","known","numbers","heard","polynomial"] ["code","rows","t"] (zj za8):=#[S]
theorem zeE {fd:FuncData} (T:Txt K mg t) (F:Fun K "joint_near" "joint_near" za8 t.joint_near fd):FnOk P w K mg base CX0 6 t.joint_near fd ["code","rows","t"] (zeD K):=by
 obtain⟨qw,oU,nk⟩:=T.f_heard_at;have rf:=zgJ (P:=P) (w:=w) (base:=base) T oU;obtain⟨n9,lM,lN⟩:=T.f_all_near;have mO:=zdn (P:=P) (w:=w) (base:=base) T lM;obtain⟨rQ,oR,oS⟩:=T.f_fits;have rd:=zio (P:=P) (w:=w) (base:=base) T oR;refine F.ok zaf (fun vs H Q E h=>?_) (fun lP A outer s H vs Q E hr h=>?_)
 ·obtain⟨c,tt,ra,p,k,T',pl,sh,rws,rfl,_⟩:=h;rfl
 ·obtain⟨c,tt,ra,p,k,T',pl,sh,rws,rfl,hc,pR,xX,ve,hn,hp,nD,mq,qU,k0,k1,kT,Eg,q⟩:=h;refine zbi ?_; intro zX;refine⟨_,#[zf,#[zr,3,zaf.nd,#[A],#[zac,#[ya,#[zaH,#[zc,#[zaH,#[zg]],#[ya,#[zaL,#[zcy],T.list_,boot_list,#[ya,#[zaL,#[zdj],T.range_,iV,#[ya,#[zQ,#[zO],T.len_,c8,#[ya,#[zL,#[zbb],#[pvx,0],#[zh]]]]]]]]]]]]]],#[zf,#[zaP,br,#[z0,#[pvx,1]],#[zi,4,zaf.nd,#[A]],#[zf,#[zr,5,zaf.nd,#[A],#[zac,#[zg]]],#[zf,#[zaP,br,#[z0,#[pvx,3]],#[za2,#[zm,#[zi,6,zaf.nd,#[A]],#[zm,#[zi,7,zaf.nd,#[A]],#[zY]]]],#[zf,#[zr,8,zaf.nd,#[A],#[zw,rf,(hr.mono #[D]),T.m_heard_at,oU.kp,nk,#[zR],#[zc,#[pvx,4],#[ya,#[pvx,7]]]]],#[zo,#[zaP,br,#[z0,#[zw,mO,(hr.mono #[D]),T.m_all_near,lM.kp,lN,#[zR],#[zc,#[pvx,0],#[zc,#[pvx,8],#[ya,#[pvx,2]]]]]],#[zi,9,zaf.nd,#[A]],#[zo,#[zbP,#[zdg,bV,b8,b9,#[zbc],#[pvx,5],#[ya,#[zaH,#[zc,#[zl,#[zfB],#[pvx,6],#[zaH,#[ya,#[pvx,9]]]],#[ya,#[zw,rd,(hr.mono #[D]),T.m_fits,oR.kp,oS,#[zR],#[zc,#[pvx,0],#[zc,#[pvx,8],#[ya,#[pvx,9]]]]]]]]]]]]]]]],#[zo,#[zr,3,zaf.nd,#[A],#[pvx,5]]]]]],#[zo,#[zM,#[zaj,(CompSc.of (N':=["known","numbers"]) (ix:=[none,none]) (zj za8) ["code","rows","t","starts","row","longer","known","numbers","heard","polynomial"] rfl rfl #[N]),#[zbs,#[zW,#[zW,#[za4]]]],#[z0,#[pvx,3]],(fun _ _ _ _=>#[zaU,(K),2,#[zm,#[zi,0,(show (["known","numbers"]:List Str).Nodup from #[N]),#[A]],#[zm,#[zi,1,(show (["known","numbers"]:List Str).Nodup from #[N]),#[A]],#[zY]]]]),(fun _ _ _ _=>#[zN]),(fun _ _ _ _=>#[pvx,0])]]]]],?_⟩;refine zjC ?_; intro qI qd;have oD:=bi;have rp:=zu hp;have vo:sh.length=rws.length:=xX.length;have h2n:2 ^ pl.length≤65536:=i5 #[D] hn;refine⟨by show 0≤sizeLine; lia,fun ka hka=>?_⟩;have u1:=ze (o:=.tup []) hka;have f1:kW H ka (.tup []) ka=some (.tup []):=zd;generalize kW H ka (.tup [])=H1 at u1 f1 ⊢;have sR:=hc.same u1;refine⟨_,rfl,c,_,_,_,rfl,rfl,k6.of sR.1,rfl,tt,_,rfl,.inr (k6.of sR.2),_,rfl,fun r vU=>⟨r,_,rfl,zd,#[O],by rw [ab]; lia,fun na yF=>?_⟩⟩;have e0:(((pl.map V.int).length:Nat):Int).toNat=pl.length:=by rw [ab]; lia
  rw [e0];have u2:=(ze (o:=.rng 0 (((pl.map V.int).length:Nat):Int)) vU).trans (ze (o:=.lst ((zaw 0 pl.length).map V.int)) yF);have f2:kW (kW H1 r (.rng 0 (((pl.map V.int).length:Nat):Int))) na (.lst ((zaw 0 pl.length).map V.int)) na=some (.lst ((zaw 0 pl.length).map V.int)):=zd;generalize kW (kW H1 r (.rng 0 (((pl.map V.int).length:Nat):Int))) na (.lst ((zaw 0 pl.length).map V.int))=H2 at u2 f2 ⊢;refine⟨by show 2≤sizeLine; lia,fun b hb=>?_⟩;have u3:=ze (o:=.tup [.ref ka,.ref na]) hb;have f3:kW H2 b (.tup [.ref ka,.ref na]) b=some (.tup [.ref ka,.ref na]):=zd;generalize kW H2 b (.tup [.ref ka,.ref na])=H3 at u3 f3 ⊢;refine⟨by show 1≤sizeLine; lia,fun sa ql=>?_⟩;have u4:=ze (o:=.lst [.ref b]) ql;have f4:kW H3 sa (.lst [.ref b]) sa=some (.lst ([b].map V.ref)):=zd;generalize kW H3 sa (.lst [.ref b])=H4 at u4 f4 ⊢;have s4:=u1.trans (u2.trans (u3.trans u4));have hS4:SA0 H4 [b] [([],zaw 0 pl.length)]:=.cons ⟨ka,na,[],u4 _ _ f3,(u2.trans (u3.trans u4)) _ _ f1,.nil,(u3.trans u4) _ _ f2⟩ .nil;refine⟨_,rfl,ra,rfl,⟨_,kS.of (s4 _ _ pR)⟩,zaC (K:=K) (a:=ra) (xs:=sh.map V.ref) (fun j σ H'=>∃ (sa:Addr) (bs:List Addr) (ss:List (List (List Int)×List Int)) (e4 e5 e6 e7 e8 e9:Option V),σ = [some (.ref c),some (.ref ra),some (.int (T':Int)),some (.ref sa),e4,e5,e6,e7,e8,e9]∧zy H H'∧H' sa=some (.lst (bs.map V.ref))∧SA0 H' bs ss∧(∀ s∈ss,JS p k pl T' (rws.take j) s)∧((ss.map (·.1)).Pairwise fun a b=>nn p k a < nn p k b)∧(∀ qs,JN p k pl T' (rws.take j) qs→qs∈ss.map (·.1))∧ss.length≤65536)
   ⟨sa,[b],[([],zaw 0 pl.length)],none,none,none,none,none,none,rfl,s4,f4,hS4,fun s hs=>by rw [aN.mp hs]; exact zl0,List.pairwise_singleton _ _,fun qs hq=>(by have h0:=hq.len; simp at h0; simp [h0]),by show 1≤65536; decide⟩ (fun j σ H' _ ⟨_,_,_,_,_,_,_,_,_,_,s',_⟩=>kS.of (s' _ _ pR)) ?_ ?_⟩
  ·rintro zD zT j x σ H5 hx ⟨sa,bs,ss,e4,e5,e6,e7,e8,e9,rfl,s5,xl,Az,hJ,Eh,xM,Ei⟩;obtain⟨rb,rfl,BI⟩:=zP hx;obtain⟨rw,mW,mV,qe⟩:=Paired.get xX BI;have Ej:=qU rw (aE mW);have htk:rws.take (j+1)=rws.take j++[rw]:=take_snoc mW;have lY:rws.take j++[rw]≠[]:=by simp
   refine⟨by show 0≤sizeLine; lia,fun lg hlg=>?_⟩;have Ek:=hlg;have u6:=ze (o:=.lst []) hlg;have f6:kW H5 lg (.lst []) lg=some (.lst []):=zd;generalize kW H5 lg (.lst [])=H6 at u6 f6 ⊢;have xm:=Az.length;refine⟨_,rfl,sa,rfl,⟨_,kS.of (u6 _ _ xl)⟩,zaC (K:=K) (a:=sa) (xs:=bs.map V.ref) (fun i σ H'=>∃ (us:List Addr) (out:List (List (List Int)×List Int)) (e6 e7 e8 e9:Option V),σ = [some (.ref c),some (.ref ra),some (.int (T':Int)),some (.ref sa),some (.ref rb),some (.ref lg),e6,e7,e8,e9]∧zy H5 H'∧H' lg=some (.lst (us.map V.ref))∧SAt lg H' us out∧(∀ s∈out,JS p k pl T' (rws.take j++[rw]) s)∧((out.map (·.1)).Pairwise fun a b=>nn p k a < nn p k b)∧(∀ o∈out,∃ a x,o.1=a++[x]∧a∈(ss.take i).map (·.1))∧∀ s∈ss.take i,∀ q,IsP p k q→T'≤hits p q (lD pl (zaa s.2 rw))→s.1++[q]∈out.map (·.1))
    ⟨[],[],e6,e7,e8,e9,rfl,u6,f6,.nil,fun s hs=>(by cases hs),.nil,fun o ho=>(by cases ho),fun s hs=>(by cases hs)⟩ (fun i σ H' _ ⟨_,_,_,_,_,_,_,s',_⟩=>kS.of (s' _ _ xl)) ?_ ?_⟩
   ·rintro zD zT i x σ H7 hx ⟨us,out,e6,e7,e8,e9,rfl,s7,AA,BJ,AB,BK,hdo,BL⟩;obtain⟨sb,rfl,lX⟩:=zP hx;obtain⟨⟨qs,ms⟩,xY,ka,na,rs,z1,z2,z3,z4⟩:=Paired.get (Az.same s7) lX;have hJi:=hJ _ (aE xY);refine⟨sb,_,rfl,k6.of z1,rfl,_,_,rfl,_,_,rfl,rfl,?_⟩;refine⟨_,rfl,_,rfl,rb,na,rw,ms,rfl,(s5.trans s7) _ _ mV,z4,#[O],fun hd H8 hhd s8 h8=>?_⟩;have s08:=(s5.trans s7).trans s8;refine⟨_,rfl,_,rfl,_,rfl,c,tt,hd,p,k,_,pl,zaa ms rw,rfl,hc.same s08,h8,by rw [zbO]; exact qe,hn,hp,nD,mq,zlZ Ej,k0,k1,#[O],fun nl ns qN H9 xU s9 h9 BM El BN=>?_⟩;have hql:∀ a∈(ss.take i).map (·.1),nn p k a < nn p k qs:=by
     rw [eE];exact zl5 Eh (by rw [ak,xY]; rfl)
    have ug:∀ r,(∀ s∈out++(qN.take r).map (fun q=>(qs++[q],zbd p pl (zaa ms rw) q pl.length)),JS p k pl T' (rws.take j++[rw]) s)∧((out++(qN.take r).map (fun q=>(qs++[q],zbd p pl (zaa ms rw) q pl.length))).map (·.1)).Pairwise (fun a b=>nn p k a < nn p k b)∧∀ o∈out++(qN.take r).map (fun q=>(qs++[q],zbd p pl (zaa ms rw) q pl.length)),∃ a x,o.1=a++[x]∧a∈(ss.take i).map (·.1)++[qs]:=fun r=>by
     have h1:=zl4 #[O] (fun q=>zbd p pl (zaa ms rw) q pl.length) BK (fun o ho=>(AB o ho).isp) hdo hql (show zgt p k (qN.take r) from ⟨fun q hq=>El.1 q (c7 hq),El.2.sublist (cj r qN)⟩);refine⟨fun s hs=>?_,h1⟩;rcases aK.mp hs with h | h
     ·exact AB s h
     ·obtain⟨qq,hq,rfl⟩:=aB.mp h;have hm:=(BN qq).mp (c7 hq);exact zl1 hJi qe hm.1 #[O]
    have Em:∀ r,(out++(qN.take r).map (fun q=>(qs++[q],zbd p pl (zaa ms rw) q pl.length))).length≤65536:=fun r=>aU (zgB hp nD mq kT lY (ug r).1 (zcj (ug r).2.1)) h2n
    have AD:=s9 _ _ (s8 _ _ AA);have hhl:hd≠lg:=fun e=>by rw [e,AA] at hhd; cases hhd
    have En:nl≠lg:=fun e=>by rw [e,s8 _ _ AA] at xU; cases xU
    have s59:zy H5 (hide H9 lg):=fun a o e=>zaE ((s7.trans (s8.trans s9)) _ _ e) (fun z=>by rw [z,Ek] at e; cases e)
    have s05:=s5.trans s59;have hSo9:=(BJ.same (s8.trans s9)).hide AD;have h9n:=zaE h9 En;have h9h:=zaE (s9 _ _ h8) hhl;have hT9:zaG (hide H9 lg) ns qN:=bw (fun _ _ z=>zaE z (zbH z AD)) BM;have z2':=zaE (s9 _ _ (s8 _ _ z2)) (zbH (s9 _ _ (s8 _ _ z2)) AD);have z3':zaG (hide H9 lg) rs qs:=bw (fun _ _ z=>zaE z (zbH z AD)) ((z3.same s8).same s9);have Eo:=BM.length;refine⟨nl,rfl,⟨_,kS.of h9⟩,zaC (K:=K) (a:=nl) (xs:=ns.map V.ref) (fun r σ H'=>∃ (vs:List Addr) (e9:Option V),σ = [some (.ref c),some (.ref ra),some (.int (T':Int)),some (.ref sa),some (.ref rb),some (.ref lg),some (.ref ka),some (.ref na),some (.ref hd),e9]∧zy (hide H9 lg) H'∧H' lg=some (.lst (vs.map V.ref))∧SAt lg H' vs (out++(qN.take r).map (fun q=>(qs++[q],zbd p pl (zaa ms rw) q pl.length))))
     ⟨us,e9,rfl,zgc _ _,AD,by rw [dJ,eP,bI]; exact BJ.same (s8.trans s9)⟩ (fun r σ H' _ ⟨_,_,_,s',_⟩=>kS.of (s' _ _ h9n)) ?_ ?_⟩
    ·rintro zD zT r x σ Ha hx ⟨vs,e9',rfl,vz,xk,AE⟩;obtain⟨rq,rfl,Ed⟩:=zP hx;obtain⟨qq,Ee,AF⟩:=Paired.get hT9 Ed;have rG:=AE.length;have hcr:=Em r;have Ep:=z3'.length;have Ef:qs.length=(rws.take j).length:=hJi.len;rw [aI] at Ef;have hjlt:=(aA.mp BI).1;refine⟨_,rfl,.inl ⟨rfl,_,kS.of xk⟩,_,rfl,_,rfl,by show 1≤sizeLine; lia,fun x1 oF=>?_⟩;have w1:=ze (o:=.tup [.ref rq]) oF;have g1:kW Ha x1 (.tup [.ref rq]) x1=some (.tup ([rq].map V.ref)):=zd;generalize kW Ha x1 (.tup [.ref rq])=Hb at w1 g1 ⊢;refine⟨ka,x1,_,_,rfl,rfl,w1 _ _ (vz _ _ z2'),g1,by rw [ab,Ep]; show _+1≤sizeLine; lia,#[M],fun x2 Hc w2 g2=>?_⟩;have AG:=w1.trans w2;have sHc:=s05.trans (vz.trans AG);refine⟨_,rfl,_,rfl,_,rfl,c,tt,hd,rq,p,k,pl,qq,zaa ms rw,rfl,hc.same sHc,(vz.trans AG) _ _ h9h,by rw [zbO]; exact qe,(vz.trans AG) _ _ AF,#[O],#[O],mq,#[O],fun fl Hd xS w3 g3=>?_⟩;refine⟨by show 2≤sizeLine; lia,fun pr Bt=>?_⟩;have w4:=ze (o:=.tup [.ref x2,.ref fl]) Bt;have g4:kW Hd pr (.tup [.ref x2,.ref fl]) pr=some (.tup [.ref x2,.ref fl]):=zd;generalize kW Hd pr (.tup [.ref x2,.ref fl])=He at w4 g4 ⊢;have AH:=AG.trans (w3.trans w4);have sT:=AH _ _ xk;refine⟨lg,_,_,rfl,rfl,sT,by rw [ab]; lia,?_⟩;have Er:hide H9 lg lg=none:=by unfold hide; rw [if_pos rfl]
     have AI:fl≠lg:=fun e=>by
      have:=AG _ _ xk;rw [← e,xS] at this;cases this
     have hSe:=AE.same AH;refine⟨vs++[pr],_,rfl,zal (vz.trans AH) Er,by rw [zd,aq]; rfl,?_⟩;rw [take_snoc Ee,aq,← bj];refine bH (hSe.put sT) ⟨x2,fl,rs++[rq],?_,?_,?_,?_,AI⟩
     ·rw [zq (zbH g4 sT)]; exact g4
     ·have pv:=(w3.trans w4) _ _ g2;rw [zq (zbH pv sT),pv,aq]
     ·exact zaG.put (bH (z3'.same (vz.trans AH)) ((vz.trans AH) _ _ AF)) sT
     ·rw [zq AI];exact w4 _ _ g3
    ·rintro σ Ha ⟨vs,e9',rfl,vz,xk,AE⟩;rw [ab,Eo,aV] at AE;have h3:=ug qN.length;rw [aV] at h3;refine⟨vs,_,_,_,_,_,rfl,s59.trans vz,xk,AE,h3.1,h3.2.1,?_,?_⟩
     ·rw [take_snoc xY,aq];exact h3.2.2
     ·rw [take_snoc xY];intro s hs q hq hh;rw [aq,aK];rcases aK.mp hs with hs | hs
      ·exact .inl (BL s hs q hq hh)
      ·rw [aN.mp hs] at hh ⊢;exact .inr (aB.mpr ⟨_,aB.mpr ⟨q,(BN q).mpr ⟨hq,by have:T'≤hits p q (lD pl (zaa ms rw)):=hh; lia⟩,rfl⟩,rfl⟩)
   ·rintro σ H7 ⟨us,out,e6,e7,e8,e9,rfl,s7,AA,BJ,AB,BK,hdo,BL⟩;refine⟨_,rfl,?_⟩;refine⟨lg,us,out,_,_,_,_,_,_,rfl,s5.trans s7,AA,BJ.zero,by rw [htk]; exact AB,BK,?_,aU (zgB hp nD mq kT lY AB (zcj BK)) h2n⟩;rw [htk];rw [ab,xm,aV] at BL;exact zno qe hJ xM BL
  ·rintro σ H5 ⟨sa,bs,ss,e4,e5,e6,e7,e8,e9,rfl,s5,xl,Az,hJ,Eh,xM,Ei⟩;rw [ab,vo,aV] at hJ xM;have xm:=Az.length;refine⟨_,rfl,sa,rfl,⟨_,kS.of xl⟩,z9 (n:=bs.length) (fun i ys H'=>H'=H5∧∃ us:List Addr,ys=us.map V.ref∧us.length=i∧zbx H5 us ((ss.take i).map (·.1))) ⟨rfl,[],rfl,rfl,.nil⟩ ?_ ?_ ?_ ?_⟩
   ·rintro i ys H6 hi ⟨rfl,_⟩;exact⟨_,.ref bs[i],kS.of xl,by rw [ak,ap hi]; rfl⟩
   ·rintro ys H6 ⟨rfl,_⟩;exact⟨_,kS.of xl,by rw [ab]; exact af _⟩
   ·rintro zS zT zE i x ys H6 H7 hi ⟨rfl,us,rfl,oH,BO⟩ ⟨rfl,hx⟩;obtain⟨sb,rfl,lX⟩:=zP (hx _ (kS.of xl));obtain⟨⟨qs,ms⟩,xY,ka,na,rs,z1,z2,z3,z4⟩:=Paired.get Az lX;refine gY2 (k6.of z1) ?_;exact⟨_,rfl,by rw [ab]; lia,rfl,us++[ka],by rw [aq]; rfl,by rw [ao,oH]; rfl,by rw [take_snoc xY,aq]; exact bH BO ⟨rs,z2,z3⟩⟩
   ·rintro ys H6 D ⟨rfl,us,rfl,oH,BO⟩ hD;rw [xm,aV] at BO;refine q D us _ _ (s5.free hD) (s5.trans (ze hD)) zd #[O] (BO.same (ze hD)) Eh fun qs=>⟨fun h=>?_,xM qs⟩
    obtain⟨⟨qs',ms⟩,hs,e⟩:=aB.mp h;have e:qs'=qs:=e;subst e;exact zog (hJ _ hs) Eg
end
end My
end
section
namespace My
open PySem L2 PyProof.Rows Srt
section
variable {p:Int} {k T:Nat} {pl:List Int} {r0 r1 r2:List (Option Int)}
theorem zdM {q:List Int} {i:Nat} (h:zak p pl r0 q i=true):∃ x y,pl[i]? = some x∧r0[i]? = some (some y)∧zn p x q=y:=by
 unfold zak at h;split at h
 ·next x y h1 h2=>exact⟨x,y,h1,h2,(of_decide_eq_true h).symm⟩
 ·cases h
theorem zl7 {q:List Int} {i:Nat} {x y:Int} (h1:pl[i]? = some x) (h2:r0[i]? = some (some y)) (h:zn p x q=y):zak p pl r0 q i=true:=by
 unfold zak;rw [h1,h2];exact decide_eq_true h.symm
theorem zdd {qs:List (List Int)}:JN p k pl T [r0,r1] qs↔∃ a b,qs = [a,b]∧IsP p k a∧IsP p k b∧T≤((aR pl.length).filter fun i=>zak p pl r0 a i && zak p pl r1 b i).length:=by
 constructor
 ·intro h;obtain⟨a,b,rfl⟩:∃ a b,qs = [a,b]:=by
   have:=h.len
   match qs,this with
   | [a,b],_=>exact⟨a,b,rfl⟩
  have hm:=h.many;unfold cmn at hm;simp only [eL,gv,gi,List.all_nil,jb] at hm;exact⟨a,b,rfl,h.isp a #[M],h.isp b #[M],hm⟩
 ·rintro⟨a,b,rfl,ha,hb,hm⟩;refine⟨rfl,fun q hq=>?_,?_⟩
  ·rcases (aC.mp hq) with rfl | hq
   ·exact ha
   ·rw [aN.mp hq]; exact hb
  ·unfold cmn;simp only [eL,gv,gi,List.all_nil,jb];exact hm
theorem zkP {a b:List Int}:JN p k pl T [r1,r0] [b,a]↔JN p k pl T [r0,r1] [a,b]:=by
 rw [zdd,zdd];constructor
 ·rintro⟨b',a',e,h1,h2,h3⟩;cases e;exact⟨a,b,rfl,h2,h1,by simpa only [kJ] using h3⟩
 ·rintro⟨a',b',e,h1,h2,h3⟩;cases e;exact⟨b,a,rfl,h2,h1,by simpa only [kJ] using h3⟩
theorem zgK (hp:p∈zp) (nD:pl.Nodup) (mq:∀ x∈pl,0≤x∧x < p) (hk:k≤T) {a b c d:List Int} (hd:IsP p k d) (hf:∀ i,zak p pl r0 a i=true→zak p pl r1 b i=true→zak p pl r2 d i=true):JN p k pl T [r0,r1,r2] [a,b,c]↔JN p k pl T [r0,r1] [a,b]∧c=d:=by
 constructor
 ·intro h;have h0:JN p k pl T [r0,r1] [a,b]:=zfJ (rows:=[r0,r1]) (row:=r2) (qs:=[a,b]) (q:=c) h;refine⟨h0,?_⟩;have hc:=h.isp c #[M];have hm:=h.many;have og:∀ i∈cmn p pl [r0,r1,r2] [a,b,c],zak p pl r2 c i=true∧zak p pl r2 d i=true∧i < pl.length:=fun i hi=>by
   rw [zb1] at hi;have f0:=hi.2 (r0,a) #[M];have f1:=hi.2 (r1,b) #[M];exact⟨hi.2 (r2,c) #[M],hf i f0 f1,hi.1⟩
  refine zcf hp (xs:=(cmn p pl [r0,r1,r2] [a,b,c]).map fun i=>gl pl i) (by rw [hc.1,hd.1]) (by rw [hc.1,ab]; lia) ?_ (fun x hx=>?_) hc.2 hd.2 (fun x hx=>?_)
  ·refine bC.mpr (cD (fun {i j} hi hj pf e=>pf ?_) (zeq _));have li:=(og i hi).2.2;have lj:=(og j hj).2.2;have h1:=zaY li;have h2:=zaY lj;have e:gl pl i=gl pl j:=e;rw [e,← h2] at h1;exact (jO li nD).mp h1
  ·obtain⟨i,hi,rfl⟩:=aB.mp hx;exact mq _ (aE (zaY (og i hi).2.2))
  ·obtain⟨i,hi,rfl⟩:=aB.mp hx;obtain⟨x,y,z1,z2,z3⟩:=zdM (og i hi).1;obtain⟨x',y',w1,w2,w3⟩:=zdM (og i hi).2.1;rw [z1] at w1;cases w1;rw [z2] at w2;cases w2;show zn p (gl pl i) c=zn p (gl pl i) d;rw [zb4 z1,z3,w3]
 ·rintro⟨h,rfl⟩;refine⟨rfl,fun q hq=>?_,aU h.many (cr (zeq _) fun i hi=>?_)⟩
  ·have:=h.isp;simp at hq this;rcases hq with rfl | rfl | rfl
   ·exact this.1
   ·exact this.2
   ·exact hd
  ·rw [zb1] at hi ⊢;have f0:=hi.2 (r0,a) #[M];have f1:=hi.2 (r1,b) #[M];refine⟨hi.1,fun z hz=>?_⟩;simp at hz;rcases hz with rfl | rfl | rfl
   ·exact f0
   ·exact f1
   ·exact hf i f0 f1
def pls (p:Int) (a b:List Int):List Int:=a8 (fun x y=>(x+y) % p) a b
theorem zdN (p0:0 < p) {n:Nat} {a b:List Int} (ha:IsP p n a) (hb:IsP p n b):IsP p n (pls p a b):=by
 refine⟨by unfold pls; rw [dg,ha.1,hb.1]; lia,fun c hc=>?_⟩;obtain⟨i,hi⟩:=cF hc;unfold pls at hi;rw [cQ] at hi;split at hi
 ·cases hi;exact⟨aJ _ #[O],aD _ p0⟩
 ·cases hi
theorem zes (p0:0 < p) {x:Int}:∀ {a b:List Int},a.length=b.length→zn p x (pls p a b)=(zn p x a+zn p x b) % p
 | [],[],_=>by simp [pls,zn]
 | [],_ :: _,h=>by simp at h
 | _ :: _,[],h=>by simp at h
 | c :: a,d :: b,h=>by
  have ih:=zes p0 (x:=x) (a:=a) (b:=b) (by simpa using h);show ((c+d) % p+x*zn p x (pls p a b)) % p=((c+x*zn p x a) % p+(d+x*zn p x b) % p) % p;rw [ih,jP,Int.add_emod_emod,jP];rw [jF,hW x,i6 _ (Int.dvd_refl p),← hW,← jF];congr 1;grind
def so (p:Int):Option Int→Option Int→Option Int
 | some u,some v=>some ((u+v) % p)
 | _,_=>none
def bth (p:Int) (a b:List (Option Int)):List (Option Int):=a8 (so p) a b
theorem zis {a b:List (Option Int)} {i:Nat} {o1 o2:Option Int} (h1:a[i]? = some o1) (h2:b[i]? = some o2):(bth p a b)[i]? = some (so p o1 o2):=by
 unfold bth;rw [cQ,h1,h2]
theorem zl8 {a b:List (Option Int)} (h:a.length=b.length):(bth p a b).length=a.length:=by unfold bth; rw [dg]; lia
theorem zkQ {a b:List (Option Int)} {i:Nat} {y:Int} (h:(bth p a b)[i]? = some (some y)):∃ u v,a[i]? = some (some u)∧b[i]? = some (some v)∧y=(u+v) % p:=by
 unfold bth at h;rw [cQ] at h;rcases h1:a[i]? with _ | _ | u <;> rcases h2:b[i]? with _ | _ | v <;> rw [h1,h2] at h <;> first | exact⟨u,v,rfl,rfl,(aM (aM h)).symm⟩ | cases h
theorem znp {a b:List (Option Int)} {i:Nat} {u v:Int} (h1:a[i]? = some (some u)) (h2:b[i]? = some (some v)):(bth p a b)[i]? = some (some ((u+v) % p)):=zis h1 h2
theorem znq (p0:0 < p) {a b:List (Option Int)}:∀ z,some z∈bth p a b→0≤z∧z < p:=fun z hz=>by
 obtain⟨i,hi⟩:=cF hz;obtain⟨u,v,_,_,rfl⟩:=zkQ hi;exact⟨aJ _ #[O],aD _ p0⟩
theorem zkR (p0:0 < p) {a b:List Int} (hl:a.length=b.length) (i:Nat) (h0:zak p pl r0 a i=true) (h1:zak p pl r1 b i=true):zak p pl (bth p r0 r1) (pls p a b) i=true:=by
 obtain⟨x,u,a1,a2,a3⟩:=zdM h0;obtain⟨x',v,b1,b2,b3⟩:=zdM h1;rw [a1] at b1;cases b1;refine zl7 a1 (znp a2 b2) ?_;rw [zes p0 hl,a3,b3]
theorem zkS {kU qz:List (List (Int×Int))} {e e':Nat} {l l':List Int} {r r':List (List Int)} (L:LocOk p k kU e l r) (L':LocOk p k qz e' l' r') (h:∀ l,Good p k e kU l→Good p k e qz l):e'≤e:=by
 refine gU fun lF=>?_
 obtain⟨i,hi⟩:=L.nz;exact hi (L'.mn _ lF _ L.lf (h _ fun kQ lG=>⟨_,L.ok kQ lG⟩) i)
theorem zct {kU qz:List (List (Int×Int))} {e e':Nat} {l l':List Int} {r r':List (List Int)} (L:LocOk p k kU e l r) (L':LocOk p k qz e' l' r') (h:∀ kQ∈qz,kQ∈kU):e'≤e:=zkS L L' fun l g kQ lG=>g kQ (h kQ lG)
theorem zhr:∀ {pl:List Int} {rw:List (Option Int)} {i:Nat} {x y:Int},pl[i]? = some x→rw[i]? = some (some y)→(x,y)∈lD pl rw
 | [],_,i,_,_,h,_=>by simp at h
 | _ :: _,[],i,_,_,_,h=>by simp at h
 | x :: pl,o :: rw,0,x',y,h1,h2=>by
  simp at h1 h2;subst h1 h2;simp [lD]
 | x :: pl,o :: rw,i+1,x',y,h1,h2=>by
  have:=zhr (pl:=pl) (rw:=rw) (i:=i) (x:=x') (y:=y) (by simpa using h1) (by simpa using h2);cases o with
  | none=>simpa [lD] using this
  | some z=>simp [lD,this]
theorem zkT (p0:0 < p) {e:Nat} {l:List Int} (h:Good p k e [lD pl r0,lD pl r1] l):Good p k e [lD pl r0,lD pl r1,lD pl (bth p r0 r1)] l:=by
 intro kQ lG;have:kQ∈[lD pl r0,lD pl r1]∨kQ=lD pl (bth p r0 r1):=by simpa [or_assoc] using lG
 rcases this with h1 | rfl
 ·exact h kQ h1
 ·obtain⟨a,ha,va⟩:=h (lD pl r0) #[M];obtain⟨b,hb,vb⟩:=h (lD pl r1) #[M];refine⟨pls p a b,zdN p0 ha hb,fun z hz=>?_⟩;obtain⟨i,h1,h2⟩:=zfG hz;obtain⟨u,v,z1,z2,z3⟩:=zkQ h2;have e1:=va _ (zhr h1 z1);have e2:=vb _ (zhr h1 z2);simp only at e1 e2;rw [zes p0 (by rw [ha.1,hb.1]),e1,e2,z3];rw [← jF,hW,i6 _ (Int.dvd_refl p),← hW];congr 1;grind
end
end My
end
section
namespace My
open PySem PySem.Spec L2 PyProof.Rows Srt
def za9 (H:Hp) (v:Value):List (List Int):=match v with
 | .ref a=>(match H a with
  | some (.tup xs)=>xs.map fun x=>(match x with
   | .ref b=>zce H (.ref b)
   | _=>[])
  | _=>[])
 | _=>[]
theorem ze9 {H:Hp} {a:Addr} {rs:List Addr} {qs:List (List Int)} (h:H a=some (.tup (rs.map V.ref))) (ht:zaG H rs qs):za9 H (.ref a)=qs:=by
 unfold za9;simp only [h];clear h;induction ht with
 | nil=>rfl
 | cons h _ ih =>
  rw [aS,aS,ih];show zce H (.ref _) :: _=_;rw [zcS h]
def zkU (v:Value):Addr:=match v with
 | .ref a=>a
 | _=>0
theorem zet {α β γ:Type} {R:α→β→Prop} {f:γ→α} {g:γ→β}:∀ {l:List γ},(∀ x∈l,R (f x) (g x))→Paired R (l.map f) (l.map g)
 | [],_=>.nil
 | x :: l,h=>.cons (h x az) (zet fun y hy=>h y (aj _ hy))
theorem zoh {H:Hp} {as:List Addr} {lH:List (List (List Int))} (h:zbx H as lH):(as.map fun a=>za9 H (.ref a))=lH:=by
 induction h with
 | nil=>rfl
 | cons h _ ih =>
  obtain⟨rs,h1,h2⟩:=h;rw [aS,ih,ze9 h1 h2]
theorem zkV {H:Hp} {as:List Addr} {lH:List (List (List Int))} (h:zbx H as lH):∀ a∈as,∃ rs:List Addr,H a=some (.tup (rs.map V.ref))∧zaG H rs (za9 H (.ref a))∧za9 H (.ref a)∈lH:=by
 induction h with
 | nil=>intro a ha; cases ha
 | cons h _ ih =>
  intro a ha;rcases (aC.mp ha) with rfl | ha
  ·obtain⟨rs,h1,h2⟩:=h;rw [ze9 h1 h2];exact⟨rs,h1,h2,az⟩
  ·obtain⟨rs,h1,h2,h3⟩:=ih a ha;exact⟨rs,h1,h2,aj _ h3⟩
theorem zfL:∀ {rs:List Addr} {us:List Value},zF (rs.map V.ref) us→us=rs.map aO
 | [],us,r=>by cases r; rfl
 | a :: rs,us,r=>by
  cases r with
  | cons h t =>
   cases h;rw [zfL t];rfl
theorem zit:∀ (rs:List Addr),zF (rs.map V.ref) (rs.map aO)
 | []=>.nil
 | _ :: rs=>.cons rfl (zit rs)
section
variable {X:Cx} {kP:List (Addr×Obj)} {σ:L2.St} {H:Hp} {s s':Shared}
theorem zkW (I:Inv X kP σ H s) (kk:∀ b o,s.heap.get? b=some o→s'.heap.get? b=some o) {rs:List Addr} {qs:List (List Int)} (h:zaG H rs qs):Paired (fun a m=>TkV s'.heap m a) rs qs:=bw (fun a m z=>by
 obtain⟨kR,r,⟨o,ho,q⟩,_⟩:=I.tuple (k6.of z);exact⟨kR,r,o,kk _ _ ho,q⟩) h
theorem zhs (I:Inv X kP σ H s) {a:Addr} {rs:List Addr} (h:H a=some (.tup (rs.map V.ref))):∃ o n,s.heap.get? a=some o∧o.cls = .type "tuple"∧o.data = .seq (rs.map aO).toArray n:=by
 obtain⟨kR,r,⟨o,ho,hc,n,hd⟩,_⟩:=I.tuple (k6.of h);rw [zfL r] at hd;exact⟨o,n,ho,hc,hd⟩
theorem zl9 (I:Inv X kP σ H s) (kk:∀ b o,s.heap.get? b=some o→s'.heap.get? b=some o) {m:Nat} (hm:1≤m) {as:List Addr} {lH:List (List (List Int))} (hT:zbx H as lH) (hl:∀ qs∈lH,qs.length=m):∃ fs:List Value,kt s'.heap (as.map aO) fs∧fs.length=as.length∧∀ v∈fs,∃ b o,v=aO b∧s'.heap.get? b=some o∧o.cls = .type "tuple":=by
 induction hT with
 | nil=>exact⟨[],trivial,rfl,fun v hv=>by cases hv⟩
 | @cons a qs as lH h _ ih =>
  obtain⟨fs,h1,h2,h3⟩:=ih fun q hq=>hl q (aj _ hq)
  obtain⟨rs,z1,z2⟩:=h;have hq:=hl qs az;obtain⟨o,n,ho,hc,hd⟩:=zhs I z1;cases z2 with
  | nil=>simp at hq; lia
  | @cons b q rs qs zb zt =>
   obtain⟨kR,r,⟨ob,hob,hcb,_⟩,_⟩:=I.tuple (k6.of zb);refine⟨.ref b :: fs,i4 (kk _ _ ho) hc hd #[M] h1,by simp [h2],fun v hv=>?_⟩;rcases (aC.mp hv) with rfl | hv
   ·exact⟨b,ob,rfl,kk _ _ hob,hcb⟩
   ·exact h3 v hv
theorem zma (I:Inv X kP σ H s) {A':Around} (hu:A'.units < cLine) (kk:∀ b o,s.heap.get? b=some o→s'.heap.get? b=some o) {p:Int} (hp:1≤p) {k m:Nat} {as:List Addr} {lH:List (List (List Int))} (hT:zbx H as lH) (hl:∀ qs∈lH,qs.length=m∧∀ q∈qs,IsP p k q) :
  Cmp X.prog X.w A' s' (tuples' false) (fun x=>nn p k (za9 H x.1)) (pairsOf (as.map aO)):=by
 intro x y hx hy Q E hQ;obtain⟨a,ma,ea⟩:=aB.mp (zbL hx).1;obtain⟨b,mb,eb⟩:=aB.mp (zbL hy).1;obtain⟨ra,za,ta,qa⟩:=zkV hT a ma;obtain⟨rb,zb,tb,qb⟩:=zkV hT b mb;obtain⟨la,pa⟩:=hl _ qa;obtain⟨lb,pb⟩:=hl _ qb;obtain⟨oa,na,ga,ca,da⟩:=zhs I za;obtain⟨ob,nb,gb,cb,db⟩:=zhs I zb;have hQ:Q (decide (nn p k (za9 H (.ref a)) < nn p k (za9 H (.ref b)))) s':=by
  rw [ea,eb]; exact hQ
 rw [← zgF hp (la.trans lb.symm) pa pb] at hQ;rw [← ea,← eb];refine kC (kk _ _ ga) da (kk _ _ gb) db ?_;have e1:=ta.length;have e2:=tb.length;have hsz:decide ((ra.map aO).toArray.size < (rb.map aO).toArray.size)=false:=by
  rw [am,am,ab,ab];exact decide_eq_false #[O]
 rw [hsz];refine zgD hu 0 (zkW I kk ta) (zkW I kk tb) (la.trans lb.symm) ?_;by_cases e:za9 H (.ref a)=za9 H (.ref b)
 ·rw [if_pos e];rw [zgF hp (la.trans lb.symm) pa pb,e] at hQ;simpa using hQ
 ·rw [if_neg e];exact hQ
end
def znr (xs:List V) (H:Hp) (Q:VK):Prop:=∃ (l:Addr) (p:Int) (k m:Nat) (as:List Addr) (lH:List (List (List Int))),xs = [.ref l]∧H l=some (.lst (as.map V.ref))∧zbx H as lH∧(∀ qs∈lH,qs.length=m∧∀ q∈qs,IsP p k q)∧1≤m∧1≤p ∧
  ∀ (l':Addr) (bs:List Addr) (nS:List (List (List Int))),H l'=none→nS.Perm lH→(nS.Pairwise fun a b=>nn p k a≤nn p k b)→zbx H bs nS→Q (.ref l') (kW H l' (.lst (bs.map V.ref)))
theorem zgL {X:Cx} {kP:List (Addr×Obj)} {σ:L2.St} {H:Hp} {s:Shared} (hu:X.A.units+20 < cLine) (I:Inv X kP σ H s) {v:Value} {p:Int} {k m:Nat} {as:List Addr} {lH:List (List (List Int))} {Q:VK} (hz:as.length≤sizeLine)
  (tS:∀ R:List Value→Shared→Prop,(∀ (h':Heap) (tk:Nat),(∀ b o,s.heap.get? b=some o→h'.get? b=some o)→R (as.map aO) { s with heap:=h',toks:=tk })→wpAny (model X.prog X.w) X.A.in1 (collect v) R X.xe s)
  (hT:zbx H as lH) (hl:∀ qs∈lH,qs.length=m∧∀ q∈qs,IsP p k q) (hm:1≤m) (hp:1≤p)
  (q:∀ (l':Addr) (bs:List Addr) (nS:List (List (List Int))),H l'=none→nS.Perm lH→(nS.Pairwise fun a b=>nn p k a≤nn p k b)→zbx H bs nS→Q (.ref l') (kW H l' (.lst (bs.map V.ref)))) :
  wpAny (model X.prog X.w) X.A (call (.builtin "sorted") [v]) (EP X kP σ Q) X.xe s:=by
 refine zhq (vs:=as.map aO) (κ:=tuples' false) (val:=fun x=>nn p k (za9 H x.1)) (by rw [ab]; exact hz) tS (fun s' kk h2 A' Q' E' qT=>?_) (fun s' kk=>zma I (by simp only [cN]; lia) kk hp hT hl) fun h' tk out e D kk hD wZ uh hs=>?_
 ·obtain⟨fs,k1,k2,k3⟩:=zl9 I kk hm hT fun qs sY=>(hl qs sY).1
  refine j7 (T:=.type "tuple") k1 (by rw [ab] at h2; lia) (fun v hv=>?_) rfl qT;obtain⟨b,o,rfl,ho,hc⟩:=k3 v hv;rw [← hc];exact (PySem.W.Looks.ld ho).andThen .now
 ·have hv:∀ v∈out.toList,∃ a∈as,v = .ref a:=fun v hv=>by
   obtain⟨a,ha,e⟩:=aB.mp (uh.mem_iff.mp hv);exact⟨a,ha,e.symm⟩
  have qp:out.toList=(out.toList.map zkU).map aO:=by
   rw [bt]
   conv=>lhs; rw [← iK out.toList]
   refine bZ fun v yM=>?_
   obtain⟨a,_,rfl⟩:=hv v yM;rfl
  have kY:=uh.length_eq;rw [ab] at kY;obtain⟨hn,I2⟩:=I.above (tk:=tk) (D:=D) (o:=.lst ((out.toList.map zkU).map V.ref)) kk hD ⟨by rw [ab,ab]; lia,(out.toList.map zkU).map aO,e,zit _,by rw [← qp]; exact wZ⟩;refine⟨.ref D,_,I2,rfl,q D _ (out.toList.map (za9 H)) hn ?_ (bC.mpr hs) (zet fun v yM=>?_)⟩
  ·have:=uh.map (za9 H);rw [bt] at this;have e:as.map (za9 H ∘ aO)=lH:=zoh hT;rw [e] at this;exact this
  ·obtain⟨a,ha,rfl⟩:=hv v yM;obtain⟨rs,z1,z2,_⟩:=zkV hT a ha;exact⟨rs,z1,z2⟩
theorem zb2 {X:Cx} (hu:X.A.units+20 < cLine):zca X (.builtin "sorted") znr:=by
 intro kP s σ H xs us Q I r h;obtain⟨l,p,k,m,as,lH,rfl,hq,hT,hl,hm,hp,q⟩:=h;obtain⟨u,rfl,rx⟩:=vals1 r;cases rx;obtain⟨kR,rv,pl,hz⟩:=I.list (kS.of hq);have ev:=zfL rv;subst ev;rw [ab] at hz;exact zgL hu I hz (fun R hR=>collect_list pl.isList (hR _ _ fun b o e=>(ji _ _ _ _ (bf (aF e))).trans (ah _ e)) (by rw [ab]; exact hz)) hT hl hm hp q
section
variable {K:ag} {H:Hp}
theorem zmb {d:Nat} {a b:Addr} {q:List Int} (ha:H a=some (.tup (q.map V.int))) (hb:H b=some (.tup (q.map V.int))):EqD K H (d+1) (.ref a) (.ref b) true:=by
 by_cases nJ:a=b
 ·subst nJ;exact .same
 ·have h:=EqD.tups (K:=K) (d:=d) (e:=fun _=>true) nJ (k6.of ha) (k6.of hb) fun j x y hx hy=>by
   rw [hx] at hy;cases hy;obtain⟨z,rfl,_⟩:=zar hx;have h:=EqD.flat (K:=K) (H:=H) (d:=d) (x:=.int z) (y:=.int z) rfl rfl;have e:eqV (.int z) (.int z)=true:=by simp [eqV]
   rw [e] at h;exact h
  have e:((aR (min (q.map V.int).length (q.map V.int).length)).all (fun _=>true) && (q.map V.int).length == (q.map V.int).length)=true:=by simp
  rw [e] at h;exact h
theorem zns {d:Nat} {a b:Addr} {ra rb:List Addr} {qs:List (List Int)} (ha:H a=some (.tup (ra.map V.ref))) (hb:H b=some (.tup (rb.map V.ref))) (h1:zaG H ra qs) (h2:zaG H rb qs):EqD K H (d+2) (.ref a) (.ref b) true:=by
 by_cases nJ:a=b
 ·subst nJ;exact .same
 ·have h:=EqD.tups (K:=K) (d:=d+1) (e:=fun _=>true) nJ (k6.of ha) (k6.of hb) fun j x y hx hy=>by
   obtain⟨x,rfl,tD⟩:=zP hx;obtain⟨y,rfl,wt⟩:=zP hy;obtain⟨q1,z1,z2⟩:=Paired.get h1 tD;obtain⟨q2,w1,w2⟩:=Paired.get h2 wt;rw [z1] at w1;cases w1;exact zmb z2 w2
  have l1:=h1.length;have l2:=h2.length;have e:((aR (min (ra.map V.ref).length (rb.map V.ref).length)).all (fun _=>true) && (ra.map V.ref).length == (rb.map V.ref).length)=true:=by simp; lia
  rw [e] at h;exact h
theorem znt {Q:VK} {a b:Addr} {as bs:List Addr} {lH:List (List (List Int))} (ha:H a=some (.lst (as.map V.ref))) (hb:H b=some (.lst (bs.map V.ref))) (h1:zbx H as lH) (h2:zbx H bs lH) (q:Q (.bl false) H):znX K true (.ref a) (.ref b) H Q:=by
 have l1:=h1.length;have l2:=h2.length;refine⟨a,b,_,_,rfl,rfl,.inl ⟨kS.of ha,kS.of hb⟩,.inr ⟨by rw [ab,ab]; lia,fun _=>true,fun j x y e1 e2=>?_,?_⟩⟩
 ·obtain⟨x,rfl,hx⟩:=zP e1;obtain⟨y,rfl,hy⟩:=zP e2;obtain⟨r1,z1,rs,z2,z3⟩:=Paired.get h1 hx;obtain⟨r2,w1,rs',w2,w3⟩:=Paired.get h2 hy;rw [z1] at w1;cases w1;exact zns (d:=6) z2 w2 z3 w3
 ·have:(aR (as.map V.ref).length).all (fun _=>true)=true:=by simp
  rw [this];exact q
end
theorem zbx.put {H:Hp} {as:List Addr} {lH:List (List (List Int))} {f:Addr} {xs:List V} {o:HO} (h:zbx H as lH) (hf:H f=some (.lst xs)):zbx (kW H f o) as lH:=bw (fun a q ⟨rs,z1,z2⟩=>⟨rs,by rw [zq (fun e=>by rw [e,hf] at z1; cases z1)]; exact z1,z2.put hf⟩) h
theorem zaG.rev {H:Hp} {rs:List Addr} {qs:List (List Int)} (h:zaG H rs qs):zaG H rs.reverse qs.reverse:=by
 induction h with
 | nil=>exact .nil
 | cons h _ ih =>
  (rw [ff,ff])
  exact bH ih h
theorem zaG.two {H:Hp} {rs:List Addr} {qa qb:List Int} (h:zaG H rs [qa,qb]):∃ ua ub,rs = [ua,ub]∧H ua=some (.tup (qa.map V.int))∧H ub=some (.tup (qb.map V.int)):=by
 cases h with
 | cons y1 h=>cases h with
  | cons y2 h =>
   cases h;exact⟨_,_,rfl,y1,y2⟩
section
variable {p:Int} {k T:Nat} {pl:List Int} {r0 r1 r2:List (Option Int)} {lH pC:List (List (List Int))}
theorem znu (hm:∀ qs,qs∈lH↔JN p k pl T [r0,r1] qs):∀ qs∈lH,∃ a b,qs = [a,b]∧IsP p k a∧IsP p k b:=fun qs hq=>by
 obtain⟨a,b,e,ha,hb,_⟩:=zdd.mp ((hm qs).mp hq);exact⟨a,b,e,ha,hb⟩
theorem zmc (hm:∀ qs,qs∈lH↔JN p k pl T [r0,r1] qs) (p8:∀ qs,qs∈pC↔JN p k pl T [r1,r0] qs) (qs:List (List Int)):qs∈pC↔qs∈lH.map ic:=by
 rw [p8,aB];constructor
 ·intro h;obtain⟨b,a,rfl,_⟩:=zdd.mp h;exact⟨[a,b],(hm _).mpr (zkP.mp h),rfl⟩
 ·rintro⟨s,hs,rfl⟩;have h:=(hm s).mp hs;obtain⟨a,b,rfl,_⟩:=zdd.mp h;exact zkP.mpr h
def zht (g:List Int→List Int→List Int) (s:List (List Int)):List (List Int):=s++[g (s.getD 0 []) (s.getD 1 [])]
theorem zfa (hp:p∈zp) (nD:pl.Nodup) (mq:∀ x∈pl,0≤x∧x < p) (hk:k≤T) (hm:∀ qs,qs∈lH↔JN p k pl T [r0,r1] qs) (p8:∀ qs,qs∈pC↔JN p k pl T [r0,r1,r2] qs) {g:List Int→List Int→List Int} (hg:∀ a b,IsP p k a→IsP p k b→IsP p k (g a b)∧∀ i,zak p pl r0 a i=true→zak p pl r1 b i=true→zak p pl r2 (g a b) i=true) (qs:List (List Int)):qs∈pC↔qs∈lH.map (zht g):=by
 rw [p8,aB];constructor
 ·intro h;obtain⟨a,b,c,rfl⟩:∃ a b c,qs = [a,b,c]:=by
   have:=h.len
   match qs,this with
   | [a,b,c],_=>exact⟨a,b,c,rfl⟩
  have h0:JN p k pl T [r0,r1] [a,b]:=zfJ (rows:=[r0,r1]) (row:=r2) (qs:=[a,b]) (q:=c) h;obtain⟨h1,h2⟩:=hg a b (h0.isp a #[M]) (h0.isp b #[M]);obtain⟨h3,rfl⟩:=(zgK hp nD mq hk h1 h2).mp h;exact⟨[a,b],(hm _).mpr h3,rfl⟩
 ·rintro⟨s,hs,rfl⟩;have h0:=(hm s).mp hs;obtain⟨a,b,rfl,_⟩:=zdd.mp h0;obtain⟨h1,h2⟩:=hg a b (h0.isp a #[M]) (h0.isp b #[M]);exact (zgK hp nD mq hk h1 h2).mpr ⟨h0,rfl⟩
theorem znv (h:lH.Nodup):(lH.map ic).Nodup:=bC.mpr (h.imp fun {a b} nJ e=>nJ (by simpa using e))
theorem zkX (h:lH.Nodup) (g:List Int→List Int→List Int):(lH.map (zht g)).Nodup:=bC.mpr (h.imp fun {a b} nJ e=>nJ (by
 unfold zht at e;exact (List.append_inj' e rfl).1))
theorem zkY (hm:∀ qs∈lH,∃ a b,qs = [a,b]∧IsP p k a∧IsP p k b):∀ qs∈lH.map ic,qs.length=2∧∀ q∈qs,IsP p k q:=fun qs hq=>by
 obtain⟨s,hs,rfl⟩:=aB.mp hq;obtain⟨a,b,rfl,ha,hb⟩:=hm s hs;refine⟨rfl,fun q hq=>?_⟩;simp at hq;rcases hq with rfl | rfl
 ·exact hb
 ·exact ha
theorem zfM {g:List Int→List Int→List Int} (hg:∀ a b,IsP p k a→IsP p k b→IsP p k (g a b)) (hm:∀ qs∈lH,∃ a b,qs = [a,b]∧IsP p k a∧IsP p k b):∀ qs∈lH.map (zht g),qs.length=3∧∀ q∈qs,IsP p k q:=fun qs hq=>by
 obtain⟨s,hs,rfl⟩:=aB.mp hq;obtain⟨a,b,rfl,ha,hb⟩:=hm s hs;refine⟨rfl,fun q hq=>?_⟩;have hq:q=a∨q=b∨q=g a b:=by simpa [zht] using hq
 rcases hq with rfl | rfl | rfl
 ·exact ha
 ·exact hb
 ·exact hg a b ha hb
end
end My
end
section
namespace HT
open PySem PySem.Spec PyProof.Rows L2
section
variable {prog:Program} {w:World} {A:Around} {E:Value→Shared→Prop} {s:Shared}
theorem zfb (xs:List Value) (f:Nat→Nat) (hf:∀ m,m < xs.length→f m=xs.length - 1 - m):(aR xs.length).filterMap (fun m=>xs.toArray[f m]?)=xs.reverse:=by
 have e:(aR xs.length).filterMap (fun m=>xs.toArray[f m]?)=(aR xs.length).filterMap (fun m=>xs.reverse[m]?):=by
  have h:∀ l:List Nat,(∀ m∈l,m < xs.length)→l.filterMap (fun m=>xs.toArray[f m]?)=l.filterMap (fun m=>xs.reverse[m]?):=fun l=>by
   induction l with
   | nil=>intro _; rfl
   | cons m l ih =>
    intro h;have hm:=h m az;rw [cH,cH,ih fun n hn=>h n (aj _ hn),hf m hm,List.getElem?_reverse hm,List.getElem?_toArray]
  exact h _ fun m hm=>bx.mp hm
 rw [e];have h:∀ ys:List Value,(aR ys.length).filterMap (fun m=>ys[m]?)=ys:=fun ys=>by
  induction ys with
  | nil=>rfl
  | cons y ys ih =>
   rw [bK,fo,cH,eN];simp only [fb];congr 1
 have:=h xs.reverse;rw [eG] at this;exact this
theorem pick_rev (kR:List Value):slicePick kR.toArray none none (some (-1))=kR.reverse.toArray:=by
 unfold slicePick;congr 1;have hb:sliceBounds none none (some (-1)) kR.toArray.size=((kR.length:Int) - 1,-1,-1):=by
  unfold sliceBounds;simp
 rw [hb];unfold sliceRange;rw [eN];simp only [show ¬ ((-1:Int) > 0) by decide,if_false];have hc:(if (kR.length:Int) - 1 > -1 then ((kR.length:Int) - 1 - -1 - -1 - 1) / - -1 else 0).toNat=kR.length:=by
  split
  ·have:((kR.length:Int) - 1 - -1 - -1 - 1) / - -1=kR.length:=by
    rw [Int.neg_neg,Int.ediv_one];lia
   rw [this];lia
  ·lia
 rw [hc];exact zfb kR _ fun m hm=>by lia
theorem getItem_tuple_rev {t sl:Addr} {kR:List Value} {tk:Tok} {Q:Value→Shared→Prop} (ht:IsTup s.heap t kR.toArray) (hs:s.heap.IsSliceOf sl .none .none (.int (-1) tk))
  (h:Q (.ref s.heap.objs.size) { s with heap:=s.heap.push { cls:=.type "tuple",data:=.seq kR.reverse.toArray } })
  (hsz:kR.length≤sizeLine):wpAny (model prog w) A (getItem (.ref t) (.ref sl)) Q E s:=by
 have oA:sizeOk (.seq kR.reverse.toArray):=by
  show kR.reverse.toArray.size≤sizeLine;rw [am,eG];exact hsz
 obtain⟨os,qG,xA,uP⟩:=id hs;have yg:s.TypeIs (.ref sl) "slice":=⟨os,qG,xA⟩;unfold getItem
 try with_reducible refine bP ?_
 first | refine ae (ai ?_) | skip
 refine ae (gw ht.typeIs #[D] ?_);refine ae (ba (name:=bL "__getitem__") ht.typeIs bU
  (be bU ht.typeIs fO ?_ (f9 _ _)))
 show wpAny _ _ (eC (.ref t) >>= _) _ _ s;refine ae (i8 ht ?_);refine ae (gS yg ?_);rw [if_pos #[D]];refine ae ?_;unfold eB gI;refine ae (ae (bb qG uP (x:=.none) rfl (ae (bb qG uP (x:=.none) rfl (ae (bb qG uP (x:=.int (-1) tk) rfl (ai ?_)))))));refine ae (slicePart_int ?_);show wpAny _ _ (if ((-1:Int) == 0)=true then _ else _) _ _ s;rw [if_neg #[D]];refine ae (fR (ae (fR (ae (ai ?_)))));have ha:cm none none (-1) (kR.toArray.size:Int)=((kR.length:Int) - 1,-1):=by
  unfold cm;simp
 have mq:bN ((kR.length:Int) - 1) (-1) (-1)=kR.length:=by
  unfold bN;simp;split <;> lia
 show wpAny _ _ (match cm none none (-1) (kR.toArray.size:Int) with | (lo,hi)=>pure (lo,(-1:Int),bN lo hi (-1))) _ _ s;rw [ha];show wpAny _ _ (pure ((kR.length:Int) - 1,(-1:Int),bN ((kR.length:Int) - 1) (-1) (-1))) _ _ s;rw [mq];refine ai ?_;have BZ:¬ (((kR.length:Int) - 1 == 0 && (-1:Int) == 1 && kR.length == kR.toArray.size)=true):=by simp
 show wpAny _ _ (if ((kR.length:Int) - 1 == 0 && (-1:Int) == 1 && kR.length == kR.toArray.size)=true then _ else _) _ _ s;rw [if_neg BZ,zfb kR (fun m=>((kR.length:Int) - 1+(m:Int) * -1).toNat) fun m hm=>by lia]
 first
  | exact ae (m:=cw _) (bu (ai ⟨_,rfl,ai h⟩) oA)
  | exact ae (m:=cw _) (bu (ae (ai (ai ⟨_,rfl,ai h⟩))) oA)
end
end HT
namespace L2
open PySem PySem.Spec PyProof.Rows
def zoF (K:ag) (te ts:TE):TE:=fun σ H Q=>te σ H fun x H1=>ts σ H1 fun y H2=>y = .int (-1)∧∃ a xs,x = .ref a∧((kS K H2 a xs∧∀ p,H2 p=none→Q (.ref p) (kW H2 p (.lst xs.reverse)))∨(k6 K H2 a xs∧∀ p,H2 p=none→Q (.ref p) (kW H2 p (.tup xs.reverse))))
theorem zhu {X:Cx} {K:ag} {e es:Expr} {te ts:TE} {p2 pos:Pos} (hK:X.K=K) (he:PE X e te) (hs:PE X es ts):PE X (.Subscript e (.Slice none none (some es) p2) pos) (zoF K te ts):=by
 subst hK;intro kP s σ H Q I h;refine kc (thn (he kP s σ H _ I h) fun v s1 ⟨x,H1,I1,r1,q1⟩=>?_);refine wpAny_Slice ?_;rw [i9];refine ai (ai (thn (hs kP s1 σ H1 _ I1 q1) fun vs s3 ⟨y,H3,I3,ry,q3⟩=>?_));obtain⟨rfl,a,xs,rfl,q3⟩:=q3;obtain⟨tk,rfl⟩:=ry;cases r1;have I4:Inv X kP σ H3 { s3 with heap:=s3.heap.push { cls:=.type "slice",data:=.fields #[.none,.none,.int (-1) tk] } }:=I3.kept (t':=s3.toks) fun b ob q=>ah _ q
 have oD:=jt s3.heap .none .none (.int (-1) tk);show wpAny (model X.prog X.w) X.A (subscriptTail e (.Slice none none (some es) p2) (.ref a) (.ref s3.heap.objs.size)) (EP X kP σ Q) X.xe { s3 with heap:=s3.heap.push { cls:=.type "slice",data:=.fields #[.none,.none,.int (-1) tk] } };generalize o8:({ s3 with heap:=s3.heap.push { cls:=.type "slice",data:=.fields #[.none,.none,.int (-1) tk] } }:Shared)=s4 at I4 ⊢;have AJ:s4.heap.IsSliceOf s3.heap.objs.size .none .none (.int (-1) tk):=by rw [← o8]; exact oD
 rcases q3 with ⟨hx,q⟩ | ⟨hx,q⟩
 ·obtain⟨kR,r,ht,hz⟩:=I4.list hx;have kY:=r.length;refine tail_any (T:="list") (ops:=[.ref a,.ref s3.heap.objs.size]) ht.isList.typeIs slot_list_getitem.lookup ?_ (by with_unfolding_all rfl);refine gT ht.isList AJ .none .none (.int (-1) tk) #[M] ?_ (by rw [am] <;> lia);rw [HT.pick_rev];refine⟨.ref s4.heap.objs.size,_,I4.laid (t':=s4.toks) (o:=.lst xs.reverse) (fun b ob q=>ah _ q) (af _) ?_,rfl,q _ (I4.hok.fresh (af _))⟩;exact⟨by rw [eG]; exact hz,_,0,r.reverse,aG _ rfl⟩
 ·obtain⟨kR,r,ht,hz⟩:=I4.tuple hx;have kY:=r.length;refine tail_any (T:="tuple") (ops:=[.ref a,.ref s3.heap.objs.size]) ht.typeIs PyProof.Rows.slot_tuple_getitem.lookup ?_ (by with_unfolding_all rfl);refine HT.getItem_tuple_rev ht AJ ?_ #[O];refine⟨.ref s4.heap.objs.size,_,I4.laid (t':=s4.toks) (o:=.tup xs.reverse) (fun b ob q=>ah _ q) (af _) ?_,rfl,q _ (I4.hok.fresh (af _))⟩;exact⟨by rw [eG]; exact hz,_,r.reverse,f' _ _⟩
end L2
end
section
namespace My
open PySem L2 PyProof.Rows
section
variable {P:Program} {w:World} {K:ag} {mg:Str→Option Value} {base:Heap} {t:Adr}
theorem zaQ:FnScope ["script","code","p","k","places","rows","both","one","other","e","t","found","some","due"] ["script"] (zj zbz):=#[S]
theorem znw {fd:FuncData} (T:Txt K mg t) (F:Fun K "law" "law" zbz t.law fd):FnOk P w K mg base CX0 7 t.law fd ["script"] (zfq K):=by
 obtain⟨sD,qA,oV⟩:=T.f_l_code;have ui:=zjb (P:=P) (w:=w) (base:=base) T qA;obtain⟨uj,pW,ou⟩:=T.f_l_row;have rR:=zkG (P:=P) (w:=w) (base:=base) T pW;obtain⟨nT,lr,lh⟩:=T.f_joint_locator;have lx:=zdc (P:=P) (w:=w) (base:=base) T lr;obtain⟨pD,lI,lC⟩:=T.f_joint_near;have lU:=zeE (P:=P) (w:=w) (base:=base) T lI;obtain⟨n9,lM,lN⟩:=T.f_all_near;have mO:=zdn (P:=P) (w:=w) (base:=base) T lM;refine F.ok zaQ (fun vs H Q E h=>?_) (fun lP A outer s H vs Q E hr h=>?_)
 ·obtain⟨a,ns,rfl,_⟩:=h;rfl
 ·obtain⟨a,ns,rfl,hS,kY,q⟩:=h;have hu:(A.deeper (envOfC (bL "law") (zj zbz) s.heap.objs.size t.law lP)).units+20 < cLine:=by have:=hr.units; lia
  refine zbi ?_; intro zX;refine⟨_,#[zf,#[zr,1,zaQ.nd,(dv rfl),#[zw,ui,(hr.mono #[D]),T.m_l_code,qA.kp,oV,#[zR],#[zc,#[pvx,0],by exact #[zc,#[zh],#[zc,#[zh],#[ya,#[zh]]]]]]],#[zf,#[zb7,#[pvx,1],#[za2,#[zm,#[zi,2,zaQ.nd,(dv rfl)],#[zm,#[zi,3,zaQ.nd,#[A]],#[zm,#[zi,4,zaQ.nd,#[A]],#[zY]]]]]],#[zf,#[zr,5,zaQ.nd,#[A],#[zac,#[zc,#[zw,rR,(hr.mono #[D]),T.m_l_row,pW.kp,ou,#[zR],#[zc,#[pvx,0],#[zc,#[zh],#[ya,#[pvx,1]]]]],#[ya,#[zw,rR,(hr.mono #[D]),T.m_l_row,pW.kp,ou,#[zR],#[zc,#[pvx,0],#[zc,#[zh],#[ya,#[pvx,1]]]]]]]]],#[zf,#[zr,6,zaQ.nd,#[A],#[zac,#[zg]]],#[zf,#[zaP,br,#[zdw,T.zip_,#[zc,#[zL,#[zG],#[pvx,5],#[zh]],#[ya,#[zL,#[zG],#[pvx,5],#[zh]]]]],#[za2,#[zm,#[zi,7,zaQ.nd,#[A]],#[zm,#[zi,8,zaQ.nd,#[A]],#[zY]]]],#[zo,#[zbP,#[zdg,bV,b8,b9,#[zbc],#[pvx,6],#[ya,#[zdP,(@PW.pt _ _ _ #[zhv,#[zK,#[zgP],#[pvx,7],#[zbC],(zag _)],#[zfd,#[zK,#[zgP],#[pvx,8],#[zbC],(zag _)]]]),#[zbC],#[zl,#[zJ],#[zl,#[z8],#[pvx,7],#[pvx,8]],#[pvx,2]]]]]]]],#[zf,#[zr,9,zaQ.nd,#[A],#[zL,#[zbb],#[zw,lx,(hr.mono #[D]),T.m_joint_locator,lr.kp,lh,#[zR],#[zc,#[pvx,1],#[ya,#[pvx,5]]]],#[zh]]],#[zf,#[zbj,(@PW.pt _ _ _ #[zhv,#[zK,#[zjp],#[pvx,9],#[zQ,(@zi8 _ rfl),T.max_,boot_max,#[ya,#[zaj,(CompSc.of (N':=["row","code"]) (ix:=[none,some 1]) (zj zbz) ["script","code","p","k","places","rows","both","one","other","e","t","found","some","due"] rfl rfl #[N]),#[zaM],#[z0,#[pvx,5]],(fun _ _ _ _=>#[zi,0,(show (["row","code"]:List Str).Nodup from #[N]),#[A]]),(fun _ _ _ _=>#[zN]),(fun _ _ _ _=>#[zL,(@zle _ (K) rfl),#[zw,lx,(hr.mono #[D]),T.m_joint_locator,lr.kp,lh,#[zR],#[zc,#[pvx,1],#[ya,#[zac,#[ya,#[pvx,0]]]]]],#[zh]])]]],(zag _)],#[zfd,#[zK,#[zhA],#[zL,#[zbb],#[zw,lx,(hr.mono #[D]),T.m_joint_locator,lr.kp,lh,#[zR],#[zc,#[pvx,1],#[ya,#[zhu,#[pvx,5],#[zhw,zfe,#[zh]]]]]],#[zh]],#[pvx,9],(zag _)]]]),#[zo,#[zM,#[zde]]],#[zau]],#[zf,#[zbj,(@PW.pt _ _ _ #[zhv,#[zK,#[zhA],#[zL,#[zbb],#[zw,lx,(hr.mono #[D]),T.m_joint_locator,lr.kp,lh,#[zR],#[zc,#[pvx,1],#[ya,#[zl,#[zbS],#[pvx,5],#[zaR,zbR,#[pvx,5],#[zbl],#[za3,#[zh]]]]]]],#[zh]],#[pvx,9],(zag _)],#[zfd,#[zK,#[zhA],#[zL,#[zbb],#[zw,lx,(hr.mono #[D]),T.m_joint_locator,lr.kp,lh,#[zR],#[zc,#[pvx,1],#[ya,#[zl,#[zbS],#[pvx,5],#[zac,#[ya,#[pvx,6]]]]]]],#[zh]],#[pvx,9],(zag _)]]]),#[zo,#[zM,#[zde]]],#[zau]],#[zf,#[zaP,br,#[z0,#[zac,#[zc,#[pvx,3],#[zc,#[zl,#[z8],#[pvx,3],#[zh]],#[ya,#[zl,#[z8],#[pvx,3],#[zh]]]]]]],#[zi,10,zaQ.nd,#[A]],#[zf,#[zr,11,zaQ.nd,#[A],#[zw,lU,(hr.mono #[D]),T.m_joint_near,lI.kp,lC,#[zR],#[zc,#[pvx,1],#[zc,#[pvx,5],#[ya,#[pvx,10]]]]]],#[zf,#[zaP,br,#[z0,#[pvx,11]],#[zi,12,zaQ.nd,#[A]],#[zo,#[zbj,(@PW.pt _ _ _ #[zhv,#[zK,(ze7 rfl hu),#[zL,#[zbb],#[pvx,12],#[zh]],#[zw,mO,(hr.mono #[D]),T.m_all_near,lM.kp,lN,#[zR],#[zc,#[pvx,1],#[zc,#[zL,#[zG],#[pvx,5],#[zh]],#[ya,#[pvx,10]]]]],(by with_unfolding_all rfl)],#[zfd,#[zK,(ze7 rfl hu),#[zL,#[zbb],#[pvx,12],#[zh]],#[zw,mO,(hr.mono #[D]),T.m_all_near,lM.kp,lN,#[zR],#[zc,#[pvx,1],#[zc,#[zL,#[zG],#[pvx,5],#[zh]],#[ya,#[pvx,10]]]]],(by with_unfolding_all rfl)]]]),#[zo,#[zM,#[zde]]],#[zau]]]],#[zf,#[zbj,#[zK,#[zgZ,hu],#[zw,lU,(hr.mono #[D]),T.m_joint_near,lI.kp,lC,#[zR],#[zc,#[pvx,1],#[zc,#[zhu,#[pvx,5],#[zhw,zfe,#[zh]]],#[ya,#[pvx,10]]]]],#[zQ,(zb2 hu),T.sorted_,iM,#[ya,#[zaj,(CompSc.of (N':=["some"]) (ix:=[none]) (zj zbz) ["script","code","p","k","places","rows","both","one","other","e","t","found","some","due"] rfl rfl #[N]),#[zaM],#[z0,#[pvx,11]],(fun _ _ _ _=>#[zi,0,(show (["some"]:List Str).Nodup from #[N]),#[A]]),(fun _ _ _ _=>#[zN]),(fun _ _ _ _=>#[zhu,#[pvx,0],#[zhw,zfe,#[zh]]])]]],(zag _)],#[zo,#[zM,#[zde]]],#[zau]],#[zf,#[zbj,#[zK,#[zgZ,hu],#[zw,lU,(hr.mono #[D]),T.m_joint_near,lI.kp,lC,#[zR],#[zc,#[pvx,1],#[zc,#[zl,#[zbS],#[pvx,5],#[zaR,zbR,#[pvx,5],#[zbl],#[za3,#[zh]]]],#[ya,#[pvx,10]]]]],#[zQ,(zb2 hu),T.sorted_,iM,#[ya,#[zaj,(CompSc.of (N':=["some"]) (ix:=[none]) (zj zbz) ["script","code","p","k","places","rows","both","one","other","e","t","found","some","due"] rfl rfl #[N]),#[zaM],#[z0,#[pvx,11]],(fun _ _ _ _=>#[zi,0,(show (["some"]:List Str).Nodup from #[N]),#[A]]),(fun _ _ _ _=>#[zN]),(fun _ _ _ _=>#[zl,#[zfB],#[pvx,0],#[zaR,zig,#[pvx,0],#[zbl],#[za3,#[zh]]]])]]],(zag _)],#[zo,#[zM,#[zde]]],#[zau]],#[zf,#[zr,13,zaQ.nd,#[A],#[zac,#[zg]]],#[zf,#[zaP,br,#[z0,#[pvx,11]],#[za2,#[zm,#[zi,7,zaQ.nd,#[A]],#[zm,#[zi,8,zaQ.nd,#[A]],#[zY]]]],#[zo,#[zbP,#[zdg,bV,b8,b9,#[zbc],#[pvx,13],#[ya,#[zaH,#[zc,#[pvx,7],#[zc,#[pvx,8],#[ya,#[zaL,#[zaS],T.tuple_,gN,#[ya,#[zaj,(CompSc.of (N':=["a","b","p"]) (ix:=[none,none,some 2]) (zj zbz) ["script","code","p","k","places","rows","both","one","other","e","t","found","some","due"] rfl rfl #[N]),#[zbs,#[zW,#[zW,#[za4]]]],(zjZ rfl T.zip_ #[zc,#[pvx,7],#[ya,#[pvx,8]]]),(fun _ _ _ _=>#[zaU,(K),2,#[zm,#[zi,0,(show (["a","b","p"]:List Str).Nodup from #[N]),#[A]],#[zm,#[zi,1,(show (["a","b","p"]:List Str).Nodup from #[N]),#[A]],#[zY]]]]),(fun _ _ _ _=>#[zN]),(fun _ _ _ _=>#[zl,#[zJ],#[zl,#[z8],#[pvx,0],#[pvx,1]],#[pvx,2]])]]]]]]]]]]]],#[zo,#[zbj,#[zK,#[zgZ,hu],#[zw,lU,(hr.mono #[D]),T.m_joint_near,lI.kp,lC,#[zR],#[zc,#[pvx,1],#[zc,#[zl,#[zbS],#[pvx,5],#[zac,#[ya,#[pvx,6]]]],#[ya,#[pvx,10]]]]],#[zQ,(zb2 hu),T.sorted_,iM,#[ya,#[pvx,13]]],(zag _)],#[zo,#[zM,#[zde]]],#[zau]]]]]]]]]],#[zo,#[zM,#[zde]]]]]]]]]]]],?_⟩;refine znW ?_; intro zN10 zN9 zN8 Bs yR w8 tV qI qd;have oD:=bi;refine⟨_,rfl,a,ns,0,3,8,rfl,hS,kY,#[D],#[D],#[D],#[D],#[D],#[D],fun c tt p kI pl H1 sR s1 co pT h1t=>?_⟩;have rp:=zu co.pr;have k1:=co.k1;have kk:=co.kk;have kn:=co.kl;have ln:=co.ln;have p0:0 < p:=by lia
  obtain⟨k,rfl⟩:∃ k:Nat,kI=k:=⟨kI.toNat,#[O]⟩;have hcA:zbu H1 c tt p k pl:=⟨pT,h1t⟩;refine⟨_,rfl,c,_,rfl,k6.of pT,rfl,_,_,rfl,_,_,rfl,_,_,rfl,rfl,?_⟩;refine⟨_,rfl,_,rfl,a,c,tt,ns,1,p,k,pl,rfl,s1.seq hS,kY,#[D],#[D],hcA,#[O],#[O],co.rg,#[O],fun r0 mK H2 vU s2 sW xf h2r=>?_⟩;have s12:=s1.trans s2;have hcB:=hcA.same s2;refine⟨_,rfl,_,rfl,a,c,tt,ns,3,p,k,pl,rfl,s12.seq hS,kY,#[D],#[D],hcB,#[O],#[O],co.rg,#[O],fun r1 mX H3 hr3 s3 qk vi DO=>?_⟩;have BH:=s12.trans s3;have hcC:=hcB.same s3;have Es:=s3 _ _ h2r;refine⟨by show 2≤sizeLine; lia,fun ra pR=>?_⟩;have u4:=ze (o:=.lst [.ref r0,.ref r1]) pR;have vw:kW H3 ra (.lst [.ref r0,.ref r1]) ra=some (.lst ([r0,r1].map V.ref)):=zd;generalize kW H3 ra (.lst [.ref r0,.ref r1])=H4 at u4 vw ⊢;refine⟨bh _,fun bo hbo=>?_⟩;have u5:=ze (o:=.lst []) hbo;have Et:kW H4 bo (.lst []) bo=some (.lst []):=zd;have uk:=u4 _ _ Es;have um:=u4 _ _ DO;have hlb:=zl8 (p:=p) (sW.trans qk.symm);generalize kW H4 bo (.lst [])=H5 at u5 Et ⊢;refine⟨_,rfl,ra,_,_,_,rfl,rfl,kS.of (u5 _ _ vw),rfl,_,rfl,ra,_,_,_,rfl,rfl,kS.of (u5 _ _ vw),rfl,r0,r1,_,_,rfl,kS.of (u5 _ _ uk),kS.of (u5 _ _ um),zdu (n:=pl.length) (fun i σ H'=>∃ (e7 e8:Option V),σ = [some (.ref a),some (.ref c),some (.int p),some (.int (k:Int)),some (.ref tt),some (.ref ra),some (.ref bo),e7,e8,none,none,none,none,none]∧zy H4 H'∧H' bo=some (.lst (((bth p mK mX).take i).map mJ))) ⟨none,none,rfl,u5,Et⟩ ?_ ?_ ?_ ?_⟩
  ·rintro i σ H6 hi ⟨e7,e8,rfl,s6,xZ⟩;exact⟨_,_,mJ mK[i],mJ (mX[i]'#[O]),kS.of (s6 _ _ uk),kS.of (s6 _ _ um),by rw [ak,ap #[O]]; rfl,by rw [ak,ap #[O]]; rfl⟩
  ·rintro σ H6 ⟨e7,e8,rfl,s6,xZ⟩;exact⟨_,_,kS.of (s6 _ _ uk),kS.of (s6 _ _ um),by rw [ab,ab]; lia⟩
  ·rintro zD zT i x σ H6 H7 hi ⟨e7,e8,rfl,s6,xZ⟩ ⟨T2,u,v,sV,rfl,rfl,hu,hv⟩;obtain⟨o1,rfl,wW⟩:=zcL (hu _ (kS.of (s6 _ _ uk)));obtain⟨o2,rfl,pN⟩:=zcL (hv _ (kS.of (s6 _ _ um)));have t7:=ze (o:=.tup [mJ o1,mJ o2]) sV;refine⟨T2,_,rfl,k6.of zd,rfl,_,_,rfl,_,_,rfl,rfl,?_⟩;have AK:=t7 _ _ xZ;have s7:=s6.trans t7;generalize kW H6 T2 (.tup [mJ o1,mJ o2])=H7 at t7 AK s7 ⊢;have xn:∀ (o:Option Int),(bth p mK mX)[i]? = some o→(zD i).nx [some (.ref a),some (.ref c),some (.int p),some (.int (k:Int)),some (.ref tt),some (.ref ra),some (.ref bo),some (mJ o1),some (mJ o2),none,none,none,none,none] (kW H7 bo (.lst (((bth p mK mX).take i).map mJ++[mJ o]))):=fun o ho=>⟨_,_,rfl,zal s7 hbo,by rw [zd,take_snoc ho,aq]; rfl⟩
   have lF:(((bth p mK mX).take i).map mJ).length < sizeLine:=by rw [ab,aI]; lia
   have Eu:=zis (p:=p) wW pN;show zT (zD i) [some (.ref a),some (.ref c),some (.int p),some (.int (k:Int)),some (.ref tt),some (.ref ra),some (.ref bo),some (mJ o1),some (mJ o2),none,none,none,none,none] H7;refine⟨_,rfl,.inl ⟨rfl,_,kS.of AK⟩,_,rfl,rfl,_,rfl,?_⟩;cases o1 with
   | none =>
    refine zaX (fun _=>?_) (fun h=>absurd (by simp [mJ]) h);exact⟨bo,_,_,rfl,rfl,AK,lF,xn none Eu⟩
   | some u1 =>
    refine zaX (fun h=>absurd h (by simp [mJ])) (fun _=>?_);refine⟨_,rfl,rfl,_,rfl,?_⟩;cases o2 with
    | none =>
     refine zaX (fun _=>?_) (fun h=>absurd (by simp [mJ]) h);exact⟨bo,_,_,rfl,rfl,AK,lF,xn none Eu⟩
    | some u2 =>
     refine zaX (fun h=>absurd h (by simp [mJ])) (fun _=>?_);exact⟨_,rfl,_,rfl,_,_,rfl,rfl,_,rfl,_,_,rfl,rfl,p0,bo,_,_,rfl,rfl,AK,lF,xn (some _) Eu⟩
  rintro σ H6 ⟨e7,e8,rfl,s6,xZ⟩;rw [aQ #[O]] at xZ;have sZ:=s6 _ _ vw;have sE:=s6 _ _ uk;have uo:=s6 _ _ um;have s06:=BH.trans (u4.trans s6);have uq:=hcC.same (u4.trans s6);have uZ:=znq p0 (a:=mK) (b:=mX);clear u5 Et;have xX:∀ {H':Hp},zy H6 H'→zi7 pl.length H' [r0,r1] [mK,mX]:=fun s=>.cons ⟨s _ _ sE,sW⟩ (.cons ⟨s _ _ uo,qk⟩ .nil)
  have tz:∀ rw∈[mK,mX,bth p mK mX],∀ z,some z∈rw→0≤z∧z < p:=fun rw mW=>by
   simp at mW;rcases mW with rfl | rfl | rfl
   ·exact xf
   ·exact vi
   ·exact uZ
  have vA:∀ {rws:List (List (Option Int))},(∀ rw∈rws,rw∈[mK,mX,bth p mK mX])→∀ rw∈rws,∀ z,some z∈rw→0≤z∧z < p:=fun h rw mW=>tz rw (h rw mW)
  have sS:pl.length≤16:=by lia
  have k0:1≤k:=by lia
  have k9:k≤100:=by lia
  refine⟨_,rfl,_,rfl,?_⟩;refine⟨c,tt,ra,p,k,pl,[r0,r1],[mK,mX],rfl,uq.same (fun _ _ e=>e),kS.of sZ,xX (fun _ _ e=>e),(by show 2≤10; decide),sS,co.pr,co.nd,co.rg,vA (fun rw mW=>by (simp at mW ⊢; rcases mW with h | h; exact .inl h; exact .inr (.inl h))),k0,k9,fun z la l3 _ e left oI H7 s7 DV _ _ _ _ L=>?_⟩;refine⟨z,_,_,_,rfl,rfl,k6.of DV,rfl,?_⟩;have BP:=s7 _ _ sZ;refine⟨_,rfl,_,rfl,ra,rfl,⟨_,kS.of BP⟩,z9 (n:=2) (fun m ys H'=>zy H7 H'∧∃ es:List Int,ys=es.map V.int∧es.length=m∧∀ x∈es,x≤(e:Int)) ⟨fun _ _ e=>e,[],rfl,rfl,fun x hx=>(by cases hx)⟩ ?_ ?_ ?_ ?_⟩
  ·rintro m ys H8 hm ⟨s8,_⟩;exact⟨_,.ref ([r0,r1][m]),kS.of (s8 _ _ BP),by rw [ak,ap hm]; rfl⟩
  ·rintro ys H8 ⟨s8,_⟩;exact⟨_,kS.of (s8 _ _ BP),af _⟩
  ·rintro zS zT zE m y ys H8 H9 hm ⟨s8,es,rfl,sT,tE⟩ ⟨rfl,hy⟩;obtain⟨b,rfl,hb⟩:=zP (hy _ (kS.of (s8 _ _ BP)));obtain⟨rw,mW,mV,xi⟩:=Paired.get (xX (s7.trans s8)) hb;have Ew:rw∈[mK,mX]:=aE mW;refine gY ⟨_,rfl,_,rfl,by show 1≤sizeLine; lia,fun x1 oF=>?_⟩;have t9:=ze (o:=.lst [.ref b]) oF;have g9:kW H9 x1 (.lst [.ref b]) x1=some (.lst ([b].map V.ref)):=zd;generalize kW H9 x1 (.lst [.ref b])=Hx at t9 g9 ⊢;refine⟨c,tt,x1,p,k,pl,[b],[rw],rfl,uq.same (s7.trans (s8.trans t9)),kS.of g9,.cons ⟨t9 _ _ mV,xi⟩ .nil,(by show 1≤10; decide),sS,co.pr,co.nd,co.rg,vA (fun xB pU=>by (rw [aN.mp pU]; simp at Ew ⊢; rcases Ew with h | h; exact .inl h; exact .inr (.inl h))),k0,k9,fun z2 Ex Ey _ e2 ur pX Ha sa xV _ _ _ _ sF=>?_⟩;refine⟨z2,_,_,_,rfl,rfl,k6.of xV,rfl,by rw [ab]; lia,s8.trans (t9.trans sa),es++[(e2:Int)],by rw [aq]; rfl,by rw [ao,sT]; rfl,fun x hx=>?_⟩;rcases (aK.mp hx) with hx | hx
   ·exact tE x hx
   ·rw [aN.mp hx];have:=zct L sF fun kQ lG=>(by rw [List.map_singleton,aN] at lG; rw [lG]; exact dP Ew)
    lia
  rintro ys H8 D8 ⟨s8,es,rfl,sT,tE⟩ hD8;have t9:=ze (o:=.lst (es.map V.int)) hD8;have g9:kW H8 D8 (.lst (es.map V.int)) D8=some (.lst (es.map V.int)):=zd;generalize kW H8 D8 (.lst (es.map V.int))=H9 at t9 g9 ⊢;have AL:es≠[]:=fun e0=>by rw [e0] at sT; cases sT
  refine⟨D8,es,rfl,kS.of g9,AL,fun M hM _=>⟨_,_,rfl,rfl,_,rfl,?_⟩⟩;refine zaX (fun h=>absurd (of_decide_eq_true h) (by have:=tE M hM; lia)) (fun _=>?_);have uf:=s7.trans (s8.trans t9);clear sT tE AL hM g9;refine⟨_,rfl,_,rfl,_,rfl,rfl,ra,_,rfl,.inl ⟨kS.of (uf _ _ sZ),fun x1 oF=>?_⟩⟩;have w1:=uf.trans (ze (o:=.lst ([r0,r1].map V.ref).reverse) oF);have v1:kW H9 x1 (.lst ([r0,r1].map V.ref).reverse) x1=some (.lst ([r1,r0].map V.ref)):=zd;have hRr:∀ {H':Hp},zy H6 H'→zi7 pl.length H' [r1,r0] [mX,mK]:=fun s=>.cons ⟨s _ _ uo,qk⟩ (.cons ⟨s _ _ sE,sW⟩ .nil)
  refine⟨c,tt,x1,p,k,pl,[r1,r0],[mX,mK],rfl,uq.same w1,kS.of v1,hRr w1,(by show 2≤10; decide),sS,co.pr,co.nd,co.rg,vA (fun rw mW=>by (simp at mW ⊢; rcases mW with h | h; exact .inr (.inl h); exact .inl h)),k0,k9,fun z2 Ex Ey _ e2 ur pX Ha sa xV _ _ _ _ sF=>?_⟩;refine⟨z2,_,_,_,rfl,rfl,k6.of xV,rfl,_,rfl,?_⟩;have v7:e2=e:=iC (zct L sF fun kQ h=>by (simp at h ⊢; exact h.symm)) (zct sF L fun kQ h=>by (simp at h ⊢; exact h.symm));rw [v7];refine⟨rfl,_,rfl,?_⟩;refine zaX (fun h=>absurd h #[M]) (fun _=>?_);have s6a:=w1.trans sa;clear v7 sF xV sa v1 w1 t9 s8 uf;have Ae:=s6a _ _ sZ;have AM:zba ([r0,r1].map V.ref) none (some 1) = [V.ref r0]:=rfl;have hRt:∀ {H':Hp},zy H6 H'→zi7 pl.length H' [r0,r1,r0] [mK,mX,mK]:=fun s=>.cons ⟨s _ _ sE,sW⟩ (.cons ⟨s _ _ uo,qk⟩ (.cons ⟨s _ _ sE,sW⟩ .nil))
  have hRb:∀ {H':Hp},zy H6 H'→zi7 pl.length H' [r0,r1,bo] [mK,mX,bth p mK mX]:=fun s=>.cons ⟨s _ _ sE,sW⟩ (.cons ⟨s _ _ uo,qk⟩ (.cons ⟨s _ _ xZ,hlb.trans sW⟩ .nil))
  refine⟨_,rfl,_,rfl,_,rfl,_,rfl,ra,_,rfl,kS.of Ae,fun x1 oF=>?_⟩;rw [AM];have t1:=ze (o:=.lst [.ref r0]) oF;refine⟨ra,x1,[r0,r1].map V.ref,[.ref r0],rfl,rfl,t1 _ _ Ae,zd,by show 3≤sizeLine; lia,fun x2 pv=>?_⟩;have w1:=s6a.trans (t1.trans (ze (o:=.lst ([r0,r1].map V.ref++[.ref r0])) pv));have v1:kW (kW Ha x1 (.lst [.ref r0])) x2 (.lst ([r0,r1].map V.ref++[.ref r0])) x2=some (.lst ([r0,r1,r0].map V.ref)):=zd;refine⟨c,tt,x2,p,k,pl,[r0,r1,r0],[mK,mX,mK],rfl,uq.same w1,kS.of v1,hRt w1,(by show 3≤10; decide),sS,co.pr,co.nd,co.rg,vA (fun rw mW=>by (simp at mW ⊢; rcases mW with h | h | h; exact .inl h; exact .inr (.inl h); exact .inl h)),k0,k9,fun z2 Ex Ey _ e2 ur pX Hb sb hbz _ _ _ _ sF=>?_⟩;refine⟨z2,_,_,_,rfl,rfl,k6.of hbz,rfl,_,rfl,?_⟩;have v7:e2=e:=iC (zct L sF fun kQ h=>by (simp at h ⊢; rcases h with h | h | h; exact .inl h; exact .inr h; exact .inl h)) (zct sF L fun kQ h=>by (simp at h ⊢; rcases h with h | h; exact .inl h; exact .inr (.inl h)));rw [v7];refine⟨rfl,_,rfl,?_⟩;refine zaX (fun h=>absurd h #[M]) (fun _=>?_);have s6b:=w1.trans sb;clear v7 sF hbz sb v1 w1 t1;have hba:=s6b _ _ sZ;refine⟨_,rfl,_,rfl,_,rfl,by show 1≤sizeLine; lia,fun x1 oF=>?_⟩;have t1:=ze (o:=.lst [.ref bo]) oF;refine⟨ra,x1,[r0,r1].map V.ref,[.ref bo],rfl,rfl,t1 _ _ hba,zd,by show 3≤sizeLine; lia,fun x2 pv=>?_⟩;have w1:=s6b.trans (t1.trans (ze (o:=.lst ([r0,r1].map V.ref++[.ref bo])) pv));have v1:kW (kW Hb x1 (.lst [.ref bo])) x2 (.lst ([r0,r1].map V.ref++[.ref bo])) x2=some (.lst ([r0,r1,bo].map V.ref)):=zd;refine⟨c,tt,x2,p,k,pl,[r0,r1,bo],[mK,mX,bth p mK mX],rfl,uq.same w1,kS.of v1,hRb w1,(by show 3≤10; decide),sS,co.pr,co.nd,co.rg,vA (fun rw mW=>mW),k0,k9,fun z2 Ex Ey _ e2 ur pX Hc sc hcz _ _ _ _ sF=>?_⟩;refine⟨z2,_,_,_,rfl,rfl,k6.of hcz,rfl,_,rfl,?_⟩;have v7:e2=e:=iC (zkS L sF fun l hg=>zkT p0 hg) (zct sF L fun kQ h=>by (simp at h ⊢; rcases h with h | h; exact .inl h; exact .inr (.inl h)));rw [v7];refine⟨rfl,_,rfl,?_⟩;refine zaX (fun h=>absurd h #[M]) (fun _=>?_);have s6c:=w1.trans sc;clear v7 sF hcz sc v1 w1 t1;refine⟨_,rfl,_,rfl,_,_,rfl,rfl,_,rfl,_,_,rfl,rfl,by show 3≤sizeLine; lia,fun tl uK=>?_⟩;have t1:=s6c.trans (ze (o:=.lst [.int (k:Int),.int ((k:Int)+1),.int ((k:Int)+2)]) uK);have vt:kW Hc tl (.lst [.int (k:Int),.int ((k:Int)+1),.int ((k:Int)+2)]) tl=some (.lst [.int (k:Int),.int ((k:Int)+1),.int ((k:Int)+2)]):=zd;generalize kW Hc tl (.lst [.int (k:Int),.int ((k:Int)+1),.int ((k:Int)+2)])=Hd at t1 vt ⊢;refine⟨tl,rfl,⟨_,kS.of vt⟩,zaC (K:=K) (a:=tl) (xs:=[.int (k:Int),.int ((k:Int)+1),.int ((k:Int)+2)]) (fun i σ H'=>∃ (e7 e8 qf BQ vB AN:Option V),σ = [some (.ref a),some (.ref c),some (.int p),some (.int (k:Int)),some (.ref tt),some (.ref ra),some (.ref bo),e7,e8,some (.int (e:Int)),qf,BQ,vB,AN]∧zy Hd H') ⟨_,_,_,_,_,_,rfl,fun _ _ e=>e⟩ (fun i σ H' _ ⟨_,_,_,_,_,_,_,s'⟩=>kS.of (s' _ _ vt)) ?_ ?_⟩
  ·rintro zD zT i x σ H0 hx ⟨e7,e8,qf,BQ,vB,AN,rfl,s0⟩;obtain⟨T',rfl,kT⟩:∃ T':Nat,x = .int (T':Int)∧k≤T':=by
    match i,hx with
    | 0,hx=>exact⟨k,(aM hx).symm,af _⟩
    | 1,hx=>exact⟨k+1,(aM hx).symm,#[O]⟩
    | 2,hx=>exact⟨k+2,(aM hx).symm,#[O]⟩
    | i+3,hx=>simp at hx
   show zT (zD i) [some (.ref a),some (.ref c),some (.int p),some (.int (k:Int)),some (.ref tt),some (.ref ra),some (.ref bo),e7,e8,some (.int (e:Int)),some (.int (T':Int)),BQ,vB,AN] H0;refine zmN ?_; intro zP7 zP6 zP5 zP4 zP3 zP2;have w0:=t1.trans s0;have a0:=w0 _ _ sZ;have m2:∀ rw∈[mK,mX],rw∈[mK,mX,bth p mK mX]:=fun rw mW=>by simp at mW ⊢; rcases mW with h | h; exact .inl h; exact .inr (.inl h)
   refine⟨_,rfl,_,rfl,_,rfl,c,tt,ra,p,k,T',pl,[r0,r1],[mK,mX],rfl,uq.same w0,a0,xX w0,(by show 2≤10; decide),sS,co.pr,co.nd,co.rg,vA m2,k0,k9,kT,#[M],fun fl us lH Hf xS sf Ez husl hTn EA mL=>?_⟩;have wf:=w0.trans sf;have pY:=znu mL;refine⟨_,rfl,fl,rfl,⟨_,kS.of Ez⟩,zaC (K:=K) (a:=fl) (xs:=us.map V.ref) (fun i σ H'=>∃ (vB:Option V),σ = [some (.ref a),some (.ref c),some (.int p),some (.int (k:Int)),some (.ref tt),some (.ref ra),some (.ref bo),e7,e8,some (.int (e:Int)),some (.int (T':Int)),some (.ref fl),vB,AN]∧zy Hf H') ⟨_,rfl,fun _ _ e=>e⟩ (fun i σ H' _ ⟨_,_,s'⟩=>kS.of (s' _ _ Ez)) ?_ ?_⟩
   ·rintro zD zT j x σ Hg hx ⟨vB,rfl,sg⟩;obtain⟨sb,rfl,lX⟩:=zP hx;obtain⟨qs,sY,rs,z1,z2⟩:=Paired.get (hTn.same sg) lX;have hJ:=(mL qs).mp (aE sY);obtain⟨qa,qb,rfl,x3,AO⟩:=pY qs (aE sY);obtain⟨ua,ub,rfl,uL,vC⟩:=z2.two;have DQ:=zir hJ (l:=0) rfl rfl sW;have rL:=zir hJ (l:=1) rfl rfl qk;have wg:=wf.trans sg;refine⟨_,rfl,sb,_,_,_,rfl,rfl,k6.of z1,rfl,_,rfl,_,rfl,ra,_,_,_,rfl,rfl,kS.of (wg _ _ sZ),rfl,_,rfl,c,tt,r0,p,k,(T':Int),pl,mK,rfl,uq.same wg,wg _ _ sE,sW,sS,co.pr,co.nd,co.rg,xf,k0,k9,#[O],fun nl vM qN Hn xU sn hn BM El BN=>?_⟩;refine⟨ua,nl,qa,vM,qN,rfl,rfl,sn _ _ uL,kS.of hn,BM,_,rfl,?_⟩;refine zaX (fun h=>absurd h (by rw [decide_eq_true ((BN qa).mpr ⟨DQ.1,#[O]⟩)]; simp)) (fun _=>?_);have wn:=wg.trans sn;refine⟨_,rfl,sb,_,_,_,rfl,rfl,k6.of (sn _ _ z1),rfl,_,rfl,_,rfl,ra,_,_,_,rfl,rfl,kS.of (wn _ _ sZ),rfl,_,rfl,c,tt,r1,p,k,(T':Int),pl,mX,rfl,uq.same wn,wn _ _ uo,qk,sS,co.pr,co.nd,co.rg,vi,k0,k9,#[O],fun nl2 ns2 qN2 Hn2 hnl2 sn2 pF EB hRN2 EC=>?_⟩;refine⟨ub,nl2,qb,ns2,qN2,rfl,rfl,sn2 _ _ (sn _ _ vC),kS.of pF,EB,_,rfl,?_⟩;refine zaX (fun h=>absurd h (by rw [decide_eq_true ((EC qb).mpr ⟨rL.1,#[O]⟩)]; simp)) (fun _=>?_);exact⟨_,rfl,sg.trans (sn.trans sn2)⟩
   rintro σ Hg ⟨vB,rfl,sg⟩;have ED:=hTn.same sg;have hgf:=sg _ _ Ez;have wg:=wf.trans sg;have oH:=ED.length;refine⟨_,rfl,_,rfl,_,rfl,rfl,ra,_,rfl,.inl ⟨kS.of (wg _ _ sZ),fun x1 oF=>?_⟩⟩;have y1:=wg.trans (ze (o:=.lst ([r0,r1].map V.ref).reverse) oF);have g1:=ze (o:=.lst ([r0,r1].map V.ref).reverse) oF;have v1:kW Hg x1 (.lst ([r0,r1].map V.ref).reverse) x1=some (.lst ([r1,r0].map V.ref)):=zd;generalize kW Hg x1 (.lst ([r0,r1].map V.ref).reverse)=Hh at y1 g1 v1 ⊢;have m3:∀ rw∈[mK,mX,mK],rw∈[mK,mX,bth p mK mX]:=fun rw mW=>by simp at mW ⊢; rcases mW with h | h | h; exact .inl h; exact .inr (.inl h); exact .inl h
   have m2r:∀ rw∈[mX,mK],rw∈[mK,mX,bth p mK mX]:=fun rw mW=>by simp at mW ⊢; rcases mW with h | h; exact .inr (.inl h); exact .inl h
   refine⟨_,rfl,c,tt,x1,p,k,T',pl,[r1,r0],[mX,mK],rfl,uq.same y1,v1,hRr y1,(by show 2≤10; decide),sS,co.pr,co.nd,co.rg,vA m2r,k0,k9,kT,#[M],fun fl2 us2 pC Hi AQ si sd _ rh rj oW=>?_⟩;have uu:=g1.trans si;have AR:=ED.same uu;have uv:=uu _ _ hgf;refine⟨_,rfl,fl,rfl,⟨_,kS.of uv⟩,z9 (n:=us.length) (fun m ys H'=>zy Hi H'∧∃ vs:List Addr,ys=vs.map V.ref∧vs.length=m∧zbx H' vs ((lH.take m).map ic)) ⟨fun _ _ e=>e,[],rfl,rfl,.nil⟩ ?_ ?_ ?_ ?_⟩
   ·rintro m ys Hj hm ⟨sj,_⟩;exact⟨_,.ref us[m],kS.of (sj _ _ uv),by rw [ak,ap hm]; rfl⟩
   ·rintro ys Hj ⟨sj,_⟩;exact⟨_,kS.of (sj _ _ uv),by rw [ab]; exact af _⟩
   ·rintro zS zT zE m y ys Hj Hk hm ⟨sj,vs,rfl,rG,pg⟩ ⟨rfl,hy⟩;obtain⟨sb,rfl,lX⟩:=zP (hy _ (kS.of (sj _ _ uv)));obtain⟨qs,sY,rs,z1,z2⟩:=Paired.get (AR.same sj) lX;refine gY ⟨_,rfl,_,rfl,rfl,sb,_,rfl,.inr ⟨k6.of z1,fun x2 pv=>?_⟩⟩;have t2:=ze (o:=.tup (rs.map V.ref).reverse) pv;refine⟨by rw [ab]; lia,sj.trans t2,vs++[x2],by rw [aq]; rfl,by rw [ao,rG]; rfl,?_⟩;rw [take_snoc sY,aq];exact bH (pg.same t2) ⟨rs.reverse,by rw [zd,List.map_reverse],(z2.same t2).rev⟩
   rintro ys Hj D ⟨sj,vs,rfl,rG,pg⟩ hD;rw [oH,aV] at pg;have t2:=ze (o:=.lst (vs.map V.ref)) hD;have v2:kW Hj D (.lst (vs.map V.ref)) D=some (.lst (vs.map V.ref)):=zd;generalize kW Hj D (.lst (vs.map V.ref))=Hk at t2 v2 ⊢;refine⟨D,p,k,2,vs,_,rfl,v2,pg.same t2,zkY pY,#[D],#[O],fun l' bs nS rE uh vq xo=>?_⟩;have t3:=ze (o:=.lst (bs.map V.ref)) rE;have e1:pC=nS:=zer #[O] uh vq (znv (zcj EA)) (zkY pY) rj (zmc mL oW);have sk:=sj.trans (t2.trans t3);refine znt (sk _ _ sd) zd (rh.same sk) (by rw [e1]; exact xo.same t3) ⟨_,rfl,zjB ?_⟩;have wk:=uu.trans sk;clear rh rj oW uh vq xo e1 pg v2 sd AR uv;have x4:=ED.same wk;have xp:=wk _ _ hgf;have wK:=wg.trans wk;generalize kW Hk l' (.lst (bs.map V.ref))=Hl at wk x4 xp wK ⊢;refine⟨_,rfl,_,rfl,_,rfl,_,rfl,ra,_,rfl,kS.of (wK _ _ sZ),fun x1 oF=>?_⟩;rw [AM];have t1:=ze (o:=.lst [.ref r0]) oF;refine⟨ra,x1,[r0,r1].map V.ref,[.ref r0],rfl,rfl,(wK.trans t1) _ _ sZ,zd,by show 3≤sizeLine; lia,fun x2 pv=>?_⟩;have g1:=t1.trans (ze (o:=.lst ([r0,r1].map V.ref++[.ref r0])) pv);have v1:kW (kW Hl x1 (.lst [.ref r0])) x2 (.lst ([r0,r1].map V.ref++[.ref r0])) x2=some (.lst ([r0,r1,r0].map V.ref)):=zd;generalize kW (kW Hl x1 (.lst [.ref r0])) x2 (.lst ([r0,r1].map V.ref++[.ref r0]))=Hm at g1 v1 ⊢;have y1:=wK.trans g1;refine⟨_,rfl,c,tt,x2,p,k,T',pl,[r0,r1,r0],[mK,mX,mK],rfl,uq.same y1,v1,hRt y1,(by show 3≤10; decide),sS,co.pr,co.nd,co.rg,vA m3,k0,k9,kT,#[M],fun fl2 us2 pC Hi AQ si sd _ rh rj oW=>?_⟩;have uu:=g1.trans si;have AR:=x4.same uu;have uv:=uu _ _ xp;refine⟨_,rfl,fl,rfl,⟨_,kS.of uv⟩,z9 (n:=us.length) (fun m ys H'=>zy Hi H'∧∃ vs:List Addr,ys=vs.map V.ref∧vs.length=m∧zbx H' vs ((lH.take m).map (zht fun a _=>a))) ⟨fun _ _ e=>e,[],rfl,rfl,.nil⟩ ?_ ?_ ?_ ?_⟩
   ·rintro m ys Hj hm ⟨sj,_⟩;exact⟨_,.ref us[m],kS.of (sj _ _ uv),by rw [ak,ap hm]; rfl⟩
   ·rintro ys Hj ⟨sj,_⟩;exact⟨_,kS.of (sj _ _ uv),by rw [ab]; exact af _⟩
   ·rintro zS zT zE m y ys Hj Hk hm ⟨sj,vs,rfl,rG,pg⟩ ⟨rfl,hy⟩;obtain⟨sb,rfl,lX⟩:=zP (hy _ (kS.of (sj _ _ uv)));obtain⟨qs,sY,rs,z1,z2⟩:=Paired.get (AR.same sj) lX;obtain⟨qa,qb,rfl,x3,AO⟩:=pY qs (aE sY);obtain⟨ua,ub,rfl,uL,vC⟩:=z2.two;refine gY ⟨_,rfl,_,rfl,_,rfl,sb,_,rfl,z1,fun x1 Ha sa ha=>?_⟩;have ha:Ha x1=some (.tup ([ua].map V.ref)):=ha;refine⟨sb,x1,_,_,rfl,rfl,sa _ _ z1,ha,by show 3≤sizeLine; lia,#[M],fun x2 Hb sb' hb=>?_⟩;have t2:=sa.trans sb';refine⟨by rw [ab]; lia,sj.trans t2,vs++[x2],by rw [aq]; rfl,by rw [ao,rG]; rfl,?_⟩;rw [take_snoc sY,aq];exact bH (pg.same t2) ⟨[ua,ub,ua],hb,.cons (t2 _ _ uL) (.cons (t2 _ _ vC) (.cons (t2 _ _ uL) .nil))⟩
   rintro ys Hj D ⟨sj,vs,rfl,rG,pg⟩ hD;rw [oH,aV] at pg;have t2:=ze (o:=.lst (vs.map V.ref)) hD;have v2:kW Hj D (.lst (vs.map V.ref)) D=some (.lst (vs.map V.ref)):=zd;generalize kW Hj D (.lst (vs.map V.ref))=Hk at t2 v2 ⊢;refine⟨D,p,k,3,vs,_,rfl,v2,pg.same t2,zfM (fun a _ h _=>h) pY,#[D],#[O],fun l' bs nS rE uh vq xo=>?_⟩;have t3:=ze (o:=.lst (bs.map V.ref)) rE;have e1:pC=nS:=zer #[O] uh vq (zkX (zcj EA) _) (zfM (fun a _ h _=>h) pY) rj (zfa co.pr co.nd co.rg kT mL oW fun a b ha hb=>⟨ha,fun i h0 _=>h0⟩);have sk:=sj.trans (t2.trans t3);refine znt (sk _ _ sd) zd (rh.same sk) (by rw [e1]; exact xo.same t3) ⟨_,rfl,zjB ?_⟩;have AS:=uu.trans sk;clear rh rj oW uh vq xo e1 pg v2 sd AR uv;have x4:=x4.same AS;have xp:=AS _ _ xp;have wK:=wK.trans AS;generalize kW Hk l' (.lst (bs.map V.ref))=Hl at AS x4 xp wK ⊢;refine⟨bh _,fun du hdu=>?_⟩;have u1:=ze (o:=.lst []) hdu;have f1:kW Hl du (.lst []) du=some (.lst []):=zd;generalize kW Hl du (.lst [])=Hm at u1 f1 ⊢;refine⟨_,rfl,fl,rfl,⟨_,kS.of (u1 _ _ xp)⟩,zaC (K:=K) (a:=fl) (xs:=us.map V.ref) (fun i σ H'=>∃ (vs:List Addr) (e7 e8:Option V),σ = [some (.ref a),some (.ref c),some (.int p),some (.int (k:Int)),some (.ref tt),some (.ref ra),some (.ref bo),e7,e8,some (.int (e:Int)),some (.int (T':Int)),some (.ref fl),vB,some (.ref du)]∧zy Hl H'∧H' du=some (.lst (vs.map V.ref))∧vs.length=i∧zbx H' vs ((lH.take i).map (zht (pls p)))) ⟨[],_,_,rfl,u1,f1,rfl,.nil⟩ (fun i σ H' _ ⟨_,_,_,_,s',_⟩=>kS.of (s' _ _ xp)) ?_ ?_⟩
   ·rintro zD zT m x σ Hj hx ⟨vs,e7',e8',rfl,sj,BR,rG,pg⟩;have hmu:=(aA.mp hx).1;rw [ab] at hmu;obtain⟨sb,rfl,lX⟩:=zP hx;obtain⟨qs,sY,rs,z1,z2⟩:=Paired.get (x4.same sj) lX;obtain⟨qa,qb,rfl,x3,AO⟩:=pY qs (aE sY);obtain⟨ua,ub,rfl,uL,vC⟩:=z2.two;refine⟨sb,_,rfl,k6.of z1,rfl,_,_,rfl,_,_,rfl,rfl,?_⟩;refine⟨_,rfl,.inl ⟨rfl,_,kS.of BR⟩,_,rfl,_,rfl,_,rfl,_,rfl,ua,ub,_,_,rfl,k6.of uL,k6.of vC,z9 (n:=k) (fun n ys H'=>zy Hj H'∧ys=((pls p qa qb).take n).map V.int) ⟨fun _ _ e=>e,rfl⟩ ?_ ?_ ?_ ?_⟩
    ·rintro n ys Ha hn ⟨sa,rfl⟩;exact⟨_,_,.int (qa[n]'(by rw [x3.1]; exact hn)),.int (qb[n]'(by rw [AO.1]; exact hn)),k6.of (sa _ _ uL),k6.of (sa _ _ vC),by rw [ak,ap (by rw [x3.1]; exact hn)]; rfl,by rw [ak,ap (by rw [AO.1]; exact hn)]; rfl⟩
    ·rintro ys Ha ⟨sa,rfl⟩;exact⟨_,_,k6.of (sa _ _ uL),k6.of (sa _ _ vC),by rw [ab,ab,x3.1]; exact .inl rfl⟩
    ·rintro zS zT zE n y ys Ha Hb hn ⟨sa,rfl⟩ ⟨T2,v1,v2,sV,rfl,rfl,hv1,hv2⟩;obtain⟨n1,rfl,rL⟩:=zar (hv1 _ (k6.of (sa _ _ uL)));obtain⟨n2,rfl,pF⟩:=zar (hv2 _ (k6.of (sa _ _ vC)));refine gY2 (k6.of zd) ?_;refine⟨_,rfl,_,rfl,_,_,rfl,rfl,_,rfl,_,_,rfl,rfl,p0,?_,sa.trans (ze sV),?_⟩
     ·rw [ab,aI]; lia
     ·have:(pls p qa qb)[n]? = some ((n1+n2) % p):=by unfold pls; rw [cQ,rL,pF]
      rw [take_snoc this,aq];rfl
    rintro ys Ha D ⟨sa,rfl⟩ hD;have Bn:=zdN p0 x3 AO;rw [aQ (by rw [Bn.1]; exact af _)];refine⟨D,_,rfl,.inl ⟨kS.of zd,fun x1 oF=>⟨by show 3≤sizeLine; lia,fun x2 pv=>?_⟩⟩⟩;have g1:=sa.trans (ze (o:=.lst ((pls p qa qb).map V.int)) hD);have g2:=g1.trans (ze (o:=.tup ((pls p qa qb).map V.int)) oF);have f3:kW (kW Ha D (.lst ((pls p qa qb).map V.int))) x1 (.tup ((pls p qa qb).map V.int)) x1=some (.tup ((pls p qa qb).map V.int)):=zd;generalize kW (kW Ha D (.lst ((pls p qa qb).map V.int))) x1 (.tup ((pls p qa qb).map V.int))=Hb at g2 f3 pv ⊢;have g3:=ze (o:=.tup [.ref ua,.ref ub,.ref x1]) pv;have f4:kW Hb x2 (.tup [.ref ua,.ref ub,.ref x1]) x2=some (.tup ([ua,ub,x1].map V.ref)):=zd;generalize kW Hb x2 (.tup [.ref ua,.ref ub,.ref x1])=Hc at g3 f4 ⊢;have g4:=g2.trans g3;have qF:=g4 _ _ BR;refine⟨du,_,_,rfl,rfl,qF,by rw [ab]; lia,?_⟩;refine⟨vs++[x2],_,_,rfl,zal (sj.trans g4) hdu,by rw [zd,aq]; rfl,by rw [ao,rG]; rfl,?_⟩;rw [take_snoc sY,aq];exact zbx.put (bH (pg.same g4) ⟨[ua,ub,x1],f4,.cons (g4 _ _ uL) (.cons (g4 _ _ vC) (.cons (g3 _ _ f3) .nil))⟩) qF
   rintro σ Hj ⟨vs,e7',e8',rfl,sj,BR,rG,pg⟩;rw [ab,oH,aV] at pg;have wj:=wK.trans sj;refine⟨_,rfl,_,rfl,_,rfl,by show 1≤sizeLine; lia,fun x1 oF=>?_⟩;have t1:=ze (o:=.lst [.ref bo]) oF;refine⟨ra,x1,[r0,r1].map V.ref,[.ref bo],rfl,rfl,(wj.trans t1) _ _ sZ,zd,by show 3≤sizeLine; lia,fun x2 pv=>?_⟩;have g1:=t1.trans (ze (o:=.lst ([r0,r1].map V.ref++[.ref bo])) pv);have v1:kW (kW Hj x1 (.lst [.ref bo])) x2 (.lst ([r0,r1].map V.ref++[.ref bo])) x2=some (.lst ([r0,r1,bo].map V.ref)):=zd;generalize kW (kW Hj x1 (.lst [.ref bo])) x2 (.lst ([r0,r1].map V.ref++[.ref bo]))=Ho at g1 v1 ⊢;have y1:=wj.trans g1;refine⟨_,rfl,c,tt,x2,p,k,T',pl,[r0,r1,bo],[mK,mX,bth p mK mX],rfl,uq.same y1,v1,hRb y1,(by show 3≤10; decide),sS,co.pr,co.nd,co.rg,vA (fun rw mW=>mW),k0,k9,kT,#[M],fun fl2 us2 pC Hi AQ si sd _ rh rj oW=>?_⟩;have uu:=g1.trans si;have hgp:∀ a b,IsP p k a→IsP p k b→IsP p k (pls p a b):=fun a b ha hb=>zdN p0 ha hb
   refine⟨_,rfl,du,p,k,3,vs,_,rfl,uu _ _ BR,pg.same uu,zfM hgp pY,#[D],#[O],fun l' bs nS rE uh vq xo=>?_⟩;have t3:=ze (o:=.lst (bs.map V.ref)) rE;have e1:pC=nS:=zer #[O] uh vq (zkX (zcj EA) _) (zfM hgp pY) rj (zfa co.pr co.nd co.rg kT mL oW fun a b ha hb=>⟨zdN p0 ha hb,fun i h0 h1=>zkR p0 (ha.1.trans hb.1.symm) i h0 h1⟩);refine znt (t3 _ _ sd) zd (rh.same t3) (by rw [e1]; exact xo.same t3) ⟨_,rfl,zjB ?_⟩;exact⟨_,_,_,_,_,_,rfl,s0.trans (sf.trans (sg.trans (wk.trans (AS.trans (sj.trans (uu.trans t3))))))⟩
  ·rintro σ H0 ⟨e7,e8,qf,BQ,vB,AN,rfl,s0⟩;exact q _
end
structure Dn (K:ag) (x:Str) (st:Stmt) (f:Addr) (fd:FuncData):Prop where
 a:bR K mainGlobals x=some (some (.ref f))
 f:Fun K x x st f fd
theorem zaF {K:ag} {x:Str} {st:Stmt} {f:Addr} {od an:Option Addr} {sl:Array (Option Value)} {oc kV dc pm cd ct:Value} (a:bR K mainGlobals x=some (some (.ref f))) (l:K.lookup f=some ⟨oc,od,.func (cT x x (zby st) (zbn st) (zj st) .none kV dc pm an cd ct),sl⟩) (c:eW K cd x=true) (k:eV K (.ref f)=true):Dn K x st f (cT x x (zby st) (zbn st) (zj st) .none kV dc pm an cd ct):=⟨a,zjA l c k⟩
theorem el0 {n:Nat} {us:List Value} (e:us.length=n+1):∃ a v,us=a :: v∧v.length=n:=by
 cases us with
 | nil=>cases e
 | cons a v=>exact⟨a,v,rfl,Nat.succ.inj e⟩
theorem el1 {us:List Value} (e:us.length=1):∃ a,us = [a]:=by
 obtain⟨a,v,rfl,h⟩:=el0 e;exact⟨a,by rw [List.eq_nil_of_length_eq_zero h]⟩
theorem el2 {us:List Value} (e:us.length=2):∃ a b,us = [a,b]:=by
 obtain⟨a,v,rfl,h⟩:=el0 e;obtain⟨b,rfl⟩:=el1 h;exact⟨a,b,rfl⟩
theorem el3 {us:List Value} (e:us.length=3):∃ a b c,us = [a,b,c]:=by
 obtain⟨a,v,rfl,h⟩:=el0 e;obtain⟨b,c,rfl⟩:=el2 h;exact⟨a,b,c,rfl⟩
theorem el4 {us:List Value} (e:us.length=4):∃ a b c d,us = [a,b,c,d]:=by
 obtain⟨a,v,rfl,h⟩:=el0 e;obtain⟨b,c,d,rfl⟩:=el3 h;exact⟨a,b,c,d,rfl⟩
local macro_rules|`(#[E2])=>`(fun _ _ _ _ _ _ _ h=>by obtain⟨_,_,e⟩:=el2 h;subst e;exact rfl)
local macro_rules|`(#[E3])=>`(fun _ _ _ _ _ _ _ h=>by obtain⟨_,_,_,e⟩:=el3 h;subst e;exact rfl)
local macro_rules|`(#[E4])=>`(fun _ _ _ _ _ _ _ h=>by obtain⟨_,_,_,_,e⟩:=el4 h;subst e;exact rfl)
theorem znx {l:iq} {w:World} {K:ag} {h:Heap} {mg:Str→Option Value} {fa fl m6 qB:Addr} (X:K.In h) (G:h.Ns mainGlobals mg) (hfa:mg "law" = some (.ref fa))
  {od an:Option Addr} {sl:Array (Option Value)} {oc kV dc pm cd ct:Value} (qC:bR K mainGlobals "SlipError" = some (some (.ref m6))) (uw:bR K mainGlobals "TooFew" = some (some (.ref qB))) (rk:∃ f fd,Dn K "value_at" zbZ f fd) (sG:∃ f fd,Dn K "inverse" zco f fd) (pZ:∃ f fd,Dn K "times_root" za7 f fd) (xq:∃ f fd,Dn K "bent" zej f fd) (sH:∃ f fd,Dn K "through" zcp f fd) (oX:∃ f fd,Dn K "heard_points" zaJ f fd) (xr:∃ f fd,Dn K "fits" zek f fd) (sI:∃ f fd,Dn K "choices" zbr f fd) (pE:∃ f fd,Dn K "all_through" zaT f fd) (rm:∃ f fd,Dn K "all_near" zbv f fd) (sJ:∃ f fd,Dn K "without" zbN f fd) (nU:∃ f fd,Dn K "first_relation" zam f fd) (rn:∃ f fd,Dn K "heard_at" zbw f fd) (p4:∃ f fd,Dn K "joint_near" za8 f fd) (om:∃ f fd,Dn K "times_entries" zaB f fd) (ux:∃ f fd,Dn K "beyond" s_beyond f fd) (vD:∃ f fd,Dn K "sized" zdJ f fd) (oo:∃ f fd,Dn K "joint_locator" zab f fd) (uy:∃ f fd,Dn K "_law_cell" zcX f fd) (sL:∃ f fd,Dn K "_law_draws" zcq f fd) (uz:∃ f fd,Dn K "_law_code" zch f fd) (sM:∃ f fd,Dn K "_law_value" zcr f fd) (oY:∃ f fd,Dn K "_law_polynomial" zaK f fd) (vE:∃ f fd,Dn K "_law_row" zcY f fd)   (sb:kH K m6 (.type "BaseException")=some true)
  (al:bR K mainGlobals "law" = some (some (.ref fl))) (ll:K.lookup fl=some ⟨oc,od,.func (cT "law" "law" (zby zbz) (zbn zbz) (zj zbz) .none kV dc pm an cd ct),sl⟩) (cl:eW K cd "law" = true) (kl:eV K (.ref fl)=true) (AU:bR K mainGlobals "len" = some none) (vF:bR K mainGlobals "range" = some none) (xt:bR K mainGlobals "list" = some none) (vG:bR K mainGlobals "tuple" = some none) (AV:bR K mainGlobals "min" = some none) (AW:bR K mainGlobals "max" = some none) (AX:bR K mainGlobals "zip" = some none) (qD:bR K mainGlobals "enumerate" = some none) (rA:bR K mainGlobals "reversed" = some none) (uA:bR K mainGlobals "sorted" = some none) (p5:bR K mainGlobals "ValueError" = some none) :
  ∃ fd:FuncData,(∀ (s:Shared) (v:Value),BindsTo s fd ⟨[v],[]⟩ [("script",v)])∧∀ base:Heap,K.In base→base.Ns mainGlobals mg→FnOk l.prog w K mg base CX0 7 fa fd ["script"] (zfq K):=by
 cases hfa.symm.trans (aY X G al);obtain⟨f_value_at,m5,nr⟩:=rk;have ly:=nr.f.binds (ps:=["p","polynomial","x"]) #[E3]
 obtain⟨f_inverse,oO,nV⟩:=sG;have mE:=nV.f.binds (ps:=["p","number"]) #[E2]
 obtain⟨f_times_root,pA,mP⟩:=pZ;have mN:=mP.f.binds (ps:=["p","polynomial","root"]) #[E3]
 obtain⟨f_bent,vn,rB⟩:=xq;have qW:=rB.f.binds (ps:=["p","polynomial","vanishing","point"]) #[E4]
 obtain⟨f_through,oP,nW⟩:=sH;have mH:=nW.f.binds (ps:=["p","points"]) #[E2]
 obtain⟨f_heard_points,mT,l5⟩:=oX;have lB:=l5.f.binds (ps:=["code","row"]) #[E2]
 obtain⟨f_fits,rQ,rC⟩:=xr;have oS:=rC.f.binds (ps:=["code","row","polynomial"]) #[E3]
 obtain⟨f_choices,qZ,nX⟩:=sI;have nR:=nX.f.binds (ps:=["things","many"]) #[E2]
 obtain⟨f_all_through,oT,mo⟩:=pE;have ml:=mo.f.binds (ps:=["code","points"]) #[E2]
 obtain⟨f_all_near,n9,nu⟩:=rm;have lN:=nu.f.binds (ps:=["code","row","t"]) #[E3]
 obtain⟨f_without,qX,nY⟩:=sJ;have nN:=nY.f.binds (ps:=["p","vector","times","other"]) #[E4]
 obtain⟨f_first_relation,nC,lO⟩:=nU;have lL:=lO.f.binds (ps:=["p","vectors"]) #[E2]
 obtain⟨f_heard_at,qw,nv⟩:=rn;have nk:=nv.f.binds (ps:=["row","numbers"]) #[E2]
 obtain⟨f_joint_near,pD,mQ⟩:=p4;have lC:=mQ.f.binds (ps:=["code","rows","t"]) #[E3]
 obtain⟨f_times_entries,nP,lR⟩:=om;have lE:=lR.f.binds (ps:=["p","left","points"]) #[E3]
 obtain⟨f_beyond,sy,oZ⟩:=ux;have oQ:=oZ.f.binds (ps:=["rights","many"]) #[E2]
 obtain⟨f_sized,uc,p6⟩:=vD;have oq:=p6.f.binds (ps:=["polynomial","many"]) #[E2]
 obtain⟨f_joint_locator,nT,lS⟩:=oo;have lh:=lS.f.binds (ps:=["code","rows"]) #[E2]
 obtain⟨f_l_cell,su,o6⟩:=uy;have oJ:=o6.f.binds (ps:=["script","k"]) #[E2]
 obtain⟨f_l_draws,oK,nZ⟩:=sL;have lW:=nZ.f.binds (ps:=["script","k","many","base"]) #[E4]
 obtain⟨f_l_code,sD,o7⟩:=uz;have oV:=o7.f.binds (ps:=["script","at","most_k","most_n"]) #[E4]
 obtain⟨f_l_value,qV,n4⟩:=sM;have nL:=n4.f.binds (ps:=["p","polynomial","x"]) #[E3]
 obtain⟨f_l_polynomial,oj,l9⟩:=oY;have lZ:=l9.f.binds (ps:=["draws","p","k"]) #[E3]
 obtain⟨f_l_row,uj,p7⟩:=vE;have ou:=p7.f.binds (ps:=["script","at","code"]) #[E3]
 let t:Adr:=⟨m6,qB,f_value_at,f_inverse,f_times_root,f_bent,f_through,f_heard_points,f_fits,f_choices,f_all_through,f_all_near,f_without,f_first_relation,f_heard_at,f_joint_near,f_times_entries,f_beyond,f_sized,f_joint_locator,f_l_cell,f_l_draws,f_l_code,f_l_value,f_l_polynomial,f_l_row,fa⟩
 have T:Txt K mg t:=⟨bO X G AU,bO X G vF,bO X G xt,bO X G vG,bO X G AV,bO X G AW,bO X G AX,bO X G qD,bO X G rA,bO X G uA,bO X G p5,aY X G qC,aY X G uw,sb,aY X G nr.a,aY X G nV.a,aY X G mP.a,aY X G rB.a,aY X G nW.a,aY X G l5.a,aY X G rC.a,aY X G nX.a,aY X G mo.a,aY X G nu.a,aY X G nY.a,aY X G lO.a,aY X G nv.a,aY X G mQ.a,aY X G lR.a,aY X G oZ.a,aY X G p6.a,aY X G lS.a,aY X G o6.a,aY X G nZ.a,aY X G o7.a,aY X G n4.a,aY X G l9.a,aY X G p7.a,⟨_,nr.f,ly⟩,⟨_,nV.f,mE⟩,⟨_,mP.f,mN⟩,⟨_,rB.f,qW⟩,⟨_,nW.f,mH⟩,⟨_,l5.f,lB⟩,⟨_,rC.f,oS⟩,⟨_,nX.f,nR⟩,⟨_,mo.f,ml⟩,⟨_,nu.f,lN⟩,⟨_,nY.f,nN⟩,⟨_,lO.f,lL⟩,⟨_,nv.f,nk⟩,⟨_,mQ.f,lC⟩,⟨_,lR.f,lE⟩,⟨_,oZ.f,oQ⟩,⟨_,p6.f,oq⟩,⟨_,lS.f,lh⟩,⟨_,o6.f,oJ⟩,⟨_,nZ.f,lW⟩,⟨_,o7.f,oV⟩,⟨_,n4.f,nL⟩,⟨_,l9.f,lZ⟩,⟨_,p7.f,ou⟩⟩;have FL:=zjA (st:=zbz) ll cl kl;exact⟨cT "law" "law" (zby zbz) (zbn zbz) (zj zbz) .none kV dc pm an cd ct,fun s v=>.of_eq rfl,fun base _ _=>znw (t:=t) T FL⟩
theorem walk {l:iq} {q:Program} {loose:List Str} {XP:(Str→Option Value)→Heap→Prop} {YP:World→Heap→Prop} {d:DefRec} {K:Params→ag} (hn:l.most=some 63) (yi:d.params.defaults = []) (hY:∀ (w:World) (h:Heap),YP w h→(K w.params).In h)
  (F:∀ (w:World) (mg:Str→Option Value) (fa:Addr) (h:Heap),(K w.params).In h→h.Ns mainGlobals mg→mg d.name=some (.ref fa)→∃ fd:FuncData,(∀ (s:Shared) (u:Value),BindsTo s fd ⟨[u],[]⟩ [("script",u)])∧∀ base:Heap,(K w.params).In base→base.Ns mainGlobals mg→FnOk l.prog w (K w.params) mg base CX0 7 fa fd ["script"] (zfq (K w.params))):kF q loose XP YP l.row.toRowW d [] (fun f vs=>kf f vs) :=
 L2.zlb (n:=63) (k:=7) (x:="script") (CX:=fun _=>CX0) (sp:=fun w=>zfq (K w.params)) hn #[D] yi ⟨rfl,#[D],#[D]⟩ hY F (fun _ _ a ns hl _ hS=>⟨a,ns,rfl,hS,hl,fun _=>rfl⟩) fun _ _ _ _ _ z=>z
end My
namespace PySem.W.Fast
def tw2903685236192951613:Unit:=()
def tw5530101816277387176:Unit:=()
def tw10387745535831839896:Unit:=()
def tw14612498296962088342:Unit:=()
def tw3665236012267895187:Unit:=()
def tw11543694483512937051:Unit:=()
def tw15093760990295675132:Unit:=()
def tw12806169239588094903:Unit:=()
def tw333352013289864151:Unit:=()
def tw894114705364125555:Unit:=()
def tw13850230855239177816:Unit:=()
def tw3608324371031619325:Unit:=()
def tw556824009403040295:Unit:=()
def tw1110564805881083514:Unit:=()
def tw14089618784532910447:Unit:=()
def tw2165775381220627829:Unit:=()
def tw3802813639353214521:Unit:=()
def tw8156654775943182574:Unit:=()
def tw8176558388698345317:Unit:=()
def tw12874980722082361141:Unit:=()
def tw3961080720267938013:Unit:=()
def tw14307777488752852260:Unit:=()
def tw5113306218875001739:Unit:=()
def tw7348776651046713467:Unit:=()
def tw11433718667752749051:Unit:=()
def tw2501980995924871920:Unit:=()
def tw14039602425613998896:Unit:=()
def tw9492589055074113162:Unit:=()
def tw14990974304130454664:Unit:=()
def tw17815623928115521076:Unit:=()
def tw7092115107888876672:Unit:=()
def tw4528203984190659920:Unit:=()
def tw12072160120313622688:Unit:=()
def tw8210843752009419184:Unit:=()
def tw15297847109774036851:Unit:=()
def tw9186693993471178358:Unit:=()
def tw8607099592871455972:Unit:=()
def tw3367363505622243235:Unit:=()
def tw17525663609553041846:Unit:=()
def tw10405542867911457546:Unit:=()
def tw3574589551484608753:Unit:=()
def tw5534004319003427201:Unit:=()
def tw5439465134942505220:Unit:=()
def tw14889530263430516347:Unit:=()
def tw4885184112013482187:Unit:=()
def tw2866445204524996193:Unit:=()
def tw4030454243901954690:Unit:=()
def tw6156568080679938366:Unit:=()
def tw6708079636946446646:Unit:=()
def tw6898141110349233577:Unit:=()
def tw16963997548066180819:Unit:=()
def tw10122300234910983458:Unit:=()
def tw11722469699189382047:Unit:=()
def tw11232791398619165632:Unit:=()
def tw16769033919084680157:Unit:=()
def tw3389562734494595088:Unit:=()
def tw17854896613342984252:Unit:=()
def tw7379696219401462314:Unit:=()
def tw3654629215754719384:Unit:=()
def tw16671219486031143588:Unit:=()
def tw6644856764200512865:Unit:=()
def tw11284540193778956501:Unit:=()
def tw7832131983713949528:Unit:=()
def tw7262086342522319065:Unit:=()
def tw15053644436518175190:Unit:=()
def tw16651588516964347602:Unit:=()
def tw7967381316301253481:Unit:=()
def tw778460359052067669:Unit:=()
def tw14648891993661636956:Unit:=()
def tw11932216279738990605:Unit:=()
def tw4673944300597496720:Unit:=()
def tw6209332992270353870:Unit:=()
def tw14232885310791742633:Unit:=()
def tw10568067208534332249:Unit:=()
def tw14143923737606435648:Unit:=()
def tw11349822780148897899:Unit:=()
def tw17387798390851090012:Unit:=()
def tw12450283461827586784:Unit:=()
def tw9965302332736995848:Unit:=()
def tw7157434471954828549:Unit:=()
def tw17951343424156692414:Unit:=()
def tw17750009473601606555:Unit:=()
def tw11292054091364363462:Unit:=()
def tw13524119018761335708:Unit:=()
def tw3979605557315668775:Unit:=()
def tw4617652562653144465:Unit:=()
def tw3840913088087928986:Unit:=()
def tw5404246985858893737:Unit:=()
def tw16890182341370418039:Unit:=()
def tw7995791921262297172:Unit:=()
end PySem.W.Fast
open PySem PySem.W
open PyProof.Rows
set_option maxHeartbeats 0 in
theorem PySem.Challenge.cw_slipcurve_k38_whole_together_and_alone_holds : PySem.Challenge.rw_slipcurve_k38_whole_together_and_alone.Holds := by
 w_on; o_law; k_head; (case hw=>w_witness2)
 k_fill
 refine My.walk (l:=PySem.Challenge.rw_slipcurve_k38_whole_together_and_alone) rfl rfl (fun w h Y=>PySem.W.kIn_of Y) ?F
 case F =>
  intro w mg fa h KX G hmg;refine' My.znx KX G hmg ?a_SlipError ?a_TooFew ⟨_,_,My.zaF ?da_value_at ?dl_value_at ?dc_value_at ?dk_value_at⟩ ⟨_,_,My.zaF ?da_inverse ?dl_inverse ?dc_inverse ?dk_inverse⟩ ⟨_,_,My.zaF ?da_times_root ?dl_times_root ?dc_times_root ?dk_times_root⟩ ⟨_,_,My.zaF ?da_bent ?dl_bent ?dc_bent ?dk_bent⟩ ⟨_,_,My.zaF ?da_through ?dl_through ?dc_through ?dk_through⟩ ⟨_,_,My.zaF ?da_heard_points ?dl_heard_points ?dc_heard_points ?dk_heard_points⟩ ⟨_,_,My.zaF ?da_fits ?dl_fits ?dc_fits ?dk_fits⟩ ⟨_,_,My.zaF ?da_choices ?dl_choices ?dc_choices ?dk_choices⟩ ⟨_,_,My.zaF ?da_all_through ?dl_all_through ?dc_all_through ?dk_all_through⟩ ⟨_,_,My.zaF ?da_all_near ?dl_all_near ?dc_all_near ?dk_all_near⟩ ⟨_,_,My.zaF ?da_without ?dl_without ?dc_without ?dk_without⟩ ⟨_,_,My.zaF ?da_first_relation ?dl_first_relation ?dc_first_relation ?dk_first_relation⟩ ⟨_,_,My.zaF ?da_heard_at ?dl_heard_at ?dc_heard_at ?dk_heard_at⟩ ⟨_,_,My.zaF ?da_joint_near ?dl_joint_near ?dc_joint_near ?dk_joint_near⟩ ⟨_,_,My.zaF ?da_times_entries ?dl_times_entries ?dc_times_entries ?dk_times_entries⟩ ⟨_,_,My.zaF ?da_beyond ?dl_beyond ?dc_beyond ?dk_beyond⟩ ⟨_,_,My.zaF ?da_sized ?dl_sized ?dc_sized ?dk_sized⟩ ⟨_,_,My.zaF ?da_joint_locator ?dl_joint_locator ?dc_joint_locator ?dk_joint_locator⟩ ⟨_,_,My.zaF ?da_l_cell ?dl_l_cell ?dc_l_cell ?dk_l_cell⟩ ⟨_,_,My.zaF ?da_l_draws ?dl_l_draws ?dc_l_draws ?dk_l_draws⟩ ⟨_,_,My.zaF ?da_l_code ?dl_l_code ?dc_l_code ?dk_l_code⟩ ⟨_,_,My.zaF ?da_l_value ?dl_l_value ?dc_l_value ?dk_l_value⟩ ⟨_,_,My.zaF ?da_l_polynomial ?dl_l_polynomial ?dc_l_polynomial ?dk_l_polynomial⟩ ⟨_,_,My.zaF ?da_l_row ?dl_l_row ?dc_l_row ?dk_l_row⟩ ?sb ?al ?ll ?cl ?kl ?z_len ?z_range ?z_list ?z_tuple ?z_min ?z_max ?z_zip ?z_enumerate ?z_reversed ?z_sorted ?z_ValueError
  (case a_SlipError=>k_is)
  (case a_TooFew=>k_is)
  (case da_value_at=>k_is)
  (case dl_value_at=>k_is)
  (case dc_value_at=>k_is)
  (case dk_value_at=>k_is)
  (case da_inverse=>k_is)
  (case dl_inverse=>k_is)
  (case dc_inverse=>k_is)
  (case dk_inverse=>k_is)
  (case da_times_root=>k_is)
  (case dl_times_root=>k_is)
  (case dc_times_root=>k_is)
  (case dk_times_root=>k_is)
  (case da_bent=>k_is)
  (case dl_bent=>k_is)
  (case dc_bent=>k_is)
  (case dk_bent=>k_is)
  (case da_through=>k_is)
  (case dl_through=>k_is)
  (case dc_through=>k_is)
  (case dk_through=>k_is)
  (case da_heard_points=>k_is)
  (case dl_heard_points=>k_is)
  (case dc_heard_points=>k_is)
  (case dk_heard_points=>k_is)
  (case da_fits=>k_is)
  (case dl_fits=>k_is)
  (case dc_fits=>k_is)
  (case dk_fits=>k_is)
  (case da_choices=>k_is)
  (case dl_choices=>k_is)
  (case dc_choices=>k_is)
  (case dk_choices=>k_is)
  (case da_all_through=>k_is)
  (case dl_all_through=>k_is)
  (case dc_all_through=>k_is)
  (case dk_all_through=>k_is)
  (case da_all_near=>k_is)
  (case dl_all_near=>k_is)
  (case dc_all_near=>k_is)
  (case dk_all_near=>k_is)
  (case da_without=>k_is)
  (case dl_without=>k_is)
  (case dc_without=>k_is)
  (case dk_without=>k_is)
  (case da_first_relation=>k_is)
  (case dl_first_relation=>k_is)
  (case dc_first_relation=>k_is)
  (case dk_first_relation=>k_is)
  (case da_heard_at=>k_is)
  (case dl_heard_at=>k_is)
  (case dc_heard_at=>k_is)
  (case dk_heard_at=>k_is)
  (case da_joint_near=>k_is)
  (case dl_joint_near=>k_is)
  (case dc_joint_near=>k_is)
  (case dk_joint_near=>k_is)
  (case da_times_entries=>k_is)
  (case dl_times_entries=>k_is)
  (case dc_times_entries=>k_is)
  (case dk_times_entries=>k_is)
  (case da_beyond=>k_is)
  (case dl_beyond=>k_is)
  (case dc_beyond=>k_is)
  (case dk_beyond=>k_is)
  (case da_sized=>k_is)
  (case dl_sized=>k_is)
  (case dc_sized=>k_is)
  (case dk_sized=>k_is)
  (case da_joint_locator=>k_is)
  (case dl_joint_locator=>k_is)
  (case dc_joint_locator=>k_is)
  (case dk_joint_locator=>k_is)
  (case da_l_cell=>k_is)
  (case dl_l_cell=>k_is)
  (case dc_l_cell=>k_is)
  (case dk_l_cell=>k_is)
  (case da_l_draws=>k_is)
  (case dl_l_draws=>k_is)
  (case dc_l_draws=>k_is)
  (case dk_l_draws=>k_is)
  (case da_l_code=>k_is)
  (case dl_l_code=>k_is)
  (case dc_l_code=>k_is)
  (case dk_l_code=>k_is)
  (case da_l_value=>k_is)
  (case dl_l_value=>k_is)
  (case dc_l_value=>k_is)
  (case dk_l_value=>k_is)
  (case da_l_polynomial=>k_is)
  (case dl_l_polynomial=>k_is)
  (case dc_l_polynomial=>k_is)
  (case dk_l_polynomial=>k_is)
  (case da_l_row=>k_is)
  (case dl_l_row=>k_is)
  (case dc_l_row=>k_is)
  (case dk_l_row=>k_is)
  (case sb=>k_is)
  (case al=>k_is)
  (case ll=>k_is)
  (case cl=>k_is)
  (case kl=>k_is)
  (case z_len=>k_is)
  (case z_range=>k_is)
  (case z_list=>k_is)
  (case z_tuple=>k_is)
  (case z_min=>k_is)
  (case z_max=>k_is)
  (case z_zip=>k_is)
  (case z_enumerate=>k_is)
  (case z_reversed=>k_is)
  (case z_sorted=>k_is)
  (case z_ValueError=>k_is)
#print axioms PySem.Challenge.cw_slipcurve_k38_whole_together_and_alone_holds
end