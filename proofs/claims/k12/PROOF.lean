import PyProof.Rows.All
import Wide.All
import OpenK.AllK
import Wide.FinOn
import Lean
import PyProof.EqAt
import PyProof.EqKinds
import KE.KDictOf
import PyProof.AttrMissHeap
import PyProof.Rows.MinMaxN
import PyProof.ListMulRoad
import KE.KUnpackStar
import KE.KIntText
import PyProof.CallStr
import KE.KDictSum
import KE.KSortTup
import PyProof.Walk
import PyProof.Rows.SortRuns
import PyProof.Rows.ChunkEnd
import PyProof.Rows.Range3
import PyProof.Rows.SeqGen
import PyProof.ConsumeWalk
import PyProof.ListRange
import PyProof.NeKinds
import PyProof.TupleCall
import PySem.Challenge.RW_slipcurve_k12_whole_rows_moved
set_option maxHeartbeats 3999000
open List renaming length_map→ab,getElem?_map→ah,getElem?_eq_getElem→ai,map_append→ao,replicate→ap,length_append→aq,size_toArray→ar,mem_cons_of_mem→au,length_take→av,mem_map→aB,getElem?_eq_some_iff→aD,mem_of_getElem?→aF,mem_cons_self→aH,mem_cons→aI,range→aJ,mem_append_right→aL,take_of_length_le→aP,getD_eq_getElem?_getD→aQ,length_replicate→aU,not_mem_nil→aV,mem_append_left→aW,length_range→aY,map_cons→aZ,zipWith→a7,take_length→ba,mem_singleton→be,mem_append→bf,append_assoc→bg,lookup_cons→bh,length_cons→bn,getElem?_append_left→bo,map_map→bq,mem_range→bv,mem_filter→bE,append_nil→bH,getElem?_take_of_lt→bL,getElem?_append_right→bN,filter_cons_of_pos→bQ,filter_cons_of_neg→bR,take_sublist→bU,length_drop→b8,mem_flatMap→b9,replicate_succ→cg,map_congr_left→ci,getElem?_range→cj,take_append_drop→ck,range_succ→cp,flatMap_append→cq,pairwise_map→cu,getElem?_eq_none→cw,mem_iff_getElem?→cA,getElem?_cons_succ→cE,length_zipWith→cK,drop_eq_getElem_cons→cM,pairwise_iff_getElem→cP,filter_append→cS,getElem?_of_mem→cW,getElem?_replicate→cX,filter_sublist→c6,nodup_iff_pairwise_ne→db,map_take→de,sum_cons→df,getElem?_zipWith→dk,length_filter_le→dm,drop_zero→dn,concat_eq_append→dq,extract_eq_take_drop→dt,mem_of_mem_take→dH,flatMap_cons→dJ,mem_map_of_mem→dN,take_zero→dO,drop_eq_nil_of_le→dW,zip_cons_cons→dY,nodup_cons→d8,flatten_cons→eg,nodup_append→er,getElem?_set_ne→et,getElem_mem→eP,eq_of_mem_replicate→eQ,getElem_of_mem→eS,forIn_cons→eX,find?_cons→eY,getElem?_drop→eZ,filter_nil→fc,length→fe,drop_of_length_le→ff,length_singleton→fh,eq_nil_or_concat→fu,all_eq_true→fB,filterMap_cons→fH,length_take_le→fI,getElem?_zip_eq_some→fM,map_nil→fT,getElem?_cons_zero→ga,ext_getElem?→gd,filter_congr→gf,getElem?_set_self→gg,flatMap_nil→gr,drop_length→gt,of_mem_zip→gw,foldl→gz,mem_of_mem_drop→gC,length_pos_iff→gI,forIn_nil→gM,pairwise_cons→gW,map_drop→h9,take_nil→ie,take_add_one→iq,nodup_range→iK,nil_sublist→iM,sublist_nil→iN,length_eq_zero_iff→iT,length_set→iX,foldl_cons→iY,nil_append→iZ,length_nil→i4,lookup→jc,range_succ_eq_map→jd,map_id→ji,filter_eq_nil_iff→jj,length_eq_one_iff→jk,drop_drop→jl,pairwise_append→jx,any_cons→jD,filter_eq_self→jM,mem_filterMap→jQ,filterMap_map→jT,forIn_toArray→j0,getElem_take→j7,zipIdx_cons→ku,map_flatMap→kA,any_eq_true→kB,prefix_refl→kD,zipIdx_nil→kK,sum_append→kM,length_zip→kN,filter_map→kQ,take_take→kT
open PySem renaming wpAny_bind→ae,wpAny_pure→ak,sizeLine_eq→aX,wpAny_callSpecial?_slot→br,wpAny_field→bC,wpAny_call_entry→bD,wpAny_setField_rec→bO,wpAny_newObj_type→bV,wpAny_holding→bY,wpAny_rule→cn,boot_len→cB,wpAny_loadPart'→cN,builtinLookup_eq_fast→cQ,wpAny_mono→c7,wpAny_attempt→c9,wpAny_seqItems→dj,wpAny_typeNameOfWhole_keyiter→dL,call_meets→dR,wpAny_of_eq→dS,wpAny_passesOwn→dZ,typeLookup_type→ed,wpAny_setField→eG,mem_of_lookup→eR,wpAny_isInstance→fC,wpAny_standAt→fF,wpAny_pyIter_tuple→fQ,wpAny_typeOf→fS,wpAny_pyIter_enum→gc,wpAny_pyIter_zip→gn,wpAny_execs_nil→gv,wpAny_updateSeq_pair→gB,isSubtype_type→gJ,isSubtype_stop→gK,wpAny_newTuple→gN,seqIndex_of→gQ,wpAny_Call_Name_kw→gR,tupleKind_room_in1→gU,wpAny_letOwnedTupleGo_enum→hJ,wpAny_onRaise→ic,wpAny_pyIter_list→ik,wpAny_pyIter_slot→ip,wpAny_dictEntries→ir,typeIs_int→iA,wpAny_binaryOp_repeat_ref→iB,noFill_tuple_add→iE,wpAny_comprehension_free→iI,wpAny_specialOf→i3,wpAny_dictEpoch→i5,wpAny_ite_false→i6,wpAny_letGo→je,wpAny_notOrdered_dict→jm,wpAny_isOneOf_keyiter→jo,wpAny_loadName_local→jr,wpAny_pyIter_revIter→jv,wpAny_pyIter_keyiter→jy,seq_tuple_add→jA,wpAny_handled→jB,wpAny_loadName_cell→jG,codeAny_mono→jR,concat_meets→jS,seqIndex_neg→jV,callType_new→jZ,list_append→j5,wpAny_throw→kf,seqSlot_of→kC,wpAny_Name→kF,call→kJ
open Nat renaming le_refl→af,le_trans→a8,zero_le→bj,lt_of_lt_of_le→bp,ne_of_lt→bz,min_eq_left→cD,lt_irrefl→cG,add_sub_cancel→cT,zero_add→dB,add_sub_cancel_left→dM,sub_zero→dX,succ_le_succ→eJ,lt_succ_of_lt→fg,mul_comm→fj,le_div_iff_mul_le→fw,le_of_not_lt→fA,le_of_lt→fO,ne_of_gt→fP,add_zero→fU,sub_self→fX,mul_succ→fZ,le_succ→gj,le_add_right→gq,mul_le_mul_right→gG,lt_of_le_of_lt→gV,le_of_succ_le→im,lt_succ_of_le→iz,le_of_eq→iF,lt_succ_self→iG,succ_ne_self→iH,add_le_add_left→jN,div_le_self→kO,mul_le_mul→kX
open PySem.W renaming Frag→ag,mg_of→aS,mg_none_of→bK,nsIn→bM,fnOf→dw,keepIn→f6,codeIn→f7,methodObj→ij,OpenLaw→i0,cellsFrom_some→i9,kat_kind→kz,WalkO→k6,mroIn→k7
open PySem.Heap renaming get?_push_of_some→aj,lt_size→aK,get?_push_size→aO,SameBut→bu,size_push→bT,get?_update_self→d9,get?_update_other→gi,get?_update_ne→jL,IsTuple→j1,ExtBut→kd
open Or renaming inl→am,inr→cb
open PyProof.Rows renaming wpS_bind→aw,wpS_pure→aA,callWith_type1→bA,wpS_forRange→bZ,wpS_mono→dg,slot_tuple_getitem→dv,zipApart_new→dA,wpS_modify→dU,wpS_get→fo,boot_tuple→fE,wpS_lift→gO,pairsOf_size→iL,subscriptTail_builtinR→ja,mirror_perm→jh,pairsOf_toList→jp,listUpdate_at→jF,entry_tuple_getitem→jH,getElem?_mirror_all→jK,args_tuple_getitem→jU,seqEpoch_at→kh,boot_sorted→ki,boot_zip→kt,boot_max→kE,boot_range→kG
open Int renaming emod_lt_of_pos→az,emod_nonneg→aG,toNat_natCast→bG,le_refl→bP,le_trans→b7,emod_eq_of_lt→cr,mul_zero→cH,zero_mul→cI,pow_succ→dE,mul_le_mul_of_nonneg_right→dF,mul_comm→dG,zero_add→dI,le_of_lt→fq,natCast_mul→fL,natCast_add→fN,one_mul→gk,pow_zero→gF,fdiv_eq_ediv_of_nonneg→g7,add_zero→iJ,natCast_ediv→iQ,sub_zero→j2,natCast_nonneg→j3,lt_of_le_of_lt→j4,lt_trichotomy→j8,mul_one→kb,natCast_sub→kP,mul_nonneg→kU
open Bool renaming false_ne_true→aR,false_eq_true→bw,eq_iff_iff→cL,and_eq_true→fz,and_false→kS
open Option.some renaming inj→aT,injEq→iu
open PySem.Value renaming ref→bd,none→dQ,int→iV,type→jq,str→kY,isStrOf→kZ
open PySem.Builtin.SmallTypes renaming nextOf→bi,ownedTupleIsFree→bX,ownedTupleHandOut→cR,newRecord→kR
open PySem.Paired renaming length→bm,snoc→bJ,mono→cJ
open Array renaming getElem?_toList→bt,length_toList→bF,toList_append→bS,getElem?_eq_some_iff→da,toList_extract→dD,perm_iff_toList_perm→fG,toList_reverse→gD,toList_map→kx,size_map→kW,toList→k9
open PySem.PassesOwn renaming never→bI
open PySem.Str renaming ofString→bW
open PySem.NameKind renaming free→cm,cell→c8
open ForInStep renaming yield→cC,done→f9
open PySem.F renaming plainAttrs_list→cF,slot_list_append→cU,type_list_append→cV,slot_zip_next→dC,slot_dict_keyiterator_next→dP,slot_tuple_iterator_next→ee,slot_enumerate_next→fm,args_tuple_add_2→fR,entry_tuple_add→f',args_zip_next_1→ge,slot_tuple_add→gh,entry_zip_next→gp,slot_dict_get→gu,slot_int_rmul→gA,args_dict_keyiterator_next_1→gE,entry_dict_keyiterator_next→gH,args_tuple_iterator_next_1→gL,entry_tuple_iterator_next→gS,args_tuple_mul_2→gX,entry_tuple_mul→iw,slot_tuple_mul→iP,args_enumerate_next_1→iR,args_dict_get_3→iS,entry_enumerate_next→jf,entry_dict_get→jg,args_list_append_2→ju,args_object_init_2→jw,entry_list_append→jI,slot_list_append→jW,args_int_rmul_2→j6,entry_int_rmul→kq,slot_dict_iter→kw
open Sum renaming inl→cY,inr→iD
open PySem.Heap.SameBut renaming update→cZ
open PySem.Obj renaming data_mapFields→dh,mapSeq→dz,isFreed_of_fields→fk,mapFields→hU,cls_mapFields→io
open Classical renaming byContradiction→du,em→jX
open False renaming elim→eA
open PySem.Builtin.Slice renaming slicePlaces→eB,sliceAdjust→fJ,sliceApplied→g8
open Ne renaming symm→eE
open PySem.Builtin.Tuple renaming tupleExact→eI,tupleItemsOf→g9,tupleTooMany→ig
open PySem.Builtin.List renaming listTooLong→eK
open PySem.Around renaming in1_units→eL,under_plainId→jz
open PySem.Calls renaming spliced_cons→eU,spliced_nil→gb,Name_function_global→gZ,callWith_builtin→jb,evalArgs_plain→jt
open List.Pairwise renaming sublist→ft,imp_of_mem→fV,nil→il,imp→j9
open List.Perm renaming trans→fK
open PySem.AutoSeq1 renaming sub_tuple_tuple→fW,idx_int→iO
open List.Sublist renaming nodup→fY
open PySem.Draws renaming list→f8
open Option renaming map_eq_some_iff→gm,toList→jC,isSome_some→jY,getD_none→km,getD_some→kr,isSome→k8,none→lg
open PySem.Builtin.Dict_items renaming ownsTuple→gP
open PySem.SeqAt.EqAt renaming of_refs→gT,int_str→jO,str_int→jP,same→kH
open True renaming intro→iC
open PySem.Builtin.Dict renaming updateFrom→iU,showsAll→jn
open PyProof.Rows.IsTup renaming new→iW
open Sum.inl renaming inj→i7
open PyProof renaming noPylong_small→i8
open List.cons renaming inj→jE
open PySem.SeqAt.RcNeAt renaming tuples→jJ
open PySem.Data renaming fields→ka,seq→lb
open PySem.Shared renaming heap→kg
open Prod renaming ext→kj
open PySem.IsL renaming update→ko
open PyProof.Rows.SortSt renaming mk'→kL
open PySem.W.KatTups renaming cons→lh
local macro_rules | `(tactic| trivial)=>`(tactic| first | exact .inl rfl | exact .inr rfl | assumption)
set_option tactic.hygienic false
set_option genSizeOf false
local macro_rules|`(#[$xs,*])=>do
 let a:=xs.getElems
 if h:a.size=0 then Lean.Macro.throwUnsupported else
 let s:=a[0].raw.getId.eraseMacroScopes.toString
 match [("_____eb","zd"),("________eee","za0 zl zey"),("________eeee","zL"),("_","zeC zE zG zag zeB zO zW zK zy zlb ze zb4 zhk zbL zck zaY zao zw zbe zD zgj zc8 zan zjc zhj zit zdw"),("_e__f","pvx"),("_________ereeeddrr","zC zaA"),("___er","ya"),("___e","zn zaS zbP"),("____e","zF z9 zN zaC"),("_______eeeu","zQ"),("____","zg zdX"),("__e____efeert","zq"),("_____e","zaw"),("______b","zc2"),("_____eer","za zi"),("________________eefeeeneedrr","zo"),("________efeeei","za7"),("______feer","zaq"),("__e_efet","zf"),("____er","zci"),("____________eeeeeerrrrr","zeG"),("_f","zfL zcR"),("_____________efeeeeei","zV"),("__f","zam"),("_ef","zbR zbu"),("__________eeee","zaG"),("______eerrr","zbd"),("______ferr","zaK"),("_____________e___efeefeeeeerit","zaD"),("___","zbo"),("______eee","zez"),("__e______efeeet","zgh"),("___fe","zu"),("_________feerr","zef zhH"),("_e___e_fferr","zah"),("_____________________efeeddeeeeeeeie","zjD"),("______ee","zk8"),("__","zdJ"),("_e","zgr")].find? fun q=>(q.2.splitOn " ").contains s with
 |none=>Lean.Macro.throwUnsupported
 |some (p,_)=>do
  let mut r:=#[]
  let mut i:=1
  for c in p.toList do
   if c=='e' then
    r:=r.push (a[i]!)
    i:=i+1
   else if c=='b' then
    r:=r.push (←`((by exact $(a[i]!))))
    i:=i+1
   else r:=r.push (←match c with|'_'=>`(_)|'r'=>`((by rfl))|'d'=>`((by decide))|'f'=>`(rfl)|'t'=>`((by trivial))|'i'=>`((by intro _; rfl))|'u'=>`((fun _ _=>rfl))|'n'=>`(.nil)|'l'=>`(Or.inl rfl)|'o'=>`(Or.inr rfl)|_=>`(nomark _))
  return Lean.Syntax.mkApp (←`(@$(⟨a[0].raw⟩):ident)) r
set_option Elab.async false
set_option linter.all false
set_option maxRecDepth 100000
namespace L2
open PySem PySem.Spec PyProof.Rows
abbrev Key:=Sum Int Str
def zfG:Key→Value→Bool
 | .inl k,v=>Value.isInt k v
 | .inr x,v=>kZ x v
def zqr (w:World):Key→Int
 | .inl k=>hashInt k
 | .inr x=>hashStr w x
theorem zat:∀ {k:Key} {v:Value},zfG k v=true→(∃ i t,k=cY i∧v=iV i t)∨(∃ x t,k=iD x∧v=kY x t)
 | .inl i,v,h=>by
  obtain⟨t,e⟩:=Value.isInt_shape (k:=i) (v:=v) h
  exact .inl ⟨i,t,rfl,e⟩
 | .inr x,v,h=>by
  obtain⟨t,e⟩:=Value.isStrOf_shape (x:=x) (v:=v) h
  exact .inr ⟨x,t,rfl,e⟩
theorem zka (i:Int) (t:Tok):zfG (.inl i) (.int i t)=true:=by simp [zfG,Value.isInt]
theorem zkb (x:Str) (t:Tok):zfG (.inr x) (.str x t)=true:=by simp [zfG,kZ]
theorem zoG (a b:Int):decide ((cY a:Key)=cY b)=(a == b):=by
 by_cases e:a=b
 ·subst e; simp
 ·have h:¬ (cY a:Key)=cY b:=fun q=>e (i7 q)
  rw [decide_eq_false h]
  exact (beq_eq_false_iff_ne.mpr e).symm
theorem zoH (a b:Str):decide ((iD a:Key)=iD b)=decide (a=b):=by
 by_cases e:a=b
 ·subst e; simp
 ·have h:¬ (iD a:Key)=iD b:=fun q=>e (Sum.inr.inj q)
  rw [decide_eq_false h,decide_eq_false e]
theorem zoI (a:Int) (b:Str):decide ((cY a:Key)=iD b)=false:=decide_eq_false (fun q=>nomatch q)
theorem zoJ (a:Str) (b:Int):decide ((iD a:Key)=cY b)=false:=decide_eq_false (fun q=>nomatch q)
def zau (prog:Program) (w:World):PySem.KeyKind prog w Key where
 is:=zfG
 hash:=zqr w
 inj:=fun v a b ha hb=>by
  rcases zat ha with ⟨i,t,rfl,rfl⟩ | ⟨x,t,rfl,rfl⟩
  ·rcases zat hb with ⟨j,u,rfl,e⟩ | ⟨y,u,rfl,e⟩
   ·injection e with e1 _; rw [e1]
   ·exact nomatch e
  ·rcases zat hb with ⟨j,u,rfl,e⟩ | ⟨y,u,rfl,e⟩
   ·exact nomatch e
   ·injection e with e1 _; rw [e1]
 byValue:=fun k v h=>by
  rcases zat h with ⟨i,t,rfl,rfl⟩ | ⟨x,t,rfl,rfl⟩ <;> rfl
 pyHash:=fun hv h=>by
  rcases zat hv with ⟨i,t,rfl,rfl⟩ | ⟨x,t,rfl,rfl⟩
  ·exact wpAny_pyHash_int h
  ·exact wpAny_pyHash_str h
 eqBool:=fun hu hv h=>by
  rcases zat hu with ⟨i,t,rfl,rfl⟩ | ⟨x,t,rfl,rfl⟩
  ·rcases zat hv with ⟨j,u,rfl,rfl⟩ | ⟨y,u,rfl,rfl⟩
   ·rw [zoG] at h; exact wpAny_eqBool_int h
   ·rw [zoI] at h; exact jO i t y u _ _ _ _ h
  ·rcases zat hv with ⟨j,u,rfl,rfl⟩ | ⟨y,u,rfl,rfl⟩
   ·rw [zoJ] at h; exact jP x t j u _ _ _ _ h
   ·rw [zoH] at h; exact wpAny_eqBool_str h
 «strs»:=fun k x t v h=>by
  rcases zat h with ⟨i,u,rfl,e⟩ | ⟨y,u,rfl,e⟩
  ·exact nomatch e
  ·injection e with e1 _
   subst e1
   cases v <;> rfl
theorem zhd (prog:Program) (w:World) (i:Int) (t:Tok):(zau prog w).is (.inl i) (.int i t)=true:=zka i t
theorem zhe (prog:Program) (w:World) (x:Str) (t:Tok):(zau prog w).is (.inr x) (.str x t)=true:=zkb x t
inductive V where
 | non | bl (b:Bool) | int (i:Int) | str (x:Str) | byt (b:Array UInt8) | flt (b:UInt64) | ref (a:Addr) | ty (n:String)
 deriving DecidableEq
def RelV:V→Value→Prop
 | .non,u=>u=dQ
 | .bl b,u=>u=Value.bool b
 | .int i,u=>∃ t,u=iV i t
 | .str x,u=>∃ t,u=kY x t
 | .byt b,u=>∃ t,u=Value.bytes b t
 | .flt b,u=>∃ t,u=Value.float b t
 | .ref a,u=>u=bd a
 | .ty n,u=>u=jq n
abbrev zT:List V→List Value→Prop:=Paired RelV
theorem zT.length {xs:List V} {us:List Value} (r:zT xs us):xs.length=us.length:=bm r
theorem zT.get:∀ {xs:List V} {us:List Value} {i:Nat} {x:V},zT xs us→xs[i]? = some x→∃ u,us[i]? = some u∧RelV x u
 | _,_,_,_,.nil,e=>by simp at e
 | _,_,0,_,.cons r _,e=>by simp at e; subst e; exact⟨_,rfl,r⟩
 | _,_,i+1,x,.cons _ t,e=>by
  obtain⟨u,h1,h2⟩:=zT.get (i:=i) (x:=x) t (by simpa using e)
  exact⟨u,by simpa using h1,h2⟩
theorem zT.set {x:V} {u:Value} (r:RelV x u):∀ {xs:List V} {us:List Value} (i:Nat),zT xs us→zT (xs.set i x) (us.set i u)
 | _,_,_,.nil=>.nil
 | _,_,0,.cons _ t=>.cons r t
 | _,_,i+1,.cons q t=>.cons q (zT.set r i t)
theorem zT.append:∀ {xs ys:List V} {us ws:List Value},zT xs us→zT ys ws→zT (xs++ys) (us++ws)
 | _,_,_,_,.nil,s=>s
 | _,_,_,_,.cons r t,s=>.cons r (zT.append t s)
theorem zT.take:∀ {xs:List V} {us:List Value} (n:Nat),zT xs us→zT (xs.take n) (us.take n)
 | _,_,0,_=>.nil
 | _,_,_+1,.nil=>.nil
 | _,_,n+1,.cons r t=>.cons r (zT.take n t)
theorem zT.drop:∀ {xs:List V} {us:List Value} (n:Nat),zT xs us→zT (xs.drop n) (us.drop n)
 | _,_,0,r=>r
 | _,_,_+1,.nil=>.nil
 | _,_,n+1,.cons _ t=>zT.drop n t
def zhf:Option V→Option Value→Prop
 | some v,some u=>RelV v u
 | none,none=>True
 | _,_=>False
def KV {κ:Type}:List (κ×V)→List (κ×Value)→Prop:=Paired fun (p:κ×V) (q:κ×Value)=>p.1=q.1∧RelV p.2 q.2
def kV:Key→V
 | .inl i=>.int i
 | .inr x=>.str x
inductive HO where
 | lst (xs:List V)
 | tup (xs:List V)
 | dK (lB:List (Key×V)) | dT (lB:List (List Key×V))
 | set (S:Int→Bool) (n:Nat)
 | ins (C dx:Addr) (fs:List (Str×V))
 | own (x:Addr)
 | xd (fs:List (Str×V))
 | met (f x:Addr)
 | rng (lo hi:Int)
 | frz (o:Obj) (u:HO)
 | tbl (ps:Array Value)
 | ext (φ:Heap→Prop)
abbrev Hp:=Addr→Option HO
def lu (H:Hp) (a:Addr) (o:HO):Hp:=fun b=>if b=a then some o else H b
theorem zc {H:Hp} {a:Addr} {o:HO}:lu H a o a=some o:=by unfold lu; rw [if_pos rfl]
theorem zr {H:Hp} {a b:Addr} {o:HO} (h:b≠a):lu H a o b=H b:=by unfold lu; rw [if_neg h]
theorem zm6 {H:Hp} {a:Addr} {o u:HO}:lu (lu H a o) a u=lu H a u:=by
 funext b; unfold lu; split <;> rfl
theorem zor {H:Hp} {a b:Addr} {o u:HO} (h:H a=some o) (h':H b=some u) (d:o≠u):a≠b:=by
 intro e; subst e; rw [h] at h'; exact d (aT h')
theorem zB {H:Hp} {a b:Addr} {o:HO} (h:H a=some o) (h':H b=none):a≠b:=by
 intro e; subst e; rw [h] at h'; cases h'
section
variable (P:Program) (w:World)
def zax (H:Hp) (h:Heap) (a:Addr):HO→Prop
 | .lst xs=>xs.length≤sizeLine∧∃ (lx:List Value) (n:Nat),zT xs lx∧h.get? a=some { cls:=.type "list",data:=.seq lx.toArray n }
 | .tup xs=>xs.length≤sizeLine∧∃ lx:List Value,zT xs lx∧IsTup h a lx.toArray
 | .dK lB=>lB.length≤sizeLine∧(a == sysModules)=false∧∃ vs,KV lB vs∧h.DictOf (zau P w) a vs
 | .dT lB=>lB.length≤sizeLine∧(a == sysModules)=false∧∃ xs:List (List Key×Addr×Value),
   Paired (fun (p:List Key×V) (q:List Key×Addr×Value)=>p.1=q.1∧H q.2.1=some (.tup (p.1.map kV))∧RelV p.2 q.2.2) lB xs ∧
   ∃ o es ep,h.get? a=some o∧o.ExactDict∧o.data = .dict es ep∧es.toList=xs.map (entryOfKey (tupleKind (zau P w)))∧(xs.map (·.1)).Nodup
 | .set S n=>h.SetOf (intKind P w) a S n
 | .ins C dx fs=>H dx=some (.own a)∧fs.length≤1000∧dx≠a∧h.get? a=some (PySem.W.instObj C dx) ∧
   ∃ mA,h.Ns1 dx mA∧(∀ f,zhf (fs.lookup f) (mA f))∧PySem.Within mA (fs.map (·.1))
 | .own _=>∃ o,h.get? a=some o
 | .xd fs=>∃ mA,h.Ns1 a mA∧∀ f,zhf (fs.lookup f) (mA f)
 | .rng lo hi=>∃ t u v,h.get? a=some { cls:=.type "range",data:=.fields #[.int lo t,.int hi u,.int 1 v] }
 | .frz o u=>h.get? a=some o∧zax H h a u
 | .tbl ps=>h.get? a=some { cls:=.none,data:=.fields ps }
 | .met f x=>h.get? a=some (ij (.ref f) (.ref x))
 | .ext φ=>φ h∧(∃ o,h.get? a=some o)∧∀ h1 h2:Heap,φ h1→(∀ o,h1.get? a=some o→h2.get? a=some o)→φ h2
def HOk (H:Hp) (h:Heap):Prop:=∀ a o,H a=some o→zax P w H h a o
end
section
variable {P:Program} {w:World} {H H':Hp} {h h':Heap} {a:Addr} {o:HO}
theorem zax.lt (x:zax P w H h a o):a < h.objs.size:=by
 cases o with
 | lst xs=>obtain⟨_,_,_,_,e⟩:=x; exact aK e
 | tup xs=>obtain⟨_,_,_,p⟩:=x; exact p.lt
 | dK lB=>obtain⟨_,_,_,_,o,_,_,e,_⟩:=x; exact aK e
 | dT lB=>obtain⟨_,_,_,_,o,_,_,e,_⟩:=x; exact aK e
 | set S n=>obtain⟨o,_,_,_,e,_⟩:=x; exact aK e
 | ins C dx fs=>obtain⟨_,_,_,e,_⟩:=x; exact aK e
 | own y=>obtain⟨_,e⟩:=x; exact aK e
 | xd fs=>obtain⟨_,⟨_,_,_,e,_⟩,_⟩:=x; exact aK e
 | rng lo hi=>obtain⟨_,_,_,e⟩:=x; exact aK e
 | frz ob u=>obtain⟨e,_⟩:=x; exact aK e
 | tbl ps=>exact aK (show h.get? a=some _ from x)
 | met f y=>exact aK (show h.get? a=some _ from x)
 | ext φ=>obtain⟨_,⟨_,e⟩,_⟩:=x; exact aK e
theorem Paired.mapP {α β:Type} {F G:α→β→Prop}:∀ {l₁:List α} {l₂:List β},Paired F l₁ l₂→(∀ a b,F a b→G a b)→Paired G l₁ l₂
 | _,_,.nil,_=>.nil
 | _,_,.cons r t,f=>.cons (f _ _ r) (Paired.mapP t f)
theorem zax.stay (x:zax P w H h a o) (k:∀ b u,(b=a∨H b=some (.own a))→h.get? b=some u→h'.get? b=some u)
  (ho:∀ b,H b=some (.own a)→H' b=some (.own a)) (ht:∀ b xs,H b=some (.tup xs)→H' b=some (.tup xs)):zax P w H' h' a o:=by
 induction o with
 | lst xs=>obtain⟨z,lx,n,r,e⟩:=x; exact⟨z,lx,n,r,k _ _ (.inl rfl) e⟩
 | tup xs=>obtain⟨z,lx,r,ob,e,c⟩:=x; exact⟨z,lx,r,ob,k _ _ (.inl rfl) e,c⟩
 | dK lB=>obtain⟨z,y,vs,r,ob,es,ep,e,c⟩:=x; exact⟨z,y,vs,r,ob,es,ep,k _ _ (.inl rfl) e,c⟩
 | dT lB =>
  obtain⟨z,y,xs,r,ob,es,ep,e,c⟩:=x
  exact⟨z,y,xs,Paired.mapP r fun p q z=>⟨z.1,ht _ _ z.2.1,z.2.2⟩,ob,es,ep,k _ _ (.inl rfl) e,c⟩
 | set S n=>obtain⟨ob,es,ep,t,e,c⟩:=x; exact⟨ob,es,ep,t,k _ _ (.inl rfl) e,c⟩
 | ins C dx fs =>
  obtain⟨d,z,ne,e,mA,⟨od,es,ep,e2,c⟩,r⟩:=x
  exact⟨ho _ d,z,ne,k _ _ (.inl rfl) e,mA,⟨od,es,ep,k _ _ (.inr d) e2,c⟩,r⟩
 | own y=>obtain⟨ob,e⟩:=x; exact⟨ob,k _ _ (.inl rfl) e⟩
 | xd fs=>obtain⟨mA,⟨od,es,ep,e,c⟩,r⟩:=x; exact⟨mA,⟨od,es,ep,k _ _ (.inl rfl) e,c⟩,r⟩
 | rng lo hi=>obtain⟨t,u,v,e⟩:=x; exact⟨t,u,v,k _ _ (.inl rfl) e⟩
 | frz ob u ih=>obtain⟨e,q⟩:=x; exact⟨k _ _ (.inl rfl) e,ih q⟩
 | tbl ps =>
  have e:h.get? a=some { cls:=.none,data:=.fields ps }:=x
  show h'.get? a=some { cls:=.none,data:=.fields ps }
  exact k a _ (.inl rfl) e
 | met f y =>
  have e:h.get? a=some (ij (.ref f) (.ref y)):=x
  show h'.get? a=some (ij (.ref f) (.ref y))
  exact k a _ (.inl rfl) e
 | ext φ=>obtain⟨p,⟨o,e⟩,st⟩:=x; exact⟨st _ _ p fun o q=>k _ _ (.inl rfl) q,⟨o,k _ _ (.inl rfl) e⟩,st⟩
theorem HOk.lt (x:HOk P w H h) (e:H a=some o):a < h.objs.size:=(x a o e).lt
theorem HOk.fresh (x:HOk P w H h) (e:h.objs.size≤a):H a=none:=by
 cases q:H a with
 | none=>rfl
 | some u=>exact absurd (bp (x.lt q) e) (cG _)
theorem HOk.kept (x:HOk P w H h) (k:∀ b u,h.get? b=some u→h'.get? b=some u):HOk P w H h':=fun a o e =>
 (x a o e).stay (fun b u _ q=>k b u q) (fun _ q=>q) fun _ _ q=>q
theorem HOk.laid (x:HOk P w H h) (k:∀ b u,h.get? b=some u→h'.get? b=some u) (hp:h.objs.size≤a) (new:zax P w (lu H a o) h' a o):HOk P w (lu H a o) h':=fun b u e=>by
 have hn:=x.fresh hp
 by_cases hb:b=a
 ·subst hb; rw [zc] at e; cases e; exact new
 ·rw [zr hb] at e
  exact (x b u e).stay (fun c v _ q=>k c v q) (fun c q=>by rw [zr (zB q hn)]; exact q) fun c xs q=>by rw [zr (zB q hn)]; exact q
end
def Rd (H:Hp) (a:Addr) (u:HO):Prop:=H a=some u∨∃ o,H a=some (.frz o u)
theorem Rd.ok {P:Program} {w:World} {H:Hp} {h:Heap} {a:Addr} {u:HO} (r:Rd H a u) (x:HOk P w H h):zax P w H h a u:=by
 rcases r with r | ⟨o,r⟩
 ·exact x a u r
 ·obtain⟨_,q⟩:=x a _ r
  exact q
def Mut:Option HO→Prop
 | some (.lst _)=>True
 | some (.dK _)=>True
 | some (.dT _)=>True
 | some (.set _ _)=>True
 | some (.ins _ _ _)=>True
 | some (.ext _)=>True
 | _=>False
section
variable {P:Program} {w:World} {H:Hp} {h h':Heap} {x e:Addr} {o':HO}
theorem HOk.write (ok:HOk P w H h) (mu:Mut (H x)) (he:e=x∨H e=some (.own x)) (k:∀ b u,b≠e→h.get? b=some u→h'.get? b=some u) (Ao:∃ u,h'.get? e=some u)
  (new:zax P w (lu H x o') h' x o'):HOk P w (lu H x o') h':=fun b u q=>by
 have Ba:∀ c y,H c=some (.own y)→c≠x:=fun c y r z=>by subst z; rw [r] at mu; exact mu
 have Eu:∀ c xs,H c=some (.tup xs)→c≠x:=fun c xs r z=>by subst z; rw [r] at mu; exact mu
 by_cases hb:b=x
 ·subst hb; rw [zc] at q; cases q; exact new
 ·rw [zr hb] at q
  by_cases yf:b=e
  ·have q':H b=some (.own x):=by
    rcases he with z | z
    ·exact absurd (yf.trans z) hb
    ·rw [yf]; exact z
   rw [q] at q'; cases q'
   obtain⟨v,hv⟩:=Ao
   exact⟨v,by rw [yf]; exact hv⟩
  ·refine (ok b u q).stay (fun c v hc r=>k c v ?_ r) (fun c r=>by rw [zr (Ba c b r)]; exact r) fun c xs r=>by rw [zr (Eu c xs r)]; exact r
   rcases hc with rfl | hc
   ·exact yf
   ·rintro rfl
    rcases he with z | z
    ·exact Ba c b hc z
    ·rw [hc] at z; cases z; exact hb rfl
end
structure Un (fs ex:List Addr) (H H':Hp) (h h':Heap):Prop where
 keep:∀ b o,h.get? b=some o→H b=none→b∉fs→b∉ex→h'.get? b=some o
 slot:∀ b o,h.get? b=some o→H b=none→b∈fs→b∉ex→∃ sl,h'.get? b=some { o with slots:=sl }
 free:∀ b o,h.get? b=some o→H b=none→b∉ex→H' b=none
 there:∀ b o,h.get? b=some o→b∉ex→∃ o',h'.get? b=some o'
 tups:∀ b xs,H b=some (.tup xs)→H' b=some (.tup xs)
 frzs:∀ b o u,H b=some (.frz o u)→H' b=some (.frz o u)
 tbls:∀ b ps,H b=some (.tbl ps)→∃ more,H' b=some (.tbl (ps++more))
section
variable {fs fs' ex ex':List Addr} {H H1 H2:Hp} {h h1 h2 h':Heap} {a x e:Addr} {o:HO}
theorem Un.any (u:Un fs ex H H1 h h1) {b:Addr} {ob:Obj} (q:h.get? b=some ob) (n:H b=none) (hx:b∉ex):∃ sl,h1.get? b=some { ob with slots:=sl }:=by
 by_cases hb:b∈fs
 ·exact u.slot b ob q n hb hx
 ·exact⟨ob.slots,u.keep b ob q n hb hx⟩
theorem Un.kept (k:∀ b u,h.get? b=some u→h'.get? b=some u):Un fs ex H H h h' :=
 ⟨fun b ob q _ _ _=>k b ob q,fun b ob q _ _ _=>⟨ob.slots,k b ob q⟩,fun _ _ _ n _=>n,fun b ob q _=>⟨ob,k b ob q⟩,fun _ _ q=>q,fun _ _ _ q=>q,fun _ ps q=>⟨#[],by rw [q]; simp⟩⟩
theorem Un.refl:Un fs ex H H h h:=Un.kept fun _ _ q=>q
theorem Un.laid (k:∀ b u,h.get? b=some u→h'.get? b=some u) (hp:h.objs.size≤a) (hn:H a=none):Un fs ex H (lu H a o) h h' where
 keep:=fun b u q _ _ _=>k b u q
 slot:=fun b u q _ _ _=>⟨u.slots,k b u q⟩
 free:=fun b u q n _=>by rw [zr (bz (bp (aK q) hp))]; exact n
 there:=fun b u q _=>⟨u,k b u q⟩
 tups:=fun b xs q=>by rw [zr (zB q hn)]; exact q
 frzs:=fun b u xs q=>by rw [zr (zB q hn)]; exact q
 tbls:=fun b ps q=>⟨#[],by rw [zr (zB q hn),q]; simp⟩
theorem Un.write (mu:Mut (H x)) (he:e=x∨H e=some (.own x)) (k:∀ b u,b≠e→h.get? b=some u→h'.get? b=some u) (Ao:∃ u,h'.get? e=some u):Un fs ex H (lu H x o) h h':=by
 have hx:∀ b,H b=none→b≠x:=fun b n z=>by subst z; rw [n] at mu; exact mu
 have hb:∀ b,H b=none→b≠e:=fun b n z=>by
  subst z
  rcases he with r | r
  ·exact hx b n r
  ·rw [n] at r; cases r
 have hm:∀ b u,H b=some u→¬ Mut (some u)→b≠x:=fun b u q nm z=>by subst z; rw [q] at mu; exact nm mu
 refine⟨fun b u q n _ _=>k b u (hb b n) q,fun b u q n _ _=>⟨u.slots,k b u (hb b n) q⟩,fun b u q n _=>by rw [zr (hx b n)]; exact n,fun b u q _=>?_,
  fun b xs q=>by rw [zr (hm b _ q fun z=>z)]; exact q,fun b u xs q=>by rw [zr (hm b _ q fun z=>z)]; exact q,fun b ps q=>⟨#[],by rw [zr (hm b _ q fun z=>z),q]; simp⟩⟩
 by_cases yf:b=e
 ·subst yf; exact Ao
 ·exact⟨u,k b u yf q⟩
end
def trk (h:Heap) (H:Hp):List Addr:=(aJ h.objs.size).filter fun a=>(H a).isSome
def zgg (h:Heap) (H:Hp):Heap:=PySem.W.hideAll h (trk h H)
theorem zkc (h:Heap) (H:Hp):(zgg h H).objs.size=h.objs.size:=PySem.W.hideAll_size _ _
theorem zk5 {h:Heap} {H:Hp} {b:Addr} {o:Obj} (e:h.get? b=some o) (n:H b=none):(zgg h H).get? b=some o :=
 PySem.W.hideAll_get _ e fun hm=>by
  have q:(H b).isSome=true:=(bE.mp hm).2
  rw [n] at q; simp at q
theorem zm7 {h:Heap} {H:Hp} {b:Addr} {o:Obj} (e:(zgg h H).get? b=some o):h.get? b=some o∧H b=none:=by
 have e':h.get? b=some o:=PySem.W.of_hideAll (trk h H) e
 refine⟨e',?_⟩
 cases q:H b with
 | none=>rfl
 | some x =>
  have hm:b∈trk h H:=bE.mpr ⟨bv.mpr (aK e'),by simp [q]⟩
  have z:(zgg h H).get? b=none:=PySem.W.hideAll_none (trk h H) hm
  rw [z] at e; cases e
structure Mod (K:ag) (mg:Str→Option Value) (base:Heap):Prop where
 kin:K.In base
 glob:base.Ns mainGlobals mg
 blt:∃ mb,base.Ns builtinsNs mb∧∀ x:Str,x≠"__name__"→mb x=bootBuiltins x
 nolimit:base.NoLimit
structure Cx where
 prog:Program
 w:World
 K:ag
 mg:Str→Option Value
 base:Heap
 A:Around
 N:List Str
 s₀:Shared
 H₀:Hp
 env:Env
 outer:List Env
 stack:List Env
 ex:List Addr
 fn:Str→Bool
 calm:Bool
 pn:List (Addr×Obj)
 xe:Value→Shared→Prop
def frs (l:List Env):List Addr:=l.filterMap (·.frame)
abbrev Cx.fs (X:Cx):List Addr:=frs X.outer
def Vis (sc:Scope) (x:Str):Prop:=sc.names.lookup x=some .local∨sc.names.lookup x=some .cell∨sc.names.lookup x=some .free
def Loc (sc:Scope) (x:Str):Prop:=sc.names.lookup x=some .local∨sc.names.lookup x=some .cell
def Look (env:Env) (h:Heap) (m:Str→Option Value) (x:Str) (u:Value):Prop :=
 (env.kindOf x=some .local∧m x=some u)∨((env.kindOf x=some .cell∨env.kindOf x=some .free)∧∃ c,env.cells.lookup x=some c∧h.IsCell c (some u))
structure Cx.Ok (X:Cx):Prop where
 mod:Mod X.K X.mg X.base
 kind:X.env.scope.kind = .function
 glob:X.env.globals=mainGlobals
 blt:X.env.builtins=builtinsNs
 above:X.s₀.heap.objs.size≤X.env.locals
 inj:∀ x y c,X.env.cells.lookup x=some c→X.env.cells.lookup y=some c→x=y
 has:∀ x,(X.env.kindOf x=some .cell∨X.env.kindOf x=some .free)→∃ c,X.env.cells.lookup x=some c
 cab:∀ x c,X.fn x=true→X.env.cells.lookup x=some c→X.s₀.heap.objs.size≤c
 hd:X.calm=true→X.A.handled=none
 frames:X.A.frames=some X.stack
 stk:X.stack=X.outer∨(X.stack=X.env :: X.outer∧X.env.frame=some X.env.locals)
 exf:∀ b∈X.ex,b≠X.env.locals∧∀ x c,X.env.cells.lookup x=some c→c≠b
 bs:∀ b o,X.base.get? b=some o→X.s₀.heap.get? b=some o∧X.H₀ b=none
 bsz:X.base.objs.size≤X.s₀.heap.objs.size
 noex:∀ b o,X.base.get? b=some o→b∉X.ex
 exfs:∀ b∈X.ex,b∉X.fs
 funs:X.s₀.heap.FunFrames X.base X.outer
 frf:∀ b∈X.fs,X.H₀ b=none
structure Inv (X:Cx) (lj:List (Addr×Obj)) (σ:List (Option V)) (H:Hp) (s:Shared):Prop where
 ok:X.Ok
 os:s.os=X.s₀.os
 bare:AllBare s.gens
 base:Un X.fs X.ex X.H₀ H X.s₀.heap s.heap
 loc:∃ m,s.heap.Ns X.env.locals m∧∀ (i:Nat) (x:Str) (v:V),X.N[i]? = some x→σ[i]? = some (some v)→Vis X.env.scope x→∃ u,RelV v u∧Look X.env s.heap m x u
 cell:∀ x c,X.env.cells.lookup x=some c→∃ v,s.heap.IsCell c v
 free:H X.env.locals=none
 freeC:∀ x c,X.env.cells.lookup x=some c→H c=none
 pin:∀ p∈X.pn++lj,s.heap.get? p.1=some p.2∧H p.1=none∧p.1≠X.env.locals∧p.1∉X.fs∧∀ v,p.2.data≠.cell v
 hok:HOk X.prog X.w H s.heap
 len:σ.length=X.N.length
section
variable {X:Cx} {lj:List (Addr×Obj)} {σ:List (Option V)} {H H':Hp} {s:Shared} {h':Heap}
theorem Cx.Ok.nofr (ok:X.Ok) {b:Addr} {o:Obj} (e:X.base.get? b=some o):b∉X.fs:=fun hb=>by
 have:=(ok.funs.mem hb).1
 rw [e] at this; cases this
theorem Inv.bs (I:Inv X lj σ H s):∀ b o,X.base.get? b=some o→s.heap.get? b=some o∧H b=none:=fun b o e =>
 ⟨I.base.keep b o (I.ok.bs b o e).1 (I.ok.bs b o e).2 (I.ok.nofr e) (I.ok.noex b o e),I.base.free b o (I.ok.bs b o e).1 (I.ok.bs b o e).2 (I.ok.noex b o e)⟩
theorem Inv.bk (I:Inv X lj σ H s):∀ b o,X.base.get? b=some o→s.heap.get? b=some o:=fun b o e=>(I.bs b o e).1
theorem Inv.mod (I:Inv X lj σ H s):Mod X.K X.mg X.base:=I.ok.mod
theorem Inv.kIn (I:Inv X lj σ H s):X.K.In s.heap:=I.ok.mod.kin.keeps I.bk
theorem Inv.lt (I:Inv X lj σ H s):X.env.locals < s.heap.objs.size:=let ⟨_,hn,_⟩:=I.loc; hn.lt
theorem Inv.sz (I:Inv X lj σ H s):X.s₀.heap.objs.size≤s.heap.objs.size:=a8 I.ok.above (fO I.lt)
theorem Inv.nofs (I:Inv X lj σ H s) {a:Addr} (h:s.heap.objs.size≤a):a∉X.fs:=fun hb=>by
 obtain⟨_,o,ho,_⟩:=I.ok.funs.mem hb
 exact absurd (bp (aK ho) (a8 I.sz h)) (cG _)
theorem Inv.cne (I:Inv X lj σ H s):∀ x c,X.env.cells.lookup x=some c→c≠X.env.locals:=fun x c e z=>by
 obtain⟨v,o,ho,hd⟩:=I.cell x c e
 obtain⟨m,⟨o',es,ep,uA,Ap,_⟩,_⟩:=I.loc
 rw [z,uA] at ho; cases ho; rw [Ap] at hd; cases hd
theorem Inv.funs (I:Inv X lj σ H s):s.heap.FunFrames X.base X.outer:=by
 have all:∀ (l:List Env),(∀ b∈frs l,b∈X.fs)→X.s₀.heap.FunFrames X.base l→s.heap.FunFrames X.base l:=by
  intro l
  induction l with
  | nil=>intro _ _; trivial
  | cons env r ih =>
   intro hs hl
   obtain⟨hk,⟨L,o,hf,hn,ho,hd⟩,hr⟩:=hl
   have hL:L∈X.fs:=hs L (by unfold frs; rw [fH,hf]; exact aH)
   obtain⟨sl,e⟩:=I.base.slot L o ho (I.ok.frf L hL) hL fun z=>I.ok.exfs L z hL
   exact⟨hk,⟨L,_,hf,hn,e,hd⟩,ih (fun b hb=>hs b (by unfold frs; rw [fH,hf]; exact au _ hb)) hr⟩
 exact all X.outer (fun _ hb=>hb) I.ok.funs
theorem Inv.stack (I:Inv X lj σ H s):s.heap.FunFrames X.base X.stack:=by
 rcases I.ok.stk with e | ⟨e,hf⟩
 ·rw [e]; exact I.funs
 ·rw [e]
  obtain⟨m,hn,_⟩:=I.loc
  refine .cons (by rw [I.ok.kind]; decide) hf hn ?_ I.funs
  exact Heap.get?_none_of_le (a8 I.ok.bsz I.ok.above)
theorem Inv.stkSub (I:Inv X lj σ H s):∀ b∈frs X.stack,b∈X.env.locals :: X.fs:=fun b hb=>by
 rcases I.ok.stk with e | ⟨e,hf⟩
 ·rw [e] at hb; exact au _ hb
 ·rw [e] at hb
  unfold frs at hb
  rw [fH,hf] at hb
  exact hb
theorem Inv.stkFree (I:Inv X lj σ H s):∀ b∈frs X.stack,H b=none:=fun b hb=>by
 rcases aI.mp (I.stkSub b hb) with e | hb
 ·rw [e]; exact I.free
 ·obtain⟨_,o,ho,_⟩:=I.ok.funs.mem hb
  exact I.base.free b o ho (I.ok.frf b hb) fun z=>I.ok.exfs b z hb
theorem Inv.step {g':Array GenState} {t':Nat} {d':Drawn} {ch:List Addr} (I:Inv X lj σ H s)
  (sU:∀ b∈ch,(b∈X.ex∨X.s₀.heap.objs.size≤b)∧b≠X.env.locals∧(∀ x c,X.env.cells.lookup x=some c→c≠b)∧∀ p∈X.pn++lj,p.1≠b)
  (keep:∀ b o,b≠X.env.locals→b∉X.fs→b∉ch→s.heap.get? b=some o→H b=none→h'.get? b=some o)
  (slot:∀ b o,b≠X.env.locals→b∈X.fs→b∉ch→s.heap.get? b=some o→H b=none→∃ sl,h'.get? b=some { o with slots:=sl }) (free:∀ b o,b∉ch→s.heap.get? b=some o→H b=none→H' b=none)
  (there:∀ b o,b∉ch→s.heap.get? b=some o→∃ o',h'.get? b=some o')
  (tups:∀ b xs,H b=some (.tup xs)→H' b=some (.tup xs)) (frzs:∀ b o u,H b=some (.frz o u)→H' b=some (.frz o u)) (tbls:∀ b ps,H b=some (.tbl ps)→∃ more,H' b=some (.tbl (ps++more)))
  (ns:∀ m,s.heap.Ns X.env.locals m→h'.Ns X.env.locals m) (hok:HOk X.prog X.w H' h') (hg:AllBare g') :
  Inv X lj σ H' { s with heap:=h',gens:=g',drawn:=d',toks:=t' }:=by
 have neL:∀ b o,X.s₀.heap.get? b=some o→b≠X.env.locals:=fun b o e=>bz (bp (aK e) I.ok.above)
 have Dk:∀ b o,X.s₀.heap.get? b=some o→b∉X.ex→b∉ch:=fun b o e hx hb=>by
  rcases (sU b hb).1 with z | z
  ·exact hx z
  ·exact absurd (bp (aK e) z) (cG _)
 have cellK:∀ x c,X.env.cells.lookup x=some c→∀ v,s.heap.IsCell c v→h'.IsCell c v:=fun x c e v ⟨o,ho,hd⟩=>by
  have Bb:c∉ch:=fun z=>(sU c z).2.2.1 x c e rfl
  by_cases hc:c∈X.fs
  ·obtain⟨sl,q⟩:=slot c o (I.cne x c e) hc Bb ho (I.freeC x c e)
   exact⟨_,q,hd⟩
  ·exact⟨o,keep c o (I.cne x c e) hc Bb ho (I.freeC x c e),hd⟩
 refine⟨I.ok,I.os,hg,⟨fun b o e n hb hx=>?_,fun b o e n hb hx=>?_,fun b o e n hx=>?_,fun b o e hx=>?_,fun b xs e=>tups b xs (I.base.tups b xs e),fun b o xs e=>frzs b o xs (I.base.frzs b o xs e),fun b ps e=>?_⟩,?_,fun x c e=>?_,?_,fun x c e=>?_,fun p hp=>?_,hok,I.len⟩
 ·exact keep b o (neL b o e) hb (Dk b o e hx) (I.base.keep b o e n hb hx) (I.base.free b o e n hx)
 ·obtain⟨sl,e1⟩:=I.base.slot b o e n hb hx
  obtain⟨sl',e2⟩:=slot b _ (neL b o e) hb (Dk b o e hx) e1 (I.base.free b o e n hx)
  exact⟨sl',e2⟩
 ·obtain⟨o',e1⟩:=I.base.there b o e hx
  exact free b o' (Dk b o e hx) e1 (I.base.free b o e n hx)
 ·obtain⟨o',e1⟩:=I.base.there b o e hx
  exact there b o' (Dk b o e hx) e1
 ·obtain⟨m1,e1⟩:=I.base.tbls b ps e
  obtain⟨m2,e2⟩:=tbls b _ e1
  exact⟨m1++m2,by rw [e2,Array.append_assoc]⟩
 ·obtain⟨m,hn,hl⟩:=I.loc
  refine⟨m,ns m hn,fun i x v e1 e2 e3=>?_⟩
  obtain⟨u,r,l⟩:=hl i x v e1 e2 e3
  refine⟨u,r,?_⟩
  rcases l with l | ⟨k,c,e,z⟩
  ·exact .inl l
  ·exact .inr ⟨k,c,e,cellK x c e _ z⟩
 ·obtain⟨v,z⟩:=I.cell x c e
  exact⟨v,cellK x c e v z⟩
 ·obtain⟨m,⟨o,_,_,ho,_⟩,_⟩:=I.loc
  exact free _ o (fun z=>(sU _ z).2.1 rfl) ho I.free
 ·obtain⟨v,o,ho,hd⟩:=I.cell x c e
  exact free c o (fun z=>(sU c z).2.2.1 x c e rfl) ho (I.freeC x c e)
 ·obtain⟨e,n,ne,nf,d⟩:=I.pin p hp
  have Bb:p.1∉ch:=fun z=>(sU p.1 z).2.2.2 p hp rfl
  exact⟨keep p.1 p.2 ne nf Bb e n,free p.1 p.2 Bb e n,ne,nf,d⟩
theorem Inv.un {t':Nat} (I:Inv X lj σ H s) (u:Un X.fs [] H H' s.heap h') (hok:HOk X.prog X.w H' h'):Inv X lj σ H' { s with heap:=h',toks:=t' }:=by
 obtain⟨m,⟨o,es,ep,ho,r⟩,_⟩:=id I.loc
 obtain⟨sl,hL⟩:=u.any ho I.free (by simp)
 exact I.step (g':=s.gens) (d':=s.drawn) (ch:=[]) (fun _ z=>nomatch z) (fun b o _ hb _ e n=>u.keep b o e n hb (by simp)) (fun b o _ hb _ e n=>u.slot b o e n hb (by simp)) (fun b o _ e n=>u.free b o e n (by simp)) (fun b o _ e=>u.there b o e (by simp)) u.tups u.frzs u.tbls (fun m' hm=>by
  obtain⟨o',vf,Dl,uA,r'⟩:=hm
  rw [ho] at uA; cases uA
  exact⟨_,vf,Dl,hL,r'⟩) hok I.bare
theorem Inv.call {g':Array GenState} {t':Nat} {d':Drawn} {ch:List Addr} (I:Inv X lj σ H s) (u:Un (frs X.stack) ch H H' s.heap h') (hok:HOk X.prog X.w H' h') (hg:AllBare g')
  (sU:∀ b∈ch,(b∈X.ex∨X.s₀.heap.objs.size≤b)∧b≠X.env.locals∧(∀ x c,X.env.cells.lookup x=some c→c≠b)∧∀ p∈X.pn++lj,p.1≠b) :
  Inv X lj σ H' { s with heap:=h',gens:=g',drawn:=d',toks:=t' }:=by
 obtain⟨m,⟨o,es,ep,ho,r⟩,_⟩:=id I.loc
 obtain⟨sl,hL⟩:=u.any ho I.free fun z=>(sU _ z).2.1 rfl
 exact I.step (ch:=ch) sU (fun b o hL hb hc e n=>u.keep b o e n (fun z=>(aI.mp (I.stkSub b z)).elim hL hb) hc) (fun b o _ _ hc e n=>u.any e n hc) (fun b o hc e n=>u.free b o e n hc) (fun b o hc e=>u.there b o e hc) u.tups u.frzs u.tbls (fun m' hm=>by
  obtain⟨o',vf,Dl,uA,r'⟩:=hm
  rw [ho] at uA; cases uA
  exact⟨_,vf,Dl,hL,r'⟩) hok hg
theorem Inv.turned {t':Nat} {it:Addr} (I:Inv X lj σ H s) (k:∀ b o,b≠it→s.heap.get? b=some o→h'.get? b=some o) (hn:H it=none) (hL:it≠X.env.locals)
  (h1:it∈X.ex∨X.s₀.heap.objs.size≤it) (h2:∀ x c,X.env.cells.lookup x=some c→c≠it) (h3:∀ p∈X.pn++lj,p.1≠it):Inv X lj σ H { s with heap:=h',toks:=t' }:=by
 have su:∀ b u,H b=some u→b≠it:=fun b u e z=>by rw [z,hn] at e; cases e
 refine I.step (g':=s.gens) (d':=s.drawn) (ch:=[it]) (fun b hb=>?_) (fun b o _ _ hc e _=>k b o (fun z=>hc (by simp [z])) e) (fun b o _ _ hc e _=>⟨o.slots,k b o (fun z=>hc (by simp [z])) e⟩) (fun _ _ _ _ n=>n)
  (fun b o hc e=>⟨o,k b o (fun z=>hc (by simp [z])) e⟩) (fun _ _ e=>e) (fun _ _ _ e=>e) (fun b ps e=>⟨#[],by rw [e]; simp⟩) (fun m hm=>?_) (fun b u e=>?_) I.bare
 ·have e:b=it:=by simpa using hb
  subst e
  exact⟨h1,hL,h2,h3⟩
 ·obtain⟨o,es,ep,ho,r⟩:=hm
  exact⟨o,es,ep,k _ o (eE hL) ho,r⟩
 ·refine (I.hok b u e).stay (fun c v hc q=>k c v ?_ q) (fun _ q=>q) fun _ _ q=>q
  rcases hc with z | z
  ·rw [z]; exact su b u e
  ·exact su c _ z
theorem Inv.tok (I:Inv X lj σ H s) (t:Nat):Inv X lj σ H { s with toks:=t }:=I.un (h':=s.heap) (t':=t) Un.refl I.hok
theorem Inv.kept {t':Nat} (I:Inv X lj σ H s) (k:∀ b u,s.heap.get? b=some u→h'.get? b=some u):Inv X lj σ H { s with heap:=h',toks:=t' }:=I.un (Un.kept k) (I.hok.kept k)
theorem Inv.laid {a:Addr} {o:HO} {t':Nat} (I:Inv X lj σ H s) (k:∀ b u,s.heap.get? b=some u→h'.get? b=some u) (hp:s.heap.objs.size≤a) (new:zax X.prog X.w (lu H a o) h' a o) :
  Inv X lj σ (lu H a o) { s with heap:=h',toks:=t' }:=I.un (Un.laid k hp (I.hok.fresh hp)) (I.hok.laid k hp new)
theorem Inv.write {x e:Addr} {o:HO} {t':Nat} (I:Inv X lj σ H s) (mu:Mut (H x)) (he:e=x∨H e=some (.own x)) (k:∀ b u,b≠e→s.heap.get? b=some u→h'.get? b=some u) (Ao:∃ u,h'.get? e=some u)
  (new:zax X.prog X.w (lu H x o) h' x o):Inv X lj σ (lu H x o) { s with heap:=h',toks:=t' }:=I.un (Un.write mu he k Ao) (I.hok.write mu he k Ao new)
theorem Inv.weak {σ':List (Option V)} (I:Inv X lj σ H s) (hl:σ'.length=σ.length) (w:∀ (i:Nat) v,σ'[i]? = some (some v)→σ[i]? = some (some v)):Inv X lj σ' H s :=
 ⟨I.ok,I.os,I.bare,I.base,let ⟨m,hn,yg⟩:=I.loc; ⟨m,hn,fun i x v e1 e2 e3=>yg i x v e1 (w i v e2) e3⟩,I.cell,I.free,I.freeC,I.pin,I.hok,hl.trans I.len⟩
theorem Inv.pins_of {pT:List (Addr×Obj)} (I:Inv X lj σ H s) (h:∀ p∈pT,s.heap.get? p.1=some p.2∧H p.1=none∧p.1≠X.env.locals∧p.1∉X.fs∧∀ v,p.2.data≠.cell v):Inv X pT σ H s :=
 ⟨I.ok,I.os,I.bare,I.base,I.loc,I.cell,I.free,I.freeC,fun p hp=>(bf.mp hp).elim (fun z=>I.pin p (aW _ z)) (h p),I.hok,I.len⟩
theorem zhg {N:List Str} (hN:N.Nodup) {i j:Nat} {x:Str} (a:N[i]? = some x) (b:N[j]? = some x):i=j:=by
 obtain⟨h1,e1⟩:=aD.mp a
 obtain⟨h2,e2⟩:=aD.mp b
 exact (List.getElem_inj hN).mp (e1.trans e2.symm)
theorem zfH {M:Model} {A:Around} {E:Value→Shared→Prop} {i:Nat} {x:Str} {v:V} {u:Value} {Q:Unit→Shared→Prop} (I:Inv X lj σ H s) (hN:X.N.Nodup) (hi:X.N[i]? = some x) (hx:Loc X.env.scope x) (r:RelV v u)
  (h:∀ s',Inv X lj (σ.set i (some v)) H s'→(∃ a,bu a s.heap s'.heap∧(a=X.env.locals∨X.env.cells.lookup x=some a))→Q () s') (hf:X.fn x=true∨X.env.scope.names.lookup x=some .local:=by first | exact .inl rfl | exact .inr rfl | assumption):wpAny M A (storeName X.env x u) Q E s:=by
 obtain⟨m,hn,hl⟩:=id I.loc
 have Ew:(X.env.scope.kind == .class || (X.env.scope.kind == .module && X.env.locals != X.env.globals))=false:=by rw [I.ok.kind]; rfl
 have hiσ:i < σ.length:=by rw [I.len]; exact (aD.mp hi).1
 have cne:=I.cne
 have tracked:∀ {a:Addr} {h':Heap},(∃ o,s.heap.get? a=some o∧H a=none)→bu a s.heap h'→HOk X.prog X.w H h':=fun {a h'} ha hs b ob e=>by
  obtain⟨_,_,xH⟩:=ha
  refine (I.hok b ob e).stay (fun c w' hc q=>(hs.2 c ?_).trans q) (fun _ q=>q) fun _ _ q=>q
  rintro rfl
  rcases hc with rfl | hc
  ·rw [xH] at e; cases e
  ·rw [xH] at hc; cases hc
 rcases hx with hk | hk
 ·refine wpAny_storeName_local hk hn (fun h' wL hs=>?_) Ew
  obtain⟨oL,_,_,Bc,_⟩:=id hn
  refine h _ ⟨I.ok,I.os,I.bare,⟨fun b o e n hb hx=>?_,fun b o e n hb hx=>?_,I.base.free,fun b o e hx=>?_,I.base.tups,I.base.frzs,I.base.tbls⟩,⟨_,wL,fun j y v' e1 e2 e3=>?_⟩,fun y c e=>?_,I.free,I.freeC,fun p hp=>?_,tracked ⟨oL,Bc,I.free⟩ hs,by simpa using I.len⟩ ⟨_,hs,.inl rfl⟩
  ·exact (hs.2 b (bz (bp (aK e) I.ok.above))).trans (I.base.keep b o e n hb hx)
  ·obtain⟨sl,e1⟩:=I.base.slot b o e n hb hx
   exact⟨sl,(hs.2 b (bz (bp (aK e) I.ok.above))).trans e1⟩
  ·obtain⟨o',e1⟩:=I.base.there b o e hx
   exact⟨o',(hs.2 b (bz (bp (aK e) I.ok.above))).trans e1⟩
  ·by_cases hj:j=i
   ·subst hj
    rw [hi] at e1; cases e1
    rw [gg hiσ] at e2
    cases e2
    exact⟨u,r,.inl ⟨hk,by simp⟩⟩
   ·rw [et (eE hj)] at e2
    obtain⟨u',r',q⟩:=hl j y v' e1 e2 e3
    refine⟨u',r',?_⟩
    rcases q with ⟨k,e⟩ | ⟨k,c,e,z⟩
    ·refine .inl ⟨k,?_⟩
     have:y≠x:=fun e=>hj (zhg hN e1 (e ▸ hi))
     simp [this,e]
    ·exact .inr ⟨k,c,e,z.sameBut hs (cne y c e)⟩
  ·obtain⟨w',z⟩:=I.cell y c e
   exact⟨w',z.sameBut hs (cne y c e)⟩
  ·obtain⟨e,n,ne,nf,d⟩:=I.pin p hp
   exact⟨(hs.2 p.1 ne).trans e,n,ne,nf,d⟩
 ·have Bd:X.fn x=true:=by
   rcases hf with z | z
   ·exact z
   ·rw [z] at hk; cases hk
  obtain⟨c,hc⟩:=I.ok.has x (.inl hk)
  obtain⟨w',z⟩:=I.cell x c hc
  refine wpAny_storeName_cell I.ok.kind hk hc z (fun h' lH hs=>?_)
  obtain⟨oc,hoc,Ex⟩:=id z
  refine h { s with heap:=h' } ⟨I.ok,I.os,I.bare,⟨fun b o e n hb hx=>?_,fun b o e n hb hx=>?_,I.base.free,fun b o e hx=>?_,I.base.tups,I.base.frzs,I.base.tbls⟩,⟨m,hn.sameBut hs (eE (cne x c hc)),fun j y v' e1 e2 e3=>?_⟩,fun y c' e=>?_,I.free,I.freeC,fun p hp=>?_,tracked ⟨oc,hoc,I.freeC x c hc⟩ hs,by simpa using I.len⟩ ⟨c,hs,.inr hc⟩
  ·exact (hs.2 b (bz (bp (aK e) (I.ok.cab x c Bd hc)))).trans (I.base.keep b o e n hb hx)
  ·obtain⟨sl,e1⟩:=I.base.slot b o e n hb hx
   exact⟨sl,(hs.2 b (bz (bp (aK e) (I.ok.cab x c Bd hc)))).trans e1⟩
  ·obtain⟨o',e1⟩:=I.base.there b o e hx
   exact⟨o',(hs.2 b (bz (bp (aK e) (I.ok.cab x c Bd hc)))).trans e1⟩
  ·by_cases hj:j=i
   ·subst hj
    rw [hi] at e1; cases e1
    rw [gg hiσ] at e2
    cases e2
    exact⟨u,r,.inr ⟨.inl hk,c,hc,lH⟩⟩
   ·rw [et (eE hj)] at e2
    obtain⟨u',r',q⟩:=hl j y v' e1 e2 e3
    refine⟨u',r',?_⟩
    rcases q with q | ⟨k,c',e,z'⟩
    ·exact .inl q
    ·refine .inr ⟨k,c',e,z'.sameBut hs ?_⟩
     rintro rfl
     exact hj (zhg hN e1 (I.ok.inj _ _ _ e hc ▸ hi))
  ·by_cases mQ:c'=c
   ·subst mQ; exact⟨_,lH⟩
   ·obtain⟨w2,z2⟩:=I.cell y c' e
    exact⟨w2,z2.sameBut hs mQ⟩
  ·obtain⟨e,n,ne,nf,d⟩:=I.pin p hp
   refine⟨(hs.2 p.1 ?_).trans e,n,ne,nf,d⟩
   intro q
   rw [q,hoc] at e
   have q':oc=p.2:=aT e
   exact d w' (by rw [← q']; exact Ex)
theorem zex {M:Model} {A:Around} {E:Value→Shared→Prop} {i:Nat} {x:Str} {v:V} {u:Value} {Q:Unit→Shared→Prop} (I:Inv X lj σ H s) (hN:X.N.Nodup) (hi:X.N[i]? = some x) (hx:Loc X.env.scope x) (r:RelV v u)
  (h:∀ s',Inv X lj (σ.set i (some v)) H s'→Q () s') (hf:X.fn x=true∨X.env.scope.names.lookup x=some .local:=by first | exact .inl rfl | exact .inr rfl | assumption):wpAny M A (storeName X.env x u) Q E s :=
 zfH I hN hi hx r (fun s' I' _=>h s' I') hf
theorem Inv.call' {s':Shared} {ch:List Addr} (I:Inv X lj σ H s) (ho:s'.os=s.os) (u:Un (frs X.stack) ch H H' s.heap s'.heap) (hok:HOk X.prog X.w H' s'.heap) (hg:AllBare s'.gens)
  (sU:∀ b∈ch,(b∈X.ex∨X.s₀.heap.objs.size≤b)∧b≠X.env.locals∧(∀ x c,X.env.cells.lookup x=some c→c≠b)∧∀ p∈X.pn++lj,p.1≠b):Inv X lj σ H' s':=by
 obtain⟨h',g',d',t',o'⟩:=s'
 have e:o'=s.os:=ho
 subst e
 exact I.call (g':=g') (t':=t') (d':=d') u hok hg sU
end
abbrev XK:=Value→Option Addr→Hp→Prop
abbrev St:=List (Option V)
abbrev VK:=V→Hp→Prop
abbrev TE:=St→Hp→VK→Prop
abbrev TT:=St→Hp→(Bool→Hp→Prop)→Prop
abbrev TA:=St→Hp→(List V→Hp→Prop)→Prop
structure Ends where
 nx:St→Hp→Prop
 rt:VK
 bk:St→Hp→Prop:=fun _ _=>False
 ct:St→Hp→Prop:=fun _ _=>False
abbrev TS:=Ends→St→Hp→Prop
def EP (X:Cx) (lj:List (Addr×Obj)) (σ:St) (Q:VK) (u:Value) (s':Shared):Prop:=∃ v H',Inv X lj σ H' s'∧RelV v u∧Q v H'
def TP (X:Cx) (lj:List (Addr×Obj)) (σ:St) (Q:Bool→Hp→Prop) (b:Bool) (s':Shared):Prop:=∃ H',Inv X lj σ H' s'∧Q b H'
def AP (X:Cx) (lj:List (Addr×Obj)) (σ:St) (Q:List V→Hp→Prop) (us:List Value) (s':Shared):Prop:=∃ vs H',Inv X lj σ H' s'∧zT vs us∧Q vs H'
def SP (X:Cx) (lj:List (Addr×Obj)) (D:Ends) (f:Flow) (s':Shared):Prop :=
 match f with
 | .next=>∃ σ' H',Inv X lj σ' H' s'∧D.nx σ' H'
 | .brk=>∃ σ' H',Inv X lj σ' H' s'∧D.bk σ' H'
 | .cont=>∃ σ' H',Inv X lj σ' H' s'∧D.ct σ' H'
 | .ret u=>∃ v σ' H',Inv X lj σ' H' s'∧RelV v u∧D.rt v H'
def PE (X:Cx) (e:Expr) (t:TE):Prop :=
 ∀ (lj:List (Addr×Obj)) (s:Shared) (σ:St) (H:Hp) (Q:VK),Inv X lj σ H s→t σ H Q→wpAny (model X.prog X.w) X.A (eval e X.env) (EP X lj σ Q) X.xe s
def PT (X:Cx) (e:Expr) (t:TT):Prop :=
 ∀ (lj:List (Addr×Obj)) (s:Shared) (σ:St) (H:Hp) (Q:Bool→Hp→Prop),Inv X lj σ H s→t σ H Q→wpAny (model X.prog X.w) X.A (isTrue e X.env (eval e X.env)) (TP X lj σ Q) X.xe s
def PW (X:Cx) (e:Expr) (t:TT):Prop :=
 ∀ (whole:Sem Value) (lj:List (Addr×Obj)) (s:Shared) (σ:St) (H:Hp) (Q:Bool→Hp→Prop),Inv X lj σ H s→t σ H Q→wpAny (model X.prog X.w) X.A (isTrue e X.env whole) (TP X lj σ Q) X.xe s
theorem PW.pt {X:Cx} {e:Expr} {t:TT} (h:PW X e t):PT X e t:=h _
def PA (X:Cx) (es:List Expr) (t:TA):Prop :=
 ∀ (pos:Pos) (lj:List (Addr×Obj)) (s:Shared) (σ:St) (H:Hp) (Q:List V→Hp→Prop),Inv X lj σ H s→t σ H Q→wpAny (model X.prog X.w) X.A (spliced (backTo pos (starEach es X.env))) (AP X lj σ Q) X.xe s
def PS (X:Cx) (st:Stmt) (t:TS):Prop :=
 ∀ (lj:List (Addr×Obj)) (s:Shared) (σ:St) (H:Hp) (D:Ends),Inv X lj σ H s→t D σ H→wpAny (model X.prog X.w) X.A (exec st X.env) (SP X lj D) X.xe s
def PSs (X:Cx) (st:List Stmt) (t:TS):Prop :=
 ∀ (lj:List (Addr×Obj)) (s:Shared) (σ:St) (H:Hp) (D:Ends),Inv X lj σ H s→t D σ H→wpAny (model X.prog X.w) X.A (execs st X.env) (SP X lj D) X.xe s
theorem thn {α:Type} {t:Sem α} {Q Q':α→Shared→Prop} {M:Model} {A:Around} {E:Value→Shared→Prop} {s:Shared} (h:wpAny M A t Q E s) (hQ:∀ a s,Q a s→Q' a s):wpAny M A t Q' E s:=c7 h hQ fun _ _ x=>x
section
variable {X:Cx}
def zpM (i:Nat):TE:=fun σ H Q=>∃ v,σ[i]? = some (some v)∧Q v H
def tC (v:V):TE:=fun _ H Q=>Q v H
theorem zoK {i:Nat} {x:Str} {pos:Pos} (hN:X.N[i]? = some x) (hv:Vis X.env.scope x) (hd:(x == ("__debug__" : Str))=false:=by decide) (uB:(x == ("__classdict__" : Str))=false:=by decide):PE X (.Name x pos) (zpM i):=by
 intro lj s σ H Q I h
 obtain⟨v,e,h⟩:=h
 obtain⟨m,hn,hl⟩:=I.loc
 obtain⟨u,r,l⟩:=hl i x v hN e hv
 have fin:EP X lj σ Q u s:=⟨v,H,I,r,h⟩
 rcases l with ⟨hk,hm⟩ | ⟨hk,c,hc,pU⟩
 ·exact kF (jr I.ok.kind hk hn hm fin) hd
 ·rcases hk with hk | hk
  ·exact kF (jG I.ok.kind hk hc pU fin) hd
  ·exact kF (wpAny_loadName_free I.ok.kind hk hc pU fin uB) hd
theorem zg {i j pos}:PE X (.Constant (.int i) j pos) (tC (.int i)):=fun _ _ _ H _ I h=>wpAny_Constant_int ⟨.int i,H,I.tok _,⟨_,rfl⟩,h⟩
theorem zdX {b j pos}:PE X (.Constant (.bool b) j pos) (tC (.bl b)):=fun _ _ _ H _ I h=>Constant_bool ⟨.bl b,H,I,rfl,h⟩
theorem zbo {j pos}:PE X (.Constant .none j pos) (tC .non):=fun _ _ _ H _ I h=>Constant_none ⟨.non,H,I,rfl,h⟩
def Gl (X:Cx) (x:Str):Prop:=X.env.kindOf x=some .globalImplicit
theorem zm8 {E:Value→Shared→Prop} {lj:List (Addr×Obj)} {s:Shared} {σ:St} {H:Hp} {x:Str} {u:Value} {pos:Pos} {Q:Value→Shared→Prop} (I:Inv X lj σ H s) (hg:Gl X x) (hm:X.mg x=some u) (h:Q u s)
  (hd:(x == ("__debug__" : Str))=false:=by decide):wpAny (model X.prog X.w) X.A (eval (.Name x pos) X.env) Q E s :=
 gZ I.ok.kind hg (Calls.loadGlobal_global (by rw [I.ok.glob]; exact I.mod.glob.keeps I.bk) hm h) hd
theorem zbE {E:Value→Shared→Prop} {lj:List (Addr×Obj)} {s:Shared} {σ:St} {H:Hp} {x:Str} {u:Value} {pos:Pos} {Q:Value→Shared→Prop} (I:Inv X lj σ H s) (hg:Gl X x) (hm:X.mg x=none) (hv:bootBuiltins x=some u) (h:Q u s)
  (hn:x≠"__name__":=by decide) (hd:(x == ("__debug__" : Str))=false:=by decide):wpAny (model X.prog X.w) X.A (eval (.Name x pos) X.env) Q E s:=by
 obtain⟨mb,h1,h2⟩:=I.mod.blt
 exact gZ I.ok.kind hg (Calls.loadGlobal_builtin (by rw [I.ok.glob]; exact I.mod.glob.keeps I.bk) hm (by rw [I.ok.blt]; exact h1.keeps I.bk) ((h2 x hn).trans hv) h) hd
variable {a b:Expr} {ta tb:TE} {pos:Pos}
variable {tA tB':TT} {rest:List Expr}
def zqs (t u:TT):TT:=fun σ H Q=>t σ H fun c H1=>if c=true then u σ H1 Q else Q false H1
def zqt (t:TT):TT:=fun σ H Q=>t σ H fun c H1=>Q (!c) H1
theorem zm9 (ha:PT X a tA):PW X (.BoolOp .And [a] pos) tA:=by
 intro wh lj s σ H Q I h
 refine isTrue_and (thn (ha lj s σ H Q I h) fun c s1 e=>?_)
 cases c with
 | true=>exact isTrue_and_nil e
 | false=>exact e
theorem zoL (ha:PT X a tA) (hb:PW X (.BoolOp .And (b :: rest) pos) tB'):PW X (.BoolOp .And (a :: b :: rest) pos) (zqs tA tB'):=by
 intro wh lj s σ H Q I h
 refine isTrue_and (thn (ha lj s σ H _ I h) fun c s1 ⟨H1,I1,q1⟩=>?_)
 cases c with
 | true=>exact hb wh lj s1 σ H1 Q I1 q1
 | false=>exact⟨H1,I1,q1⟩
theorem zoM (ha:PT X a tA):PT X (.UnaryOp .Not a pos) (zqt tA):=by
 intro lj s σ H Q I h
 exact isTrue_not (ha lj s σ H (fun c H1=>Q (!c) H1) I h)
def tIf (t:TT) (ta tb:TE):TE:=fun σ H Q=>t σ H fun c H1=>if c=true then ta σ H1 Q else tb σ H1 Q
theorem zey {c:Expr} (hc:PT X c tA) (ha:PE X a ta) (hb:PE X b tb):PE X (.IfExp c a b pos) (tIf tA ta tb):=by
 intro lj s σ H Q I h
 refine wpAny_IfExp (thn (hc lj s σ H _ I h) fun d s1 ⟨H1,I1,q1⟩=>?_)
 cases d with
 | true=>exact ha lj s1 σ H1 Q I1 q1
 | false=>exact hb lj s1 σ H1 Q I1 q1
end
def lr (K:ag) (H:Hp) (a:Addr) (xs:List V):Prop :=
 Rd H a (.lst xs) ∨
  ∃ (o:Obj) (lx:Array Value) (n:Nat),K.lookup a=some o∧o.cls = .type "list"∧o.dict=none∧o.data = .seq lx n∧lx.size≤sizeLine∧zT xs lx.toList
def lE (K:ag) (H:Hp) (a:Addr) (xs:List V):Prop :=
 Rd H a (.tup xs) ∨
  ∃ (o:Obj) (lx:Array Value) (n:Nat),K.lookup a=some o∧o.cls = .type "tuple"∧o.data = .seq lx n∧lx.size≤sizeLine∧zT xs lx.toList
def zqu:Value→Option V
 | .none=>some .non
 | .bool b=>some (.bl b)
 | .int i _=>some (.int i)
 | .str x _=>some (.str x)
 | .bytes b _=>some (.byt b)
 | .float b _=>some (.flt b)
 | .ref a=>some (.ref a)
 | .type n=>some (.ty n)
 | _=>none
theorem RelV.abs {x:V} {u:Value} (r:RelV x u):zqu u=some x:=by
 cases x with
 | non=>cases r; rfl
 | bl _=>cases r; rfl
 | int _=>obtain⟨t,rfl⟩:=r; rfl
 | str _=>obtain⟨t,rfl⟩:=r; rfl
 | byt _=>obtain⟨t,rfl⟩:=r; rfl
 | flt _=>obtain⟨t,rfl⟩:=r; rfl
 | ref _=>cases r; rfl
 | ty _=>cases r; rfl
theorem RelV.inj {x y:V} {u:Value} (r:RelV x u) (q:RelV y u):x=y:=aT (r.abs.symm.trans q.abs)
theorem zT.inj:∀ {xs ys:List V} {us:List Value},zT xs us→zT ys us→xs=ys
 | _,_,_,.nil,.nil=>rfl
 | _,_,_,.cons r t,.cons r' t'=>by rw [r.inj r',zT.inj t t']
section
variable {X:Cx} {lj:List (Addr×Obj)} {σ:St} {H:Hp} {s:Shared} {a:Addr} {xs ys:List V}
theorem lr.of {K:ag} (h:H a=some (.lst xs)):lr K H a xs:=.inl (.inl h)
theorem lE.of {K:ag} (h:H a=some (.tup xs)):lE K H a xs:=.inl (.inl h)
theorem Inv.list (I:Inv X lj σ H s) (h:lr X.K H a xs):∃ lx:List Value,zT xs lx∧PlainL s.heap a lx.toArray∧xs.length≤sizeLine:=by
 rcases h with h | ⟨o,lx,n,hk,hc,hd,hs,hz,r⟩
 ·obtain⟨z,lx,n,r,e⟩:=h.ok I.hok
  exact⟨lx,r,⟨_,n,e,rfl,rfl,rfl⟩,z⟩
 ·refine⟨lx.toList,r,⟨o,n,I.kIn a o hk,hc,hd,by simpa using hs⟩,?_⟩
  have e:=r.length
  simp only [bF] at e
  lia
theorem Inv.tuple (I:Inv X lj σ H s) (h:lE X.K H a xs):∃ lx:List Value,zT xs lx∧IsTup s.heap a lx.toArray∧xs.length≤sizeLine:=by
 rcases h with h | ⟨o,lx,n,hk,hc,hs,hz,r⟩
 ·obtain⟨z,lx,r,p⟩:=h.ok I.hok
  exact⟨lx,r,p,z⟩
 ·refine⟨lx.toList,r,⟨o,I.kIn a o hk,hc,n,by simpa using hs⟩,?_⟩
  have e:=r.length
  simp only [bF] at e
  lia
theorem Inv.list_inj (I:Inv X lj σ H s) (h:lr X.K H a xs) (h':lr X.K H a ys):xs=ys:=by
 obtain⟨lx,r,⟨o,n,e,_,_,d⟩,_⟩:=I.list h
 obtain⟨its',r',⟨o',n',e',_,_,d'⟩,_⟩:=I.list h'
 rw [e] at e'; cases e'
 rw [d] at d'
 injection d' with d1 _
 have:lx=its':=by simpa using congrArg k9 d1
 subst this
 exact r.inj r'
theorem Inv.tuple_inj (I:Inv X lj σ H s) (h:lE X.K H a xs) (h':lE X.K H a ys):xs=ys:=by
 obtain⟨lx,r,⟨o,e,_,n,d⟩,_⟩:=I.tuple h
 obtain⟨its',r',⟨o',e',_,n',d'⟩,_⟩:=I.tuple h'
 rw [e] at e'; cases e'
 rw [d] at d'
 injection d' with d1 _
 have:lx=its':=by simpa using congrArg k9 d1
 subst this
 exact r.inj r'
end
abbrev Cx.wish (X:Cx) (E:Value→Shared→Prop):Cx:={ X with xe:=E }
abbrev Cx.nox (X:Cx):Cx:=X.wish fun _ _=>False
theorem Cx.Ok.wish {X:Cx} (ok:X.Ok) (E:Value→Shared→Prop):(X.wish E).Ok :=
 ⟨ok.mod,ok.kind,ok.glob,ok.blt,ok.above,ok.inj,ok.has,ok.cab,ok.hd,ok.frames,ok.stk,ok.exf,ok.bs,ok.bsz,ok.noex,ok.exfs,ok.funs,ok.frf⟩
theorem Cx.Ok.unwish {X:Cx} {E:Value→Shared→Prop} (ok:(X.wish E).Ok):X.Ok :=
 ⟨ok.mod,ok.kind,ok.glob,ok.blt,ok.above,ok.inj,ok.has,ok.cab,ok.hd,ok.frames,ok.stk,ok.exf,ok.bs,ok.bsz,ok.noex,ok.exfs,ok.funs,ok.frf⟩
section
variable {X:Cx} {lj:List (Addr×Obj)} {σ:St} {H:Hp} {s:Shared} {E:Value→Shared→Prop}
theorem Inv.wish (I:Inv X lj σ H s) (E:Value→Shared→Prop):Inv (X.wish E) lj σ H s:=⟨I.ok.wish E,I.os,I.bare,I.base,I.loc,I.cell,I.free,I.freeC,I.pin,I.hok,I.len⟩
theorem Inv.unwish (I:Inv (X.wish E) lj σ H s):Inv X lj σ H s:=⟨I.ok.unwish,I.os,I.bare,I.base,I.loc,I.cell,I.free,I.freeC,I.pin,I.hok,I.len⟩
theorem SP.unwish {D:Ends} {f:Flow} {s':Shared} (h:SP (X.wish E) lj D f s'):SP X lj D f s':=by
 cases f with
 | next=>obtain⟨σ',H',I,q⟩:=h; exact⟨σ',H',I.unwish,q⟩
 | brk=>obtain⟨σ',H',I,q⟩:=h; exact⟨σ',H',I.unwish,q⟩
 | cont=>obtain⟨σ',H',I,q⟩:=h; exact⟨σ',H',I.unwish,q⟩
 | ret u=>obtain⟨v,σ',H',I,r,q⟩:=h; exact⟨v,σ',H',I.unwish,r,q⟩
theorem PSs.nox {st:List Stmt} {t:TS} (h:PSs X.nox st t):PSs X st t:=fun lj s σ H D I hw =>
 c7 (h lj s σ H D (I.wish _) hw) (fun _ _ q=>q.unwish) fun _ _ z=>eA z
end
section
variable {X:Cx} {st:Stmt} {rest:List Stmt} {t u:TS} {e:Expr} {te:TE} {pos:Pos}
def zpN:TS:=fun D σ H=>D.nx σ H
def zpO (t u:TS):TS:=fun D σ H=>t { D with nx:=u D } σ H
theorem zag:PSs X [] zpN:=fun _ _ σ H _ I h=>gv ⟨σ,H,I,h⟩
theorem zd (h1:PS X st t) (h2:PSs X rest u):PSs X (st :: rest) (zpO t u):=by
 intro lj s σ H D I h
 refine wpAny_execs_cons (thn (h1 lj s σ H { D with nx:=u D } I h) fun f s1 q=>?_)
 cases f with
 | next =>
  obtain⟨σ',H',I',q⟩:=q
  exact h2 lj s1 σ' H' D I' q
 | ret v=>exact q
 | brk=>exact q
 | cont=>exact q
theorem zn (h1:PS X st t):PSs X [st] t:=by
 intro lj s σ H D I h
 refine wpAny_execs_cons (thn (h1 lj s σ H D I h) fun f s1 q=>?_)
 cases f with
 | next=>exact gv q
 | ret v=>exact q
 | brk=>exact q
 | cont=>exact q
theorem Inv.quiet {lj:List (Addr×Obj)} {σ:St} {H:Hp} {s:Shared} (I:Inv X lj σ H s):interactive X.env=false:=by simp [interactive,I.ok.kind]
def zpP (te:TE):TS:=fun D σ H=>te σ H fun _ H1=>D.nx σ H1
theorem zci (he:PE X e te) (hs:swapsWith e none pos.line X.env=pure false:=by rfl):PS X (.Expr e pos) (zpP te):=by
 intro lj s σ H D I h
 exact wpAny_Expr_any (thn (he lj s σ H _ I h) fun v s1 ⟨x,H1,I1,r1,q1⟩=>⟨σ,H1,I1,q1⟩) I.quiet hs
def zqv (te:TE):TS:=fun D σ H=>te σ H D.rt
theorem zF (he:PE X e te):PS X (.Return (some e) pos) (zqv te):=by
 intro lj s σ H D I h
 exact wpAny_Return_some (thn (he lj s σ H _ I h) fun v s1 ⟨x,H1,I1,r1,q1⟩=>⟨x,σ,H1,I1,r1,q1⟩)
def zqw (c:TT) (t u:TS):TS:=fun D σ H=>c σ H fun b H1=>if b=true then t D σ H1 else u D σ H1
theorem za0 {c:Expr} {a b:List Stmt} {tc:TT} (hc:PT X c tc) (ha:PSs X a t) (hb:PSs X b u):PS X (.If c a b pos) (zqw tc t u):=by
 intro lj s σ H D I h
 refine wpAny_If (thn (hc lj s σ H _ I h) fun d s1 ⟨H1,I1,q1⟩=>?_)
 cases d with
 | true=>exact ha lj s1 σ H1 D I1 q1
 | false=>exact hb lj s1 σ H1 D I1 q1
def zoN:TS:=fun _ _ _=>False
theorem zdJ {sts:List Stmt}:PSs X sts zoN:=fun _ _ _ _ _ _ h=>h.elim
end
abbrev TG:=V→St→Hp→(St→Hp→Prop)→Prop
abbrev TGs:=List V→St→Hp→(St→Hp→Prop)→Prop
def PG (X:Cx) (target:Expr) (t:TG):Prop :=
 ∀ (lj:List (Addr×Obj)) (s:Shared) (σ:St) (H:Hp) (v:V) (u:Value) (Q:St→Hp→Prop),Inv X lj σ H s→RelV v u→t v σ H Q →
  wpAny (model X.prog X.w) X.A (assign target X.env u) (fun _ s'=>∃ σ' H',Inv X lj σ' H' s'∧Q σ' H') X.xe s
def PGs (X:Cx) (ts:List Expr) (t:TGs):Prop :=
 ∀ (lj:List (Addr×Obj)) (s:Shared) (σ:St) (H:Hp) (vs:List V) (us:List Value) (Q:St→Hp→Prop),Inv X lj σ H s→zT vs us→t vs σ H Q →
  wpAny (model X.prog X.w) X.A (assignInOrder ((assignEach ts X.env).map (·.2)) us) (fun _ s'=>∃ σ' H',Inv X lj σ' H' s'∧Q σ' H') X.xe s
abbrev zoO:=V→V→V→Hp→(Hp→Prop)→Prop
def zpQ (X:Cx) (t:zoO):Prop :=
 ∀ (lj:List (Addr×Obj)) (s:Shared) (σ:St) (H:Hp) (o i v:V) (ov iv u:Value) (Q:Hp→Prop),Inv X lj σ H s→RelV o ov→RelV i iv→RelV v u→t o i v H Q →
  wpAny (model X.prog X.w) X.A (setItem ov iv u) (fun _ s'=>∃ H',Inv X lj σ H' s'∧Q H') X.xe s
abbrev TIp:=V→V→Hp→VK→Prop
def PIp (X:Cx) (op:Operator) (t:TIp):Prop :=
 ∀ (lj:List (Addr×Obj)) (s:Shared) (σ:St) (H:Hp) (x y:V) (v u:Value) (Q:VK),Inv X lj σ H s→RelV x v→RelV y u→t x y H Q →
  wpAny (model X.prog X.w) X.A (inplaceOp op v u) (EP X lj σ Q) X.xe s
section
variable {X:Cx} {pos:Pos}
def zaX (i:Nat):TG:=fun v σ H Q=>Q (σ.set i (some v)) H
theorem zf {i:Nat} {x:Str} (hN:X.N.Nodup) (hi:X.N[i]? = some x) (hx:Loc X.env.scope x) (hf:X.fn x=true∨X.env.scope.names.lookup x=some .local:=by first | exact .inl rfl | exact .inr rfl | assumption):PG X (.Name x pos) (zaX i):=by
 intro lj s σ H v u Q I r h
 exact wpAny_assign_Name (zex I hN hi hx r (fun s' I'=>⟨_,H,I',h⟩) hf)
def zio:TGs:=fun vs σ H Q=>vs = []∧Q σ H
def zb9 (t:TG) (u:TGs):TGs:=fun vs σ H Q=>∃ v r,vs=v :: r∧t v σ H fun σ' H'=>u r σ' H' Q
theorem zD:PGs X [] zio:=by
 intro lj s σ H vs us Q I r h
 obtain⟨e,h⟩:=h
 subst e
 cases r
 exact assignInOrder_nil ⟨σ,H,I,h⟩
theorem zi {e:Expr} {es:List Expr} {t:TG} {u:TGs} (h1:PG X e t) (h2:PGs X es u)
  (hs:(assignEach (e :: es) X.env).map (·.2)=assign e X.env :: (assignEach es X.env).map (·.2):=by rfl):PGs X (e :: es) (zb9 t u):=by
 intro lj s σ H vs us Q I r h
 obtain⟨v,vr,e1,h⟩:=h
 subst e1
 cases r with
 | cons r rr =>
  rw [hs]
  refine assignInOrder_cons (thn (h1 lj s σ H _ _ _ I r h) fun _ s1 ⟨σ1,H1,I1,q1⟩=>?_)
  exact h2 lj s1 σ1 H1 _ _ Q I1 rr q1
def zhh (K:ag) (n:Nat) (t:TGs):TG:=fun v σ H Q=>∃ a xs,v = .ref a∧lE K H a xs∧xs.length=n∧t xs σ H Q
theorem zaK {es:List Expr} {k:Nat} {t:TGs} {n:Nat} (hc:X.calm=true) (h:PGs X es t)
  (hn:(assignEach es X.env).length=n:=by rfl) (sW:(assignEach es X.env).findIdx? (·.1)=none:=by rfl):PG X (.Tuple es k pos) (zhh X.K n t):=by
 intro lj s σ H v u Q I r hw
 obtain⟨a,xs,e1,hq,hl,hw⟩:=hw
 subst e1
 cases r
 obtain⟨lx,rv,ht,hz⟩:=I.tuple hq
 refine assign_Tuple_tuple (I.ok.hd hc) ht (by simp [hn,← hl,rv.length]) sW fun h' hx=>?_
 have I1:Inv X lj σ H { s with heap:=h' }:=I.kept (t':=s.toks) fun b o e=>hx b o (bz (aK e)) e
 exact h lj _ σ H xs _ Q I1 (by simpa using rv) hw
def zqx (to ti:TE) (t:zoO):TG:=fun v σ H Q=>to σ H fun o H1=>ti σ H1 fun i H2=>t o i v H2 fun H3=>Q σ H3
theorem zoP {o i:Expr} {to ti:TE} {t:zoO} (ho:PE X o to) (hi:PE X i ti) (hs:zpQ X t)
  (ha:∀ v,assign (.Subscript o i pos) X.env v=(do
   let ov ← holding [v] (eval o X.env)
   let iv ← holding [v,ov] (eval i X.env)
   standAt pos
   holding [v,ov,iv] (setItem ov iv v)
   release [v,ov,iv] []):=by intro _; rfl):PG X (.Subscript o i pos) (zqx to ti t):=by
 intro lj s σ H v u Q I r h
 rw [ha]
 refine ae (bY (thn (ho lj s σ H _ I h) fun ov s1 ⟨x,H1,I1,r1,q1⟩=>?_))
 refine ae (bY (thn (hi lj s1 σ H1 _ I1 q1) fun iv s2 ⟨y,H2,I2,r2,q2⟩=>?_))
 refine ae (fF (ae (bY (thn (hs lj s2 σ H2 x y v ov iv u _ I2 r1 r2 r q2) fun _ s3 ⟨H3,I3,q3⟩=>?_))))
 exact wpAny_release ⟨σ,H3,I3,q3⟩
def ziq (te:TE) (g:TG):TS:=fun D σ H=>te σ H fun x H1=>g x σ H1 D.nx
theorem zbd {tg e:Expr} {te:TE} {g:TG} (he:PE X e te) (hg:PG X tg g) (hs:swapsWithSole [tg] e pos.line X.env=pure false:=by rfl) (hw:swappedStores [tg] e X.env=pure none:=by rfl)
  (h1:(assignEach [tg] X.env).map (·.2) = [assign tg X.env]:=by rfl):PS X (.Assign [tg] e pos) (ziq te g):=by
 intro lj s σ H D I h
 refine wpAny_Assign_stores (thn (he lj s σ H _ I h) fun v s1 ⟨x,H1,I1,r1,q1⟩=>?_) hs hw
 rw [h1]
 exact thn (hg lj s1 σ H1 x v _ I1 r1 q1) fun _ s2 q=>q
theorem zq {i:Nat} {x:Str} {e:Expr} {te:TE} {pos':Pos} (hN:X.N.Nodup) (hi:X.N[i]? = some x) (hx:Loc X.env.scope x) (he:PE X e te) (hs:swapsWith e (some (.Name x pos')) pos.line X.env=pure false:=by rfl) (hf:X.fn x=true∨X.env.scope.names.lookup x=some .local:=by first | exact .inl rfl | exact .inr rfl | assumption) :
  PS X (.Assign [.Name x pos'] e pos) (ziq te (zaX i)):=by
 intro lj s σ H D I h
 refine wpAny_Assign_Name (thn (he lj s σ H _ I h) fun v s1 ⟨y,H1,I1,r1,q1⟩=>?_) hs
 exact zex I1 hN hi hx r1 (fun s2 I2=>⟨_,H1,I2,q1⟩) hf
def zqy (i:Nat) (te:TE) (ti:TIp):TS:=fun D σ H=>∃ x,σ[i]? = some (some x)∧te σ H fun y H1=>ti x y H1 fun z H2=>D.nx (σ.set i (some z)) H2
theorem zgh {i:Nat} {x:Str} {e:Expr} {te:TE} {op:Operator} {ti:TIp} {pos':Pos} (hN:X.N.Nodup) (hi:X.N[i]? = some x) (hx:Loc X.env.scope x) (he:PE X e te) (ho:PIp X op ti) (hf:X.fn x=true∨X.env.scope.names.lookup x=some .local:=by first | exact .inl rfl | exact .inr rfl | assumption) :
  PS X (.AugAssign (.Name x pos') op e pos) (zqy i te ti):=by
 intro lj s σ H D I h
 obtain⟨v,e1,h⟩:=h
 obtain⟨m,hn,hl⟩:=I.loc
 have vis:Vis X.env.scope x:=by rcases hx with k | k; exact .inl k; exact .inr (.inl k)
 obtain⟨u,r,l⟩:=hl i x v hi e1 vis
 refine wpAny_AugAssign_Name ?_
 have go:wpAny (model X.prog X.w) X.A (eval e X.env) (fun w s₂=>wpAny (model X.prog X.w) X.A (inplaceOp op u w) (fun r s₃=>wpAny (model X.prog X.w) X.A (storeName X.env x r) (fun _=>SP X lj D .next) X.xe s₃) X.xe s₂) X.xe s:=by
  refine thn (he lj s σ H _ I h) fun w s1 ⟨y,H1,I1,r1,q1⟩=>?_
  refine thn (ho lj s1 σ H1 v y u w _ I1 r r1 q1) fun z s2 ⟨zv,H2,I2,r2,q2⟩=>?_
  exact zex I2 hN hi hx r2 (fun s3 I3=>⟨_,H2,I3,q2⟩) hf
 rcases l with ⟨hk,hm⟩ | ⟨hk,c,hc,pU⟩
 ·exact jr I.ok.kind hk hn hm go
 ·rcases hk with hk | hk
  ·exact jG I.ok.kind hk hc pU go
  ·rcases hx with k | k
   ·have:X.env.scope.names.lookup x=some .free:=hk
    rw [k] at this; cases this
   ·have:X.env.scope.names.lookup x=some .free:=hk
    rw [k] at this; cases this
def zk6 (c:TT) (tb:TS):TS:=fun D σ H=>∃ W:Nat→St→Hp→Prop,(∃ m,W m σ H)∧∀ m σ H,W m σ H →
 c σ H fun b H1=>if b=true then ∃ N:St→Hp→Prop,(∀ σ' H',N σ' H'→∃ m',m' < m∧W m' σ' H')∧tb { D with nx:=N,ct:=N,bk:=D.nx } σ H1 else D.nx σ H1
theorem zez {c:Expr} {body:List Stmt} {tc:TT} {tb:TS} (hp:PassesOwn (model X.prog X.w) X.A X.env X.xe) (hc:PT X c tc) (hb:PSs X body tb):PS X (.While c body [] pos) (zk6 tc tb):=by
 intro lj s σ H D I h
 obtain⟨W,⟨m0,w0⟩,turn⟩:=h
 refine wpAny_While (codeAny_whileLoop (fun n s'=>∃ σ' H',Inv X lj σ' H' s'∧W n σ' H') ?_ m0 ⟨σ,H,I,w0⟩)
 rintro n s1 ⟨σ1,H1,I1,w1⟩
 refine dZ hp (thn (hc lj s1 σ1 H1 _ I1 (turn n σ1 H1 w1)) fun b s2 ⟨H2,I2,q2⟩=>?_)
 cases b with
 | true =>
  obtain⟨N,hN,q2⟩:=q2
  rw [if_pos rfl]
  refine dZ hp (thn (hb lj s2 σ1 H2 _ I2 q2) fun f s3 q3=>?_)
  cases f with
  | next =>
   obtain⟨σ3,H3,I3,n3⟩:=q3
   obtain⟨m',hm,w3⟩:=hN σ3 H3 n3
   exact⟨m',hm,σ3,H3,I3,w3⟩
  | cont =>
   obtain⟨σ3,H3,I3,n3⟩:=q3
   obtain⟨m',hm,w3⟩:=hN σ3 H3 n3
   exact⟨m',hm,σ3,H3,I3,w3⟩
  | brk=>exact q3
  | ret v=>exact q3
 | false =>
  rw [if_neg aR]
  exact gv ⟨σ1,H2,I2,q2⟩
end
structure It where
 go:Nat→Hp→Prop
 yld:Nat→Hp→V→Hp→Prop
 stop:Nat→Hp→Prop
def zb3 (X:Cx) (lj:List (Addr×Obj)) (H:Hp) (b:Addr):Prop :=
 H b=none∧b≠X.env.locals∧b∉X.fs∧(b∈X.ex∨X.s₀.heap.objs.size≤b)∧(∀ x c,X.env.cells.lookup x=some c→c≠b)∧∀ p∈X.pn++lj,p.1≠b
theorem Inv.fpOk {X:Cx} {lj:List (Addr×Obj)} {σ:St} {H H':Hp} {s:Shared} {b:Addr} (I:Inv X lj σ H s) (hb:s.heap.objs.size≤b) (hn:H' b=none):zb3 X lj H' b:=by
 refine⟨hn,fP (bp I.lt hb),I.nofs hb,.inr (a8 I.sz hb),fun x c e z=>?_,fun p hp z=>?_⟩
 ·obtain⟨v,q⟩:=I.cell x c e
  exact absurd (bp q.lt (by rw [z]; exact hb)) (cG _)
 ·exact absurd (bp (aK (I.pin p hp).1) (by rw [z]; exact hb)) (cG _)
structure Turn (P:Program) (w:World) (K:ag) (tg:Expr) (J:It) (fp:List Addr) (it:Addr) (tn:Nat→Heap→Prop):Prop where
 mem:it∈fp
 obj:∀ i h,tn i h→∀ b∈fp,∃ o,h.get? b=some o∧∀ v,o.data≠.cell v
 keep:∀ i h h',tn i h→(∀ b∈fp,∀ o,h.get? b=some o→h'.get? b=some o)→tn i h'
 item:∀ (X:Cx),X.prog=P→X.w=w→X.K=K→X.calm=true→∀ (i:Nat) (lj:List (Addr×Obj)) (s:Shared) (σ:St) (H:Hp) (E:Value→Shared→Prop),Inv X lj σ H s→(∀ b∈fp,zb3 X lj H b)→tn i s.heap→J.go i H →
  wpAny (model P w) X.A (pyNext (.ref it)) (fun r s1=>∃ u,r=some u ∧
   wpAny (model P w) X.A (letOwnedTupleGo tg (.ref it) u) (fun _ s2=>∃ x H',Inv X lj σ H' s2∧RelV x u∧J.yld i H x H'∧tn (i+1) s2.heap∧∀ b∈fp,H' b=none) E s1) E s
 done:∀ (X:Cx),X.prog=P→X.w=w→X.K=K→X.calm=true→∀ (i:Nat) (lj:List (Addr×Obj)) (s:Shared) (σ:St) (H:Hp) (E:Value→Shared→Prop),Inv X lj σ H s→(∀ b∈fp,zb3 X lj H b)→tn i s.heap→J.stop i H →
  wpAny (model P w) X.A (pyNext (.ref it)) (fun r s1=>r=none∧Inv X lj σ H s1) E s
 self:∀ (A:Around) (i:Nat) (s:Shared) (Q:Value→Shared→Prop) (E:Value→Shared→Prop),tn i s.heap→Q (.ref it) s→wpAny (model P w) A (pyIter (.ref it)) Q E s
abbrev TI:=St→Hp→(It→Hp→Prop)→Prop
def PIE (X:Cx) (lj:List (Addr×Obj)) (σ:St) (tg:Expr) (R:It→Hp→Prop) (yh:Value) (s2:Shared):Prop :=
 ∃ (it:Addr) (fp:List Addr) (tn:Nat→Heap→Prop) (J:It) (H':Hp),yh = .ref it∧Inv X lj σ H' s2∧Turn X.prog X.w X.K tg J fp it tn∧tn 0 s2.heap∧(∀ b∈fp,zb3 X lj H' b)∧R J H'
def PI (X:Cx) (tg iter:Expr) (wi:TI):Prop :=
 ∀ (lj:List (Addr×Obj)) (s:Shared) (σ:St) (H:Hp) (R:It→Hp→Prop),Inv X lj σ H s→wi σ H R →
  wpAny (model X.prog X.w) X.A (eval iter X.env) (fun v s1=>wpAny (model X.prog X.w) X.A (pyIter v) (PIE X lj σ tg R) X.xe s1) X.xe s
theorem zfI {M:Model} {A:Around} {E:Value→Shared→Prop} {s:Shared} {tg:Expr} {it:Addr} {u:Value} {o:Obj} {n:String} {vs:Array Value} {Q:Unit→Shared→Prop} (ho:s.heap.get? it=some o) (hc:o.cls = .type n) (hd:o.data = .fields vs)
  (hn:["enumerate","zip","dict_itemiterator","dict_reverseitemiterator","odict_iterator","itertools.zip_longest","itertools.pairwise"].contains n=false) (hQ:Q () s):wpAny M A (letOwnedTupleGo tg (.ref it) u) Q E s:=by
 unfold letOwnedTupleGo
 cases tg <;> first
  | exact ak hQ
  | (cases u <;> first
    | exact ak hQ
    | (refine ae (wpAny_load ho ?_)
       rw [hc,hd]
       show wpAny M A (if (["enumerate","zip","dict_itemiterator","dict_reverseitemiterator","odict_iterator","itertools.zip_longest","itertools.pairwise"].contains n && vs[0]? == some (rawInt _))=true then _ else _) Q E s
       rw [if_neg (by intro h; rw [hn,Bool.false_and] at h; cases h)]
       exact ak hQ))
def Itl (K:ag) (a:Addr):It :=
 ⟨fun i H=>∃ xs x,lr K H a xs∧xs[i]? = some x,fun i H x H'=>H'=H∧∀ xs,lr K H a xs→xs[i]? = some x,fun i H=>∃ xs,lr K H a xs∧xs.length≤i⟩
def Itt (K:ag) (a:Addr):It :=
 ⟨fun i H=>∃ xs x,lE K H a xs∧xs[i]? = some x,fun i H x H'=>H'=H∧∀ xs,lE K H a xs→xs[i]? = some x,fun i H=>∃ xs,lE K H a xs∧xs.length≤i⟩
def Itr (lo:Int) (n:Nat):It:=⟨fun i _=>i < n,fun i H x H'=>H'=H∧x = .int (lo+i),fun i _=>n≤i⟩
theorem zfJ {P:Program} {w:World} {K:ag} {tg:Expr} (a it:Addr):Turn P w K tg (Itl K a) [it] it (fun i h=>h.IsListIter it a i) where
 mem:=by simp
 obj:=fun i h st b hb=>by
  have e:b=it:=by simpa using hb
  subst e
  obtain⟨o,e,c,d⟩:=st
  exact⟨o,e,fun v z=>by rw [d] at z; cases z⟩
 keep:=fun i h h' st k=>st.at fun o e=>k it (by simp) o e
 item:=by
  intro X hP hw hK hc i lj s σ H E I hf st hg
  subst hP hw hK
  obtain⟨xs,x,hq,hx⟩:=hg
  obtain⟨lx,rv,p,hz⟩:=I.list hq
  obtain⟨u,hu,ru⟩:=rv.get hx
  obtain⟨f0,f1,f2,f3,f4,f5⟩:=hf it (by simp)
  refine wpAny_pyNext_list_item st p.isList (x:=u) (by simpa using hu) fun h' ly sb=>?_
  have I1:Inv X lj σ H { s with heap:=h' }:=I.turned (t':=s.toks) (fun b o hb e=>(sb.2 b hb).trans e) f0 f1 f3 f4 f5
  obtain⟨o,e,c,d⟩:=id ly
  exact⟨u,rfl,zfI (s:={ s with heap:=h' }) e c d (by decide) ⟨x,H,I1,ru,⟨rfl,fun ys hy=>by rw [I.list_inj hy hq]; exact hx⟩,ly,fun b hb=>(hf b hb).1⟩⟩
 done:=by
  intro X hP hw hK hc i lj s σ H E I hf st hg
  subst hP hw hK
  obtain⟨xs,hq,hx⟩:=hg
  obtain⟨lx,rv,p,hz⟩:=I.list hq
  obtain⟨f0,f1,f2,f3,f4,f5⟩:=hf it (by simp)
  have hl:=rv.length
  exact wpAny_pyNext_list_end (I.ok.hd hc) st p.isList (by simp; lia) fun h' eb=>⟨rfl,I.turned (t':=s.toks) (fun b o hb e=>eb b o hb e) f0 f1 f3 f4 f5⟩
 self:=fun _ _ _ _ _ st h=>wpAny_pyIter_listiter st h
theorem zeA {P:Program} {w:World} {K:ag} {tg:Expr} (a it:Addr):Turn P w K tg (Itt K a) [it] it (fun i h=>h.IsTupleIter it a i) where
 mem:=by simp
 obj:=fun i h st b hb=>by
  have e:b=it:=by simpa using hb
  subst e
  obtain⟨o,e,c,d⟩:=st
  exact⟨o,e,fun v z=>by rw [d] at z; cases z⟩
 keep:=fun i h h' st k=>st.at fun o e=>k it (by simp) o e
 item:=by
  intro X hP hw hK hc i lj s σ H E I hf st hg
  subst hP hw hK
  obtain⟨xs,x,hq,hx⟩:=hg
  obtain⟨lx,rv,p,hz⟩:=I.tuple hq
  obtain⟨u,hu,ru⟩:=rv.get hx
  obtain⟨f0,f1,f2,f3,f4,f5⟩:=hf it (by simp)
  refine wpAny_pyNext_tuple_item st (show s.heap.IsTuple a lx.toArray from p) (x:=u) (by simpa using hu) fun h' ly sb=>?_
  have I1:Inv X lj σ H { s with heap:=h' }:=I.turned (t':=s.toks) (fun b o hb e=>(sb.2 b hb).trans e) f0 f1 f3 f4 f5
  obtain⟨o,e,c,d⟩:=id ly
  exact⟨u,rfl,zfI (s:={ s with heap:=h' }) e c d (by decide) ⟨x,H,I1,ru,⟨rfl,fun ys hy=>by rw [I.tuple_inj hy hq]; exact hx⟩,ly,fun b hb=>(hf b hb).1⟩⟩
 done:=by
  intro X hP hw hK hc i lj s σ H E I hf st hg
  subst hP hw hK
  obtain⟨xs,hq,hx⟩:=hg
  obtain⟨lx,rv,p,hz⟩:=I.tuple hq
  obtain⟨f0,f1,f2,f3,f4,f5⟩:=hf it (by simp)
  have hl:=rv.length
  exact wpAny_pyNext_tuple_end (I.ok.hd hc) st (show s.heap.IsTuple a lx.toArray from p) (by simp; lia) fun h' eb=>⟨rfl,I.turned (t':=s.toks) (fun b o hb e=>eb b o hb e) f0 f1 f3 f4 f5⟩
 self:=fun _ _ _ _ _ st h=>wpAny_pyIter_tupleiter st h
theorem zir {P:Program} {w:World} {K:ag} {tg:Expr} (it:Addr) (lo:Int) (n:Nat):Turn P w K tg (Itr lo n) [it] it (fun i h=>IsRangeIter h it (lo+(i:Nat)*1) ((n:Int) - (i:Nat)) 1) where
 mem:=by simp
 obj:=fun i h st b hb=>by
  have e:b=it:=by simpa using hb
  subst e
  exact⟨_,st,fun v z=>by
   have z':ka _=Data.cell v:=z
   cases z'⟩
 keep:=fun i h h' st k=>k it (by simp) _ st
 item:=by
  intro X hP hw hK hc i lj s σ H E I hf st hg
  subst hP hw hK
  obtain⟨f0,f1,f2,f3,f4,f5⟩:=hf it (by simp)
  have W:=Walks.range (prog:=X.prog) (w:=X.w) (I.ok.hd hc) it lo 1 n
  refine W.item i s _ _ hg st fun v h' tk hv ly kk=>?_
  obtain⟨t,rfl⟩:=hv
  have I1:Inv X lj σ H { s with heap:=h',toks:=tk }:=I.turned (fun b o hb e=>kk b o (by simpa using hb) e) f0 f1 f3 f4 f5
  refine⟨_,rfl,zfI (s:={ s with heap:=h',toks:=tk }) (n:="range_iterator") ly rfl rfl (by decide) ⟨.int (lo+i),H,I1,⟨t,?_⟩,⟨rfl,rfl⟩,ly,fun b hb=>(hf b hb).1⟩⟩
  rw [kb]
 done:=by
  intro X hP hw hK hc i lj s σ H E I hf st hg
  subst hP hw hK
  obtain⟨f0,f1,f2,f3,f4,f5⟩:=hf it (by simp)
  exact wpAny_pyNext_range_end (I.ok.hd hc) st (by have:n≤i:=hg; lia) fun h' eb=>⟨rfl,I.turned (t':=s.toks) (fun b o hb e=>eb b o hb e) f0 f1 f3 f4 f5⟩
 self:=fun _ _ _ _ _ st h=>wpAny_pyIter_rangeiter st h
section
variable {X:Cx} {tg:Expr}
def zpR (K:ag) (tl:TE):TI:=fun σ H R=>tl σ H fun x H1=>∃ a,x = .ref a∧(∃ xs,lr K H1 a xs)∧R (Itl K a) H1
def zpS (K:ag) (tl:TE):TI:=fun σ H R=>tl σ H fun x H1=>∃ a,x = .ref a∧(∃ xs,lE K H1 a xs)∧R (Itt K a) H1
theorem zN {l:Expr} {tl:TE} (hl:PE X l tl):PI X tg l (zpR X.K tl):=by
 intro lj s σ H R I h
 refine thn (hl lj s σ H _ I h) fun v s1 ⟨x,H1,I1,r1,q1⟩=>?_
 obtain⟨a,e,⟨xs,hq⟩,q⟩:=q1
 subst e
 cases r1
 obtain⟨lx,rv,p,hz⟩:=I1.list hq
 refine ik p.isList ?_
 refine⟨s1.heap.objs.size,[s1.heap.objs.size],_,_,H1,rfl,I1.kept (t':=s1.toks) fun b o e=>aj _ e,zfJ a _,⟨_,aO _ rfl,rfl,rfl⟩,fun b hb=>?_,q⟩
 have e:b=s1.heap.objs.size:=by simpa using hb
 subst e
 exact I1.fpOk (af _) (I1.hok.fresh (af _))
theorem zoQ {l:Expr} {tl:TE} (hl:PE X l tl):PI X tg l (zpS X.K tl):=by
 intro lj s σ H R I h
 refine thn (hl lj s σ H _ I h) fun v s1 ⟨x,H1,I1,r1,q1⟩=>?_
 obtain⟨a,e,⟨xs,hq⟩,q⟩:=q1
 subst e
 cases r1
 obtain⟨lx,rv,p,hz⟩:=I1.tuple hq
 refine fQ (show s1.heap.IsTuple a lx.toArray from p) ?_
 refine⟨s1.heap.objs.size,[s1.heap.objs.size],_,_,H1,rfl,I1.kept (t':=s1.toks) fun b o e=>aj _ e,zeA a _,⟨_,aO _ rfl,rfl,rfl⟩,fun b hb=>?_,q⟩
 have e:b=s1.heap.objs.size:=by simpa using hb
 subst e
 exact I1.fpOk (af _) (I1.hok.fresh (af _))
theorem zhi {lj:List (Addr×Obj)} {σ:St} {H:Hp} {s:Shared} {R:It→Hp→Prop} {E:Value→Shared→Prop} {lo hi:Int} {t u v:Tok} {tk:Nat} (I:Inv X lj σ H s) (h1:-(2 ^ 62)≤lo) (h2:lo < 2 ^ 62) (h3:-(2 ^ 62)≤hi) (h4:hi < 2 ^ 62)
  (q:R (Itr lo (hi - lo).toNat) H):wpAny (model X.prog X.w) X.A (pyIter (.ref s.heap.objs.size)) (PIE X lj σ tg R) E { s with heap:=s.heap.push { cls:=.type "range",data:=.fields #[.int lo t,.int hi u,.int 1 v] },toks:=tk }:=by
 refine wpAny_pyIter_range (IsRange.new ..) (small_one h1 h2 h3 h4) ?_
 have I1:Inv X lj σ H { s with heap:=s.heap.push { cls:=.type "range",data:=.fields #[.int lo t,.int hi u,.int 1 v] },toks:=tk }:=I.kept fun b o e=>aj _ e
 refine⟨(s.heap.push { cls:=.type "range",data:=.fields #[.int lo t,.int hi u,.int 1 v] }).objs.size,[(s.heap.push { cls:=.type "range",data:=.fields #[.int lo t,.int hi u,.int 1 v] }).objs.size],_,_,H,rfl,
  I1.kept (t':=tk) fun b o e=>aj _ e,zir _ lo (hi - lo).toNat,?_,fun b hb=>?_,q⟩
 ·have e1:lo+((0:Nat):Int)*1=lo:=by simp
  have e2:(((hi - lo).toNat:Nat):Int) - ((0:Nat):Int)=Builtin.Range.rangeSize lo hi 1:=by rw [rangeSize_one]; split <;> lia
  show IsRangeIter _ _ (lo+((0:Nat):Int)*1) ((((hi - lo).toNat:Nat):Int) - ((0:Nat):Int)) 1
  rw [e1,e2]
  exact aO _ rfl
 ·have e:b=(s.heap.push { cls:=.type "range",data:=.fields #[.int lo t,.int hi u,.int 1 v] }).objs.size:=by simpa using hb
  subst e
  exact I1.fpOk (af _) (I1.hok.fresh (af _))
def zpT (ta:TA):TI:=fun σ H R=>ta σ H fun vs H1=>∃ j:Int,vs = [.int j]∧-(2 ^ 62)≤j∧j < 2 ^ 62∧R (Itr 0 j.toNat) H1
def zpU (ta:TA):TI:=fun σ H R=>ta σ H fun vs H1=>∃ i j:Int,vs = [.int i,.int j]∧(-(2 ^ 62)≤i∧i < 2 ^ 62∧-(2 ^ 62)≤j∧j < 2 ^ 62)∧R (Itr i (j - i).toNat) H1
theorem zaq {a:Expr} {ta:TA} {p pos:Pos} (hg:Gl X "range") (hm:X.mg "range" = none) (ha:PA X [a] ta) (hs:starEach [a] X.env = [(false,eval a X.env)]:=by rfl):PI X tg (.Call (.Name "range" p) [a] [] pos) (zpT ta):=by
 intro lj s σ H R I h
 refine Call_ (zbE I hg hm kG (bA (thn (ha pos lj s σ H _ I h) fun us s1 ⟨vs,H1,I1,r1,q1⟩=>?_) hs rfl))
 obtain⟨j,e,q1,q2,q⟩:=q1
 subst e
 cases r1 with
 | cons r rr =>
  cases rr
  obtain⟨t,rfl⟩:=r
  exact call_range_1 (zhi I1 (by lia) (by lia) q1 q2 (by simpa using q))
theorem zkd {a b:Expr} {ta:TA} {p pos:Pos} (hg:Gl X "range") (hm:X.mg "range" = none) (ha:PA X [a,b] ta) (hs:starEach [a,b] X.env = [(false,eval a X.env),(false,eval b X.env)]:=by rfl) (oE:starEach [b] X.env = [(false,eval b X.env)]:=by rfl) :
  PI X tg (.Call (.Name "range" p) [a,b] [] pos) (zpU ta):=by
 intro lj s σ H R I h
 refine Call_ (zbE I hg hm kG (bA (thn (ha pos lj s σ H _ I h) fun us s1 ⟨vs,H1,I1,r1,q1⟩=>?_) (by rw [hs,oE]) (by rw [oE]; rfl)))
 obtain⟨i,j,e,⟨q1,q2,q3,q4⟩,q⟩:=q1
 subst e
 cases r1 with
 | cons r rr =>
  cases rr with
  | cons r' rr =>
   cases rr
   obtain⟨t,rfl⟩:=r
   obtain⟨t',rfl⟩:=r'
   exact call_range_2 (zhi I1 q1 q2 q3 q4 q)
def zqz (wi:TI) (g:TG) (tb:TS):TS:=fun D σ H=>wi σ H fun J H1=>∃ W:Nat→Nat→St→Hp→Prop,(∃ m,W 0 m σ H1)∧∀ i m σ H,W i m σ H →
 (J.stop i H∧D.nx σ H)∨(J.go i H∧∃ N:St→Hp→Prop,(∀ σ' H',N σ' H'→∃ m',m' < m∧W (i+1) m' σ' H')∧∀ x H',J.yld i H x H'→g x σ H' fun σ2 H2=>tb { D with nx:=N,ct:=N,bk:=D.nx } σ2 H2)
def zcy (fp:List Addr) (h:Heap):List (Addr×Obj):=fp.filterMap fun b=>(h.get? b).map fun o=>(b,o)
theorem zcj {fp:List Addr} {h:Heap} {b:Addr} {o:Obj} (hb:b∈fp) (e:h.get? b=some o):(b,o)∈zcy fp h:=jQ.mpr ⟨b,hb,by rw [e]; rfl⟩
theorem zfK {fp:List Addr} {h:Heap} {p:Addr×Obj} (hp:p∈zcy fp h):p.1∈fp∧h.get? p.1=some p.2:=by
 obtain⟨b,hb,e⟩:=jQ.mp hp
 cases q:h.get? b with
 | none=>rw [q] at e; cases e
 | some o =>
  rw [q] at e
  have e':(b,o)=p:=aT e
  subst e'
  exact⟨hb,q⟩
theorem Inv.pinned {lj:List (Addr×Obj)} {σ:St} {H:Hp} {s:Shared} {fp:List Addr} (I:Inv X lj σ H s) (hf:∀ b∈fp,zb3 X lj H b) (ho:∀ b∈fp,∃ o,s.heap.get? b=some o∧∀ v,o.data≠.cell v):Inv X (lj++zcy fp s.heap) σ H s :=
 I.pins_of fun p hp=>(bf.mp hp).elim (fun z=>I.pin p (aL _ z)) fun z=>by
  obtain⟨hb,e⟩:=zfK z
  obtain⟨f0,f1,f2,_⟩:=hf p.1 hb
  obtain⟨o,e',d⟩:=ho p.1 hb
  rw [e] at e'; cases e'
  exact⟨e,f0,f1,f2,d⟩
theorem Inv.unpinned {lj pl:List (Addr×Obj)} {σ:St} {H:Hp} {s:Shared} (I:Inv X (lj++pl) σ H s):Inv X lj σ H s:=I.pins_of fun p hp=>I.pin p (aL _ (aW _ hp))
theorem za7 {iter:Expr} {body:List Stmt} {wi:TI} {g:TG} {tb:TS} {pos:Pos} (hp:PassesOwn (model X.prog X.w) X.A X.env X.xe) (hc:X.calm=true) (hi:PI X tg iter wi) (hg:PG X tg g) (hb:PSs X body tb)
  (hs:∀ x,foldedSetIterable iter X.env x=pure x:=by intro _; rfl):PS X (.For tg iter body [] pos) (zqz wi g tb):=by
 intro lj s σ H D I h
 refine wpAny_For (thn (hi lj s σ H _ I h) fun v s1 h1=>thn h1 fun yh s2 h2=>?_) hs
 obtain⟨it,fp,tn,J,H2,e,I2,T,mG,f2,W,⟨m0,w0⟩,turn⟩:=h2
 subst e
 have yi:∀ {H':Hp},(∀ b∈fp,H' b=none)→∀ b∈fp,zb3 X lj H' b:=fun hn b hb=>⟨hn b hb,(f2 b hb).2⟩
 refine codeAny_forLoop_any (fun n s'=>∃ i σ' H',Inv X lj σ' H' s'∧tn i s'.heap∧(∀ b∈fp,H' b=none)∧W i n σ' H') ?_ m0 ⟨0,σ,H2,I2,mG,fun b hb=>(f2 b hb).1,w0⟩
 rintro n s3 ⟨i,σ3,H3,I3,Be,fr3,w3⟩
 rcases turn i n σ3 H3 w3 with ⟨stop,qn⟩ | ⟨go,N,hN,step⟩
 ·refine dZ hp (thn (T.done X rfl rfl rfl hc i lj s3 σ3 H3 X.xe I3 (yi fr3) Be stop) fun r s4 ⟨hr,I4⟩=>?_)
  subst hr
  exact gv ⟨σ3,H3,I4,qn⟩
 ·refine dZ hp (thn (T.item X rfl rfl rfl hc i lj s3 σ3 H3 X.xe I3 (yi fr3) Be go) fun r s4 ⟨u,hr,h4⟩=>?_)
  subst hr
  refine dZ hp (thn h4 fun _ s5 ⟨x,H5,I5,r5,y5,Aq,Dm⟩=>?_)
  have I5':=I5.pinned (yi Dm) (T.obj _ _ Aq)
  refine dZ hp (thn (hg _ s5 σ3 H5 x u _ I5' r5 (step x H5 y5)) fun _ s6 ⟨σ6,H6,I6,q6⟩=>?_)
  refine dZ hp (thn (hb _ s6 σ6 H6 _ I6 q6) fun f s7 q7=>?_)
  have again:∀ {σ7:St} {H7:Hp},Inv X (lj++zcy fp s5.heap) σ7 H7 s7→N σ7 H7→∃ m,m < n∧∃ i σ' H',Inv X lj σ' H' s7∧tn i s7.heap∧(∀ b∈fp,H' b=none)∧W i m σ' H':=fun {σ7 H7} I7 n7=>by
   obtain⟨m',hm,w7⟩:=hN σ7 H7 n7
   refine⟨m',hm,i+1,σ7,H7,I7.unpinned,T.keep _ _ _ Aq fun b hb o e=>(I7.pin (b,o) (aL _ (aL _ (zcj hb e)))).1,fun b hb=>?_,w7⟩
   obtain⟨o,e,d⟩:=T.obj _ _ Aq b hb
   exact (I7.pin (b,o) (aL _ (aL _ (zcj hb e)))).2.1
  cases f with
  | next=>obtain⟨σ7,H7,I7,n7⟩:=q7; exact again I7 n7
  | cont=>obtain⟨σ7,H7,I7,n7⟩:=q7; exact again I7 n7
  | brk=>obtain⟨σ7,H7,I7,q7⟩:=q7; exact⟨σ7,H7,I7.unpinned,q7⟩
  | ret v=>obtain⟨x7,σ7,H7,I7,r7,q7⟩:=q7; exact⟨x7,σ7,H7,I7.unpinned,r7,q7⟩
end
theorem zbO {K:ag} {a:Addr} {xs:List V} {g:TG} {tb:TS} {D:Ends} {σ:St} {H:Hp} (Pv:Nat→St→Hp→Prop) (h0:Pv 0 σ H) (hl:∀ i σ H,i≤xs.length→Pv i σ H→lr K H a xs)
  (hs:∀ i x σ H,xs[i]? = some x→Pv i σ H→g x σ H fun σ2 H2=>tb { D with nx:=Pv (i+1),ct:=Pv (i+1),bk:=D.nx } σ2 H2) (hd:∀ σ H,Pv xs.length σ H→D.nx σ H) :
  ∃ W:Nat→Nat→St→Hp→Prop,(∃ m,W 0 m σ H)∧∀ i m σ H,W i m σ H →
   ((Itl K a).stop i H∧D.nx σ H)∨((Itl K a).go i H∧∃ N:St→Hp→Prop,(∀ σ' H',N σ' H'→∃ m',m' < m∧W (i+1) m' σ' H')∧∀ x H',(Itl K a).yld i H x H'→g x σ H' fun σ2 H2=>tb { D with nx:=N,ct:=N,bk:=D.nx } σ2 H2):=by
 refine⟨fun i m σ H=>m=xs.length - i∧i≤xs.length∧Pv i σ H,⟨xs.length,by simp,bj _,h0⟩,?_⟩
 rintro i m σ H ⟨rfl,hi,p⟩
 have q:=hl i σ H hi p
 by_cases lT:i < xs.length
 ·refine .inr ⟨⟨xs,xs[i],q,by simp [lT]⟩,Pv (i+1),fun σ' H' p'=>⟨xs.length - (i+1),by lia,rfl,lT,p'⟩,fun x H' y=>?_⟩
  obtain⟨e,y⟩:=y
  subst e
  exact hs i x σ _ (y xs q) p
 ·have e:i=xs.length:=by lia
  subst e
  exact .inl ⟨⟨xs,q,af _⟩,hd σ H p⟩
theorem zna {K:ag} {a:Addr} {xs:List V} {g:TG} {tb:TS} {D:Ends} {σ:St} {H:Hp} (Pv:Nat→St→Hp→Prop) (h0:Pv 0 σ H) (hl:∀ i σ H,i≤xs.length→Pv i σ H→lE K H a xs)
  (hs:∀ i x σ H,xs[i]? = some x→Pv i σ H→g x σ H fun σ2 H2=>tb { D with nx:=Pv (i+1),ct:=Pv (i+1),bk:=D.nx } σ2 H2) (hd:∀ σ H,Pv xs.length σ H→D.nx σ H) :
  ∃ W:Nat→Nat→St→Hp→Prop,(∃ m,W 0 m σ H)∧∀ i m σ H,W i m σ H →
   ((Itt K a).stop i H∧D.nx σ H)∨((Itt K a).go i H∧∃ N:St→Hp→Prop,(∀ σ' H',N σ' H'→∃ m',m' < m∧W (i+1) m' σ' H')∧∀ x H',(Itt K a).yld i H x H'→g x σ H' fun σ2 H2=>tb { D with nx:=N,ct:=N,bk:=D.nx } σ2 H2):=by
 refine⟨fun i m σ H=>m=xs.length - i∧i≤xs.length∧Pv i σ H,⟨xs.length,by simp,bj _,h0⟩,?_⟩
 rintro i m σ H ⟨rfl,hi,p⟩
 have q:=hl i σ H hi p
 by_cases lT:i < xs.length
 ·refine .inr ⟨⟨xs,xs[i],q,by simp [lT]⟩,Pv (i+1),fun σ' H' p'=>⟨xs.length - (i+1),by lia,rfl,lT,p'⟩,fun x H' y=>?_⟩
  obtain⟨e,y⟩:=y
  subst e
  exact hs i x σ _ (y xs q) p
 ·have e:i=xs.length:=by lia
  subst e
  exact .inl ⟨⟨xs,q,af _⟩,hd σ H p⟩
theorem zca {lo:Int} {n:Nat} {g:TG} {tb:TS} {D:Ends} {σ:St} {H:Hp} (Pv:Nat→St→Hp→Prop) (h0:Pv 0 σ H)
  (hs:∀ i σ H,i < n→Pv i σ H→g (.int (lo+i)) σ H fun σ2 H2=>tb { D with nx:=Pv (i+1),ct:=Pv (i+1),bk:=D.nx } σ2 H2) (hd:∀ σ H,Pv n σ H→D.nx σ H) :
  ∃ W:Nat→Nat→St→Hp→Prop,(∃ m,W 0 m σ H)∧∀ i m σ H,W i m σ H →
   ((Itr lo n).stop i H∧D.nx σ H)∨((Itr lo n).go i H∧∃ N:St→Hp→Prop,(∀ σ' H',N σ' H'→∃ m',m' < m∧W (i+1) m' σ' H')∧∀ x H',(Itr lo n).yld i H x H'→g x σ H' fun σ2 H2=>tb { D with nx:=N,ct:=N,bk:=D.nx } σ2 H2):=by
 refine⟨fun i m σ H=>m=n - i∧i≤n∧Pv i σ H,⟨n,by simp,bj _,h0⟩,?_⟩
 rintro i m σ H ⟨rfl,hi,p⟩
 by_cases lT:i < n
 ·refine .inr ⟨lT,Pv (i+1),fun σ' H' p'=>⟨n - (i+1),by lia,rfl,lT,p'⟩,fun x H' y=>?_⟩
  obtain⟨e,y⟩:=y
  subst e y
  exact hs i σ _ lT p
 ·have e:i=n:=by lia
  subst e
  exact .inl ⟨af _,hd σ H p⟩
theorem zk7 {c:TT} {tb:TS} {D:Ends} {σ:St} {H:Hp} (Pv:St→Hp→Prop) (μ:St→Hp→Nat) (h0:Pv σ H)
  (hs:∀ σ H,Pv σ H→c σ H fun b H1=>if b=true then tb { D with nx:=fun σ' H'=>Pv σ' H'∧μ σ' H' < μ σ H,ct:=fun σ' H'=>Pv σ' H'∧μ σ' H' < μ σ H,bk:=D.nx } σ H1 else D.nx σ H1)
  (mono:∀ σ H Q Q',(∀ b H1,Q b H1→Q' b H1)→c σ H Q→c σ H Q'):zk6 c tb D σ H:=by
 refine⟨fun m σ H=>m=μ σ H∧Pv σ H,⟨_,rfl,h0⟩,?_⟩
 rintro m σ H ⟨rfl,p⟩
 refine mono σ H _ _ (fun b H1 q=>?_) (hs σ H p)
 cases b with
 | true=>exact⟨_,fun σ' H' ⟨p',l⟩=>⟨_,l,rfl,p'⟩,q⟩
 | false=>exact q
abbrev R2:=V→V→Hp→VK→Prop
def OpR (X:Cx) (f:Value→Value→Sem Value) (r:R2):Prop :=
 ∀ (lj:List (Addr×Obj)) (s:Shared) (σ:St) (H:Hp) (x y:V) (v u:Value) (Q:VK),Inv X lj σ H s→RelV x v→RelV y u→r x y H Q →
  wpAny (model X.prog X.w) X.A (f v u) (EP X lj σ Q) X.xe s
def UnR (X:Cx) (f:Value→Sem Value) (r:V→Hp→VK→Prop):Prop :=
 ∀ (lj:List (Addr×Obj)) (s:Shared) (σ:St) (H:Hp) (x:V) (v:Value) (Q:VK),Inv X lj σ H s→RelV x v→r x H Q →
  wpAny (model X.prog X.w) X.A (f v) (EP X lj σ Q) X.xe s
def zbU (X:Cx) (f:Value) (r:List V→Hp→VK→Prop):Prop :=
 ∀ (lj:List (Addr×Obj)) (s:Shared) (σ:St) (H:Hp) (xs:List V) (us:List Value) (Q:VK),Inv X lj σ H s→zT xs us→r xs H Q →
  wpAny (model X.prog X.w) X.A (call f us) (EP X lj σ Q) X.xe s
def zqA (X:Cx) (r:V→Hp→(Bool→Hp→Prop)→Prop):Prop :=
 ∀ (lj:List (Addr×Obj)) (s:Shared) (σ:St) (H:Hp) (x:V) (v:Value) (Q:Bool→Hp→Prop),Inv X lj σ H s→RelV x v→r x H Q →
  wpAny (model X.prog X.w) X.A (truthy v) (TP X lj σ Q) X.xe s
def tOp (r:R2) (ta tb:TE):TE:=fun σ H Q=>ta σ H fun x H1=>tb σ H1 fun y H2=>r x y H2 Q
def tUn (r:V→Hp→VK→Prop) (ta:TE):TE:=fun σ H Q=>ta σ H fun x H1=>r x H1 Q
def rI (C:Int→Int→Prop) (g:Int→Int→V):R2:=fun x y H Q=>∃ i j,x = .int i∧y = .int j∧C i j∧Q (g i j) H
def rI0 (g:Int→Int→V):R2:=fun x y H Q=>∃ i j,x = .int i∧y = .int j∧Q (g i j) H
def rU (g:Int→V):V→Hp→VK→Prop:=fun x H Q=>∃ i,x = .int i∧Q (g i) H
section
variable {X:Cx} {a b c:Expr} {ta tb tc:TE} {pos:Pos}
theorem zoR (ha:PE X a ta) (hb:PE X b tb) {lj:List (Addr×Obj)} {s:Shared} {σ:St} {H:Hp} {R:V→V→Hp→Prop} (I:Inv X lj σ H s)
  (h:ta σ H fun x H1=>tb σ H1 fun y H2=>R x y H2) {Q:Value→Shared→Prop} {f:Value→Value→Sem Value}
  (hf:∀ v u s2 x y H2,Inv X lj σ H2 s2→RelV x v→RelV y u→R x y H2→wpAny (model X.prog X.w) X.A (f v u) Q X.xe s2) :
  wpAny (model X.prog X.w) X.A (eval a X.env) (fun v s₁=>wpAny (model X.prog X.w) X.A (eval b X.env) (fun u s₂=>wpAny (model X.prog X.w) X.A (f v u) Q X.xe s₂) X.xe s₁) X.xe s:=by
 refine thn (ha lj s σ H _ I h) fun v s1 ⟨x,H1,I1,r1,q1⟩=>?_
 refine thn (hb lj s1 σ H1 _ I1 q1) fun u s2 ⟨y,H2,I2,r2,q2⟩=>?_
 exact hf v u s2 x y H2 I2 r1 r2 q2
theorem zl {op:Operator} {r:R2} (ho:OpR X (binaryOp op) r) (ha:PE X a ta) (hb:PE X b tb):PE X (.BinOp a op b pos) (tOp r ta tb):=by
 intro lj s σ H Q I h
 exact wpAny_BinOp (zoR ha hb I h fun v u s2 x y H2 I2 rx ry q=>ho lj s2 σ H2 x y v u Q I2 rx ry q)
theorem zk8 {op:UnaryOp} {r:V→Hp→VK→Prop} (ho:UnR X (unaryOp op) r) (ha:PE X a ta):PE X (.UnaryOp op a pos) (tUn r ta):=by
 intro lj s σ H Q I h
 exact UnaryOp_ (thn (ha lj s σ H _ I h) fun v s1 ⟨x,H1,I1,r1,q1⟩=>ho lj s1 σ H1 x v Q I1 r1 q1)
theorem opI {f:Value→Value→Sem Value} {C:Int→Int→Prop} {g:Int→Int→Int}
  (rule:∀ (i j:Int) (t u:Tok) (s:Shared) (Q:Value→Shared→Prop) (E:Value→Shared→Prop),C i j→Q (.int (g i j) s.toks) { s with toks:=s.toks+1 }→wpAny (model X.prog X.w) X.A (f (.int i t) (.int j u)) Q E s) :
  OpR X f (rI C fun i j=>.int (g i j)):=by
 intro lj s σ H x y v u Q I rx ry h
 obtain⟨i,j,rfl,rfl,hc,q⟩:=h
 obtain⟨t,rfl⟩:=rx
 obtain⟨t',rfl⟩:=ry
 exact rule i j t t' s _ _ hc ⟨.int (g i j),H,I.tok _,⟨_,rfl⟩,q⟩
theorem zoS {f:Value→Value→Sem Value} {g:Int→Int→Int}
  (rule:∀ (i j:Int) (t u:Tok) (s:Shared) (Q:Value→Shared→Prop) (E:Value→Shared→Prop),Q (.int (g i j) s.toks) { s with toks:=s.toks+1 }→wpAny (model X.prog X.w) X.A (f (.int i t) (.int j u)) Q E s) :
  OpR X f (rI0 fun i j=>.int (g i j)):=by
 intro lj s σ H x y v u Q I rx ry h
 obtain⟨i,j,rfl,rfl,q⟩:=h
 obtain⟨t,rfl⟩:=rx
 obtain⟨t',rfl⟩:=ry
 exact rule i j t t' s _ _ ⟨.int (g i j),H,I.tok _,⟨_,rfl⟩,q⟩
theorem zoT {f:Value→Value→Sem Value} {g:Int→Int→Bool}
  (rule:∀ (i j:Int) (t u:Tok) (s:Shared) (Q:Value→Shared→Prop) (E:Value→Shared→Prop),Q (.bool (g i j)) s→wpAny (model X.prog X.w) X.A (f (.int i t) (.int j u)) Q E s) :
  OpR X f (rI0 fun i j=>.bl (g i j)):=by
 intro lj s σ H x y v u Q I rx ry h
 obtain⟨i,j,rfl,rfl,q⟩:=h
 obtain⟨t,rfl⟩:=rx
 obtain⟨t',rfl⟩:=ry
 exact rule i j t t' s _ _ ⟨.bl (g i j),H,I,rfl,q⟩
def zpV (i j:Int):Prop:=0 < j∧j < 1073741824
def zqB (i j:Int):Prop:=0≤j∧j≤1000000∧i.natAbs < 2 ^ 64
def zoU (i j:Int):Prop:=(-(2 ^ 64) < i∧i < 2 ^ 64)∨(-(2 ^ 64) < j∧j < 2 ^ 64)
theorem zoU.ok {i j:Int} (h:zoU i j):IntMulOk i j:=by
 rcases h with ⟨h1,h2⟩ | ⟨h1,h2⟩
 ·exact .of_left (intBits_le_64 h1 h2)
 ·exact .of_right (intBits_le_64 h1 h2)
theorem zO:OpR X (binaryOp .Add) (rI0 fun i j=>.int (i+j)):=zoS fun _ _ _ _ _ _ _ q=>add_int q
theorem zaY:OpR X (binaryOp .Sub) (rI0 fun i j=>.int (i - j)):=zoS fun _ _ _ _ _ _ _ q=>sub_int q
theorem zW:OpR X (binaryOp .Mult) (rI zoU fun i j=>.int (i*j)):=opI fun _ _ _ _ _ _ _ hc q=>mul_int q hc.ok
theorem zck:OpR X (binaryOp .FloorDiv) (rI zpV fun i j=>.int (i / j)):=opI fun i j _ _ _ _ _ hc q=>by
 have h1:(0:Int) < j:=hc.1
 have h2:j < 1073741824:=hc.2
 exact floordiv_int (by lia) (by rw [g7 i (by lia)]; exact q) (.inl (i8 (by lia)))
theorem zK:OpR X (binaryOp .Mod) (rI (fun _ j=>0 < j) fun i j=>.int (i % j)):=opI fun i j _ _ _ _ _ hc q=>by
 have h1:(0:Int) < j:=hc
 exact mod_int' (by lia) (by rw [Int.fmod_eq_emod_of_nonneg i (by lia)]; exact q)
theorem zoV:OpR X (binaryOp .Pow) (rI zqB fun i j=>.int (i ^ j.toNat)):=opI fun _ _ _ _ _ _ _ hc q=>pow_int_small hc.1 hc.2.1 hc.2.2 q
theorem zi8:OpR X (inplaceOp .Add) (rI0 fun i j=>.int (i+j)):=zoS fun _ _ _ _ _ _ _ q=>iadd_int q
theorem zk9:OpR X (inplaceOp .FloorDiv) (rI zpV fun i j=>.int (i / j)):=opI fun i j _ _ _ _ _ hc q=>by
 have h1:(0:Int) < j:=hc.1
 have h2:j < 1073741824:=hc.2
 exact ifloordiv_int (by lia) (by rw [g7 i (by lia)]; exact q) (.inl (i8 (by lia)))
theorem unI {f:Value→Sem Value} {g:Int→Int}
  (rule:∀ (i:Int) (t:Tok) (s:Shared) (Q:Value→Shared→Prop) (E:Value→Shared→Prop),Q (.int (g i) s.toks) { s with toks:=s.toks+1 }→wpAny (model X.prog X.w) X.A (f (.int i t)) Q E s) :
  UnR X f (rU fun i=>.int (g i)):=by
 intro lj s σ H x v Q I rx h
 obtain⟨i,rfl,q⟩:=h
 obtain⟨t,rfl⟩:=rx
 exact rule i t s _ _ ⟨.int (g i),H,I.tok _,⟨_,rfl⟩,q⟩
theorem zis:UnR X (unaryOp .USub) (rU fun i=>.int (-i)):=unI fun _ _ _ _ _ q=>neg_int q
end
def zoW:V→V→Bool
 | .non,.non=>true | .non,.int _=>true | .int _,.non=>true | .non,.bl _=>true | .bl _,.non=>true | .non,.str _=>true | .str _,.non=>true
 | .int _,.int _=>true | .bl _,.bl _=>true | .str _,.str _=>true | .byt _,.byt _=>true
 | .int _,.str _=>true | .str _,.int _=>true | .bl _,.str _=>true | .str _,.bl _=>true
 | _,_=>false
def rEq:R2:=fun x y H Q=>zoW x y=true∧Q (.bl (decide (x=y))) H
def rNe:R2:=fun x y H Q=>zoW x y=true∧Q (.bl (!decide (x=y))) H
theorem zi9 {i j:Int}:decide (V.int i=V.int j)=(i == j):=by
 rw [cL]
 simp
theorem zla {i j:Bool}:decide (V.bl i=V.bl j)=(i == j):=by
 rw [cL]
 simp
theorem zja {i j:Str}:decide (V.str i=V.str j)=(i == j):=by
 rw [cL]
 simp
theorem zjb {i j:Array UInt8}:decide (V.byt i=V.byt j)=(i.toList == j.toList):=by
 rw [cL]
 cases i
 cases j
 simp
section
variable {X:Cx} {a b c:Expr} {ta tb tc:TE} {pos:Pos}
theorem z0 {lj:List (Addr×Obj)} {σ:St} {H:Hp} {s:Shared} {Q:VK} {k k':Bool} (I:Inv X lj σ H s) (q:Q (.bl k) H) (e:k=k'):EP X lj σ Q (.bool k') s:=by
 subst e
 exact⟨.bl k,H,I,rfl,q⟩
theorem zeB:OpR X (compareOp .Eq) rEq:=by
 intro lj s σ H x y v u Q I rx ry h
 obtain⟨hs,q⟩:=h
 cases x with
 | non =>
  cases rx
  cases y with
  | non=>cases ry; exact PySem.EqNone.eq_none_none (z0 I q (by simp))
  | bl j=>cases ry; exact PySem.EqNone.eq_none_bool (z0 I q (by simp))
  | int j=>obtain⟨t',rfl⟩:=ry; exact PySem.EqNone.eq_none_int (z0 I q (by simp))
  | str j=>obtain⟨t',rfl⟩:=ry; exact PySem.EqNone.eq_none_str (z0 I q (by simp))
  | _=>exact absurd (show false=true from hs) aR
 | bl i =>
  cases rx
  cases y with
  | non=>cases ry; exact PySem.EqNone.eq_bool_none (z0 I q (by simp))
  | bl j=>cases ry; exact eq_bool (z0 I q zla)
  | str j=>obtain⟨t',rfl⟩:=ry; exact PySem.EqMixed.eq_bool_str (z0 I q (by simp))
  | _=>exact absurd (show false=true from hs) aR
 | int i =>
  obtain⟨t,rfl⟩:=rx
  cases y with
  | non=>cases ry; exact PySem.EqNone.eq_int_none (z0 I q (by simp))
  | int j=>obtain⟨t',rfl⟩:=ry; exact eq_int (z0 I q zi9)
  | str j=>obtain⟨t',rfl⟩:=ry; exact PySem.EqMixed.eq_int_str (z0 I q (by simp))
  | _=>exact absurd (show false=true from hs) aR
 | str i =>
  obtain⟨t,rfl⟩:=rx
  cases y with
  | non=>cases ry; exact PySem.EqNone.eq_str_none (z0 I q (by simp))
  | bl j=>cases ry; exact PySem.EqMixed.eq_str_bool (z0 I q (by simp))
  | int j=>obtain⟨t',rfl⟩:=ry; exact PySem.EqMixed.eq_str_int (z0 I q (by simp))
  | str j=>obtain⟨t',rfl⟩:=ry; exact eq_str (z0 I q zja)
  | _=>exact absurd (show false=true from hs) aR
 | byt i =>
  obtain⟨t,rfl⟩:=rx
  cases y with
  | byt j=>obtain⟨t',rfl⟩:=ry; exact PySem.W.eq_bytes (z0 I q zjb)
  | _=>exact absurd (show false=true from hs) aR
 | _=>cases y <;> exact absurd (show false=true from hs) aR
theorem zhj:OpR X (compareOp .NotEq) rNe:=by
 intro lj s σ H x y v u Q I rx ry h
 obtain⟨hs,q⟩:=h
 cases x with
 | non =>
  cases rx
  cases y with
  | non=>cases ry; exact PySem.EqNone.ne_none_none (z0 I q (by simp))
  | bl j=>cases ry; exact PySem.EqNone.ne_none_bool (z0 I q (by simp))
  | int j=>obtain⟨t',rfl⟩:=ry; exact PySem.EqNone.ne_none_int (z0 I q (by simp))
  | str j=>obtain⟨t',rfl⟩:=ry; exact PySem.EqNone.ne_none_str (z0 I q (by simp))
  | _=>exact absurd (show false=true from hs) aR
 | bl i =>
  cases rx
  cases y with
  | non=>cases ry; exact PySem.EqNone.ne_bool_none (z0 I q (by simp))
  | bl j=>cases ry; exact ne_bool (z0 I q (congrArg not zla))
  | str j=>obtain⟨t',rfl⟩:=ry; exact PySem.EqMixed.ne_bool_str (z0 I q (by simp))
  | _=>exact absurd (show false=true from hs) aR
 | int i =>
  obtain⟨t,rfl⟩:=rx
  cases y with
  | non=>cases ry; exact PySem.EqNone.ne_int_none (z0 I q (by simp))
  | int j=>obtain⟨t',rfl⟩:=ry; exact ne_int (z0 I q (congrArg not zi9))
  | str j=>obtain⟨t',rfl⟩:=ry; exact PySem.EqMixed.ne_int_str (z0 I q (by simp))
  | _=>exact absurd (show false=true from hs) aR
 | str i =>
  obtain⟨t,rfl⟩:=rx
  cases y with
  | non=>cases ry; exact PySem.EqNone.ne_str_none (z0 I q (by simp))
  | bl j=>cases ry; exact PySem.EqMixed.ne_str_bool (z0 I q (by simp))
  | int j=>obtain⟨t',rfl⟩:=ry; exact PySem.EqMixed.ne_str_int (z0 I q (by simp))
  | str j=>obtain⟨t',rfl⟩:=ry; exact ne_str (z0 I q (congrArg not zja))
  | _=>exact absurd (show false=true from hs) aR
 | byt i =>
  obtain⟨t,rfl⟩:=rx
  cases y with
  | byt j=>obtain⟨t',rfl⟩:=ry; exact PySem.W.ne_bytes (z0 I q (congrArg not zjb))
  | _=>exact absurd (show false=true from hs) aR
 | _=>cases y <;> exact absurd (show false=true from hs) aR
theorem zeC:OpR X (compareOp .Lt) (rI0 fun i j=>.bl (decide (i < j))):=zoT fun _ _ _ _ _ _ _ q=>lt_int q
theorem zhk:OpR X (compareOp .Gt) (rI0 fun i j=>.bl (decide (j < i))):=zoT fun _ _ _ _ _ _ _ q=>gt_int q
theorem zlb:OpR X (compareOp .GtE) (rI0 fun i j=>.bl (decide (j≤i))):=zoT fun _ _ _ _ _ _ _ q=>ge_int q
theorem zit:OpR X (compareOp .Is) (fun x y H Q=>y = .non∧Q (.bl (decide (x = .non))) H):=by
 intro lj s σ H x y v u Q I rx ry h
 obtain⟨rfl,q⟩:=h
 cases ry
 refine is_none_gen (z0 I q ?_)
 cases x <;> first
  | (cases rx; rfl)
  | (obtain⟨t,rfl⟩:=rx; rfl)
theorem zjc:OpR X (compareOp .IsNot) (fun x y H Q=>y = .non∧Q (.bl (!decide (x = .non))) H):=by
 intro lj s σ H x y v u Q I rx ry h
 obtain⟨rfl,q⟩:=h
 cases ry
 refine isnot_none_gen (z0 I q ?_)
 cases x <;> first
  | (cases rx; rfl)
  | (obtain⟨t,rfl⟩:=rx; rfl)
theorem zX (b:Expr) {op:CmpOp} (h:op≠.In:=by decide) (h2:op≠.NotIn:=by decide):behindInMarks op b=false:=by
 have e1:(op == CmpOp.In)=false:=by cases op <;> first | rfl | exact absurd rfl h
 have e2:(op == CmpOp.NotIn)=false:=by cases op <;> first | rfl | exact absurd rfl h2
 cases b <;> simp [behindInMarks,e1,e2]
theorem znb {op:CmpOp} {r:R2} (ho:OpR X (compareOp op) r) (ha:PE X a ta) (hb:PE X b tb) (hm:behindInMarks op b=false):PE X (.Compare a [op] [b] pos) (tOp r ta tb):=by
 intro lj s σ H Q I h
 exact wpAny_Compare1 (zoR ha hb I h fun v u s2 x y H2 I2 rx ry q=>ho lj s2 σ H2 x y v u Q I2 rx ry q) hm
def zpW (t:TE):TT:=fun σ H Q=>t σ H fun x H'=>∃ k,x = .bl k∧Q k H'
theorem zL {op:CmpOp} {r:R2} (ho:OpR X (compareOp op) r) (ha:PE X a ta) (hb:PE X b tb) (hm:behindInMarks op b=false):PT X (.Compare a [op] [b] pos) (zpW (tOp r ta tb)):=by
 intro lj s σ H Q I h
 refine wpAny_isTrue_Compare1 (thn (ha lj s σ H _ I h) fun v s1 ⟨x,H1,I1,r1,q1⟩=>thn (hb lj s1 σ H1 _ I1 q1) fun u s2 ⟨y,H2,I2,r2,q2⟩ =>
  thn (ho lj s2 σ H2 x y v u _ I2 r1 r2 q2) fun c s3 ⟨z,H3,I3,r3,k,e,q3⟩=>?_) hm
 subst e
 cases r3
 exact wpAny_truthy_bool ⟨H3,I3,q3⟩
def zpX (K:ag) (x:V) (H:Hp) (k:Bool):Prop :=
 match x with
 | .non=>k=false
 | .bl b=>k=b
 | .int i=>k=(i != 0)
 | .str y=>y.length≤sizeLine∧k=((y.length:Int) != 0)
 | .byt y=>y.size≤sizeLine∧k=((y.size:Int) != 0)
 | .ref p=>(∃ xs,lr K H p xs∧k = !xs.isEmpty)∨(∃ xs,lE K H p xs∧k = !xs.isEmpty)∨∃ lB,H p=some (.dK lB)∧k = !lB.isEmpty
 | _=>False
theorem ziu {κ:Type} {lB:List (κ×V)} {vs:List (κ×Value)} (r:KV lB vs):(!vs.isEmpty) = !lB.isEmpty:=by
 cases r <;> rfl
theorem zeD {xs:List V} {lx:List Value} (r:zT xs lx):(!lx.toArray.isEmpty) = !xs.isEmpty:=by
 cases r <;> simp
theorem zeE:(sizeLine:Nat) < 2 ^ 63:=by rw [aX]; decide
theorem zoX:zqA X (fun x H Q=>∃ k,zpX X.K x H k∧Q k H):=by
 intro lj s σ H x v Q I rx h
 obtain⟨k,e,q⟩:=h
 have hl:=zeE
 have hs:sizeLine=16777216:=aX
 cases x with
 | non =>
  cases rx
  have e':k=false:=e
  subst e'
  exact truthy_none ⟨H,I,q⟩
 | bl b =>
  cases rx
  have e':k=b:=e
  subst e'
  exact wpAny_truthy_bool ⟨H,I,q⟩
 | int i =>
  obtain⟨t,rfl⟩:=rx
  have e':k=(i != 0):=e
  subst e'
  exact PySem.P.truthy_int ⟨H,I,q⟩
 | str y =>
  obtain⟨t,rfl⟩:=rx
  obtain⟨hy,e'⟩:y.length≤sizeLine∧k=((y.length:Int) != 0):=e
  subst e'
  exact PySem.P.truthy_str (by lia) ⟨H,I.tok _,q⟩
 | byt y =>
  obtain⟨t,rfl⟩:=rx
  obtain⟨hy,e'⟩:y.size≤sizeLine∧k=((y.size:Int) != 0):=e
  subst e'
  exact PySem.W.truthy_bytes (by lia) ⟨H,I.tok _,q⟩
 | ref p =>
  cases rx
  have e':(∃ xs,lr X.K H p xs∧k = !xs.isEmpty)∨(∃ xs,lE X.K H p xs∧k = !xs.isEmpty)∨∃ lB,H p=some (.dK lB)∧k = !lB.isEmpty:=e
  rcases e' with ⟨xs,hx,e'⟩ | ⟨xs,hx,e'⟩ | ⟨lB,hx,e'⟩
  ·subst e'
   obtain⟨lx,r,pl,hz⟩:=I.list hx
   have lF:=r.length
   exact wpAny_truthy_list pl.isList (by simp only [ar]; lia) ⟨H,I.tok _,by rw [zeD r]; exact q⟩
  ·subst e'
   obtain⟨lx,r,pl,hz⟩:=I.tuple hx
   have lF:=r.length
   exact truthy_tuple pl (by simp only [ar]; lia) ⟨H,I.tok _,by rw [zeD r]; exact q⟩
  ·subst e'
   obtain⟨hz,hS,vs,r,m⟩:lB.length≤sizeLine∧(p == sysModules)=false∧∃ vs,KV lB vs∧s.heap.DictOf (zau X.prog X.w) p vs:=I.hok p _ hx
   have lF:lB.length=vs.length:=bm r
   exact wpAny_truthy_dict hS m (by lia) ⟨H,I.tok _,by rw [ziu r]; exact q⟩
 | _=>exact (show False from e).elim
theorem zlc (ha:PE X a ta) (he:∀ whole,isTrue a X.env whole=(do let v ← whole; standAt a.pos; holding [v] (truthy v))) :
  PT X a (fun σ H Q=>ta σ H fun x H'=>∃ k,zpX X.K x H' k∧Q k H'):=by
 intro lj s σ H Q I h
 exact isTrue_plain (thn (ha lj s σ H _ I h) fun v s1 ⟨x,H1,I1,r1,q1⟩=>zoX lj s1 σ H1 x v Q I1 r1 q1) (he _)
theorem vals1 {x:V} {us:List Value} (r:zT [x] us):∃ u,us = [u]∧RelV x u:=by
 cases r with
 | cons r1 r2=>cases r2; exact⟨_,rfl,r1⟩
theorem vals2 {x y:V} {us:List Value} (r:zT [x,y] us):∃ u w',us = [u,w']∧RelV x u∧RelV y w':=by
 cases r with
 | cons r1 r2 =>
  cases r2 with
  | cons r3 r4=>cases r4; exact⟨_,_,rfl,r1,r3⟩
theorem zfL (hc:X.calm=true):zbU X (.builtin "min") (fun xs H Q=>∃ i j,xs = [.int i,.int j]∧Q (.int (if j < i then j else i)) H):=by
 intro lj s σ H xs us Q I r h
 obtain⟨i,j,rfl,q⟩:=h
 obtain⟨u,w',rfl,⟨t,rfl⟩,⟨t',rfl⟩⟩:=vals2 r
 refine min_two_ints (I.ok.hd hc) fun h' tk k=>⟨_,H,I.kept k,?_,q⟩
 by_cases hj:j < i
 ·rw [if_pos hj,if_pos hj]; exact⟨_,rfl⟩
 ·rw [if_neg hj,if_neg hj]; exact⟨_,rfl⟩
theorem zke:zbU X (.type "int") (fun xs H Q=>(∃ i,xs = [.int i]∧Q (.int i) H)∨∃ k,xs = [.bl k]∧Q (.int (if k then 1 else 0)) H):=by
 intro lj s σ H xs us Q I r h
 rcases h with ⟨i,rfl,q⟩ | ⟨k,rfl,q⟩
 ·obtain⟨u,rfl,t,rfl⟩:=vals1 r
  exact call_int_int ⟨.int i,H,I,⟨_,rfl⟩,q⟩
 ·obtain⟨u,rfl,r1⟩:=vals1 r
  cases r1
  exact call_int_bool ⟨.int (if k then 1 else 0),H,I.tok _,⟨_,rfl⟩,q⟩
end
structure Room (k:Nat) (A:Around):Prop where
 hd:A.handled=none
 dp:A.depth+3*k+5 < recursionLimit
 un:A.units+16*k+200 < cLine
theorem Room.mono {j k:Nat} {A:Around} (r:Room k A) (h:j≤k):Room j A:=⟨r.hd,by have:=r.dp; lia,by have:=r.un; lia⟩
theorem Room.deeper {k:Nat} {A:Around} (r:Room (k+1) A) (env:Env):Room k (A.deeper env) :=
 ⟨r.hd,by have:=r.dp; show A.depth+1+3*k+5 < _; lia,by have:=r.un; show A.units+3+16*k+200 < _; lia⟩
theorem Room.depth {k:Nat} {A:Around} (r:Room k A):A.depth < recursionLimit:=by have:=r.dp; lia
theorem Room.units {k:Nat} {A:Around} (r:Room k A):A.units+64 < cLine:=by have:=r.un; lia
def zqC:TA:=fun _ H Q=>Q [] H
def zos (ta:TE) (tr:TA):TA:=fun σ H Q=>ta σ H fun x H1=>tr σ H1 fun xs H2=>Q (x :: xs) H2
section
variable {X:Cx} {e:Expr} {es:List Expr} {te:TE} {t:TA} {pos:Pos}
theorem ze:PA X [] zqC:=fun _ _ _ _ H Q I h=>gb ⟨[],H,I,.nil,h⟩
theorem za (ha:PE X e te) (hr:PA X es t) (hs:starEach (e :: es) X.env=(false,eval e X.env) :: starEach es X.env:=by rfl):PA X (e :: es) (zos te t):=by
 intro pos lj s σ H Q I h
 rw [hs]
 show wpAny _ _ (spliced ((false,eval e X.env) :: backTo pos (starEach es X.env))) _ _ s
 refine eU (thn (ha lj s σ H _ I h) fun u s1 ⟨x,H1,I1,r1,q1⟩=>?_)
 exact thn (hr pos lj s1 σ H1 _ I1 q1) fun us s2 ⟨xs,H2,I2,r2,q2⟩=>⟨x :: xs,H2,I2,.cons r1 r2,q2⟩
theorem ya {X:Cx} {e:Expr} {te:TE} (a:PE X e te) (b:starEach [e] X.env=(false,eval e X.env) :: starEach [] X.env):PA X [e] (zos te zqC):=za a ze b
def zqD (t:TA):TE:=fun σ H Q=>t σ H fun xs H1=>xs.length≤sizeLine∧∀ p,H1 p=none→Q (.ref p) (lu H1 p (.tup xs))
def znc (t:TA):TE:=fun σ H Q=>t σ H fun xs H1=>xs.length≤sizeLine∧∀ p,H1 p=none→Q (.ref p) (lu H1 p (.lst xs))
theorem zaw {x1} (h:PA X es t):PE X (.Tuple es x1 pos) (zqD t):=by
 intro lj s σ H Q I hq
 refine wpAny_Tuple_spliced (thn (h pos lj s σ H _ I hq) fun us s1 ⟨xs,H1,I1,r,z,q⟩=>⟨by rw [← r.length]; exact z,?_⟩)
 have hf:H1 s1.heap.objs.size=none:=I1.hok.fresh (af _)
 refine⟨.ref s1.heap.objs.size,lu H1 s1.heap.objs.size (.tup xs),I1.laid (t':=s1.toks) (fun b u e=>aj _ e) (af _) ?_,rfl,q _ hf⟩
 exact⟨z,us,r,⟨_,aO _ rfl,rfl,_,rfl⟩⟩
theorem z9 (h:PA X es t):PE X (.List es pos) (znc t):=by
 intro lj s σ H Q I hq
 refine wpAny_List_spliced (thn (h pos lj s σ H _ I hq) fun us s1 ⟨xs,H1,I1,r,z,q⟩=>⟨by rw [← r.length]; exact z,?_⟩)
 have hf:H1 s1.heap.objs.size=none:=I1.hok.fresh (af _)
 refine⟨.ref s1.heap.objs.size,lu H1 s1.heap.objs.size (.lst xs),I1.laid (t':=s1.toks) (fun b u e=>aj _ e) (af _) ?_,rfl,q _ hf⟩
 exact⟨z,us,0,r,aO _ rfl⟩
end
abbrev Sp:=List V→Hp→VK→XK→Prop
abbrev CXT:=List Env→Hp→Shared→XK→Value→Shared→Prop
structure Env0 (P:Program) (w:World) (K:ag) (mg:Str→Option Value) (base:Heap) (A:Around) (outer:List Env) (s:Shared) (H:Hp):Prop where
 frames:A.frames=some outer
 mod:Mod K mg base
 bs:∀ b o,base.get? b=some o→s.heap.get? b=some o∧H b=none
 bsz:base.objs.size≤s.heap.objs.size
 funs:s.heap.FunFrames base outer
 frf:∀ b∈frs outer,H b=none
 hok:HOk P w H s.heap
 bare:AllBare s.gens
def CE (outer:List Env) (P:Program) (w:World) (H:Hp) (s:Shared) (Q:VK) (u:Value) (s':Shared):Prop :=
 ∃ v H',s'.os=s.os∧AllBare s'.gens∧Un (frs outer) [] H H' s.heap s'.heap∧HOk P w H' s'.heap∧RelV v u∧Q v H'
def CR (CX:CXT) (outer:List Env) (P:Program) (w:World) (H:Hp) (s:Shared) (Q:VK) (E:XK) (r:Result) (s':Shared):Prop :=
 match r with
 | .ok (.ret u)=>CE outer P w H s Q u s'
 | .ok _=>False
 | .error e=>CX outer H s E e s'
structure FnOk (P:Program) (w:World) (K:ag) (mg:Str→Option Value) (base:Heap) (CX:CXT) (k:Nat) (f:Addr) (fd:FuncData) (ps:List Str) (sp:Sp):Prop where
 len:∀ vs H Q E,sp vs H Q E→vs.length=ps.length
 run:∀ (A:Around) (outer:List Env) (s:Shared) (H:Hp) (args:Args) (us:List Value) (vs:List V) (Q:VK) (E:XK),Room k A→Env0 P w K mg base A outer s H→BindsTo s fd args (ps.zip us)→zT vs us→sp vs H Q E →
  codeAny (model P w) A (.call (.ref f) args) (CR CX outer P w H s Q E) s
section
variable {X:Cx} {lj:List (Addr×Obj)} {σ:St} {H:Hp} {s s':Shared}
theorem Inv.env0 (I:Inv X lj σ H s):Env0 X.prog X.w X.K X.mg X.base X.A X.stack s H :=
 ⟨I.ok.frames,I.ok.mod,I.bs,a8 I.ok.bsz I.sz,I.stack,I.stkFree,I.hok,I.bare⟩
theorem Inv.after {Q:VK} {u:Value} (I:Inv X lj σ H s) (h:CE X.stack X.prog X.w H s Q u s'):EP X lj σ Q u s':=by
 obtain⟨v,H',os,bare,un,hok,r,q⟩:=h
 obtain⟨hh,g,d,t,os'⟩:=s'
 obtain rfl:os'=s.os:=os
 exact⟨v,H',I.call (h':=hh) (g':=g) (d':=d) (t':=t) (ch:=[]) un hok bare (fun b z=>absurd z (by simp)),r,q⟩
end
def zpY (sp:Sp) (xI:List V) (E:XK) (t:TA):TE:=fun σ H Q=>t σ H fun vs H1=>sp (vs++xI) H1 Q E
def Binds (K:ag) (fd:FuncData) (ps:List Str) (ds:List Value):Prop :=
 ∀ (s:Shared) (us:List Value),K.In s.heap→(us++ds).length=ps.length→BindsTo s fd ⟨us,[]⟩ (ps.zip (us++ds))
theorem Binds.all {K:ag} {fd:FuncData} {ps:List Str} (h:∀ us:List Value,us.length=ps.length→bindArgs fd ⟨us,[]⟩=pure (ps.zip us)):Binds K fd ps []:=fun s us _ hl=>by
 rw [bH] at hl ⊢
 exact .of_eq (h us hl)
def ziv (CX:CXT) (X:Cx) (E:XK):Prop:=∀ (lj:List (Addr×Obj)) (σ:St) (H:Hp) (s:Shared) (e:Value) (s':Shared),Inv X lj σ H s→CX X.stack H s E e s'→X.xe e s'
section
variable {X:Cx} {CX:CXT} {k:Nat} {f C:Addr} {fd:FuncData} {ps:List Str} {sp:Sp} {xI:List V} {ds:List Value} {E:XK} {x m:Str} {p pos apos:Pos} {e o:Expr} {es:List Expr} {ta:TE} {t:TA}
theorem zoY {lj:List (Addr×Obj)} {σ:St} {H:Hp} {s:Shared} {Q:VK} {us:List Value} {vs:List V} (F:FnOk X.prog X.w X.K X.mg X.base CX k f fd ps sp) (hr:Room k X.A) (hb:Binds X.K fd ps ds) (hd:zT xI ds) (hx:ziv CX X E)
  (I:Inv X lj σ H s) (r:zT vs us) (h:sp (vs++xI) H Q E):wpAny (model X.prog X.w) X.A (call (.ref f) us) (EP X lj σ Q) X.xe s:=by
 have r2:zT (vs++xI) (us++ds):=r.append hd
 have hl:(us++ds).length=ps.length:=by rw [← r2.length]; exact F.len _ _ _ _ h
 refine wpAny_call (jR (F.run X.A X.stack s H ⟨us,[]⟩ (us++ds) (vs++xI) Q E hr I.env0 (hb s us I.kIn hl) r2 h) fun r s' hq=>?_)
 cases r with
 | error e=>exact hx lj σ H s e s' I hq
 | ok fl =>
  cases fl with
  | ret u=>exact I.after hq
  | next=>exact eA hq
  | brk=>exact eA hq
  | cont=>exact eA hq
theorem zo (F:FnOk X.prog X.w X.K X.mg X.base CX k f fd ps sp) (hr:Room k X.A) (hg:Gl X x) (hm:X.mg x=some (.ref f)) (hk:f6 X.K (.ref f)=true) (hb:Binds X.K fd ps ds) (hd:zT xI ds) (hx:ziv CX X E)
  (ha:PA X (e :: es) t) (Bf:(x == ("__debug__" : Str))=false:=by decide) (he:starEach (e :: es) X.env=(false,eval e X.env) :: starEach es X.env:=by rfl) (m8:(backTo pos (starEach es X.env)).any (·.1)=false:=by rfl) :
  PE X (.Call (.Name x p) (e :: es) [] pos) (zpY sp xI E t):=by
 intro lj s σ H Q I h
 refine gR (zm8 I hg hm ?_ Bf)
 refine PySem.W.callWith_K (h₀:=X.base) I.ok.mod.kin hk (thn (ha pos lj s σ H _ I h) fun us s1 ⟨vs,H1,I1,r,q⟩=>⟨I1.kIn,?_⟩) he m8
 exact zoY F hr hb hd hx I1 r q
end
structure FnScope (N P:List Str) (sc:Scope):Prop where
 kind:sc.kind = .function
 co:sc.isCoroutine=false
 gen:sc.isGenerator=false
 nd:N.Nodup
 pre:N.take P.length=P
 par:∀ x∈P,sc.names.lookup x=some .local∨sc.names.lookup x=some .cell
 nofree:∀ y∈sc.names,y.2≠.free
theorem zfM {kindOf:Str→Option NameKind} {x:Str}:∀ {binds:List (Str×Value)} {m:Str→Option Value},(∀ v,(x,v)∉binds)→bindL kindOf binds m x=m x
 | [],_,_=>rfl
 | (n,v) :: r,m,h=>by
  unfold bindL
  rw [zfM fun w hw=>h w (au _ hw)]
  split
  ·have:x≠n:=by rintro rfl; exact h v aH
   simp [this]
  ·rfl
theorem zfN {kindOf:Str→Option NameKind} {x:Str}:∀ {binds:List (Str×Value)} {m:Str→Option Value},(∀ v,(x,v)∉binds)→bindC kindOf binds m x=m x
 | [],_,_=>rfl
 | (n,v) :: r,m,h=>by
  unfold bindC
  rw [zfN fun w hw=>h w (au _ hw)]
  split
  ·rfl
  ·have:x≠n:=by rintro rfl; exact h v aH
   simp [this]
theorem zfO {kindOf:Str→Option NameKind} {x:Str} {v:Value}:∀ {P:List Str} {vs:List Value} {i:Nat} {m:Str→Option Value},P.Nodup→P[i]? = some x→vs[i]? = some v→kindOf x=some .local →
  bindL kindOf (P.zip vs) m x=some v
 | [],_,_,_,_,h,_,_=>by simp at h
 | _ :: _,[],_,_,_,_,h,_=>by simp at h
 | p :: P,w :: vs,0,m,nd,h1,h2,hk=>by
  simp at h1 h2; subst h1; subst h2
  show bindL kindOf ((p,w) :: P.zip vs) m p=_
  unfold bindL
  rw [zfM fun v hv=>(d8.mp nd).1 (gw hv).1,if_pos hk]
  simp
 | p :: P,w :: vs,i+1,m,nd,h1,h2,hk=>by
  show bindL kindOf ((p,w) :: P.zip vs) m x=_
  unfold bindL
  exact zfO (i:=i) (d8.mp nd).2 (by simpa using h1) (by simpa using h2) hk
theorem zfP {kindOf:Str→Option NameKind} {x:Str} {v:Value}:∀ {P:List Str} {vs:List Value} {i:Nat} {m:Str→Option Value},P.Nodup→P[i]? = some x→vs[i]? = some v→kindOf x≠some .local →
  bindC kindOf (P.zip vs) m x=some v
 | [],_,_,_,_,h,_,_=>by simp at h
 | _ :: _,[],_,_,_,_,h,_=>by simp at h
 | p :: P,w :: vs,0,m,nd,h1,h2,hk=>by
  simp at h1 h2; subst h1; subst h2
  show bindC kindOf ((p,w) :: P.zip vs) m p=_
  unfold bindC
  rw [zfN fun v hv=>(d8.mp nd).1 (gw hv).1,if_neg hk]
  simp
 | p :: P,w :: vs,i+1,m,nd,h1,h2,hk=>by
  show bindC kindOf ((p,w) :: P.zip vs) m x=_
  unfold bindC
  exact zfP (i:=i) (d8.mp nd).2 (by simpa using h1) (by simpa using h2) hk
def start (N:List Str) (vs:List V):St:=vs.map some++ap (N.length - vs.length) none
def zkf (CX:CXT) (P:Program) (w:World) (K:ag) (mg:Str→Option Value) (base:Heap) (N:List Str) (qual:Str) (scope:Scope) (f:Addr) (cd:Value) (A:Around) (outer:List Env) (s:Shared) (H:Hp) (E:XK):Cx where
 prog:=P
 w:=w
 K:=K
 mg:=mg
 base:=base
 A:=A.deeper (envOfC qual scope s.heap.objs.size f cd)
 N:=N
 s₀:=s
 H₀:=H
 env:=envOfC qual scope s.heap.objs.size f cd
 outer:=outer
 stack:=envOfC qual scope s.heap.objs.size f cd :: outer
 ex:=[]
 calm:=true
 fn:=fun _=>true
 pn:=[]
 xe:=fun e s'=>wpAny (model P w) (A.deeper (envOfC qual scope s.heap.objs.size f cd)) (leaving (envOfC qual scope s.heap.objs.size f cd) e) (fun _ wM=>CX outer H s E e wM) (fun e' wM=>CX outer H s E e' wM) s'
theorem zhl {sc:Scope} {n:Nat} {x:Str} (h:sc.names.lookup x=some .cell):∃ c,(cellsFrom n sc.names []).lookup x=some c:=by
 have q:=i9 sc.names n [] (.inl h)
 exact Option.isSome_iff_exists.mp q
theorem zkg {CX:CXT} {P:Program} {w:World} {K:ag} {mg:Str→Option Value} {base:Heap} {N ps:List Str} {qual:Str} {scope:Scope} {f:Addr} {cd:Value} {A:Around} {outer:List Env} {s s1:Shared} {H:Hp} {E:XK} {us:List Value} {vs:List V}
  (S:FnScope N ps scope) (hd:A.handled=none) (e0:Env0 P w K mg base A outer s H) (hl:vs.length=ps.length) (r:zT vs us)
  (x:InCallC s s.heap.objs.size (bindL (envOfC qual scope s.heap.objs.size f cd).kindOf (ps.zip us) fun _=>none) (cellsFrom (s.heap.objs.size+1) scope.names []) (bindC (envOfC qual scope s.heap.objs.size f cd).kindOf (ps.zip us) fun _=>none) s1) :
  Inv (zkf CX P w K mg base N qual scope f cd A outer s H E) [] (start N vs) H s1:=by
 have m8:ps.length≤N.length:=by have:=congrArg fe S.pre; rw [av] at this; lia
 obtain⟨h1,tk,rfl,hk⟩:=x.done
 have yj:∀ b:Addr,b∉(zkf CX P w K mg base N qual scope f cd A outer s H E).ex:=fun b z=>absurd (show b∈([]:List Addr) from z) (by simp)
 refine⟨⟨e0.mod,S.kind,rfl,rfl,af _,fun y z c h1 h2=>?_,fun y hy=>?_,fun y c _ h=>?_,fun _=>hd,Around.frames_deeper e0.frames,.inr ⟨rfl,rfl⟩,fun b z=>absurd z (yj b),e0.bs,e0.bsz,fun b _ _=>yj b,fun b z=>absurd z (yj b),e0.funs,e0.frf⟩,
  rfl,e0.bare,Un.kept hk,⟨_,x.toInCall.ns,fun i y v h1 h2 h3=>?_⟩,fun y c h=>⟨_,x.cell y c h⟩,e0.hok.fresh (af _),fun y c h=>?_,fun p hp=>absurd (show p∈([]:List (Addr×Obj)) from hp) (by simp),e0.hok.kept hk,?_⟩
 ·exact name_of_addr x.apart (eR h1) (eR h2)
 ·have hy:scope.names.lookup y=some .cell∨scope.names.lookup y=some .free:=hy
  rcases hy with hy | hy
  ·exact zhl hy
  ·exact absurd rfl (S.nofree _ (eR hy))
 ·exact fO (x.above y c (eR h))
 ·have hi:i < vs.length:=by
   unfold start at h2
   by_cases hi:i < vs.length
   ·exact hi
   ·rw [bN (by simpa using hi)] at h2
    rw [cX] at h2
    split at h2 <;> cases h2
  have ha:vs[i]? = some v:=by
   unfold start at h2
   rw [bo (by simpa using hi),ah] at h2
   cases e:vs[i]? with
   | none=>rw [e] at h2; cases h2
   | some a=>rw [e] at h2; cases h2; rfl
  obtain⟨u,hu,rv⟩:=r.get ha
  have hp:ps[i]? = some y:=by
   rw [← S.pre,bL (by lia)]; exact h1
  have ndP:ps.Nodup:=by rw [← S.pre]; exact S.nd.sublist (bU _ _)
  refine⟨u,rv,?_⟩
  rcases S.par y (aF hp) with k | k
  ·exact .inl ⟨k,zfO ndP hp hu k⟩
  ·obtain⟨c,e⟩:=zhl (n:=s.heap.objs.size+1) k
   refine .inr ⟨.inl k,c,e,?_⟩
   have q:=x.cell y c e
   rw [zfP ndP hp hu (by show scope.names.lookup y≠_; rw [k]; decide)] at q
   exact q
 ·exact e0.hok.fresh (fO (x.above y c (eR h)))
 ·unfold start
  show _=N.length
  rw [aq,ab,aU]
  lia
theorem zpZ {CX:CXT} {P:Program} {w:World} {K:ag} {mg:Str→Option Value} {base:Heap} {k:Nat} {f:Addr} {name qual:Str} {params:Arguments} {body:List Stmt} {scope:Scope} {dV kV doc pm mh ct oc:Value} {an od:Option Addr}
  {xJ:Array (Option Value)} {N ps:List Str} {sp:Sp} (lk:K.lookup f=some ⟨oc,od,.func (dw name qual params body scope dV kV doc pm an mh ct),xJ⟩) (uB:f7 K mh qual=true) (S:FnScope N ps scope)
  (len:∀ vs H Q E,sp vs H Q E→vs.length=ps.length)
  (vp:∀ (A:Around) (outer:List Env) (s:Shared) (H:Hp) (vs:List V) (Q:VK) (E:XK),Room k (A.deeper (envOfC qual scope s.heap.objs.size f mh))→sp vs H Q E →
   ∃ t,PSs (zkf CX P w K mg base N qual scope f mh A outer s H E) body t∧t { nx:=fun _ H'=>Q .non H',rt:=Q } (start N vs) H) :
  FnOk P w K mg base CX (k+1) f (dw name qual params body scope dV kV doc pm an mh ct) ps sp:=by
 refine⟨len,fun A outer s H args us vs Q E hr e0 hb r wu=>?_⟩
 have hl:=len _ _ _ _ wu
 have KX:K.In s.heap:=e0.mod.kin.keeps fun b o e=>(e0.bs b o e).1
 have lim:s.heap.NoLimit:=e0.mod.nolimit.keeps fun b o e=>(e0.bs b o e).1
 have sv:∀ y∈ps.zip us,scope.names.lookup y.1=some .local∨(scope.names.lookup y.1=some .cell∧((cellsFrom (s.heap.objs.size+1) scope.names []).lookup y.1).isSome=true):=fun ⟨n,v⟩ hy=>by
  rcases S.par n (gw hy).1 with q | q
  ·exact .inl q
  ·exact .inr ⟨q,i9 _ _ _ (.inl q)⟩
 refine codeAny_call_function hr.depth (KX _ _ lk) rfl S.co S.gen rfl (PySem.W.codeRec_of KX uB) (hb _ _ _ _ ?_)
 refine wpAny_newFunctionEnv_cells S.kind sv fun env he s1 x=>?_
 subst he
 refine⟨lim.keeps x.toInCall.keep,codeAny_func ?_⟩
 obtain⟨t,ht,hq⟩:=vp A outer s H vs Q E (hr.deeper _) wu
 have I:Inv (zkf CX P w K mg base N qual scope f mh A outer s H E) [] (start N vs) H s1:=zkg S hr.hd e0 hl r x
 refine c7 (ht [] s1 (start N vs) H _ I hq) (fun fl s' hs=>?_) fun e s' hs=>hs
 have fin:∀ {σ':St} {H':Hp} {v:V} {u:Value},Inv (zkf CX P w K mg base N qual scope f mh A outer s H E) [] σ' H' s'→RelV v u→Q v H'→CE outer P w H s Q u s' :=
  fun {σ' H' v u} J rv q=>⟨v,H',J.os,J.bare,J.base,J.hok,rv,q⟩
 cases fl with
 | ret u =>
  obtain⟨v,σ',H',J,rv,q⟩:=hs
  exact fin J rv q
 | next =>
  obtain⟨σ',H',J,q⟩:=hs
  exact fin (v:=V.non) (u:=dQ) J rfl q
 | brk =>
  obtain⟨_,_,_,q⟩:=hs
  exact eA q
 | cont =>
  obtain⟨_,_,_,q⟩:=hs
  exact eA q
section
variable {X:Cx} {x:Str} {p pos:Pos} {e:Expr} {es:List Expr} {t:TA} {id T:String} {r:List V→Hp→VK→Prop}
def tCB (r:List V→Hp→VK→Prop) (t:TA):TE:=fun σ H Q=>t σ H fun vs H1=>r vs H1 Q
theorem zC (hc:zbU X (.builtin id) r) (hg:Gl X x) (hm:X.mg x=none) (hv:bootBuiltins x=some (.builtin id)) (ha:PA X (e :: es) t) (hn:x≠"__name__":=by decide) (Bf:(x == ("__debug__" : Str))=false:=by decide)
  (he:starEach (e :: es) X.env=(false,eval e X.env) :: starEach es X.env:=by rfl) (m8:(backTo pos (starEach es X.env)).any (·.1)=false:=by rfl):PE X (.Call (.Name x p) (e :: es) [] pos) (tCB r t):=by
 intro lj s σ H Q I h
 refine gR (zbE I hg hm hv ?_ hn Bf)
 exact PyProof.Rows.callWith_builtin1 (thn (ha pos lj s σ H _ I h) fun us s1 ⟨vs,H1,I1,r1,q1⟩=>hc lj s1 σ H1 vs us Q I1 r1 q1) he m8
theorem zaA (hc:zbU X (.type T) r) (hg:Gl X x) (hm:X.mg x=none) (hv:bootBuiltins x=some (.type T)) (ha:PA X (e :: es) t) (hn:x≠"__name__":=by decide) (Bf:(x == ("__debug__" : Str))=false:=by decide)
  (he:starEach (e :: es) X.env=(false,eval e X.env) :: starEach es X.env:=by rfl) (m8:(backTo pos (starEach es X.env)).any (·.1)=false:=by rfl):PE X (.Call (.Name x p) (e :: es) [] pos) (tCB r t):=by
 intro lj s σ H Q I h
 refine gR (zbE I hg hm hv ?_ hn Bf)
 exact bA (thn (ha pos lj s σ H _ I h) fun us s1 ⟨vs,H1,I1,r1,q1⟩=>hc lj s1 σ H1 vs us Q I1 r1 q1) he m8
end
end L2
namespace HT
open PySem PyProof.Rows
section
variable {prog:Program} {w:World} {A:Around} {E:Value→Shared→Prop} {s:Shared}
theorem cat_tup {t b:Addr} {vs ws:List Value} {Q:Value→Shared→Prop} (ht:IsTup s.heap t vs.toArray) (hb:IsTup s.heap b ws.toArray) (hv:vs≠[])
  (h1:ws = []→Q (.ref t) s) (h2:ws≠[]→Q (.ref s.heap.objs.size) { s with heap:=s.heap.push { cls:=.type "tuple",data:=.seq (vs++ws).toArray } })
  (hsz:vs.length+ws.length≤sizeLine):wpAny (model prog w) A (binaryOp .Add (.ref t) (.ref b)) Q E s:=by
 obtain⟨⟨cls,dd,data,sl⟩,ho,hc,n,hd⟩:=id ht
 obtain⟨⟨Ey,Dp,data2,Dq⟩,uh,yk,n2,hd2⟩:=id hb
 simp only at hc hd yk hd2
 subst hc hd yk hd2
 have e:vs.toArray++ws.toArray=(vs++ws).toArray:=by simp
 by_cases hw:ws = []
 ·exact jS ⟨_,ho,rfl⟩ ⟨_,uh,rfl⟩ iE jA gh f' (fR _ _)
   (tuple_addW1 t b vs.toArray ws.toArray n n2 dd Dp sl Dq (by simpa using hv) (by simp [hw])) ⟨ho,uh,h1 hw⟩
 ·refine jS ⟨_,ho,rfl⟩ ⟨_,uh,rfl⟩ iE jA gh f' (fR _ _)
   (tuple_addW2 t b vs.toArray ws.toArray n n2 dd Dp sl Dq (by simpa using hv) (by simpa using hw) (by rw [ar,ar]; exact hsz)) ⟨ho,uh,?_⟩
  rw [e]
  exact h2 hw
def sIx (n d:Nat):Option Int→Nat
 | none=>d
 | some v=>if v < 0 then (v+(n:Int)).toNat else min v.toNat n
theorem sIx_none (n d:Nat):sIx n d none=d:=rfl
theorem sIx_nat (n d k:Nat):sIx n d (some (k:Int))=min k n:=by
 show (if (k:Int) < 0 then ((k:Int)+(n:Int)).toNat else min (k:Int).toNat n)=min k n
 rw [if_neg (by lia),bG]
theorem zoZ (n d:Nat) (hd:d≤n) (o:Option Int):sIx n d o≤n:=by
 cases o with
 | none=>exact hd
 | some v =>
  show (if v < 0 then (v+(n:Int)).toNat else min v.toNat n)≤n
  by_cases hv:v < 0
  ·rw [if_pos hv]; lia
  ·rw [if_neg hv]; exact Nat.min_le_right _ _
theorem zjd (v:Int) (n d:Nat):(if v < 0 then max (v+(n:Int)) 0 else min v (n:Int))=((sIx n d (some v):Nat):Int):=by
 show (if v < 0 then max (v+(n:Int)) 0 else min v (n:Int))=(((if v < 0 then (v+(n:Int)).toNat else min v.toNat n):Nat):Int)
 by_cases hv:v < 0
 ·simp only [if_pos hv]; lia
 ·simp only [if_neg hv]; lia
theorem ziw (lo hi:Option Int) (n:Nat):fJ lo hi 1 (n:Int)=(((sIx n 0 lo:Nat):Int),((sIx n n hi:Nat):Int)):=by
 have h1:¬ ((1:Int) < 0):=by lia
 unfold fJ
 simp only [h1,if_false]
 refine kj ?_ ?_
 ·cases lo with
  | none=>rfl
  | some v=>exact zjd v n 0
 ·cases hi with
  | none=>rfl
  | some v=>exact zjd v n n
theorem zix (i j:Nat):eB (i:Int) (j:Int) 1=j - i:=by
 unfold eB
 have h1:(1:Int) > 0:=by lia
 simp only [h1,if_true,Int.ediv_one]
 split <;> lia
theorem zeF {v:Value} {o:Option Int} {Q:Option Int→Shared→Prop} (p:IsPart v o) (h:Q o s):wpAny (model prog w) A (Builtin.Slice.slicePartIndex v) Q E s:=by
 cases p with
 | none=>exact slicePart_none h
 | int i t=>exact slicePart_int h
theorem zcb {sl:Addr} {vl vu:Value} {lo hi:Option Int} {n:Nat} {Q:Int×Int×Nat→Shared→Prop} (hs:s.heap.IsSliceOf sl vl vu .none) (pl:IsPart vl lo) (pu:IsPart vu hi)
  (h:Q (((sIx n 0 lo:Nat):Int),1,sIx n n hi - sIx n 0 lo) s):wpAny (model prog w) A (g8 (.ref sl) (pure (n:Int))) Q E s:=by
 obtain⟨os,vq,uC,Bg⟩:=id hs
 unfold g8 Builtin.Slice.sliceFields
 refine ae (ae (bC vq Bg (x:=vl) rfl (ae (bC vq Bg (x:=vu) rfl (ae (bC vq Bg (x:=.none) rfl (ak ?_)))))))
 refine ae (slicePart_none ?_)
 show wpAny _ _ (if ((1:Int) == 0)=true then _ else _) _ _ s
 rw [if_neg (by decide)]
 refine ae (zeF pl (ae (zeF pu (ae (ak ?_)))))
 show wpAny _ _ (match fJ lo hi 1 (n:Int) with | (lo,hi)=>pure (lo,(1:Int),eB lo hi 1)) _ _ s
 rw [ziw lo hi n]
 show wpAny _ _ (pure (((sIx n 0 lo:Nat):Int),(1:Int),eB ((sIx n 0 lo:Nat):Int) ((sIx n n hi:Nat):Int) 1)) _ _ s
 rw [zix]
 exact ak h
theorem zld (xs:Array Value) (i k:Nat):((aJ k).filterMap fun (m:Nat)=>xs[((i:Int)+(m:Int)*1).toNat]?).toArray=((xs.toList.drop i).take k).toArray:=by
 have e:(fun (m:Nat)=>xs[((i:Int)+(m:Int)*1).toNat]?)=fun m=>xs[i+m]?:=by
  funext m
  have:((i:Int)+(m:Int)*1).toNat=i+m:=by lia
  rw [this]
 rw [e]
 have:=pick_run xs i k
 rw [jT] at this
 have e2:((fun x=>xs[x]?) ∘ fun x=>i+x)=fun m=>xs[i+m]?:=rfl
 rw [e2] at this
 rw [this]
theorem getItem_tuple_cut {t sl:Addr} {items:Array Value} {vl vu:Value} {lo hi:Option Int} {Q:Value→Shared→Prop} (ht:IsTup s.heap t items) (hs:s.heap.IsSliceOf sl vl vu .none) (pl:IsPart vl lo) (pu:IsPart vu hi)
  (hw:¬ (sIx items.size 0 lo=0∧sIx items.size items.size hi=items.size))
  (h:Q (.ref s.heap.objs.size) { s with heap:=s.heap.push { cls:=.type "tuple",data:=.seq ((items.toList.drop (sIx items.size 0 lo)).take (sIx items.size items.size hi - sIx items.size 0 lo)).toArray } })
  (hsz:items.size≤sizeLine):wpAny (model prog w) A (getItem (.ref t) (.ref sl)) Q E s:=by
 have ui:sizeOk (.seq ((items.toList.drop (sIx items.size 0 lo)).take (sIx items.size items.size hi - sIx items.size 0 lo)).toArray):=by
  show ((items.toList.drop (sIx items.size 0 lo)).take (sIx items.size items.size hi - sIx items.size 0 lo)).toArray.size≤sizeLine
  rw [ar,av,b8,bF]
  lia
 have hj:sIx items.size items.size hi≤items.size:=zoZ _ _ (af _) hi
 obtain⟨os,vq,uC,Bg⟩:=id hs
 have Ez:s.TypeIs (.ref sl) "slice":=⟨os,vq,uC⟩
 unfold getItem
 try with_reducible refine bY ?_
 first | refine ae (ak ?_) | skip
 refine ae (wpAny_sequenceKey ht.typeIs (by decide) ?_)
 refine ae (br (name:=bW "__getitem__") ht.typeIs dv
  (bD dv ht.typeIs jH ?_ (jU _ _)))
 show wpAny _ _ (g9 (.ref t) >>= _) _ _ s
 refine ae (tupleItemsOf_ ht ?_)
 refine ae (fS Ez ?_)
 rw [if_pos (by decide)]
 refine ae (zcb hs pl pu ?_)
 have Bh:¬ ((((sIx items.size 0 lo:Nat):Int) == 0 && (1:Int) == 1 && (sIx items.size items.size hi - sIx items.size 0 lo) == items.size)=true):=by
  intro q
  rw [fz,fz] at q
  have q1:((sIx items.size 0 lo:Nat):Int)=0:=eq_of_beq q.1.1
  have q2:sIx items.size items.size hi - sIx items.size 0 lo=items.size:=eq_of_beq q.2
  exact hw ⟨by lia,by lia⟩
 show wpAny _ _ (if (((sIx items.size 0 lo:Nat):Int) == 0 && (1:Int) == 1 && (sIx items.size items.size hi - sIx items.size 0 lo) == items.size)=true then _ else _) _ _ s
 rw [if_neg Bh,zld]
 first
  | exact ae (m:=eI _) (bV (ak ⟨_,rfl,ak h⟩) ui)
  | exact ae (m:=eI _) (bV (ae (ak (ak ⟨_,rfl,ak h⟩))) ui)
  | exact ae (ae (m:=eI _) (bV (ak (ak ⟨_,rfl,ak h⟩)) ui))
  | exact ae (ae (m:=eI _) (bV (ak ⟨_,rfl,ak h⟩) ui))
end
end HT
namespace L2
open PySem PySem.Spec PyProof.Rows
abbrev TO:=St→Hp→(Option Int→Hp→Prop)→Prop
def PO (X:Cx) (e:Option Expr) (t:TO):Prop :=
 ∀ (lj:List (Addr×Obj)) (s:Shared) (σ:St) (H:Hp) (Q:Option Int→Hp→Prop),Inv X lj σ H s→t σ H Q →
  wpAny (model X.prog X.w) X.A (evalPart e X.env) (fun u s'=>∃ o H',Inv X lj σ H' s'∧IsPart u o∧Q o H') X.xe s
def znd:TO:=fun _ H Q=>Q none H
def zp0 (t:TE):TO:=fun σ H Q=>t σ H fun x H1=>∃ i,x = .int i∧Q (some i) H1
theorem intsAre_of {ns:List Int}:∀ {us:List Value},zT (ns.map V.int) us→IntsAre us ns:=by
 induction ns with
 | nil=>intro us r; rw [fT] at r; cases r; exact .nil
 | cons n ns ih =>
  intro us r
  rw [aZ] at r
  cases r with
  | cons r1 r2 =>
   obtain⟨t,e⟩:=r1
   subst e
   exact .cons n t (ih r2)
section
variable {X:Cx} {e:Expr} {te:TE} {lo hi:Option Expr} {tl th:TO} {pos p2:Pos}
theorem zbe:PO X none znd:=by
 intro lj s σ H Q I h
 rw [evalPart_none]
 exact ak ⟨none,H,I,.none,h⟩
theorem zaS (h:PE X e te):PO X (some e) (zp0 te):=by
 intro lj s σ H Q I hw
 rw [evalPart_some]
 refine thn (h lj s σ H _ I hw) fun u s1 ⟨x,H1,I1,r1,q1⟩=>?_
 obtain⟨i,rfl,q⟩:=q1
 obtain⟨t,rfl⟩:=r1
 exact⟨some i,H1,I1,.int i t,q⟩
def SlR (X:Cx) (r:V→Option Int→Option Int→Hp→VK→Prop):Prop :=
 ∀ (lj:List (Addr×Obj)) (s:Shared) (σ:St) (H:Hp) (x:V) (v vl vu:Value) (lo hi:Option Int) (sl:Addr) (Q:VK),Inv X lj σ H s→RelV x v→s.heap.IsSliceOf sl vl vu .none→IsPart vl lo→IsPart vu hi→r x lo hi H Q →
  ∃ T id,typeLookup (.type T) "__getitem__" = pure (some (.builtin id))∧s.TypeIs v T∧wpAny (model X.prog X.w) X.A (getItem v (.ref sl)) (EP X lj σ Q) X.xe s
def tSl (r:V→Option Int→Option Int→Hp→VK→Prop) (te:TE) (tl th:TO):TE:=fun σ H Q=>te σ H fun x H1=>tl σ H1 fun l H2=>th σ H2 fun u H3=>r x l u H3 Q
theorem zaG {r:V→Option Int→Option Int→Hp→VK→Prop} (hr:SlR X r) (he:PE X e te) (hl:PO X lo tl) (hu:PO X hi th):PE X (.Subscript e (.Slice lo hi none p2) pos) (tSl r te tl th):=by
 intro lj s σ H Q I h
 refine Subscript_ (thn (he lj s σ H _ I h) fun v s1 ⟨x,H1,I1,r1,q1⟩=>?_)
 refine wpAny_Slice (thn (hl lj s1 σ H1 _ I1 q1) fun vl s2 ⟨l,H2,I2,pl,q2⟩=>thn (hu lj s2 σ H2 _ I2 q2) fun vu s3 ⟨u,H3,I3,pu,q3⟩=>?_)
 rw [evalPart_none]
 refine ak ?_
 have I4:Inv X lj σ H3 { s3 with heap:=s3.heap.push { cls:=.type "slice",data:=.fields #[vl,vu,.none] } }:=I3.kept (t':=s3.toks) fun b ob q=>aj _ q
 obtain⟨T,id,hT,ht,hg⟩:=hr lj { s3 with heap:=s3.heap.push { cls:=.type "slice",data:=.fields #[vl,vu,.none] } } σ H3 x v vl vu l u s3.heap.objs.size Q I4 r1 (Heap.IsSliceOf.new ..) pl pu q3
 show wpAny (model X.prog X.w) X.A (subscriptTail e (.Slice lo hi none p2) v (.ref s3.heap.objs.size)) (EP X lj σ Q) X.xe { s3 with heap:=s3.heap.push { cls:=.type "slice",data:=.fields #[vl,vu,.none] } }
 exact tail_any (ops:=[.ref s3.heap.objs.size,v]) ht hT hg (by with_unfolding_all rfl)
def za8 (xs:List V) (lo hi:Option Int):List V:=(xs.drop (HT.sIx xs.length 0 lo)).take (HT.sIx xs.length xs.length hi - HT.sIx xs.length 0 lo)
theorem zdY (xs:List V) (lo hi:Option Int):(za8 xs lo hi).length≤xs.length:=by
 unfold za8
 rw [av,b8]
 lia
def zqE (K:ag):V→Option Int→Option Int→Hp→VK→Prop:=fun x lo hi H Q=>∃ a xs,x = .ref a∧lE K H a xs ∧
 ¬ (HT.sIx xs.length 0 lo=0∧HT.sIx xs.length xs.length hi=xs.length)∧∀ p,H p=none→Q (.ref p) (lu H p (.tup (za8 xs lo hi)))
theorem zle:SlR X (zqE X.K):=by
 intro lj s σ H x v vl vu lo hi sl Q I rx hs pl pu h
 obtain⟨a,xs,rfl,hx,hw,q⟩:=h
 cases rx
 obtain⟨lx,r,ht,hz⟩:=I.tuple hx
 have lF:lx.toArray.size=xs.length:=by rw [ar]; exact r.length.symm
 refine⟨"tuple",_,PyProof.Rows.slot_tuple_getitem.lookup,ht.typeIs,?_⟩
 refine HT.getItem_tuple_cut ht hs pl pu (by rw [lF]; exact hw) ?_ (by rw [lF]; exact hz)
 rw [lF]
 refine⟨.ref s.heap.objs.size,_,I.laid (t':=s.toks) (o:=.tup (za8 xs lo hi)) (fun b ob q=>aj _ q) (af _) ?_,rfl,q _ (I.hok.fresh (af _))⟩
 exact⟨a8 (zdY xs lo hi) hz,_,(r.drop (HT.sIx xs.length 0 lo)).take (HT.sIx xs.length xs.length hi - HT.sIx xs.length 0 lo),iW _ _⟩
def zp1 (K:ag):R2:=fun x y H Q=>∃ a b xs ys,x = .ref a∧y = .ref b∧lE K H a xs∧lE K H b ys∧xs≠[]∧xs.length+ys.length≤sizeLine ∧
 (ys = []→Q (.ref a) H)∧(ys≠[]→∀ p,H p=none→Q (.ref p) (lu H p (.tup (xs++ys))))
theorem zT.nil_iff {xs:List V} {us:List Value} (r:zT xs us):us = []↔xs = []:=by
 cases r with
 | nil=>simp
 | cons _ _=>simp
theorem zne:OpR X (binaryOp .Add) (zp1 X.K):=by
 intro lj s σ H x y v u Q I rx ry h
 obtain⟨a,b,xs,ys,rfl,rfl,ha,hb,hx,hz,q1,q2⟩:=h
 cases rx
 cases ry
 obtain⟨lx,r1,p1,_⟩:=I.tuple ha
 obtain⟨lZ,r2,p2,_⟩:=I.tuple hb
 refine HT.cat_tup p1 p2 (fun z=>hx (r1.nil_iff.mp z)) (fun z=>⟨.ref a,H,I,rfl,q1 (r2.nil_iff.mp z)⟩) (fun z=>?_) (by rw [← r1.length,← r2.length]; exact hz)
 refine⟨.ref s.heap.objs.size,_,I.laid (t':=s.toks) (o:=.tup (xs++ys)) (fun b ob q=>aj _ q) (af _) ?_,rfl,q2 (fun w=>z (r2.nil_iff.mpr w)) _ (I.hok.fresh (af _))⟩
 exact⟨by rw [aq]; exact hz,_,r1.append r2,iW _ _⟩
end
def ixN (n:Nat) (i:Int):Option Nat:=if 0≤i then (if i < n then some i.toNat else none) else if -(n:Int)≤i then some (i+n).toNat else none
def atI {α:Type} (xs:List α) (i:Int):Option α:=(ixN xs.length i).bind fun j=>xs[j]?
theorem zje {n:Nat} {i:Int} {j:Nat} (h:ixN n i=some j):seqIndex? i n=some j∧j < n∧-(n:Int)≤i∧i < n:=by
 unfold ixN at h
 by_cases h0:0≤i
 ·rw [if_pos h0] at h
  by_cases h1:i < n
  ·rw [if_pos h1] at h
   have e:i.toNat=j:=aT h
   exact⟨by rw [gQ h0 h1,e],by lia,by lia,h1⟩
  ·rw [if_neg h1] at h; cases h
 ·rw [if_neg h0] at h
  by_cases h1:-(n:Int)≤i
  ·rw [if_pos h1] at h
   have e:(i+n).toNat=j:=aT h
   exact⟨by rw [jV (by lia) h1,e],by lia,h1,by lia⟩
  ·rw [if_neg h1] at h; cases h
theorem zjf {α:Type} {xs:List α} {i:Int} {v:α} (h:atI xs i=some v):∃ j,seqIndex? i xs.length=some j∧xs[j]? = some v∧j < xs.length∧-(xs.length:Int)≤i∧i < xs.length:=by
 unfold atI at h
 cases e:ixN xs.length i with
 | none=>rw [e] at h; cases h
 | some j =>
  rw [e] at h
  obtain⟨h1,h2,h3,h4⟩:=zje e
  exact⟨j,h1,h,h2,h3,h4⟩
theorem zaT {α:Type} {xs:List α} {j:Nat} {v:α} (h:xs[j]? = some v):atI xs (j:Int)=some v:=by
 have hj:j < xs.length:=(aD.mp h).1
 have e:ixN xs.length (j:Int)=some j:=by
  unfold ixN
  rw [if_pos (by lia),if_pos (by lia)]; simp
 unfold atI; rw [e]; exact h
def znf (b:Expr):Prop:=∀ o i,subscripted b false o i=operate [o,i] (getItem o i)
def IxR (X:Cx) (r:R2):Prop :=
 ∀ (value slice:Expr) (lj:List (Addr×Obj)) (s:Shared) (σ:St) (H:Hp) (x y:V) (v u:Value) (Q:VK),Inv X lj σ H s→RelV x v→RelV y u→r x y H Q →
  subscripted slice false v u=operate [v,u] (getItem v u)→wpAny (model X.prog X.w) X.A (subscriptTail value slice v u) (EP X lj σ Q) X.xe s
def MtR (X:Cx) (id:String) (r:V→List V→Hp→VK→Prop):Prop :=
 ∀ (lj:List (Addr×Obj)) (s:Shared) (σ:St) (H:Hp) (x:V) (xs:List V) (v:Value) (us:List Value) (Q:VK),Inv X lj σ H s→RelV x v→zT xs us→r x xs H Q →
  wpAny (model X.prog X.w) X.A (call (.builtin id) (v :: us)) (EP X lj σ Q) X.xe s
section
variable {X:Cx} {a b:Expr} {ta tb:TE} {pos:Pos}
theorem zQ {r:R2} (hr:IxR X r) (ha:PE X a ta) (hb:PE X b tb) (hs:znf b):PE X (.Subscript a b pos) (tOp r ta tb):=by
 intro lj s σ H Q I h
 exact Subscript_ (zoR ha hb I h fun v u s2 x y H2 I2 rx ry q=>hr a b lj s2 σ H2 x y v u Q I2 rx ry q (hs _ _))
def zp2 (K:ag):R2:=fun x y H Q=>∃ p xs i v,x = .ref p∧y = .int i∧lr K H p xs∧atI xs i=some v∧Q v H
def zqF (K:ag):R2:=fun x y H Q=>∃ p xs i v,x = .ref p∧y = .int i∧lE K H p xs∧atI xs i=some v∧Q v H
theorem zG:IxR X (zp2 X.K):=by
 intro value slice lj s σ H x y v u Q I rx ry h hs
 obtain⟨p,xs,i,z,rfl,rfl,hq,he,q⟩:=h
 cases rx
 obtain⟨t,rfl⟩:=ry
 obtain⟨lx,r,pl,hz⟩:=I.list hq
 obtain⟨j,h1,h2,h3,h4,h5⟩:=zjf he
 obtain⟨w,ew,uD⟩:=r.get h2
 have hl:=r.length
 have hn:=zeE
 have fin:EP X lj σ Q w s:=⟨z,H,I,uD,q⟩
 by_cases h0:0≤i
 ·have hj:i.toNat=j:=by
   rw [gQ h0 h5] at h1
   exact aT h1
  exact item_listR pl.isList h0 (by lia) (by rw [hj]; simpa using ew) fin hs
 ·have hj:(i+(lx.toArray.size:Int)).toNat=j:=by
   rw [jV (by lia) h4] at h1
   rw [ar,← hl]
   exact aT h1
  exact ja (x:=w) pl.isList.typeIs slot_list_getitem.lookup
   (wpAny_getItem_list_neg (Q:=fun r s'=>r=w∧EP X lj σ Q r s') pl.isList (by lia) (by rw [ar] <;> lia) (by lia) (by rw [hj]; simpa using ew) ⟨rfl,fin⟩) hs
theorem zb4:IxR X (zqF X.K):=by
 intro value slice lj s σ H x y v u Q I rx ry h hs
 obtain⟨p,xs,i,z,rfl,rfl,hq,he,q⟩:=h
 cases rx
 obtain⟨t,rfl⟩:=ry
 obtain⟨lx,r,pl,hz⟩:=I.tuple hq
 obtain⟨j,h1,h2,h3,h4,h5⟩:=zjf he
 obtain⟨w,ew,uD⟩:=r.get h2
 have hl:=r.length
 have hn:=zeE
 have fin:EP X lj σ Q w s:=⟨z,H,I,uD,q⟩
 exact ja (x:=w) pl.typeIs slot_tuple_getitem.lookup
  (getItem_tuple (j:=j) (Q:=fun r s'=>r=w∧EP X lj σ Q r s') pl (by lia) (by lia) (by rw [ar,← hl]; exact h1) (by simpa using ew) ⟨rfl,fin⟩) hs
theorem ziy (lx:List Value) (n j:Nat) (u:Value):dz (·.setIfInBounds j u) { cls:=.type "list",data:=.seq lx.toArray n } = { cls:=.type "list",data:=.seq (lx.set j u).toArray n }:=by
 simp [dz]
theorem Inv.lst {lj:List (Addr×Obj)} {σ:St} {H:Hp} {s:Shared} {p:Addr} {xs:List V} (I:Inv X lj σ H s) (h:H p=some (.lst xs)) :
  ∃ (lx:List Value) (n:Nat),zT xs lx∧s.heap.get? p=some { cls:=.type "list",data:=.seq lx.toArray n }∧xs.length≤sizeLine:=by
 obtain⟨z,lx,n,r,e⟩:=I.hok p _ h
 exact⟨lx,n,r,e,z⟩
theorem Inv.lstUpd {lj:List (Addr×Obj)} {σ:St} {H:Hp} {s:Shared} {p:Addr} {xs ys:List V} {lx its':List Value} {n n':Nat} {f:Obj→Obj} (I:Inv X lj σ H s) (h:H p=some (.lst xs))
  (ho:s.heap.get? p=some { cls:=.type "list",data:=.seq lx.toArray n }) (hf:f { cls:=.type "list",data:=.seq lx.toArray n } = { cls:=.type "list",data:=.seq its'.toArray n' }) (r:zT ys its') (hz:ys.length≤sizeLine) (t:Nat) :
  Inv X lj σ (lu H p (.lst ys)) { s with heap:=s.heap.update p f,toks:=t }:=by
 have e:(s.heap.update p f).get? p=some { cls:=.type "list",data:=.seq its'.toArray n' }:=by
  rw [d9 f ho (by rw [hf] <;> rfl),hf]
 refine I.write (x:=p) (e:=p) (by rw [h]; trivial) (.inl rfl) (fun b u hb q=>(gi _ _ (eE hb)).trans q) ⟨_,e⟩ ?_
 exact⟨hz,its',n',r,e⟩
def zp3:V→V→V→Hp→(Hp→Prop)→Prop:=fun o i v H Q=>∃ p xs k j,o = .ref p∧i = .int k∧H p=some (.lst xs)∧ixN xs.length k=some j∧Q (lu H p (.lst (xs.set j v)))
theorem set_list:zpQ X zp3:=by
 intro lj s σ H o i v ov iv u Q I ro ri rv h
 obtain⟨p,xs,k,j,rfl,rfl,hp,hj,q⟩:=h
 cases ro
 obtain⟨t,rfl⟩:=ri
 obtain⟨lx,n,r,ho,hz⟩:=I.lst hp
 obtain⟨h1,h2,h3,h4⟩:=zje hj
 have hl:=r.length
 have hn:=zeE
 have I':Inv X lj σ (lu H p (.lst (xs.set j v))) { s with heap:=s.heap.update p (dz (·.setIfInBounds j u)) } :=
  I.lstUpd hp ho (ziy lx n j u) (r.set rv j) (by rw [iX]; exact hz) s.toks
 by_cases h0:0≤k
 ·have hk:k.toNat=j:=by
   rw [gQ h0 h4] at h1
   exact aT h1
  exact PySem.W.ki_setAt ho h0 (by lia) (by rw [ar,← hl]; exact h4) (by rw [hk]; exact⟨_,I',q⟩)
 ·have hk:(k+(lx.toArray.size:Int)).toNat=j:=by
   rw [jV (by lia) h3] at h1
   rw [ar,← hl]
   exact aT h1
  exact PySem.W.ki_setBack ho (by lia) (by rw [ar,← hl]; exact h3) (by lia) (by rw [hk]; exact⟨_,I',q⟩)
theorem zgi (lo hi:Option Int) (n:Nat):(sliceBounds lo hi none n).1=((HT.sIx n 0 lo:Nat):Int)∧(sliceBounds lo hi none n).2.1=((HT.sIx n n hi:Nat):Int)∧(sliceBounds lo hi none n).2.2=1:=by
 refine⟨?_,?_,rfl⟩
 ·cases lo with
  | none=>simp [sliceBounds,HT.sIx]
  | some i =>
   simp only [sliceBounds,HT.sIx,km,show (1:Int) > 0 by decide,if_true]
   by_cases h:i < 0
   ·simp only [h,if_true] <;> lia
   ·simp only [h,if_false] <;> lia
 ·cases hi with
  | none=>simp [sliceBounds,HT.sIx]
  | some i =>
   simp only [sliceBounds,HT.sIx,km,show (1:Int) > 0 by decide,if_true]
   by_cases h:i < 0
   ·simp only [h,if_true] <;> lia
   ·simp only [h,if_false] <;> lia
theorem zfv (lx:List Value) (lo hi:Option Int):slicePick lx.toArray lo hi none=((lx.drop (HT.sIx lx.length 0 lo)).take (HT.sIx lx.length lx.length hi - HT.sIx lx.length 0 lo)).toArray:=by
 obtain⟨h1,h2,h3⟩:=zgi lo hi lx.toArray.size
 unfold slicePick
 rw [h1,h2,h3]
 simp only [sliceRange_one,pick_run,ar] <;> rfl
def zp4 (K:ag):V→Option Int→Option Int→Hp→VK→Prop:=fun x lo hi H Q=>∃ a xs,x = .ref a∧lr K H a xs∧∀ p,H p=none→Q (.ref p) (lu H p (.lst (za8 xs lo hi)))
theorem zbt:SlR X (zp4 X.K):=by
 intro lj s σ H x v vl vu lo hi sl Q I rx hs pl pu h
 obtain⟨a,xs,rfl,hx,q⟩:=h
 cases rx
 obtain⟨lx,r,ht,hz⟩:=I.list hx
 have lF:=r.length
 refine⟨"list",_,slot_list_getitem.lookup,ht.isList.typeIs,?_⟩
 refine wpAny_getItem_list_slice ht.isList hs pl pu .none (by simp) ?_ (by rw [ar] <;> lia)
 rw [zfv,← lF]
 refine⟨.ref s.heap.objs.size,_,I.laid (t':=s.toks) (o:=.lst (za8 xs lo hi)) (fun b ob q=>aj _ q) (af _) ?_,rfl,q _ (I.hok.fresh (af _))⟩
 exact⟨a8 (zdY xs lo hi) hz,_,0,(r.drop (HT.sIx xs.length 0 lo)).take (HT.sIx xs.length xs.length hi - HT.sIx xs.length 0 lo),aO _ rfl⟩
def zfQ:V→Bool
 | .non=>true
 | .bl _=>true
 | .int _=>true
 | .str _=>true
 | _=>false
def eqV:V→V→Bool
 | .non,.non=>true
 | .bl a,.bl b=>a == b
 | .bl a,.int b=>(if a then 1 else 0) == b
 | .int a,.bl b=>a == (if b then 1 else 0)
 | .int a,.int b=>a == b
 | .str a,.str b=>a == b
 | _,_=>false
theorem zo0 {A:Around} {s:Shared} {y x:V} {u v:Value} (ry:RelV y u) (rx:RelV x v) (fy:zfQ y=true) (fx:zfQ x=true):SeqAt.EqAt A s u v (eqV y x):=by
 cases y with
 | non =>
  cases ry
  cases x with
  | non=>cases rx; exact kH _
  | bl b=>cases rx; exact SeqAt.EqAt.none_bool b
  | int b=>obtain⟨t,rfl⟩:=rx; exact SeqAt.EqAt.none_int b t
  | str b=>obtain⟨t,rfl⟩:=rx; exact SeqAt.EqAt.none_str b t
  | _=>exact absurd (show false=true from fx) aR
 | bl a =>
  cases ry
  cases x with
  | non=>cases rx; exact SeqAt.EqAt.bool_none a
  | bl b=>cases rx; exact SeqAt.EqAt.bool_bool a b
  | int b=>obtain⟨t,rfl⟩:=rx; exact SeqAt.EqAt.bool_int a b t
  | str b=>obtain⟨t,rfl⟩:=rx; exact SeqAt.EqAt.bool_str a b t
  | _=>exact absurd (show false=true from fx) aR
 | int a =>
  obtain⟨t',rfl⟩:=ry
  cases x with
  | non=>cases rx; exact SeqAt.EqAt.int_none a t'
  | bl b=>cases rx; exact SeqAt.EqAt.int_bool a t' b
  | int b=>obtain⟨t,rfl⟩:=rx; exact SeqAt.EqAt.int_int a t' b t
  | str b=>obtain⟨t,rfl⟩:=rx; exact jO a t' b t
  | _=>exact absurd (show false=true from fx) aR
 | str a =>
  obtain⟨t',rfl⟩:=ry
  cases x with
  | non=>cases rx; exact SeqAt.EqAt.str_none a t'
  | bl b=>cases rx; exact SeqAt.EqAt.str_bool a t' b
  | int b=>obtain⟨t,rfl⟩:=rx; exact jP a t' b t
  | str b=>obtain⟨t,rfl⟩:=rx; exact SeqAt.EqAt.str_str a t' b t
  | _=>exact absurd (show false=true from fx) aR
 | _=>exact absurd (show false=true from fy) aR
theorem zE:zbU X (.builtin "len") (fun xs H Q=>∃ p ys,xs = [.ref p]∧(lr X.K H p ys∨lE X.K H p ys)∧Q (.int ys.length) H):=by
 intro lj s σ H xs us Q I r h
 obtain⟨p,ys,rfl,hq,q⟩:=h
 obtain⟨u,rfl,rx⟩:=vals1 r
 cases rx
 have hn:=zeE
 rcases hq with hq | hq
 ·obtain⟨lx,r',pl,hz⟩:=I.list hq
  have lF:=r'.length
  exact Calls.call_len_list pl.isList (by simp only [ar] <;> lia) ⟨.int ys.length,H,I.tok _,⟨s.toks+1,by rw [ar,lF]⟩,q⟩
 ·obtain⟨lx,r',pl,hz⟩:=I.tuple hq
  have lF:=r'.length
  exact len_tuple pl (by simp only [ar] <;> lia) ⟨.int ys.length,H,I.tok _,⟨s.toks+1,by rw [ar,lF]⟩,q⟩
theorem zao:zbU X (.type "tuple") (fun xs H Q=>∃ p ys,xs = [.ref p]∧((lr X.K H p ys∧∀ l,H l=none→Q (.ref l) (lu H l (.tup ys)))∨(lE X.K H p ys∧Q (.ref p) H))):=by
 intro lj s σ H xs us Q I r h
 obtain⟨p,ys,rfl,h⟩:=h
 obtain⟨u,rfl,rx⟩:=vals1 r
 cases rx
 rcases h with ⟨hq,q⟩ | ⟨hq,q⟩
 ·obtain⟨lx,r',pl,hz⟩:=I.list hq
  have lF:=r'.length
  refine call_tuple_list pl.isList (fun h' kp=>?_) (by simp only [ar] <;> lia)
  have I1:Inv X lj σ H { s with heap:=h' }:=I.kept (t':=s.toks) kp
  have I2:Inv X lj σ (lu H h'.objs.size (.tup ys)) { s with heap:=h'.push { cls:=.type "tuple",data:=.seq lx.toArray } } :=
   I1.laid (t':=s.toks) (fun b o e=>aj _ e) (af _) (show zax X.prog X.w _ _ _ (.tup ys) from ⟨hz,lx,r',iW _ _⟩)
  exact⟨.ref h'.objs.size,_,I2,rfl,q _ (I1.hok.fresh (af _))⟩
 ·obtain⟨lx,r',pl,hz⟩:=I.tuple hq
  exact call_tuple_same pl ⟨.ref p,H,I,rfl,q⟩
def tyV (K:ag) (T:String) (x:V) (H:Hp):Prop:=match x with
 | .str _=>T = "str"
 | .int _=>T = "int"
 | .ref p=>(T = "list"∧∃ xs,lr K H p xs)∨(T = "tuple"∧∃ o,K.lookup p=some o∧o.cls = .type "tuple"∧o.dict=none) ∨
   (T = "dict"∧((∃ lB,H p=some (.dK lB))∨∃ lB,H p=some (.dT lB)))∨(T = "set"∧∃ S n,H p=some (.set S n))
 | _=>False
theorem zo1 {lj:List (Addr×Obj)} {σ:St} {H:Hp} {s:Shared} {T:String} {x:V} {v:Value} (I:Inv X lj σ H s) (r:RelV x v) (ty:tyV X.K T x H) :
  s.TypeIs v T∧∀ a,v = .ref a→∃ ob,s.heap.get? a=some ob∧ob.dict=none:=by
 cases x with
 | str z =>
  obtain⟨t,rfl⟩:=r
  cases (show T = "str" from ty)
  exact⟨typeIs_str s z t,fun _ e=>nomatch e⟩
 | int i =>
  obtain⟨t,rfl⟩:=r
  cases (show T = "int" from ty)
  exact⟨iA s i t,fun _ e=>nomatch e⟩
 | ref p =>
  cases r
  rcases ty with ⟨rfl,xs,hq⟩ | ⟨rfl,o,hk,hc,hd⟩ | ⟨rfl,hk⟩ | ⟨rfl,S,n,hk⟩
  ·obtain⟨lx,_,pl,_⟩:=I.list hq
   refine⟨pl.isList.typeIs,fun a e=>?_⟩
   cases e
   obtain⟨o,n,e,c,hd,_⟩:=pl
   exact⟨o,e,hd⟩
  ·refine⟨⟨o,I.kIn p o hk,hc⟩,fun a e=>?_⟩
   cases e
   exact⟨o,I.kIn _ o hk,hd⟩
  ·have z:∃ o,s.heap.get? p=some o∧o.ExactDict:=by
    rcases hk with ⟨lB,hk⟩ | ⟨lB,hk⟩
    ·obtain⟨_,_,_,_,o,_,_,e,ex,_⟩:=I.hok p _ hk
     exact⟨o,e,ex⟩
    ·obtain⟨_,_,_,_,o,_,_,e,ex,_⟩:=I.hok p _ hk
     exact⟨o,e,ex⟩
   obtain⟨o,e,ex⟩:=z
   refine⟨⟨o,e,ex.1⟩,fun a e2=>?_⟩
   cases e2
   exact⟨o,e,ex.2.1⟩
  ·obtain⟨o,_,_,_,e,ex,_⟩:=I.hok p _ hk
   refine⟨⟨o,e,ex.1⟩,fun a e2=>?_⟩
   cases e2
   exact⟨o,e,ex.2.1⟩
 | _=>exact eA ty
def tBM (K:ag) (T:String) (r:V→List V→Hp→VK→Prop) (to:TE) (t:TA):TE:=fun σ H Q=>to σ H fun x H1=>tyV K T x H1∧t σ H1 fun xs H2=>r x xs H2 Q
variable {o e:Expr} {es:List Expr} {to:TE} {t:TA} {name:Str} {apos ni:Pos} {T id:String} {r:V→List V→Hp→VK→Prop}
theorem zeG (pa:PlainAttrs T) (slot:Slot T name id) (EA:typeOf (.builtin id)=pure (.type "method_descriptor")) (hm:MtR X id r) (ho:PE X o to) (ha:PA X (e :: es) t)
  (vt:attributeBase o name X.env (eval o X.env)=eval o X.env:=by rfl)
  (yl:((backTo ni (starEach (e :: es) X.env)).all (fun x=>!x.1) && (backToKw ni (keywordEach [] X.env)).all (fun x=>x.1.isSome)
   && decide ((e :: es).length+([]:List Keyword).length+(if ([]:List Keyword).isEmpty then 0 else 1) < 30))=true:=by rfl)
  (vw:(apos.endLine == ni.line)=true:=by rfl) (hs:starEach (e :: es) X.env=(false,eval e X.env) :: starEach es X.env:=by rfl) (tG:(backTo ni (starEach es X.env)).any (·.1)=false:=by rfl) :
  PE X (.Call (.Attribute o name apos) (e :: es) [] ni) (tBM X.K T r to t):=by
 intro lj s σ H Q I h
 refine wpAny_Call_method_late vt yl vw rfl (thn (ho lj s σ H _ I h) fun v s1 ⟨x,H1,I1,r1,ty,q1⟩=>?_)
 obtain⟨h1,h2⟩:=zo1 I1 r1 ty
 refine⟨T,id,pa,slot,EA,h1,h2,?_⟩
 have hA:=ha ni lj s1 σ H1 _ I1 q1
 rw [hs] at hA ⊢
 refine jb (by show (false || (backTo ni (starEach es X.env)).any (·.1))=false; rw [tG] <;> rfl) (jt ?_)
 exact thn hA fun us s2 ⟨vs,H2,I2,r2,q2⟩=>hm lj s2 σ H2 x vs v us Q I2 r1 r2 q2
end
def MtM (X:Cx) (id:String) (r:V→List V→Hp→VK→Prop):Prop :=
 ∀ (lj:List (Addr×Obj)) (s:Shared) (σ:St) (H:Hp) (x:V) (xs:List V) (v:Value) (us:List Value) (Q:VK),Inv X lj σ H s→RelV x v→zT xs us→r x xs H Q →
  wpAny (model X.prog X.w) X.A (call (.builtin id) (v :: us)) (EP X lj σ Q) X.xe s
theorem zT.one:∀ {x:V} {us:List Value},zT [x] us→∃ u,us = [u]∧RelV x u
 | _,_,.cons r .nil=>⟨_,rfl,r⟩
theorem zT.eraseIdx:∀ {xs:List V} {us:List Value} (i:Nat),zT xs us→zT (xs.eraseIdx i) (us.eraseIdx i)
 | _,_,_,.nil=>.nil
 | _,_,0,.cons _ t=>t
 | _,_,i+1,.cons r t=>.cons r (zT.eraseIdx i t)
theorem zT.rep {xs:List V} {us:List Value} (h:zT xs us):∀ k:Nat,zT (ap k xs).flatten (ap k us).flatten
 | 0=>.nil
 | k+1=>by
  rw [cg,cg,eg,eg]
  exact zT.append h (zT.rep h k)
theorem zfR {α:Type}:∀ (l:List α) (i:Nat),(l.eraseIdx i).length≤l.length
 | [],_=>af _
 | _ :: _,0=>gj _
 | _ :: r,i+1=>eJ (zfR r i)
theorem foldl_rep (lx:List Value):∀ (k:Nat) (acc:List Value),
  gz (fun x1 x2=>x1++x2) acc.toArray (ap k lx.toArray)=(acc++(ap k lx).flatten).toArray
 | 0,acc=>by simp
 | k+1,acc=>by
  have e:acc.toArray++lx.toArray=(acc++lx).toArray:=by simp
  have e2:(acc++lx)++(ap k lx).flatten=acc++(ap (k+1) lx).flatten:=by
   rw [cg,eg,bg]
  rw [← e2,← foldl_rep lx k (acc++lx),← e,cg,iY]
section
variable {X:Cx} {lj:List (Addr×Obj)} {σ:St} {H:Hp} {s:Shared} {l b:Addr} {xs ys zs:List V}
theorem Inv.lset {lx its':List Value} {n:Nat} {f:Array Value→Array Value} {t':Nat} (I:Inv X lj σ H s) (hH:H l=some (.lst xs))
  (e:s.heap.get? l=some { cls:=.type "list",data:=.seq lx.toArray n }) (hf:f lx.toArray=its'.toArray) (hv:zT ys its') (hz:ys.length≤sizeLine) :
  Inv X lj σ (lu H l (.lst ys)) { s with heap:=s.heap.update l (dz f),toks:=t' }:=by
 have q:=ko e f
 rw [hf] at q
 refine I.write (x:=l) (e:=l) (by rw [hH]; exact trivial) (.inl rfl) (fun b' u hb hu=>(gi s.heap (dz f) (eE hb)).trans hu) ⟨_,q⟩ ?_
 exact⟨hz,its',_,hv,q⟩
theorem Inv.lnew {lx:List Value} {t':Nat} (I:Inv X lj σ H s) (hv:zT ys lx) (hz:ys.length≤sizeLine) :
  Inv X lj σ (lu H s.heap.objs.size (.lst ys)) { s with heap:=s.heap.push { cls:=.type "list",data:=.seq lx.toArray },toks:=t' } :=
 I.laid (fun _ _ q=>aj _ q) (af _) ⟨hz,lx,0,hv,aO _ rfl⟩
theorem Inv.fresh (I:Inv X lj σ H s):H s.heap.objs.size=none:=I.hok.fresh (af _)
theorem Inv.lstM (I:Inv X lj σ H s) (hH:H l=some (.lst xs)):xs.length≤sizeLine∧∃ (lx:List Value) (n:Nat),zT xs lx∧xs.length=lx.length∧s.heap.get? l=some { cls:=.type "list",data:=.seq lx.toArray n }:=by
 obtain⟨z,lx,n,r,e⟩:=I.hok l _ hH
 exact⟨z,lx,n,r,r.length,e⟩
theorem zhm {n:Nat} (h:n≤sizeLine):eK n=false:=by
 unfold eK
 exact decide_eq_false (by lia)
end
section
variable {X:Cx}
def zng:V→List V→Hp→VK→Prop:=fun x vs H Q=>∃ l xs y,x = .ref l∧vs = [y]∧H l=some (.lst xs)∧xs.length < sizeLine∧Q .non (lu H l (.lst (xs++[y])))
theorem zbL:MtM X "list.append" zng:=by
 intro lj s σ H x vs v us Q I rx rv h
 obtain⟨l,xs,y,rfl,rfl,hH,hz,q⟩:=h
 cases rx
 obtain⟨u,rfl,ru⟩:=rv.one
 obtain⟨z,lx,n,r,hl,e⟩:=I.lstM hH
 refine dR jW ⟨_,e,rfl⟩ jI (ju _ _) (j5 l lx.toArray n u (by rw [ar]; lia)) ⟨e,?_⟩
 refine⟨.non,_,I.lset (its':=lx++[u]) hH e (by simp) (r.append (.cons ru .nil)) ?_,rfl,q⟩
 rw [aq,fh]
 lia
def zo2:V→List V→Hp→VK→Prop:=fun x vs H Q=>∃ l xs i k y,x = .ref l∧vs = [.int i]∧H l=some (.lst xs)∧-(2 ^ 63)≤i∧i < 2 ^ 63∧seqIndex? i xs.length=some k∧xs[k]? = some y∧Q y (lu H l (.lst (xs.eraseIdx k)))
theorem zlf:MtM X "list.pop" zo2:=by
 intro lj s σ H x vs v us Q I rx rv h
 obtain⟨l,xs,i,k,y,rfl,rfl,hH,h1,h2,hk,hy,q⟩:=h
 cases rx
 obtain⟨u,rfl,ru⟩:=rv.one
 obtain⟨t,rfl⟩:=ru
 obtain⟨z,lx,n,r,hl,e⟩:=I.lstM hH
 obtain⟨w,hw,uD⟩:=r.get hy
 refine dR F.slot_list_pop ⟨_,e,rfl⟩ F.entry_list_pop (F.args_list_pop_2 _ _)
  (MeetsSeq.list_pop_at l lx.toArray n i t k w (fitsIndex_both h1 h2) (by rw [ar,← hl]; exact hk) (by rw [← bt]; exact hw) (by rw [ar]; lia)) ⟨e,?_⟩
 refine⟨y,_,I.lset (its':=lx.eraseIdx k) hH e ?_ (r.eraseIdx k) ?_,uD,q⟩
 ·show lx.toArray.eraseIdxIfInBounds k=(lx.eraseIdx k).toArray
  rw [List.eraseIdxIfInBounds_toArray]
 ·have:=zfR xs k
  lia
def zqG:R2:=fun x y H Q=>∃ l b xs zs,x = .ref l∧y = .ref b∧H l=some (.lst xs)∧H b=some (.lst zs)∧xs.length+zs.length≤sizeLine∧∀ p,H p=none→Q (.ref p) (lu H p (.lst (xs++zs)))
theorem zc8:OpR X (binaryOp .Add) zqG:=by
 intro lj s σ H x y v u Q I rx ry h
 obtain⟨l,b,xs,zs,rfl,rfl,hH,hB,hz,q⟩:=h
 cases rx
 cases ry
 obtain⟨z,lx,n,r,hl,e⟩:=I.lstM hH
 obtain⟨z2,lZ,n2,r2,qf,e2⟩:=I.lstM hB
 refine PySem.P.add_list e e2 ?_ (by rw [ar,ar]; lia)
 have ea:lx.toArray++lZ.toArray=(lx++lZ).toArray:=by simp
 rw [ea]
 exact⟨.ref _,_,I.lnew (t':=s.toks) (r.append r2) (by rw [aq]; lia),rfl,q _ I.fresh⟩
def zqH:R2:=fun x y H Q=>∃ l k xs,x = .ref l∧y = .int k∧H l=some (.lst xs)∧-(2 ^ 63)≤k∧k < 2 ^ 63∧xs.length*k.toNat≤sizeLine ∧
 ∀ p,H p=none→Q (.ref p) (lu H p (.lst (ap k.toNat xs).flatten))
theorem len_rep {α:Type} (xs:List α) (k:Nat):(ap k xs).flatten.length=k*xs.length:=by
 induction k with
 | zero=>simp
 | succ k ih=>rw [cg,eg,aq,ih,Nat.succ_mul,Nat.add_comm]
theorem zgj:OpR X (binaryOp .Mult) zqH:=by
 intro lj s σ H x y v u Q I rx ry h
 obtain⟨l,k,xs,rfl,rfl,hH,h1,h2,hz,q⟩:=h
 cases rx
 obtain⟨t,rfl⟩:=ry
 obtain⟨z,lx,n,r,hl,e⟩:=I.lstM hH
 have lF:lx.toArray.size*k.toNat≤sizeLine:=by rw [ar,← hl]; exact hz
 have EB:¬ lx.toArray.size*k.toNat > (2 ^ 63 - 1) / 8:=by
  have:(sizeLine:Nat)≤(2 ^ 63 - 1) / 8:=by decide
  lia
 have EC:¬ (!Builtin.List.listFitsIndex k)=true:=by
  rw [fitsIndex_both h1 h2]
  exact aR
 have vy:¬ eK (lx.toArray.size*k.toNat)=true:=by
  rw [zhm lF]
  exact aR
 have wN:gz (fun x1 x2=>x1++x2) #[] (ap (if lx.toArray.isEmpty=true then 0 else k.toNat) lx.toArray)=(ap k.toNat lx).flatten.toArray:=by
  have f0:∀ m:Nat,gz (fun x1 x2=>x1++x2) #[] (ap m lx.toArray)=(ap m lx).flatten.toArray:=fun m=>by
   have:=foldl_rep lx m []
   rw [iZ] at this
   exact this
  rw [f0]
  cases lx with
  | nil=>simp
  | cons a r'=>rw [if_neg (by simp)]
 refine iB (T:="list") (U:="int") (by decide) ⟨_,e,rfl⟩ (fun s'=>iA s' k t) noFill_list_mul F.fills_int_mul gA repeat_list F.slot_int_index.lookup
  (dR gA (iA s k t) kq (j6 _ _) (int___rmul___int_list k t l lx.toArray n)
   ⟨e,rfl,⟨_,e,rfl⟩,dR F.slot_list_mul ⟨_,e,rfl⟩ F.entry_list_mul (F.args_list_mul_2 _ _) (AutoListH.list___mul___list_int_3 l lx.toArray n k t EC EB vy) ⟨e,?_⟩⟩)
 rw [wN]
 exact⟨.ref _,_,I.lnew (t':=s.toks) (r.rep k.toNat) (by rw [len_rep,fj]; exact hz),rfl,q _ I.fresh⟩
end
end L2
namespace Att
open PySem PySem.W PySem.Calls PyProof.Rows
theorem zd4 {P:Params} {h:Heap}:∀ (ns:List Int) (vs:List Value),WellAll P h vs (ns.map WData.int)→IntsAre vs ns:=by
 intro ns
 induction ns with
 | nil =>
  intro vs w
  rw [fT] at w
  cases w
  exact .nil
 | cons n ns ih =>
  intro vs w
  rw [aZ] at w
  cases w with
  | cons a b =>
   cases a
   exact .cons _ _ (ih _ b)
theorem zkh {l:OpenLaw} {n:Nat} (hn:l.most=some n) {P:Params} {h:Heap} {args:List WData} {vals:List Value}
  (qR:l.row.toRowW.claim.pre args=true) (uj:WellAll P h vals args) :
  ∃ a vs ns,vals = [bd a]∧args = [WData.list (ns.map WData.int)]∧h.get? a=some { cls:=.type "list",data:=.seq vs.toArray }∧IntsAre vs ns∧ns.length≤n:=by
 have hsh:WShape.hasAll [] args [.list .int]=true:=(pre_splitW qR).1
 have hc:l.pre.holds [] { args:=args }=true:=(pre_splitW qR).2
 obtain⟨d,r,rfl,h1,h2⟩:=hasAllW_cons hsh
 obtain rfl:=hasAllW_nil h2
 obtain⟨xs,rfl,h3⟩:=hasW_list h1
 obtain⟨ns,rfl⟩:=items_int h3
 have lF:ns.length≤n:=by
  unfold OpenLaw.pre at hc
  have h4:(WTm.not (.lt (.lit (.int (n:Int))) (.len (.arg 0)))).holds [] { args:=[.list (ns.map .int)] }=true:=by
   have h4:=(holds_andW hc).1
   rw [hn] at h4
   exact h4
  have h5:=condW_of h4 (w_not (w_lt w_lit (w_len_list (w_arg rfl))))
  rw [ab] at h5
  refine fA fun q=>?_
  have q':(n:Int) < ((ns.length:Nat):Int):=by lia
  first
   | (rw [decide_eq_true q'] at h5; exact absurd h5 (by decide))
   | (simp at h5; lia)
 cases uj with
 | cons w1 w2 =>
  cases w2
  cases w1 with
  | list ho nE=>exact⟨_,_,ns,rfl,rfl,ho,zd4 ns _ nE,lF⟩
theorem zki (l:OpenLaw) (args:List WData):l.row.toRowW.claim.post args (.bool true) args=true :=
 postW_of (r:=l.row.toRowW) (X:=(true == true))
  (show WShape.has [] (.bool true) .bool=true by first | rfl | decide | simp [WShape.has,WShape.arms,WShape.armsAll])
  (show (WTm.eq .res (.lit (.bool true))).value [] { args:=args,res:=some (.bool true),after:=args }=some (.bool (true == true)) from w_eq_bool (w_res rfl) w_lit) rfl
theorem attach_call {l:OpenLaw} {n:Nat} {q:Program} {loose:List Str} {XP:(Str→Option Value)→Heap→Prop} {YP:World→Heap→Prop} {d:DefRec}
  (hn:l.most=some n) (Bi:d.params.defaults = [])
  (call:∀ (w:World) (s₀ s₁:Shared) (mg mb:Str→Option Value) (fa:Addr) (o:Obj) (pm cd doc:Value) (a:Addr) (vs:List Value) (ns:List Int),
   Ground q loose [] XP w s₀ mg mb s₁.heap→YP w s₁.heap →
   s₁.heap.get? fa=some o→o.data = .func (docDef d.name d.params d.body d.scope pm cd doc)→s₁.heap.CodeRec cd d.name→mg d.name=some (.ref fa) →
   s₁.heap.get? a=some { cls:=.type "list",data:=.seq vs.toArray }→IntsAre vs ns→ns.length≤n→s₁.gens = #[] →
   codeAny (model l.prog w) callerA (.call (.ref fa) ⟨[.ref a],[]⟩) (fun r s'=>r = .ok (.ret (.bool true))∧OldK s₁.heap s'.heap∧s'.os=s₁.os∧AllBare s'.gens) s₁) :
  WalkO q loose XP YP l.row.toRowW d [] (fun f vs=>kJ f vs):=by
 intro w s₀ s₁ mg mb G Y fa o pm cd doc dV kV ho hd uB hD wO hg args vals as qR hlay hrd uj qS
 obtain rfl:dV = .none:=Dflts.none hD Bi
 obtain rfl:kV = .none:=Dflts.noKw hD
 obtain⟨a,vs,ns,rfl,rfl,ym,hints,lF⟩:=zkh hn qR uj
 refine enter_call (jR (call w s₀ s₁ mg mb fa o pm cd doc a vs ns G Y ho (fd_plain hd) uB wO ym hints lF hg) fun r s' hq=>?_)
 obtain⟨rfl,h2,h3,h4⟩:=hq
 exact⟨.inl ⟨.bool true,.bool true,[],rfl,fun _=>rfl,.bool true,zki l _,fun _=>⟨il,fun _ hm=>(nomatch hm)⟩⟩,h2,h3,h4⟩
end Att
namespace L2
open PySem PySem.Spec PyProof.Rows
theorem zfS:∀ {vs:List Value} {ns:List Int},IntsAre vs ns→zT (ns.map V.int) vs
 | _,_,.nil=>.nil
 | _,_,.cons n t h=>.cons ⟨t,rfl⟩ (zfS h)
def zo3 (H:Hp):Prop:=∀ b,H b=none∨∃ o xs,H b=some (.frz o (.lst xs))
theorem zlg {P:Program} {w:World} {K:ag} {mg mb:Str→Option Value} {CX:CXT} {k:Nat} {fa a:Addr} {fd:FuncData} {x:Str} {sp:Sp} {s₁:Shared} {vs:List Value} {ns:List Int}
  (KX:K.In s₁.heap) (Ar:s₁.heap.Ns mainGlobals mg) (hb:s₁.heap.Ns builtinsNs mb) (ED:∀ x:Str,x≠"__name__"→mb x=bootBuiltins x) (EE:s₁.heap.NoLimit) (hg:s₁.gens = #[])
  (ha:s₁.heap.get? a=some { cls:=.type "list",data:=.seq vs.toArray }) (hi:IntsAre vs ns) (hl:ns.length≤sizeLine) (hr:Room k callerA)
  (F:∀ base:Heap,K.In base→base.Ns mainGlobals mg→FnOk P w K mg base CX k fa fd [x] sp) (Bj:∀ (s:Shared) (u:Value),BindsTo s fd ⟨[u],[]⟩ [(x,u)])
  (wu:∀ H:Hp,zo3 H→lr K H a (ns.map V.int)→sp [.ref a] H (fun v _=>v = .bl true) fun _ _ _=>False)
  (EF:∀ H e s',CX [] H s₁ (fun _ _ _=>False) e s'→False) :
  codeAny (model P w) callerA (.call (.ref fa) ⟨[.ref a],[]⟩) (fun r s'=>r = .ok (.ret (.bool true))∧OldK s₁.heap s'.heap∧s'.os=s₁.os∧AllBare s'.gens) s₁:=by
 have rv:=zfS hi
 have EG:=hi.length
 have core:∀ H:Hp,zo3 H→lr K H a (ns.map V.int)→HOk P w H s₁.heap→(∀ b,H b≠none→b=a)→(H a≠none→K.lookup a=none) →
   codeAny (model P w) callerA (.call (.ref fa) ⟨[.ref a],[]⟩) (fun r s'=>r = .ok (.ret (.bool true))∧OldK s₁.heap s'.heap∧s'.os=s₁.os∧AllBare s'.gens) s₁:=by
  intro H hO hS hok hA hK
  have uk:∀ {b:Addr} {o:Obj},s₁.heap.get? b=some o→H b=none→(zgg s₁.heap H).get? b=some o:=fun e n=>zk5 e n
  have yj:∀ {b:Addr} {o:Obj} {es:Array DictEntry} {ep:Nat},s₁.heap.get? b=some o→o.data = .dict es ep→H b=none:=fun {b o es ep} e d=>by
   cases q:H b with
   | none=>rfl
   | some u =>
    have e':b=a:=hA b (by rw [q]; simp)
    subst e'
    rw [ha] at e; cases e
    have d':lb vs.toArray _=Data.dict es ep:=d
    cases d'
  have Dr:∀ {b:Addr} {m:Str→Option Value},s₁.heap.Ns b m→(zgg s₁.heap H).Ns b m:=fun {b m} ⟨o,es,ep,e,d,r⟩=>⟨o,es,ep,uk e (yj e d),d,r⟩
  have hKb:K.In (zgg s₁.heap H):=fun b o e=>uk (KX b o e) (by
   cases q:H b with
   | none=>rfl
   | some u =>
    have e':b=a:=hA b (by rw [q]; simp)
    subst e'
    rw [hK (by rw [q]; simp)] at e; cases e)
  have hM:Mod K mg (zgg s₁.heap H):=⟨hKb,Dr Ar,⟨mb,Dr hb,ED⟩,let ⟨mc,h1,h2⟩:=EE; ⟨mc,Dr h1,h2⟩⟩
  have e0:Env0 P w K mg (zgg s₁.heap H) callerA [] s₁ H:=⟨rfl,hM,fun b o e=>zm7 e,iF (zkc _ _),trivial,fun b hb=>absurd (show b∈([]:List Addr) from hb) (by simp),hok,.of_eq hg⟩
  refine jR ((F _ hKb (Dr Ar)).run callerA [] s₁ H ⟨[.ref a],[]⟩ [.ref a] [.ref a] _ _ hr e0 (Bj s₁ (.ref a)) (.cons rfl .nil) (wu H hO hS)) fun r s' h=>?_
  cases r with
  | error e=>exact (EF H e s' h).elim
  | ok fl =>
   cases fl with
   | next=>exact eA h
   | brk=>exact eA h
   | cont=>exact eA h
   | ret u =>
    obtain⟨v,H',os,bare,un,EH,r',q⟩:=h
    have q':v = .bl true:=q
    subst q'
    obtain rfl:u=Value.bool true:=r'
    refine⟨rfl,OldK.of_keep fun b o e=>?_,os,bare⟩
    cases q:H b with
    | none=>exact un.keep b o e q (by intro z; exact absurd (show b∈([]:List Addr) from z) (by simp)) (by simp)
    | some u =>
     rcases hO b with z | ⟨ob,xs,z⟩
     ·rw [q] at z; cases z
     ·have z2:=un.frzs b ob _ z
      obtain⟨e1,_⟩:=hok b _ z
      obtain⟨e2,_⟩:=EH b _ z2
      rw [e] at e1; cases e1
      exact e2
 cases hk:K.lookup a with
 | some o =>
  have e:=KX a o hk
  rw [ha] at e
  cases e
  refine core (fun _=>none) (fun _=>.inl rfl) (.inr ⟨_,vs.toArray,_,hk,rfl,rfl,rfl,by rw [ar,EG]; exact hl,by simpa using rv⟩) (fun b u z=>by have z':(none:Option HO)=some u:=z; cases z') (fun b z=>absurd rfl z) fun z=>absurd rfl z
 | none =>
  refine core (fun b=>if b=a then some (.frz { cls:=.type "list",data:=.seq vs.toArray } (.lst (ns.map V.int))) else none) (fun b=>?_) (.inl (.inr ⟨{ cls:=.type "list",data:=.seq vs.toArray },if_pos rfl⟩)) (fun b u z=>?_) (fun b z=>?_) fun _=>hk
  ·by_cases hb:b=a
   ·exact .inr ⟨_,_,if_pos hb⟩
   ·exact .inl (if_neg hb)
  ·by_cases hb:b=a
   ·have z':=(if_pos hb).symm.trans z
    cases z'
    subst hb
    exact⟨ha,by rw [ab]; exact hl,vs,_,rv,ha⟩
   ·have z':=(if_neg hb).symm.trans z
    cases z'
  ·by_cases hb:b=a
   ·exact hb
   ·exact absurd (if_neg hb) z
theorem znh {l:i0} {n k:Nat} {q:Program} {loose:List Str} {XP:(Str→Option Value)→Heap→Prop} {YP:World→Heap→Prop} {d:DefRec} {K:Params→ag} {CX:World→CXT} {sp:World→Sp} {x:Str}
  (hn:l.most=some n) (uE:n≤sizeLine) (Bi:d.params.defaults = []) (hr:Room k callerA)
  (hY:∀ (w:World) (h:Heap),YP w h→(K w.params).In h)
  (F:∀ (w:World) (mg:Str→Option Value) (fa:Addr) (h:Heap),(K w.params).In h→h.Ns mainGlobals mg→mg d.name=some (.ref fa) →
   ∃ fd:FuncData,(∀ (s:Shared) (u:Value),BindsTo s fd ⟨[u],[]⟩ [(x,u)]) ∧
    ∀ base:Heap,(K w.params).In base→base.Ns mainGlobals mg→FnOk l.prog w (K w.params) mg base (CX w) k fa fd [x] (sp w))
  (wu:∀ (w:World) (H:Hp) (a:Addr) (ns:List Int),ns.length≤n→zo3 H→lr (K w.params) H a (ns.map V.int)→sp w [.ref a] H (fun v _=>v = .bl true) fun _ _ _=>False)
  (EF:∀ (w:World) (H:Hp) (s:Shared) (e:Value) (s':Shared),CX w [] H s (fun _ _ _=>False) e s'→False) :
  k6 q loose XP YP l.row.toRowW d [] (fun f vs=>kJ f vs):=by
 refine Att.attach_call hn Bi fun w s₀ s₁ mg mb fa o pm cd doc a vs ns G Y ho hd uB wO ym hints lF hg=>?_
 have KX:=hY w _ Y
 obtain⟨fd,hb,hF⟩:=F w mg fa _ KX G.T.g wO
 exact zlg KX G.T.g G.T.b G.T.builtins G.T.nolimit hg ym hints (a8 lF uE) hr hF hb (fun H hO hS=>wu w H a ns lF hO hS) fun H e s'=>EF w H s₁ e s'
def zbV (s:Stmt):Arguments:=match s with
 | .FunctionDef _ a _ _ _ _ _ _ _ _=>a
 | _=>{ posonlyargs:=[],args:=[],vararg:=none,kwonlyargs:=[],kw_defaults:=[],kwarg:=none,defaults:=[] }
def zbI (s:Stmt):List Stmt:=match s with
 | .FunctionDef _ _ b _ _ _ _ _ _ _=>b
 | _=>[]
def zh (s:Stmt):Scope:=match s with
 | .FunctionDef _ _ _ _ _ _ sc _ _ _=>sc
 | _=>{ kind:=.function,names:=[],isGenerator:=false,isCoroutine:=false }
abbrev CX0:CXT:=fun _ _ _ _ _ _=>False
abbrev E0:XK:=fun _ _ _=>False
theorem zy {X:Cx}:ziv CX0 X E0:=fun _ _ _ _ _ _ _ h=>h.elim
structure Fun (K:ag) (x qual:Str) (st:Stmt) (f:Addr) (fd:FuncData):Prop where
 ex:∃ (oc:Value) (od:Option Addr) (kV doc pm:Value) (an:Option Addr) (mh ct:Value) (xJ:Array (Option Value)),
  fd=dw x qual (zbV st) (zbI st) (zh st) .none kV doc pm an mh ct∧K.lookup f=some ⟨oc,od,.func fd,xJ⟩∧f7 K mh qual=true
 kp:f6 K (.ref f)=true
section
variable {P:Program} {w:World} {K:ag} {mg:Str→Option Value} {base:Heap}
theorem Fun.ok {x qual:Str} {st:Stmt} {f:Addr} {fd:FuncData} {N ps:List Str} {k:Nat} {sp:Sp} (F:Fun K x qual st f fd) (S:FnScope N ps (zh st)) (len:∀ vs H Q E,sp vs H Q E→vs.length=ps.length)
  (vp:∀ (mh:Value) (A:Around) (outer:List Env) (s:Shared) (H:Hp) (vs:List V) (Q:VK) (E:XK),Room k (A.deeper (envOfC qual (zh st) s.heap.objs.size f mh))→sp vs H Q E →
   ∃ t,PSs (zkf CX0 P w K mg base N qual (zh st) f mh A outer s H E).nox (zbI st) t∧t { nx:=fun _ H'=>Q .non H',rt:=Q } (start N vs) H):FnOk P w K mg base CX0 (k+1) f fd ps sp:=by
 obtain⟨oc,od,kV,doc,pm,an,mh,ct,xJ,rfl,lk,uB⟩:=F.ex
 refine zpZ lk uB S len fun A outer s H vs Q E hr wu=>?_
 obtain⟨t,h,q⟩:=vp mh A outer s H vs Q E hr wu
 exact⟨t,h.nox,q⟩
theorem Fun.binds {x qual:Str} {st:Stmt} {f:Addr} {fd:FuncData} {ps:List Str} (F:Fun K x qual st f fd)
  (h:∀ (kV doc pm:Value) (an:Option Addr) (mh ct:Value) (us:List Value),us.length=ps.length→bindArgs (dw x qual (zbV st) (zbI st) (zh st) .none kV doc pm an mh ct) ⟨us,[]⟩=pure (ps.zip us)):Binds K fd ps []:=by
 obtain⟨oc,od,kV,doc,pm,an,mh,ct,xJ,rfl,lk,uB⟩:=F.ex
 exact .all (h kV doc pm an mh ct)
theorem zlh {x qual:Str} {st:Stmt} {f:Addr} {oc:Value} {od an:Option Addr} {xJ:Array (Option Value)} {kV doc pm mh ct:Value} (l:K.lookup f=some ⟨oc,od,.func (dw x qual (zbV st) (zbI st) (zh st) .none kV doc pm an mh ct),xJ⟩)
  (c:f7 K mh qual=true) (k:f6 K (.ref f)=true):Fun K x qual st f (dw x qual (zbV st) (zbI st) (zh st) .none kV doc pm an mh ct):=⟨⟨oc,od,kV,doc,pm,an,mh,ct,xJ,rfl,l,c⟩,k⟩
end
theorem zhn {A B:Prop} (h:B):if false=true then A else B:=by
 rw [if_neg aR]
 exact h
theorem zp5 {A B:Prop} (h:A):if true=true then A else B:=by
 rw [if_pos rfl]
 exact h
theorem zaU {c A B:Prop} [Decidable c] (h1:c→A) (h2:¬ c→B):if c then A else B:=by
 by_cases h:c
 ·rw [if_pos h]
  exact h1 h
 ·rw [if_neg h]
  exact h2 h
def zt (H H':Hp):Prop:=∀ b o,H b=some o→H' b=some o
theorem zt.trans {H H1 H2:Hp} (a:zt H H1) (b:zt H1 H2):zt H H2:=fun c o h=>b c o (a c o h)
theorem zt.free {H H':Hp} (e:zt H H') {l:Addr} (h:H' l=lg):H l=lg:=by
 cases q:H l with
 | none=>rfl
 | some o =>
  rw [e l o q] at h
  cases h
theorem zt.seq {K:ag} {H H':Hp} {a:Addr} {xs:List V} (e:zt H H') (h:lr K H a xs):lr K H' a xs:=by
 rcases h with (h | ⟨o,h⟩) | h
 ·exact .inl (.inl (e _ _ h))
 ·exact .inl (.inr ⟨o,e _ _ h⟩)
 ·exact .inr h
end L2
section
namespace L2
theorem lp {α β:Type} {a:β} {f:α→β} {B:α→Prop} {v:α} (h:a=f v) (hb:B v):∃ v,a=f v∧B v:=⟨v,h,hb⟩
theorem lD {α β γ δ:Type} {a:γ} {b:δ} {f:α→γ} {g:β→δ} {B:α→β→Prop} {v:α} {w:β} (h:a=f v) (h':b=g w) (hb:B v w):∃ v w,a=f v∧b=g w∧B v w:=⟨v,w,h,h',hb⟩
theorem ex3 {A0 A1 A2:Type} {P:A0→A1→A2→Prop} (x0:A0) (x1:A1) (x2:A2) (h:P x0 x1 x2):∃ x0 x1 x2,P x0 x1 x2:=⟨x0,x1,x2,h⟩
theorem ex4 {A0 A1 A2 A3:Type} {P:A0→A1→A2→A3→Prop} (x0:A0) (x1:A1) (x2:A2) (x3:A3) (h:P x0 x1 x2 x3):∃ x0 x1 x2 x3,P x0 x1 x2 x3:=⟨x0,x1,x2,x3,h⟩
theorem ex5 {A0 A1 A2 A3 A4:Type} {P:A0→A1→A2→A3→A4→Prop} (x0:A0) (x1:A1) (x2:A2) (x3:A3) (x4:A4) (h:P x0 x1 x2 x3 x4):∃ x0 x1 x2 x3 x4,P x0 x1 x2 x3 x4:=⟨x0,x1,x2,x3,x4,h⟩
theorem ex6 {A0 A1 A2 A3 A4 A5:Type} {P:A0→A1→A2→A3→A4→A5→Prop} (x0:A0) (x1:A1) (x2:A2) (x3:A3) (x4:A4) (x5:A5) (h:P x0 x1 x2 x3 x4 x5):∃ x0 x1 x2 x3 x4 x5,P x0 x1 x2 x3 x4 x5:=⟨x0,x1,x2,x3,x4,x5,h⟩
theorem ex7 {A0 A1 A2 A3 A4 A5 A6:Type} {P:A0→A1→A2→A3→A4→A5→A6→Prop} (x0:A0) (x1:A1) (x2:A2) (x3:A3) (x4:A4) (x5:A5) (x6:A6) (h:P x0 x1 x2 x3 x4 x5 x6):∃ x0 x1 x2 x3 x4 x5 x6,P x0 x1 x2 x3 x4 x5 x6:=⟨x0,x1,x2,x3,x4,x5,x6,h⟩
theorem ex8 {A0 A1 A2 A3 A4 A5 A6 A7:Type} {P:A0→A1→A2→A3→A4→A5→A6→A7→Prop} (x0:A0) (x1:A1) (x2:A2) (x3:A3) (x4:A4) (x5:A5) (x6:A6) (x7:A7) (h:P x0 x1 x2 x3 x4 x5 x6 x7):∃ x0 x1 x2 x3 x4 x5 x6 x7,P x0 x1 x2 x3 x4 x5 x6 x7:=⟨x0,x1,x2,x3,x4,x5,x6,x7,h⟩
theorem ex9 {A0 A1 A2 A3 A4 A5 A6 A7 A8:Type} {P:A0→A1→A2→A3→A4→A5→A6→A7→A8→Prop} (x0:A0) (x1:A1) (x2:A2) (x3:A3) (x4:A4) (x5:A5) (x6:A6) (x7:A7) (x8:A8) (h:P x0 x1 x2 x3 x4 x5 x6 x7 x8):∃ x0 x1 x2 x3 x4 x5 x6 x7 x8,P x0 x1 x2 x3 x4 x5 x6 x7 x8:=⟨x0,x1,x2,x3,x4,x5,x6,x7,x8,h⟩
theorem zp6 {A0 A1 A2 A3 A4 A5 A6 A7 A8 A9 A10 A11 A12 A13 A14 A15 A16 A17:Type} {P:A0→A1→A2→A3→A4→A5→A6→A7→A8→A9→A10→A11→A12→A13→A14→A15→A16→A17→Prop} (x0:A0) (x1:A1) (x2:A2) (x3:A3) (x4:A4) (x5:A5) (x6:A6) (x7:A7) (x8:A8) (x9:A9) (Ds:A10) (Dt:A11) (Du:A12) (Dv:A13) (Dw:A14) (Dx:A15) (Dy:A16) (Dz:A17) (h:P x0 x1 x2 x3 x4 x5 x6 x7 x8 x9 Ds Dt Du Dv Dw Dx Dy Dz):∃ x0 x1 x2 x3 x4 x5 x6 x7 x8 x9 Ds Dt Du Dv Dw Dx Dy Dz,P x0 x1 x2 x3 x4 x5 x6 x7 x8 x9 Ds Dt Du Dv Dw Dx Dy Dz:=⟨x0,x1,x2,x3,x4,x5,x6,x7,x8,x9,Ds,Dt,Du,Dv,Dw,Dx,Dy,Dz,h⟩
end L2
end
section
namespace L2
open PySem PySem.Spec PyProof.Rows
def zal (cs:List (Str×Addr)):List (Str×NameKind)→List (Str×Addr)→List (Str×Addr)
 | [],acc=>acc
 | (n,k) :: r,acc=>if k == .free then zal cs r ((n,(cs.lookup n).getD 0) :: acc) else zal cs r acc
theorem zc0 {scope:Scope} {env:Env} (h:∀ y∈scope.names,y.2 = .free→∃ c,env.cells.lookup y.1=some c) :
  closureFor scope env=pure (zal env.cells scope.names []):=by
 have go:∀ (names:List (Str×NameKind)) (acc:List (Str×Addr)),(∀ y∈names,y.2 = .free→∃ c,env.cells.lookup y.1=some c) →
   (forIn names acc (fun (x:Str×NameKind) (cs:List (Str×Addr))=>(if (x.2 == cm)=true then do
    let a ← cellOf env x.1
    pure (cC ((x.1,a) :: cs)) else pure (cC cs):Sem (ForInStep (List (Str×Addr))))))=(pure (zal env.cells names acc):Sem _):=by
  intro names
  induction names with
  | nil=>intro acc _; rfl
  | cons y r ih =>
   intro acc hy
   obtain⟨n,k⟩:=y
   rw [eX]
   cases hk:(k == cm) with
   | true =>
    obtain⟨c,hc⟩:=hy (n,k) aH (by simpa using hk)
    have pU:cellOf env n=pure c:=by
     unfold cellOf
     have lH:env.cells.lookup n=some c:=hc
     rw [lH]
    simp only [hk,if_true,pU]
    have e:=ih ((n,c) :: acc) fun y Bk=>hy y (au _ Bk)
    have lH:env.cells.lookup n=some c:=hc
    simp only [zal,hk,if_true,lH,kr]
    exact e
   | false =>
    simp only [hk,bw,if_false]
    have e:=ih acc fun y Bk=>hy y (au _ Bk)
    simp only [zal,hk,bw,if_false]
    exact e
 have e:=go scope.names [] h
 unfold closureFor
 show (forIn scope.names [] _ >>= fun cs=>pure cs)=_
 first
  | (rw [e]; rfl)
  | (simp only []; rw [e]; rfl)
  | (have e':=e; simp at e' ⊢; exact e')
theorem zb5 {cs:List (Str×Addr)}:∀ (names:List (Str×NameKind)) (acc:List (Str×Addr)),
  (∀ y∈names,y.2 = .free→∃ c,cs.lookup y.1=some c)→(∀ x c,acc.lookup x=some c→cs.lookup x=some c) →
  ∀ x c,(zal cs names acc).lookup x=some c→cs.lookup x=some c
 | [],acc,_,h,x,c,e=>h x c e
 | (n,k) :: r,acc,hy,h,x,c,e=>by
  have hr:∀ y∈r,y.2 = .free→∃ c,cs.lookup y.1=some c:=fun y Bk=>hy y (au _ Bk)
  unfold zal at e
  cases hk:(k == cm) with
  | false =>
   rw [hk] at e
   exact zb5 r acc hr h x c e
  | true =>
   rw [hk] at e
   obtain⟨d,hd⟩:=hy (n,k) aH (by simpa using hk)
   have Ap:cs.lookup n=some d:=hd
   refine zb5 r _ hr (fun x c e'=>?_) x c e
   rw [Ap,kr,bh] at e'
   cases hx:(x == n) with
   | true =>
    rw [hx] at e'
    have:x=n:=by simpa using hx
    subst this
    rw [Ap]
    exact e'
   | false =>
    rw [hx] at e'
    exact h x c e'
theorem zcl {cs:List (Str×Addr)}:∀ (names:List (Str×NameKind)) (acc:List (Str×Addr)) (x:Str),
  ((∃ c,acc.lookup x=some c)∨(x,cm)∈names)→∃ c,(zal cs names acc).lookup x=some c
 | [],acc,x,h=>by
  rcases h with h | h
  ·exact h
  ·cases h
 | (n,k) :: r,acc,x,h=>by
  unfold zal
  cases hk:(k == cm) with
  | false =>
   refine zcl r acc x ?_
   rcases h with h | h
   ·exact .inl h
   ·rcases aI.mp h with h | h
    ·cases h
     exact absurd hk (by decide)
    ·exact .inr h
  | true =>
   refine zcl r _ x ?_
   cases hx:(x == n) with
   | true=>exact .inl ⟨_,by rw [bh,hx]⟩
   | false =>
    rcases h with ⟨c,h⟩ | h
    ·exact .inl ⟨c,by rw [bh,hx]; exact h⟩
    ·rcases aI.mp h with h | h
     ·cases h
      simp at hx
     ·exact .inr h
theorem lookup_mem {α:Type}:∀ {l:List (Str×α)} {x:Str} {k:α},l.lookup x=some k→(x,k)∈l
 | [],x,k,h=>by simp at h
 | (n,j) :: r,x,k,h=>by
  rw [bh] at h
  cases hx:(x == n) with
  | true =>
   rw [hx] at h
   have:x=n:=by simpa using hx
   subst this
   cases h
   exact aH
  | false =>
   rw [hx] at h
   exact au _ (lookup_mem h)
theorem zbG {env:Env}:∀ {names:List (Str×NameKind)} {x:Str},names.lookup x=some .free →
  (names.map fun (n,k)=>if (k == cm && env.scope.kind == .function && env.kindOf n == some .cell) then (n,c8) else (n,k)).lookup x=some .cell ∨
  (names.map fun (n,k)=>if (k == cm && env.scope.kind == .function && env.kindOf n == some .cell) then (n,c8) else (n,k)).lookup x=some .free
 | [],_,h=>by simp at h
 | (n,k) :: r,x,h=>by
  have ih:=@zbG env r x
  simp only [aZ]
  cases hx:x == n with
  | true =>
   simp only [bh,hx] at h; cases h
   by_cases hc:(cm == cm && env.scope.kind == .function && env.kindOf n == some .cell)=true
   ·rw [if_pos hc]; left; simp only [bh,hx]
   ·rw [if_neg hc]; right; simp only [bh,hx]
  | false =>
   simp only [bh,hx] at h; rcases jX ((k == cm && env.scope.kind == .function && env.kindOf n == some .cell)=true) with hc | hc
   ·exact (by rw [if_pos hc]; simp only [bh,hx]; exact ih h)
   ·exact (by rw [if_neg hc]; simp only [bh,hx]; exact ih h)
theorem zdm {env:Env}:∀ {names:List (Str×NameKind)} {x:Str},
  ((names.map fun (n,k)=>if (k == cm && env.scope.kind == .function && env.kindOf n == some .cell) then (n,c8) else (n,k)).lookup x=some .cell ∨
  (names.map fun (n,k)=>if (k == cm && env.scope.kind == .function && env.kindOf n == some .cell) then (n,c8) else (n,k)).lookup x=some .free) →
  names.lookup x=some .free∨names.lookup x=some .cell
 | [],_,h=>by simp at h
 | (n,k) :: r,x,h=>by
  have ih:=@zdm env r x
  simp only [aZ] at h
  cases hx:x == n with
  | true =>
   rcases jX ((k == cm && env.scope.kind == .function && env.kindOf n == some .cell)=true) with hc | hc
   ·have hk:k = .free:=by
     simp only [fz] at hc; simpa using hc.1.1
    subst hk
    exact .inl (by simp only [bh,hx])
   ·rw [if_neg hc] at h
    simp only [bh,hx] at h ⊢
    rcases h with h | h
    ·exact .inr h
    ·exact .inl h
  | false =>
   rcases jX ((k == cm && env.scope.kind == .function && env.kindOf n == some .cell)=true) with hc | hc
   ·rw [if_pos hc] at h
    simp only [bh,hx] at h ⊢
    exact ih h
   ·rw [if_neg hc] at h
    simp only [bh,hx] at h ⊢
    exact ih h
end L2
end
section
namespace L2
open PySem PySem.Spec PyProof.Rows
theorem zgk:∀ (names:List (Str×NameKind)) (n:Nat) (acc:List (Str×Addr)) (x:Str),(x,c8)∉names→(cellsFrom n names acc).lookup x=acc.lookup x
 | [],_,_,_,_=>rfl
 | (y,k) :: r,n,acc,x,h=>by
  have hr:(x,c8)∉r:=fun z=>h (au _ z)
  unfold cellsFrom
  split
  ·rename_i hk
   have uF:k = .cell:=by simpa using hk
   rw [zgk r _ _ x hr,bh]
   cases hx:(x == y) with
   | true =>
    have:x=y:=by simpa using hx
    subst this
    subst uF
    exact absurd aH h
   | false=>rfl
  ·exact zgk r _ _ x hr
theorem zgl:∀ (names:List (Str×NameKind)) (n:Nat) (acc:List (Str×Addr)) (x:Str),(x,c8)∈names→∃ c,(cellsFrom n names acc).lookup x=some c∧n≤c
 | (y,k) :: r,n,acc,x,h=>by
  by_cases hr:(x,c8)∈r
  ·unfold cellsFrom
   split
   ·obtain⟨c,e,l⟩:=zgl r (n+1) ((y,n) :: acc) x hr
    exact⟨c,e,by lia⟩
   ·exact zgl r n acc x hr
  ·rcases aI.mp h with e | e
   ·cases e
    unfold cellsFrom
    rw [if_pos (by decide),zgk r _ _ _ hr,bh,beq_self_eq_true]
    exact⟨n,rfl,af _⟩
   ·exact absurd e hr
structure CO (h:Heap) (lo:Nat) (old cs:List (Str×Addr)):Prop where
 each:∀ x c,cs.lookup x=some c→(h.IsCell c none∧lo≤c)∨(old.lookup x=some c∧c < lo)
 inj:∀ x y c,cs.lookup x=some c→cs.lookup y=some c→x=y
theorem zli {lo:Nat} {old:List (Str×Addr)}:∀ (names:List (Str×NameKind)) (h:Heap) (acc:List (Str×Addr)),CO h lo old acc→lo≤h.objs.size→CO (pushCells h names) lo old (cellsFrom h.objs.size names acc)
 | [],_,_,a,_=>a
 | (y,k) :: r,h,acc,a,hl=>by
  unfold pushCells cellsFrom
  split
  ·have lt:∀ x c,acc.lookup x=some c→c < h.objs.size:=fun x c e=>(a.each x c e).elim (fun z=>z.1.lt) fun z=>bp z.2 hl
   have key:∀ x c,jc x ((y,h.objs.size) :: acc)=some c→(x=y∧c=h.objs.size)∨acc.lookup x=some c:=fun x c e=>by
    rw [bh] at e
    cases hx:(x == y) with
    | true =>
     rw [hx] at e
     exact .inl ⟨by simpa using hx,(aT e).symm⟩
    | false =>
     rw [hx] at e
     exact .inr e
   have:=zli (lo:=lo) (old:=old) r (h.push { cls:=.type "cell",data:=.cell none }) ((y,h.objs.size) :: acc) ⟨fun x c e=>?_,fun x z c e1 e2=>?_⟩ (by rw [bT]; lia)
   ·rw [bT] at this
    exact this
   ·rcases key x c e with ⟨_,rfl⟩ | e
    ·exact .inl ⟨⟨_,aO _ rfl,rfl⟩,hl⟩
    ·rcases a.each x c e with z | z
     ·exact .inl ⟨z.1.keeps fun b o e=>aj _ e,z.2⟩
     ·exact .inr z
   ·rcases key x c e1 with ⟨p1,q1⟩ | f1 <;> rcases key z c e2 with ⟨p2,q2⟩ | f2
    ·exact p1.trans p2.symm
    ·exact absurd (lt _ _ f2) (by rw [q1]; exact cG _)
    ·exact absurd (lt _ _ f1) (by rw [q2]; exact cG _)
    ·exact a.inj x z c f1 f2
  ·exact zli r h acc a hl
theorem zkj {M:Model} {A:Around} {E:Value→Shared→Prop} {s:Shared} {scope:Scope} {globals:Addr} {closure:List (Str×Addr)} {qual:Str} {env:Env} {Q:Env→Shared→Prop}
  (h:Q (newEnv scope s.heap.objs.size globals (cellsFrom (s.heap.objs.size+1) scope.names closure) qual none .none (some env) builtinsNs) { s with heap:=pushCells (s.heap.push { cls:=.type "dict",data:=.dict #[] }) scope.names }) :
  wpAny M A (newFunctionEnv scope globals closure [] qual none .none (some env)) Q E s:=by
 (simp only [newFunctionEnv,jY,if_true])
 (refine ae (wpAny_alloc ?_))
 (refine ae (wpAny_layCells _ (fun name kind cells=>by cases EI:kind == c8 <;> simp [EI]) _ _ _ _ ?_))
 rw [show ({ s with heap:=s.heap.push { cls:=.type "dict",data:=.dict #[] } }:Shared).heap.objs.size=s.heap.objs.size+1 from bT ..]
 (exact ae (ak (ak h)))
abbrev zM (X:Cx) (N':List Str) (scope:Scope) (s₃:Shared) (H₃:Hp) (ex:List Addr) (lj:List (Addr×Obj)):Cx :=
 { X with N:=N',s₀:=s₃,H₀:=H₃,env:=compEnvC scope (cellsFrom (s₃.heap.objs.size+1) scope.names (zal X.env.cells scope.names [])) s₃.heap.objs.size X.env,outer:=X.stack,stack:=X.stack,ex:=ex,fn:=fun x=>scope.names.lookup x == some .cell,pn:=X.pn++lj,xe:=fun _ _=>False }
def ziz (ifs:List Expr) (env:Env):Sem Bool :=
 forIn ifs true fun c r=>if r=true then do let ok ← isTrue c env (eval c env); pure (cC ok) else pure (cC r)
def zdn (X:Cx) (ifs:List Expr) (t:TT):Prop :=
 ∀ (lj:List (Addr×Obj)) (s:Shared) (σ:St) (H:Hp) (Q:Bool→Hp→Prop),Inv X lj σ H s→t σ H Q→wpAny (model X.prog X.w) X.A (ziz ifs X.env) (TP X lj σ Q) X.xe s
def zni:TT:=fun _ H Q=>Q true H
theorem zw {X:Cx}:zdn X [] zni:=fun _ _ _ H _ I h=>ak ⟨H,I,h⟩
theorem zbP {X:Cx} {c:Expr} {t:TT} (h:PT X c t):zdn X [c] t:=by
 intro lj s σ H Q I hw
 unfold ziz
 rw [eX]
 simp only [if_true]
 exact ae (ae (thn (h lj s σ H _ I hw) fun b s1 q=>ak (ak q)))
structure CompSc (X:Cx) (N':List Str) (ix:List (Option Nat)) (scope:Scope):Prop where
 kind:scope.kind = .function
 cells:∀ y∈scope.names,y.2 = .cell→scope.names.lookup y.1=some .cell
 names:∀ y∈scope.names,y.2 = .local→scope.names.lookup y.1=some .local
 free:∀ y∈scope.names,y.2 = .free→X.env.kindOf y.1=some .cell∨X.env.kindOf y.1=some .free
 len:N'.length=ix.length
 cap:∀ j i:Nat,ix[j]? = some (some i)→∃ x,N'[j]? = some x∧X.N[i]? = some x∧scope.names.lookup x=some .free
def zjg (As:Scope) (oN N':List Str) (ix:List (Option Nat)) (scope:Scope):Bool :=
 (scope.kind == .function) && (scope.names.all fun y=>y.2 != .cell || scope.names.lookup y.1 == some .cell) && (scope.names.all fun y=>y.2 != .local || scope.names.lookup y.1 == some .local) &&
 (scope.names.all fun y=>y.2 != .free || (As.names.lookup y.1 == some .cell || As.names.lookup y.1 == some .free)) && (N'.length == ix.length) &&
 ((aJ ix.length).all fun j=>match ix[j]? with
  | some (some i)=>(match N'[j]? with
   | some x=>oN[i]? == some x && scope.names.lookup x == some .free
   | none=>false)
  | _=>true)
theorem CompSc.of {X:Cx} {N':List Str} {ix:List (Option Nat)} {scope:Scope} (As:Scope) (oN:List Str) (h1:X.env.scope=As) (h2:X.N=oN) (hb:zjg As oN N' ix scope=true):CompSc X N' ix scope:=by
 unfold zjg at hb
 simp only [fz,fB] at hb
 obtain⟨⟨⟨⟨⟨a,b⟩,c⟩,d⟩,e⟩,f⟩:=hb
 refine⟨?_,fun y hy hl=>?_,fun y hy hl=>?_,fun y hy hf=>?_,by simpa using e,fun j i hj=>?_⟩
 ·revert a
  cases scope.kind <;> first | (intro _; rfl) | (intro h; exact absurd h (by decide))
 ·have:=b y hy
  rw [hl] at this
  simpa using this
 ·have:=c y hy
  rw [hl] at this
  simpa using this
 ·have:=d y hy
  rw [hf] at this
  have e1:X.env.kindOf y.1=As.names.lookup y.1:=by rw [← h1]; rfl
  rw [e1]
  simpa using this
 ·have lT:j < ix.length:=(aD.mp hj).1
  have:=f j (bv.mpr lT)
  rw [hj] at this
  cases hN:N'[j]? with
  | none =>
   rw [hN] at this
   simp at this
  | some x =>
   rw [hN] at this
   refine⟨x,rfl,?_⟩
   rw [h2]
   simpa using this
def zdo (ix:List (Option Nat)) (σ:St):St:=ix.map fun o=>match o with
 | none=>none
 | some i=>(σ[i]?).join
theorem Inv.track {X:Cx} {lj:List (Addr×Obj)} {σ:St} {H:Hp} {s:Shared} {D:Addr} {o:HO} (I:Inv X lj σ H s) (hn:H D=none) (hs:X.s₀.heap.objs.size≤D) (hL:X.env.locals≠D)
  (hC:∀ x c,X.env.cells.lookup x=some c→c≠D) (hp:∀ p∈X.pn++lj,p.1≠D) (ok:zax X.prog X.w (lu H D o) s.heap D o):Inv X lj σ (lu H D o) s:=by
 have ne:∀ b u,H b=some u→b≠D:=fun b u e=>zB e hn
 refine⟨I.ok,I.os,I.bare,⟨I.base.keep,I.base.slot,fun b u e n hx=>?_,I.base.there,fun b xs e=>?_,fun b u xs e=>?_,fun b ps e=>?_⟩,I.loc,I.cell,?_,fun x c e=>?_,fun p qL=>?_,fun b u e=>?_,I.len⟩
 ·have:b≠D:=bz (bp (aK e) hs)
  rw [zr this]
  exact I.base.free b u e n hx
 ·have:=I.base.tups b xs e
  rw [zr (ne b _ this)]
  exact this
 ·have:=I.base.frzs b u xs e
  rw [zr (ne b _ this)]
  exact this
 ·obtain⟨more,q⟩:=I.base.tbls b ps e
  exact⟨more,by rw [zr (ne b _ q)]; exact q⟩
 ·rw [zr hL]
  exact I.free
 ·rw [zr (hC x c e)]
  exact I.freeC x c e
 ·obtain⟨a1,a2,a3⟩:=I.pin p qL
  exact⟨a1,by rw [zr (hp p qL)]; exact a2,a3⟩
 ·by_cases hb:b=D
  ·subst hb
   rw [zc] at e
   cases e
   exact ok
  ·rw [zr hb] at e
   exact (I.hok b u e).stay (fun c v _ q=>q) (fun c q=>by rw [zr (ne c _ q)]; exact q) fun c xs q=>by rw [zr (ne c _ q)]; exact q
def cGo (g:TG) (ts:TT) (te:TE) (σ0:St) (J:It) (Q:VK) (H1:Hp):Prop :=
 ∃ W:Nat→Nat→List V→Hp→Prop,(∃ m,W 0 m [] H1)∧∀ i m ys H,W i m ys H →
  (J.stop i H∧∀ D,H D=none→Q (.ref D) (lu H D (.lst ys))) ∨
  (J.go i H∧∃ N:List V→Hp→Prop,(∀ sx H',N sx H'→∃ m',m' < m∧W (i+1) m' sx H')∧∀ x H',J.yld i H x H'→g x σ0 H' fun σ2 H2=>ts σ2 H2 fun b H3 =>
   if b=true then te σ2 H3 fun y H4=>ys.length < sizeLine∧N (ys++[y]) H4 else N ys H3)
def zot (ix:List (Option Nat)) (wi:TI) (g:TG) (ts:TT) (te:TE):TE:=fun σ H Q=>wi σ H fun J H1=>cGo g ts te (zdo ix σ) J Q H1
theorem zR {J:It} {n:Nat} {g:TG} {ts:TT} {te:TE} {σ0:St} {Q:VK} {H:Hp} (Pv:Nat→List V→Hp→Prop) (h0:Pv 0 [] H) (Bl:∀ i ys H,i < n→Pv i ys H→J.go i H) (sW:∀ ys H,Pv n ys H→J.stop n H)
  (hs:∀ i x ys H H',i < n→Pv i ys H→J.yld i H x H'→g x σ0 H' fun σ2 H2=>ts σ2 H2 fun b H3=>if b=true then te σ2 H3 fun y H4=>ys.length < sizeLine∧Pv (i+1) (ys++[y]) H4 else Pv (i+1) ys H3)
  (hd:∀ ys H D,Pv n ys H→H D=none→Q (.ref D) (lu H D (.lst ys))):cGo g ts te σ0 J Q H:=by
 refine⟨fun i m ys H=>m=n - i∧i≤n∧Pv i ys H,⟨n,by simp,bj _,h0⟩,?_⟩
 rintro i m ys H ⟨rfl,hi,p⟩
 by_cases lT:i < n
 ·exact .inr ⟨Bl i ys H lT p,Pv (i+1),fun sx H' p'=>⟨n - (i+1),by lia,rfl,lT,p'⟩,fun x H' y=>hs i x ys H H' lT p y⟩
 ·have e:i=n:=by lia
  subst e
  exact .inl ⟨sW ys H p,fun D hD=>hd ys H D p hD⟩
theorem zgm {J:It} {n:Nat} {g:TG} {tb:TS} {D:Ends} {σ:St} {H:Hp} (Pv:Nat→St→Hp→Prop) (h0:Pv 0 σ H) (Bl:∀ i σ H,i < n→Pv i σ H→J.go i H) (sW:∀ σ H,Pv n σ H→J.stop n H)
  (hs:∀ i x σ H H',i < n→Pv i σ H→J.yld i H x H'→g x σ H' fun σ2 H2=>tb { D with nx:=Pv (i+1),ct:=Pv (i+1),bk:=D.nx } σ2 H2) (hd:∀ σ H,Pv n σ H→D.nx σ H) :
  ∃ W:Nat→Nat→St→Hp→Prop,(∃ m,W 0 m σ H)∧∀ i m σ H,W i m σ H →
   (J.stop i H∧D.nx σ H)∨(J.go i H∧∃ N:St→Hp→Prop,(∀ σ' H',N σ' H'→∃ m',m' < m∧W (i+1) m' σ' H')∧∀ x H',J.yld i H x H'→g x σ H' fun σ2 H2=>tb { D with nx:=N,ct:=N,bk:=D.nx } σ2 H2):=by
 refine⟨fun i m σ H=>m=n - i∧i≤n∧Pv i σ H,⟨n,by simp,bj _,h0⟩,?_⟩
 rintro i m σ H ⟨rfl,hi,p⟩
 by_cases lT:i < n
 ·exact .inr ⟨Bl i σ H lT p,Pv (i+1),fun σ' H' p'=>⟨n - (i+1),by lia,rfl,lT,p'⟩,fun x H' y=>hs i x σ H H' lT p y⟩
 ·have e:i=n:=by lia
  subst e
  exact .inl ⟨sW σ H p,hd σ H p⟩
end L2
end
section
namespace L2
open PySem PySem.Spec PyProof.Rows
abbrev TM:=List V→St→Hp→(List V→Hp→Prop)→Prop
abbrev zd5 (lx:List Value) (nn:Nat):Obj:={ cls:=.type "list",data:=.seq lx.toArray nn }
structure AccAt (Y:Cx) (lj:List (Addr×Obj)) (H:Hp) (s:Shared) (D:Addr) (ys:List V) (lx:List Value) (nn:Nat):Prop where
 fp:zb3 Y lj H D
 here:s.heap.get? D=some (zd5 lx nn)
 vals:zT ys lx
 len:ys.length≤sizeLine
def zgn (js:List Nat) (σ:St):Prop:=∀ j∈js,∀ v,σ[j]?≠some (some v)
def Kp (js:List Nat) (σ σ2:St):Prop:=σ2.length=σ.length∧∀ j,j∉js→σ2[j]? = σ[j]?
theorem Kp.refl {js:List Nat} {σ:St}:Kp js σ σ:=⟨rfl,fun _ _=>rfl⟩
theorem Kp.set {js:List Nat} {σ σ2:St} {i:Nat} {v:Option V} (hi:i∈js) (h:Kp js σ σ2):Kp js σ (σ2.set i v):=by
 refine⟨by rw [iX]; exact h.1,fun j hj=>?_⟩
 rw [et (fun z=>hj (by rw [← z]; exact hi))]
 exact h.2 j hj
def GS (js:List Nat) (g:TG):Prop:=∀ (σ σ1:St) (x:V) (H:Hp) (Q:St→Hp→Prop),Kp js σ σ1→g x σ1 H Q→g x σ1 H fun σ2 H2=>Kp js σ σ2∧Q σ2 H2
def GSs (js:List Nat) (g:TGs):Prop:=∀ (σ σ1:St) (xs:List V) (H:Hp) (Q:St→Hp→Prop),Kp js σ σ1→g xs σ1 H Q→g xs σ1 H fun σ2 H2=>Kp js σ σ2∧Q σ2 H2
theorem zcI {js:List Nat} {i:Nat} (hi:i∈js):GS js (zaX i):=fun σ σ1 x H Q hw h=>⟨hw.set hi,h⟩
theorem zjh {js:List Nat}:GSs js zio:=fun σ σ1 xs H Q hw h=>⟨h.1,hw,h.2⟩
theorem zeH {js:List Nat} {i:Nat} {u:TGs} (hi:i∈js) (h2:GSs js u):GSs js (zb9 (zaX i) u):=fun σ σ1 xs H Q hw h=>by
 obtain⟨v,r,e,h⟩:=h
 exact⟨v,r,e,h2 σ _ r H Q (hw.set hi) h⟩
theorem zlj {js:List Nat} {K:ag} {n:Nat} {t:TGs} (h:GSs js t):GS js (zhh K n t):=fun σ σ1 x H Q hw hg=>by
 obtain⟨a,xs,e,hq,hl,hg⟩:=hg
 exact⟨a,xs,e,hq,hl,h σ σ1 xs H Q hw hg⟩
theorem Inv.fewer {X:Cx} {lj pT:List (Addr×Obj)} {σ:St} {H:Hp} {s:Shared} (I:Inv X lj σ H s) (h:∀ p∈pT,p∈lj):Inv X pT σ H s :=
 I.pins_of fun p hp=>I.pin p (aL _ (h p hp))
section
variable {Y:Cx} {lj:List (Addr×Obj)} {σ:St} {H:Hp} {s:Shared} {D:Addr} {ys:List V} {lx:List Value} {nn:Nat}
theorem AccAt.pin (a:AccAt Y lj H s D ys lx nn) (I:Inv Y lj σ H s):Inv Y (lj++[(D,zd5 lx nn)]) σ H s :=
 I.pins_of fun p hp=>by
  rcases (bf.mp hp) with hp | hp
  ·exact I.pin p (aL _ hp)
  ·obtain rfl:p=(D,zd5 lx nn):=by simpa using hp
   obtain⟨a0,a1,a2,_⟩:=a.fp
   exact⟨a.here,a0,a1,a2,fun v z=>by cases z⟩
theorem AccAt.back {pT:List (Addr×Obj)} {σ':St} {H':Hp} {s':Shared} (a:AccAt Y lj H s D ys lx nn) (I:Inv Y pT σ' H' s') (hm:(D,zd5 lx nn)∈pT):AccAt Y lj H' s' D ys lx nn:=by
 have p:=I.pin (D,zd5 lx nn) (aL _ hm)
 exact⟨⟨p.2.1,a.fp.2⟩,p.1,a.vals,a.len⟩
end
def PM (Y:Cx) (D:Addr) (js:List Nat) (mk:Sem Fin→Sem Fin) (tm:TM):Prop :=
 ∀ (last:Sem Fin) (lj:List (Addr×Obj)) (s:Shared) (σ:St) (H:Hp) (ys:List V) (lx:List Value) (nn:Nat) (Q:List V→Hp→Prop) (Φ:Fin→Shared→Prop),Inv Y lj σ H s→AccAt Y lj H s D ys lx nn→zgn js σ→tm ys σ H Q →
  (∀ (s':Shared) (sx:List V) (its':List Value) (yn:Nat) (H':Hp),Inv Y lj σ H' s'→AccAt Y lj H' s' D sx its' yn→Q sx H'→wpAny (model Y.prog Y.w) Y.A last Φ (fun _ _=>False) s') →
  wpAny (model Y.prog Y.w) Y.A (mk last) Φ (fun _ _=>False) s
def zfT (elt:Expr) (acc:Value) (env:Env) (last:Sem Fin):Sem Fin:=(eval elt env >>= fun x=>call (.builtin "list.append") [acc,x] >>= fun _=>pure ()) >>= fun _=>last
def zji (e iter:Expr) (d:Nat) (acc:Value) (env:Env) (last:Sem Fin):Sem Fin :=
 eval iter env >>= fun x=>standAt iter.pos >>= fun _=>foldedSetIterable iter env x >>= fun x=>holding [x] (pyIter x) >>= fun yh=>runOwn (.compStart e d yh acc env) env >>= fun _=>last
def zjj (te:TE):TM:=fun ys σ H Q=>te σ H fun y H4=>ys.length < sizeLine∧Q (ys++[y]) H4
def cIn (g:TG) (ts:TT) (tm:TM) (σ:St) (J:It) (Q:List V→Hp→Prop) (ys:List V) (H1:Hp):Prop :=
 ∃ W:Nat→Nat→List V→Hp→Prop,(∃ m,W 0 m ys H1)∧∀ i m ys H,W i m ys H →
  (J.stop i H∧Q ys H) ∨
  (J.go i H∧∃ N:List V→Hp→Prop,(∀ sx H',N sx H'→∃ m',m' < m∧W (i+1) m' sx H')∧∀ x H',J.yld i H x H'→g x σ H' fun σ2 H2=>ts σ2 H2 fun b H3 =>
   if b=true then tm ys σ2 H3 N else N ys H3)
def zjk (wi:TI) (g:TG) (ts:TT) (tm:TM):TM:=fun ys σ H Q=>wi σ H fun J H1=>cIn g ts tm σ J Q ys H1
def zgo (ix:List (Option Nat)) (wi:TI) (g:TG) (ts:TT) (tm:TM):TE:=fun σ H Q=>wi σ H fun J H1=>cIn g ts tm (zdo ix σ) J (fun ys H'=>∀ D,H' D=none→Q (.ref D) (lu H' D (.lst ys))) [] H1
theorem thx {α:Type} {X:Cx} {m:Sem α} {P Q:α→Shared→Prop} {E:Value→Shared→Prop} {s:Shared} (hx:X.xe=fun _ _=>False) (h:wpAny (model X.prog X.w) X.A m P X.xe s) (k:∀ a s',P a s'→Q a s'):wpAny (model X.prog X.w) X.A m Q E s :=
 c7 h k fun _ _ z=>by rw [hx] at z; exact z.elim
theorem ziA {Y:Cx} {D:Addr} {elt:Expr} {te:TE} (hx:Y.xe=fun _ _=>False) (he:PE Y elt te):PM Y D [] (zfT elt (.ref D) Y.env) (zjj te):=by
 intro last lj s σ H ys lx nn Q Φ I a no h k
 unfold zfT
 refine ae (ae (thx hx (he (lj++[(D,zd5 lx nn)]) s σ H _ (a.pin I) h) fun yv s1 ⟨y,H1,I1,r1,hz,q1⟩=>ae ?_))
 have a1:=a.back I1 (aL _ aH)
 have J1:Inv Y lj σ H1 s1:=I1.fewer fun p hp=>aW _ hp
 have tf:=a1.vals.length
 refine dR jW ⟨_,a1.here,rfl⟩ jI (ju _ _) (j5 D lx.toArray nn yv (by rw [ar]; lia)) ⟨a1.here,?_⟩
 refine ak ?_
 have q:=ko a1.here (·.push yv)
 have k10:∀ b o,b≠D→s1.heap.get? b=some o→(s1.heap.update D (dz (·.push yv))).get? b=some o:=fun b o hb e=>(gi s1.heap (dz (·.push yv)) (eE hb)).trans e
 obtain⟨b0,b1,b2,b3,b4,b5⟩:=a1.fp
 have I11:Inv Y lj σ H1 { s1 with heap:=s1.heap.update D (dz (·.push yv)) }:=J1.turned (t':=s1.toks) k10 b0 b1 b3 b4 b5
 have e1:lx.toArray.push yv=(lx++[yv]).toArray:=by simp
 rw [e1] at q
 refine k _ (ys++[y]) (lx++[yv]) _ H1 I11 ⟨a1.fp,q,a1.vals.append (.cons r1 .nil),?_⟩ q1
 rw [aq,fh]
 lia
section
variable {Y:Cx} {D:Addr} {js js':List Nat} {elt:Expr} {gens:List Comprehension} {scope:Scope} {pos:Pos} {d:Nat} {tg:Expr} {ifs:List Expr} {p:Pos} {mk:Sem Fin→Sem Fin} {g:TG} {ts:TT} {tm:TM}
def zcm (tg:Expr) (ifs:List Expr) (p:Pos) (mk:Sem Fin→Sem Fin) (c:Code) (it:Value) (env:Env):Sem Fin :=
 standAt p >>= fun _=>pyNext it >>= fun r=>match r with
  | none=>pure (.done .next)
  | some v=>letOwnedTupleGo tg it v >>= fun _=>assign tg env v >>= fun _=>ziz ifs env >>= fun ok=>if ok=true then mk (again c) else again c
theorem zjl (hc:Y.calm=true) (hx:Y.xe=fun _ _=>False) (wQ:GS js g) (pA:∀ j∈js,j∉js') (hg:PG Y tg g) (ht:zdn Y ifs ts) (hm:PM Y D js' mk tm)
  (pd:∀ it,compTurn (.ListComp elt gens scope pos) d it (.ref D) Y.env=zcm tg ifs p mk (.compLoop (.ListComp elt gens scope pos) d it (.ref D) Y.env) it Y.env)
  {lj:List (Addr×Obj)} {σ:St} {H2:Hp} {s2:Shared} {it:Addr} {fp:List Addr} {tn:Nat→Heap→Prop} {J:It} {Q:List V→Hp→Prop} {R:Result→Shared→Prop} {ys:List V} {lx:List Value} {nn:Nat}
  (I2:Inv Y lj σ H2 s2) (a2:AccAt Y lj H2 s2 D ys lx nn) (no:zgn (js++js') σ) (T:Turn Y.prog Y.w Y.K tg J fp it tn) (mG:tn 0 s2.heap) (f2:∀ b∈fp,zb3 Y lj H2 b) (fD:∀ b∈fp,b≠D) (q:cIn g ts tm σ J Q ys H2)
  (hR:∀ (s':Shared) (sx:List V) (its':List Value) (yn:Nat) (H':Hp),Inv Y lj σ H' s'→AccAt Y lj H' s' D sx its' yn→Q sx H'→R (.ok .next) s') :
  codeAny (model Y.prog Y.w) Y.A (.compLoop (.ListComp elt gens scope pos) d (.ref it) (.ref D) Y.env) R s2:=by
 obtain⟨W,⟨m0,w0⟩,turn⟩:=q
 have Au:∀ {H':Hp} {lx:List Value} {nn:Nat},(∀ b∈fp,H' b=none)→∀ b∈fp,zb3 Y (lj++[(D,zd5 lx nn)]) H' b:=fun {H' lx nn} hn b hb=>by
  obtain⟨_,a1,a2,a3,a4,a5⟩:=f2 b hb
  refine⟨hn b hb,a1,a2,a3,a4,fun p hp=>?_⟩
  rcases (bf.mp hp) with hp | hp
  ·exact a5 p (aW _ hp)
  ·rcases (bf.mp hp) with hp | hp
   ·exact a5 p (aL _ hp)
   ·obtain rfl:p=(D,zd5 lx nn):=by simpa using hp
    exact (fD b hb).symm
 refine codeAny_loop rfl (fun n s'=>∃ i ys H' lx nn,Inv Y lj σ H' s'∧tn i s'.heap∧(∀ b∈fp,H' b=none)∧AccAt Y lj H' s' D ys lx nn∧W i n ys H') ?_ m0
  ⟨0,ys,H2,lx,nn,I2,mG,fun b hb=>(f2 b hb).1,a2,w0⟩
 rintro n s5 ⟨i,ys,H5,lx,nn,I5,Aq,Dm,a5,w5⟩
 show wpAny _ Y.A ((compTurn (.ListComp elt gens scope pos) d (.ref it) (.ref D) Y.env).onRaise (fun x=>do noteFrame x Y.env; theTreesLotGoes x)) _ _ s5
 refine wpAny_noted ?_
 rw [pd]
 unfold zcm
 have I5p:=a5.pin I5
 (refine ae (fF (ae ?_)))
 rcases turn i n ys H5 w5 with ⟨stop,qn⟩ | ⟨go,N,hN,step⟩
 ·refine c7 (T.done Y rfl rfl rfl hc i _ s5 _ H5 (fun _ _=>False) I5p (Au Dm) Aq stop) (fun r s6 ⟨hr,I6⟩=>?_) fun _ _ z=>z.elim
  subst hr
  exact ak (hR s6 ys lx nn H5 (I6.fewer fun p hp=>aW _ hp) (a5.back I6 (aL _ aH)) qn)
 ·refine c7 (T.item Y rfl rfl rfl hc i _ s5 _ H5 (fun _ _=>False) I5p (Au Dm) Aq go) (fun r s6 ⟨u,hr,h6⟩=>?_) fun _ _ z=>z.elim
  subst hr
  refine ae (c7 h6 (fun _ s7 ⟨x,H7,I7,r7,y7,EJ,fr7⟩=>?_) fun _ _ z=>z.elim)
  have I7':=I7.pinned (Au fr7) (T.obj _ _ EJ)
  refine ae (thx hx (hg _ s7 _ H7 x u _ I7' r7 (wQ σ σ x H7 _ Kp.refl (step x H7 y7))) fun _ s8 ⟨σ8,H8,I8,kp,q8⟩=>?_)
  refine ae (thx hx (ht _ s8 σ8 H8 _ I8 q8) fun ok s9 ⟨H9,I9,q9⟩=>?_)
  have mD:(D,zd5 lx nn)∈(lj++[(D,zd5 lx nn)])++zcy fp s7.heap:=aW _ (aL _ aH)
  have a9:=a5.back I9 mD
  have K9:Inv Y (lj++zcy fp s7.heap) σ8 H9 s9:=I9.fewer fun p hp=>(bf.mp hp).elim (fun z=>aW _ (aW _ z)) fun z=>aL _ z
  have wk:∀ (j:Nat) v,σ[j]? = some (some v)→σ8[j]? = some (some v):=fun j v e=>by
   have hj:j∉js:=fun z=>no j (aW _ z) v e
   rw [kp.2 j hj]
   exact e
  have back:∀ {H':Hp} {s':Shared},Inv Y (lj++zcy fp s7.heap) σ8 H' s'→Inv Y lj σ H' s'∧tn (i+1) s'.heap∧∀ b∈fp,H' b=none:=fun {H' s'} I'=>by
   refine⟨(I'.fewer fun p hp=>aW _ hp).weak kp.1.symm wk,T.keep _ _ _ EJ fun b hb o e=>(I'.pin (b,o) (aL _ (aL _ (zcj hb e)))).1,fun b hb=>?_⟩
   obtain⟨o,e,d⟩:=T.obj _ _ EJ b hb
   exact (I'.pin (b,o) (aL _ (aL _ (zcj hb e)))).2.1
  cases ok with
  | false =>
   rw [if_neg aR] at q9 ⊢
   obtain⟨m',Bm,w9⟩:=hN _ _ q9
   obtain⟨b1,b2,b3⟩:=back K9
   exact ak ⟨rfl,m',Bm,i+1,ys,H9,lx,nn,b1,b2,b3,a9,w9⟩
  | true =>
   rw [if_pos rfl] at q9 ⊢
   have a9':AccAt Y (lj++zcy fp s7.heap) H9 s9 D ys lx nn:=by
    obtain⟨b0,b1,b2,b3,b4,b5⟩:=a9.fp
    refine⟨⟨b0,b1,b2,b3,b4,fun p hp=>?_⟩,a9.here,a9.vals,a9.len⟩
    rcases (bf.mp hp) with hp | hp
    ·exact b5 p (aW _ hp)
    ·rcases (bf.mp hp) with hp | hp
     ·exact b5 p (aL _ hp)
     ·exact fD _ (zfK hp).1
   have no':zgn js' σ8:=fun j hj v e=>by
    have pV:j∉js:=fun z=>pA j z hj
    rw [kp.2 j pV] at e
    exact no j (aL _ hj) v e
   refine c7 (hm (again _) _ s9 σ8 H9 ys lx nn N (fun fin s'=>match fin with | .done f=>R (.ok f) s' | .again c'=>c'=_∧∃ m,m < n∧_) K9 a9' no' q9 fun s' sx its' yn H' I' a' n'=>?_) (fun _ _ z=>z) fun _ _ z=>z.elim
   obtain⟨m',Bm,w'⟩:=hN _ _ n'
   obtain⟨b1,b2,b3⟩:=back I'
   obtain⟨c0,c1,c2,c3,c4,c5⟩:=a'.fp
   refine ak ⟨rfl,m',Bm,i+1,sx,H',its',yn,b1,b2,b3,⟨⟨c0,c1,c2,c3,c4,fun p hp=>?_⟩,a'.here,a'.vals,a'.len⟩,w'⟩
   rcases (bf.mp hp) with hp | hp
   ·exact c5 p (aW _ hp)
   ·exact c5 p (aL _ (aW _ hp))
theorem zho {prog:Program} {w:World} {A:Around} {R:Result→Shared→Prop} {s:Shared} {iter:Expr} {it acc:Value} {env:Env} (hd:gens[d]? = some ⟨tg,iter,ifs,0⟩)
  (h0:codeAny (model prog w) A (.compLoop (.ListComp elt gens scope pos) d it acc env) R s)
  (h:wpAny (model prog w) A (pyIter it) (fun EK s'=>codeAny (model prog w) A (.compLoop (.ListComp elt gens scope pos) d EK acc env) R s') (fun _ _=>False) s) :
  codeAny (model prog w) A (.compStart (.ListComp elt gens scope pos) d it acc env) R s:=by
 refine codeAny_of_tree ?_
 show wpAny _ _ ((compStart (.ListComp elt gens scope pos) d it acc env).onRaise (fun x=>do noteFrame x env; standAt theWindowsPlace)) _ _ s
 refine wpAny_notedAt ?_
 unfold compStart
 have e1:(clausesOf (.ListComp elt gens scope pos))[d]? = some ⟨tg,iter,ifs,0⟩:=hd
 rw [e1]
 (show wpAny _ _ (ask >>= _) _ _ s)
 (refine ae (wpAny_askSetting (wpAny_ite ?_)))
 split
 ·first
   | (exact ae (ak (ak ⟨rfl,h0⟩)))
   | (exact ak ⟨rfl,h0⟩)
 ·first
   | exact ae (cn (ae (fF (ae (c7 h (fun EK s' h'=>ak (And.intro rfl h')) fun _ _ x=>x.elim)))))
   | (refine ae (cn ?_); show wpAny _ _ (standAt iter.pos >>= _) _ _ s; exact ae (fF (ae (c7 h (fun EK s' h'=>ak (And.intro rfl h')) fun _ _ x=>x.elim))))
theorem zo4 {iter:Expr} {wi:TI} (hc:Y.calm=true) (hx:Y.xe=fun _ _=>False) (wQ:GS js g) (pA:∀ j∈js,j∉js') (hi:PI Y tg iter wi) (hg:PG Y tg g) (ht:zdn Y ifs ts) (hm:PM Y D js' mk tm) (hd:gens[d]? = some ⟨tg,iter,ifs,0⟩)
  (pd:∀ it,compTurn (.ListComp elt gens scope pos) d it (.ref D) Y.env=zcm tg ifs p mk (.compLoop (.ListComp elt gens scope pos) d it (.ref D) Y.env) it Y.env)
  (hs:∀ x,foldedSetIterable iter Y.env x=pure x:=by intro _; rfl) :
  PM Y D (js++js') (zji (.ListComp elt gens scope pos) iter d (.ref D) Y.env) (zjk wi g ts tm):=by
 intro last lj s σ H ys lx nn Q Φ I a no h k
 unfold zji
 refine ae (thx hx (hi (lj++[(D,zd5 lx nn)]) s σ H _ (a.pin I) h) fun v s1 h1=>ae (fF (ae ?_)))
 rw [hs v]
 refine ak (ae (bY (thx hx h1 fun yh s2 h2=>?_)))
 obtain⟨it,fp,tn,J,H2,e,I2,T,mG,f2,q⟩:=h2
 subst e
 have a2:=a.back I2 (aL _ aH)
 have J2:Inv Y lj σ H2 s2:=I2.fewer fun p hp=>aW _ hp
 have EL:∀ b∈fp,zb3 Y lj H2 b:=fun b hb=>by
  obtain⟨c0,c1,c2,c3,c4,c5⟩:=f2 b hb
  refine⟨c0,c1,c2,c3,c4,fun p hp=>?_⟩
  rcases (bf.mp hp) with hp | hp
  ·exact c5 p (aW _ hp)
  ·exact c5 p (aL _ (aW _ hp))
 have fD:∀ b∈fp,b≠D:=fun b hb=>((f2 b hb).2.2.2.2.2 (D,zd5 lx nn) (aL _ (aL _ aH))).symm
 have loop:codeAny (model Y.prog Y.w) Y.A (.compLoop (.ListComp elt gens scope pos) d (.ref it) (.ref D) Y.env) (fun r s'=>match r with | .ok f=>wpAny (model Y.prog Y.w) Y.A last Φ (fun _ _=>False) s' | .error e=>cameBackBy (model Y.prog Y.w) Y.A Y.env (fun _ _=>False) e s') s2 :=
  zjl hc hx wQ pA hg ht hm pd J2 a2 no T mG EL fD q fun s' sx its' yn H' I' a' q'=>k s' sx its' yn H' I' a' q'
 exact ae (wpAny_runOwn (zho hd loop (T.self _ 0 _ _ _ mG loop)))
end
section
variable {X:Cx} {elt tg iter:Expr} {ifs:List Expr} {gs:List Comprehension} {scope:Scope} {pos:Pos} {N':List Str} {ix:List (Option Nat)} {js js':List Nat} {g:TG} {ts:TT} {tm:TM} {mk:Addr→Env→Sem Fin→Sem Fin}
theorem zdZ {lj:List (Addr×Obj)} {σ:St} {H2:Hp} {s2:Shared} {it:Addr} {fp:List Addr} {tn:Nat→Heap→Prop} {J:It} {Q:VK} {E:Value→Shared→Prop} {RR:Value→Addr→Result→Shared→Prop}
  (SC:CompSc X N' ix scope) (hc:X.calm=true) (wQ:GS js g) (pA:∀ j∈js,j∉js') (tH:∀ j∈js++js',ix[j]? = some none)
  (hg:∀ s₃ H₃ ex lj,PG (zM X N' scope s₃ H₃ ex lj) tg g) (ht:∀ s₃ H₃ ex lj,zdn (zM X N' scope s₃ H₃ ex lj) ifs ts) (hm:∀ s₃ H₃ ex lj D,PM (zM X N' scope s₃ H₃ ex lj) D js' (mk D (zM X N' scope s₃ H₃ ex lj).env) tm)
  (pd:∀ it D env,compTurn (.ListComp elt (⟨tg,iter,ifs,0⟩ :: gs) scope pos) 0 it (.ref D) env=zcm tg ifs iter.pos (mk D env) (.compLoop (.ListComp elt (⟨tg,iter,ifs,0⟩ :: gs) scope pos) 0 it (.ref D) env) it env)
  (I2:Inv X lj σ H2 s2) (T:Turn X.prog X.w X.K tg J fp it tn) (mG:tn 0 s2.heap) (f2:∀ b∈fp,zb3 X lj H2 b) (q:cIn g ts tm (zdo ix σ) J (fun ys H'=>∀ D,H' D=none→Q (.ref D) (lu H' D (.lst ys))) [] H2)
  (hRR:∀ (D C:Addr) (s':Shared) (ys:List V) (H':Hp) (m:Str→Option Value),Inv X lj σ (lu H' D (.lst ys)) s'→zb3 X lj (lu H' D (.lst ys)) C→s'.heap.Ns C m→Q (.ref D) (lu H' D (.lst ys))→RR (.ref D) C (.ok .next) s') :
  wpAny (model X.prog X.w) X.A (newList []) (fun acc s₃=>wpAny (model X.prog X.w) X.A (newFunctionEnv scope X.env.globals (zal X.env.cells scope.names []) [] X.env.qual none .none (some X.env)) (fun Bn s₄ =>
   codeAny (model X.prog X.w) X.A (.compStart (.ListComp elt (⟨tg,iter,ifs,0⟩ :: gs) scope pos) 0 (.ref it) acc { Bn with scope:=relabel scope X.env }) (RR acc Bn.locals) s₄) E s₃) E s2:=by
 have Bo:∀ y∈scope.names,y.2 = .free→∃ c,X.env.cells.lookup y.1=some c:=fun y hy hf=>I2.ok.has y.1 (SC.free y hy hf)
 have rn:∀ x c,(zal X.env.cells scope.names []).lookup x=some c→X.env.cells.lookup x=some c:=zb5 scope.names [] Bo (fun x c e=>by simp at e)
 refine bV (zkj ?_)
 have I3:Inv X lj σ H2 { s2 with heap:=s2.heap.push { cls:=.type "list",dict:=none,data:=.seq ([]:List Value).toArray } }:=I2.kept (t':=s2.toks) fun b o e=>aj _ e
 have tJ:(s2.heap.push { cls:=.type "list",dict:=none,data:=.seq ([]:List Value).toArray }).get? s2.heap.objs.size=some { cls:=.type "list",dict:=none,data:=.seq ([]:List Value).toArray }:=aO _ rfl
 have Bp:tn 0 (s2.heap.push { cls:=.type "list",dict:=none,data:=.seq ([]:List Value).toArray }):=T.keep _ _ _ mG fun b hb o e=>aj _ e
 have Bq:(s2.heap.push { cls:=.type "list",dict:=none,data:=.seq ([]:List Value).toArray }).objs.size=s2.heap.objs.size+1:=bT _ _
 generalize hh3:s2.heap.push { cls:=.type "list",dict:=none,data:=.seq ([]:List Value).toArray }=h3 at *
 have EM:=T.obj _ _ mG
 have xK:∀ b∈fp,b < s2.heap.objs.size:=fun b hb=>by obtain⟨o,e,_⟩:=EM b hb; exact aK e
 have stk:∀ b∈frs X.stack,b=X.env.locals∨b∈X.fs:=fun b hb=>aI.mp (I2.stkSub b hb)
 have Br:zb3 X lj H2 s2.heap.objs.size:=I2.fpOk (af _) I2.fresh
 have uG:∀ b∈s2.heap.objs.size :: fp,zb3 X lj H2 b:=fun b hb=>by
  rcases (aI.mp hb) with e | hb
  ·rw [e]; exact Br
  ·exact f2 b hb
 have yo:∀ b∈s2.heap.objs.size :: fp,b < h3.objs.size:=fun b hb=>by
  rw [Bq]
  rcases (aI.mp hb) with e | hb; · rw [e]; exact iG _
  ·exact fg (xK b hb)
 have xM:∀ b∈s2.heap.objs.size :: fp,b∉frs X.stack:=fun b hb z=>by
  obtain⟨_,a1,a2,_⟩:=uG b hb
  rcases stk b z with e | e
  ·exact a1 e
  ·exact a2 e
 have hns₁:(pushCells (h3.push { cls:=.type "dict",data:=.dict #[] }) scope.names).Ns h3.objs.size (fun _=>none):=(Heap.Ns.new h3 (.type "dict")).keeps (pushCells_keeps _ _)
 have old:∀ b o,h3.get? b=some o→(pushCells (h3.push { cls:=.type "dict",data:=.dict #[] }) scope.names).get? b=some o:=fun b o e=>pushCells_keeps _ _ b o (aj _ e)
 have EN:∀ x c,X.env.cells.lookup x=some c→c < h3.objs.size:=fun x c e=>by
  obtain⟨v,q⟩:=I3.cell x c e
  exact q.lt
 have co:CO (pushCells (h3.push { cls:=.type "dict",data:=.dict #[] }) scope.names) (h3.objs.size+1) (zal X.env.cells scope.names []) (cellsFrom (h3.objs.size+1) scope.names (zal X.env.cells scope.names [])):=by
  have:=zli (lo:=h3.objs.size+1) (old:=zal X.env.cells scope.names []) scope.names (h3.push { cls:=.type "dict",data:=.dict #[] }) (zal X.env.cells scope.names [])
   ⟨fun x c e=>.inr ⟨e,fg (EN x c (rn x c e))⟩,fun x y c e1 e2=>I2.ok.inj x y c (rn x c e1) (rn y c e2)⟩ (by rw [bT]; exact af _)
  rw [bT] at this
  exact this
 generalize pushCells (h3.push { cls:=.type "dict",data:=.dict #[] }) scope.names=h₁ at hns₁ old co ⊢
 have EO:∀ {x c},(cellsFrom (h3.objs.size+1) scope.names (zal X.env.cells scope.names [])).lookup x=some c→(h₁.IsCell c none∧h3.objs.size+1≤c)∨X.env.cells.lookup x=some c:=fun {x c} e=>(co.each x c e).elim .inl fun z=>.inr (rn x c z.1)
 have cfr:∀ x,scope.names.lookup x=some .free→(cellsFrom (h3.objs.size+1) scope.names (zal X.env.cells scope.names [])).lookup x=(zal X.env.cells scope.names []).lookup x:=fun x hx=>zgk _ _ _ _ fun z=>by
  have:=SC.cells _ z rfl
  rw [hx] at this
  cases this
 let s3:Shared:={ s2 with heap:=h3 }
 let Y:Cx:=zM X N' scope s3 H2 (s2.heap.objs.size :: fp) lj
 have vg:Inv X lj σ H2 s3:=I3
 have okY:Y.Ok:=by
  refine⟨I2.ok.mod,SC.kind,I2.ok.glob,I2.ok.blt,af _,co.inj,fun x hx=>?_,fun x c z e=>?_,I2.ok.hd,I2.ok.frames,.inl rfl,fun b hb=>?_,fun b o e=>vg.bs b o e,?_,fun b o e hb=>?_,xM,vg.stack,vg.stkFree⟩
  ·have um:=zdm (env:=X.env) (names:=scope.names) (x:=x) hx
   rcases um with um | um
   ·obtain⟨c,e⟩:=zcl (cs:=X.env.cells) scope.names [] x (.inr (lookup_mem um))
    exact⟨c,(cfr x um).trans e⟩
   ·obtain⟨c,e,_⟩:=zgl scope.names (h3.objs.size+1) (zal X.env.cells scope.names []) x (lookup_mem um)
    exact⟨c,e⟩
  ·obtain⟨c',e',l'⟩:=zgl scope.names (h3.objs.size+1) (zal X.env.cells scope.names []) x (lookup_mem (by have z':(scope.names.lookup x == some c8)=true:=z; simpa using z'))
   have e2:(cellsFrom (h3.objs.size+1) scope.names (zal X.env.cells scope.names [])).lookup x=some c:=e
   rw [e'] at e2
   cases e2
   exact im l'
  ·refine⟨bz (yo b hb),fun x c e=>(EO e).elim (fun z y=>?_) fun z=>(uG b hb).2.2.2.2.1 x c z⟩
   subst y
   exact cG _ (bp (yo _ hb) (im z.2))
  ·exact a8 I2.ok.bsz vg.sz
  ·obtain⟨_,_,_,a3,_⟩:=uG b hb
   rcases a3 with z | z
   ·exact I2.ok.noex b o e z
   ·have:=(I2.ok.bs b o e).1
    exact absurd (bp (aK this) z) (cG _)
 have ER:Inv Y [] (zdo ix σ) H2 { s3 with heap:=h₁ }:=by
  refine⟨okY,rfl,I2.bare,Un.kept old,⟨_,hns₁,fun j x v e1 e2 e3=>?_⟩,fun x c e=>?_,vg.fresh,fun x c e=>(EO e).elim (fun z=>vg.hok.fresh (im z.2)) fun z=>I2.freeC x c z,fun p hp=>?_,vg.hok.kept old,?_⟩
  ·unfold zdo at e2
   rw [ah] at e2
   cases hj:ix[j]? with
   | none=>rw [hj] at e2; simp at e2
   | some oi =>
    rw [hj] at e2
    cases oi with
    | none=>simp at e2
    | some i =>
     obtain⟨y,h1,h2,DA⟩:=SC.cap j i hj
     have hxy:y=x:=by
      have e1':N'[j]? = some x:=e1
      rw [h1] at e1'
      exact aT e1'
     subst hxy
     have Bs:(σ[i]?).join=some v:=by simpa using e2
     have ES:σ[i]? = some (some v):=by
      cases hs:σ[i]? with
      | none=>rw [hs] at Bs; simp at Bs
      | some w=>rw [hs] at Bs; simp at Bs; rw [Bs]
     obtain⟨m,hn,hl⟩:=vg.loc
     have hk:=SC.free (y,.free) (lookup_mem DA) rfl
     have ET:Vis X.env.scope y:=hk.elim (fun z=>.inr (.inl z)) fun z=>.inr (.inr z)
     obtain⟨u,r,l⟩:=hl i y v h2 ES ET
     refine⟨u,r,.inr ⟨zbG DA,?_⟩⟩
     obtain⟨c,mQ⟩:=zcl (cs:=X.env.cells) scope.names [] y (.inr (lookup_mem DA))
     refine⟨c,(cfr y DA).trans mQ,?_⟩
     rcases l with ⟨uF,_⟩ | ⟨_,c',lH,pU⟩
     ·rcases hk with hk | hk
      ·have pf:X.env.kindOf y=some .cell:=hk
       rw [pf] at uF; cases uF
      ·have pf:X.env.kindOf y=some .free:=hk
       rw [pf] at uF; cases uF
     ·have:=rn y c mQ
      rw [lH] at this
      cases this
      obtain⟨o,ho,hd⟩:=pU
      exact⟨o,old _ _ ho,hd⟩
  ·rcases EO e with z | z
   ·exact⟨_,z.1⟩
   ·obtain⟨v,o,ho,hd⟩:=vg.cell x c z
    exact⟨v,o,old _ _ ho,hd⟩
  ·have qL:p∈X.pn++lj:=by
    have:p∈(X.pn++lj)++([]:List (Addr×Obj)):=hp
    simpa using this
   obtain⟨a1,a2,a3,a4,a5⟩:=vg.pin p qL
   exact⟨old _ _ a1,a2,bz (aK a1),fun z=>(stk _ z).elim a3 a4,a5⟩
  ·unfold zdo
   rw [ab]
   exact SC.len.symm
 have Au:∀ {H':Hp},(∀ b∈s2.heap.objs.size :: fp,H' b=none)→∀ b∈s2.heap.objs.size :: fp,zb3 Y [] H' b:=fun {H'} hn b hb=>by
  obtain⟨_,a1,a2,a3,a4,a5⟩:=uG b hb
  refine⟨hn b hb,bz (yo b hb),xM b hb,.inl hb,(okY.exf b hb).2,fun p hp=>?_⟩
  have:p∈(X.pn++lj)++([]:List (Addr×Obj)):=hp
  exact a5 p (by simpa using this)
 have nn2:∀ b∈s2.heap.objs.size :: fp,H2 b=none:=fun b hb=>(uG b hb).1
 have yj:zgn (js++js') (zdo ix σ):=fun j hj v e=>by
  unfold zdo at e
  rw [ah,tH j hj] at e
  simp at e
 have loop:∀ s₅:Shared,s₅ = { s2 with heap:=h₁ } →
   codeAny (model X.prog X.w) X.A (.compLoop (.ListComp elt (⟨tg,iter,ifs,0⟩ :: gs) scope pos) 0 (.ref it) (.ref s2.heap.objs.size) (compEnvC scope (cellsFrom (h3.objs.size+1) scope.names (zal X.env.cells scope.names [])) h3.objs.size X.env)) (RR (.ref s2.heap.objs.size) h3.objs.size) s₅:=by
  rintro s₅ rfl
  refine zjl (Y:=Y) (lj:=[]) (σ:=zdo ix σ) (lx:=[]) (nn:=0) hc rfl wQ pA (hg s3 H2 _ lj) (ht s3 H2 _ lj) (hm s3 H2 _ lj s2.heap.objs.size) (fun it=>pd it _ _) ER ⟨Au nn2 _ aH,old _ _ tJ,.nil,bj _⟩ yj T (T.keep _ _ _ Bp fun b hb o e=>old b o e)
   (fun b hb=>Au nn2 b (au _ hb)) (fun b hb=>bz (xK b hb)) q fun s6 ys lx nn H5 I6 a6 qn=>?_
  have dn5:H5 s2.heap.objs.size=none:=a6.fp.1
  have I7:Inv X lj σ H5 s6:=by
   refine vg.call' (s':=s6) (ch:=s2.heap.objs.size :: fp) I6.os I6.base I6.hok I6.bare fun b hb=>?_
   obtain⟨_,a1,a2,a3,a4,a5⟩:=uG b hb
   exact⟨a3,a1,a4,a5⟩
  have I8:Inv X lj σ (lu H5 s2.heap.objs.size (.lst ys)) s6:=by
   obtain⟨_,a1,a2,a3,a4,a5⟩:=Br
   exact I7.track dn5 I2.sz (eE a1) a4 a5 ⟨a6.len,lx,nn,a6.vals,a6.here⟩
  obtain⟨mm,wR,_⟩:=I6.loc
  have dne:h3.objs.size≠s2.heap.objs.size:=by rw [Bq]; exact iH _
  refine hRR _ _ s6 ys H5 mm I8 (vg.fpOk (H':=lu H5 s2.heap.objs.size (.lst ys)) (af _) ?_) wR (qn _ dn5)
  show lu H5 s2.heap.objs.size (.lst ys) h3.objs.size=none
  rw [zr dne]
  exact I6.free
 exact zho rfl (loop _ rfl) (T.self _ 0 _ _ _ (T.keep _ _ _ Bp fun b hb o e=>old b o e) (loop _ rfl))
theorem zhp {wi:TI} (SC:CompSc X N' ix scope) (hc:X.calm=true) (wQ:GS js g) (pA:∀ j∈js,j∉js') (tH:∀ j∈js++js',ix[j]? = some none) (hi:PI X tg iter wi)
  (hg:∀ s₃ H₃ ex lj,PG (zM X N' scope s₃ H₃ ex lj) tg g) (ht:∀ s₃ H₃ ex lj,zdn (zM X N' scope s₃ H₃ ex lj) ifs ts) (hm:∀ s₃ H₃ ex lj D,PM (zM X N' scope s₃ H₃ ex lj) D js' (mk D (zM X N' scope s₃ H₃ ex lj).env) tm)
  (pd:∀ it D env,compTurn (.ListComp elt (⟨tg,iter,ifs,0⟩ :: gs) scope pos) 0 it (.ref D) env=zcm tg ifs iter.pos (mk D env) (.compLoop (.ListComp elt (⟨tg,iter,ifs,0⟩ :: gs) scope pos) 0 it (.ref D) env) it env)
  (hs:∀ x,foldedSetIterable iter X.env x=pure x:=by intro _; rfl):PE X (.ListComp elt (⟨tg,iter,ifs,0⟩ :: gs) scope pos) (zgo ix wi g ts tm):=by
 intro lj s σ H Q I h
 rw [eval_ListComp]
 have Bo:∀ y∈scope.names,y.2 = .free→∃ c,X.env.cells.lookup y.1=some c:=fun y hy hf=>I.ok.has y.1 (SC.free y hy hf)
 refine iI (use:=none) rfl hs (zc0 Bo) SC.kind SC.names (thn (hi lj s σ H _ I h) fun v s1 h1=>thn h1 fun yh s2 h2=>?_)
 obtain⟨it,fp,tn,J,H2,e,I2,T,mG,f2,q⟩:=h2
 subst e
 refine zdZ (RR:=fun acc C=>compPost (model X.prog X.w) X.A X.xe none (EP X lj σ Q) acc C) SC hc wQ pA tH hg ht hm pd I2 T mG f2 q ?_
 intro D C s' ys H' m I' EU hm q'
 refine⟨m,hm,fun uo oF=>⟨.ref D,_,?_,rfl,q'⟩⟩
 obtain⟨f0,f1,EL,f3,f4,f5⟩:=EU
 exact I'.turned (t':=s'.toks) (fun b o hb e=>oF.extBut b o hb e) f0 f1 f3 f4 f5
theorem zd0 {wi:TI} {i:Nat} {x:Str} {pos' qj:Pos} (hN:X.N.Nodup) (wU:X.N[i]? = some x) (hx:Loc X.env.scope x) (SC:CompSc X N' ix scope) (hc:X.calm=true) (wQ:GS js g) (pA:∀ j∈js,j∉js') (tH:∀ j∈js++js',ix[j]? = some none) (hi:PI X tg iter wi)
  (hg:∀ s₃ H₃ ex lj,PG (zM X N' scope s₃ H₃ ex lj) tg g) (ht:∀ s₃ H₃ ex lj,zdn (zM X N' scope s₃ H₃ ex lj) ifs ts) (hm:∀ s₃ H₃ ex lj D,PM (zM X N' scope s₃ H₃ ex lj) D js' (mk D (zM X N' scope s₃ H₃ ex lj).env) tm)
  (pd:∀ it D env,compTurn (.ListComp elt (⟨tg,iter,ifs,0⟩ :: gs) scope pos) 0 it (.ref D) env=zcm tg ifs iter.pos (mk D env) (.compLoop (.ListComp elt (⟨tg,iter,ifs,0⟩ :: gs) scope pos) 0 it (.ref D) env) it env)
  (Bt:swapsWith (.ListComp elt (⟨tg,iter,ifs,0⟩ :: gs) scope pos) (some (.Name x pos')) qj.line X.env=pure true:=by rfl)
  (hs:∀ x,foldedSetIterable iter X.env x=pure x:=by intro _; rfl) (hf:X.fn x=true∨X.env.scope.names.lookup x=some .local:=by first | exact .inl rfl | exact .inr rfl | assumption) :
  PS X (.Assign [.Name x pos'] (.ListComp elt (⟨tg,iter,ifs,0⟩ :: gs) scope pos) qj) (ziq (zgo ix wi g ts tm) (zaX i)):=by
 intro lj s σ H D I h
 have Bo:∀ y∈scope.names,y.2 = .free→∃ c,X.env.cells.lookup y.1=some c:=fun y hy hf=>I.ok.has y.1 (SC.free y hy hf)
 rw [exec_Assign_Name_used _ _ _ _ Bt]; refine ae (fF (ae ?_))
 show wpAny _ X.A (do let _ ← comprehension (.ListComp elt (⟨tg,iter,ifs,0⟩ :: gs) scope pos) scope X.env _ (newList []) false (eval iter X.env) (some (assign (.Name x pos') X.env))) _ _ s
 refine ae (c7 (iI (use:=some (assign (.Name x pos') X.env)) (Q:=fun _ s'=>SP X lj D .next s') rfl hs (zc0 Bo) SC.kind SC.names
  (thn (hi lj s σ H _ I h) fun v s1 h1=>thn h1 fun yh s2 h2=>?_)) (fun _ s' hq=>ak (ak hq)) fun _ _ e=>e)
 obtain⟨it,fp,tn,J,H2,e,I2,T,mG,f2,q⟩:=h2
 subst e
 refine zdZ (Q:=fun x H1=>zaX i x σ H1 D.nx) (RR:=fun acc C=>compPost (model X.prog X.w) X.A X.xe (some (assign (.Name x pos') X.env)) (fun _ s'=>SP X lj D .next s') acc C) SC hc wQ pA tH hg ht hm pd I2 T mG f2 q ?_
 intro Da C s' ys H' m I' EU hm q'
 show wpAny _ X.A (assign (.Name x pos') X.env (.ref Da)) _ _ _
 refine wpAny_assign_Name (zfH I' hN wU hx (show RelV (.ref Da) (.ref Da) from rfl) (fun wM I'' ⟨a,n6,ha⟩=>?_) hf)
 obtain⟨f0,f1,EL,f3,f4,f5⟩:=EU
 have hCa:C≠a:=by
  rcases ha with e | e
  ·rw [e]; exact f1
  ·exact eE (f4 x a e)
 refine⟨m,hm.sameBut n6 hCa,fun h₃ hs₃=>⟨_,_,?_,q'⟩⟩
 exact I''.turned (t':=wM.toks) (fun b o hb e=>hs₃.extBut b o hb e) f0 f1 f3 f4 f5
end
theorem zlk {elt t1 i1 t2 i2:Expr} {f1 f2:List Expr} {scope:Scope} {pos:Pos} (it:Value) (D:Addr) (env:Env):compTurn (.ListComp elt [⟨t1,i1,f1,0⟩,⟨t2,i2,f2,0⟩] scope pos) 0 it (.ref D) env =
  zcm t1 f1 i1.pos (zji (.ListComp elt [⟨t1,i1,f1,0⟩,⟨t2,i2,f2,0⟩] scope pos) i2 1 (.ref D) env) (.compLoop (.ListComp elt [⟨t1,i1,f1,0⟩,⟨t2,i2,f2,0⟩] scope pos) 0 it (.ref D) env) it env:=by rfl
theorem zo5 {elt t1 i1 t2 i2:Expr} {f1 f2:List Expr} {scope:Scope} {pos:Pos} (it:Value) (D:Addr) (env:Env):compTurn (.ListComp elt [⟨t1,i1,f1,0⟩,⟨t2,i2,f2,0⟩] scope pos) 1 it (.ref D) env =
  zcm t2 f2 i2.pos (zfT elt (.ref D) env) (.compLoop (.ListComp elt [⟨t1,i1,f1,0⟩,⟨t2,i2,f2,0⟩] scope pos) 1 it (.ref D) env) it env:=by rfl
def zdK (ix:List (Option Nat)):List Nat:=(aJ ix.length).filter fun j=>ix[j]? == some none
theorem zcn {ix:List (Option Nat)} {i:Nat}:i∈zdK ix↔ix[i]? = some none:=by
 unfold zdK
 rw [bE,bv,beq_iff_eq]
 exact⟨fun h=>h.2,fun h=>⟨(aD.mp h).1,h⟩⟩
def GK (ix:List (Option Nat)) (g:TG):Prop:=GS (zdK ix) g
def GKs (ix:List (Option Nat)) (g:TGs):Prop:=GSs (zdK ix) g
theorem zam {ix:List (Option Nat)} {i:Nat} (hi:ix[i]? = some none):GK ix (zaX i):=zcI (zcn.2 hi)
theorem zan {ix:List (Option Nat)}:GKs ix zio:=zjh
theorem zu {ix:List (Option Nat)} {i:Nat} {u:TGs} (hi:ix[i]? = some none) (h2:GKs ix u):GKs ix (zb9 (zaX i) u):=zeH (zcn.2 hi) h2
theorem zaC {ix:List (Option Nat)} {K:ag} {n:Nat} {t:TGs} (h:GKs ix t):GK ix (zhh K n t):=zlj h
theorem zkk {ix:List (Option Nat)} {g:TG} {u:TGs} (h1:GK ix g) (h2:GKs ix u) (mono:∀ (x:V) (σ:St) (H:Hp) (Q Q':St→Hp→Prop),(∀ σ' H',Q σ' H'→Q' σ' H')→g x σ H Q→g x σ H Q'):GKs ix (zb9 g u):=fun σ σ1 xs H Q hw h=>by
 obtain⟨v,r,e,h⟩:=h
 refine⟨v,r,e,mono v σ1 H _ _ (fun σ' H' q=>?_) (h1 σ σ1 v H _ hw h)⟩
 exact h2 σ σ' r H' Q q.1 q.2
theorem zou {elt t1 i1:Expr} {f1:List Expr} {scope:Scope} {pos:Pos} (it:Value) (D:Addr) (env:Env):compTurn (.ListComp elt [⟨t1,i1,f1,0⟩] scope pos) 0 it (.ref D) env =
  zcm t1 f1 i1.pos (zfT elt (.ref D) env) (.compLoop (.ListComp elt [⟨t1,i1,f1,0⟩] scope pos) 0 it (.ref D) env) it env:=by rfl
section
variable {X:Cx} {elt tg iter:Expr} {ifs:List Expr} {scope:Scope} {pos:Pos} {N':List Str} {ix:List (Option Nat)} {g:TG} {ts:TT} {te:TE}
theorem zV {wi:TI} (SC:CompSc X N' ix scope) (hc:X.calm=true) (hk:GK ix g) (hi:PI X tg iter wi)
  (hg:∀ s₃ H₃ ex lj,PG (zM X N' scope s₃ H₃ ex lj) tg g) (ht:∀ s₃ H₃ ex lj,zdn (zM X N' scope s₃ H₃ ex lj) ifs ts) (he:∀ s₃ H₃ ex lj,PE (zM X N' scope s₃ H₃ ex lj) elt te)
  (hs:∀ x,foldedSetIterable iter X.env x=pure x:=by intro _; rfl):PE X (.ListComp elt [⟨tg,iter,ifs,0⟩] scope pos) (zot ix wi g ts te) :=
 zhp (mk:=fun D env=>zfT elt (.ref D) env) (js:=zdK ix) (js':=[]) SC hc hk (fun _ _ h=>nomatch h) (fun j h=>zcn.1 (by simpa using h)) hi hg ht (fun s₃ H₃ ex lj D=>ziA rfl (he s₃ H₃ ex lj)) (fun _ _ _=>zou _ _ _) hs
theorem zaD {wi:TI} {i:Nat} {x:Str} {pos' qj:Pos} (hN:X.N.Nodup) (wU:X.N[i]? = some x) (hx:Loc X.env.scope x) (SC:CompSc X N' ix scope) (hc:X.calm=true) (hk:GK ix g) (hi:PI X tg iter wi)
  (hg:∀ s₃ H₃ ex lj,PG (zM X N' scope s₃ H₃ ex lj) tg g) (ht:∀ s₃ H₃ ex lj,zdn (zM X N' scope s₃ H₃ ex lj) ifs ts) (he:∀ s₃ H₃ ex lj,PE (zM X N' scope s₃ H₃ ex lj) elt te)
  (Bt:swapsWith (.ListComp elt [⟨tg,iter,ifs,0⟩] scope pos) (some (.Name x pos')) qj.line X.env=pure true:=by rfl)
  (hs:∀ x,foldedSetIterable iter X.env x=pure x:=by intro _; rfl) (hf:X.fn x=true∨X.env.scope.names.lookup x=some .local:=by first | exact .inl rfl | exact .inr rfl | assumption) :
  PS X (.Assign [.Name x pos'] (.ListComp elt [⟨tg,iter,ifs,0⟩] scope pos) qj) (ziq (zot ix wi g ts te) (zaX i)) :=
 zd0 (mk:=fun D env=>zfT elt (.ref D) env) (js:=zdK ix) (js':=[]) hN wU hx SC hc hk (fun _ _ h=>nomatch h) (fun j h=>zcn.1 (by simpa using h)) hi hg ht (fun s₃ H₃ ex lj D=>ziA rfl (he s₃ H₃ ex lj)) (fun _ _ _=>zou _ _ _) Bt hs hf
end
end L2
end
section
namespace L2
open PySem PySem.Spec PyProof.Rows
section
variable {X:Cx} {lj:List (Addr×Obj)} {σ:St} {H:Hp} {s:Shared} {h':Heap}
theorem Inv.turnedL {t':Nat} {ch:List Addr} (I:Inv X lj σ H s) (k:∀ b o,b∉ch→s.heap.get? b=some o→h'.get? b=some o) (hf:∀ b∈ch,zb3 X lj H b)
  (th:∀ b∈ch,∃ o,h'.get? b=some o):Inv X lj σ H { s with heap:=h',toks:=t' }:=by
 have su:∀ b u,H b=some u→b∉ch:=fun b u e z=>by rw [(hf b z).1] at e; cases e
 refine I.step (g':=s.gens) (d':=s.drawn) (ch:=ch) (fun b hb=>?_) (fun b o _ _ hc e _=>k b o hc e) (fun b o _ _ hc e _=>⟨o.slots,k b o hc e⟩) (fun _ _ _ _ n=>n)
  (fun b o hc e=>⟨o,k b o hc e⟩) (fun _ _ e=>e) (fun _ _ _ e=>e) (fun b ps e=>⟨#[],by rw [e]; simp⟩) (fun m hm=>?_) (fun b u e=>?_) I.bare
 ·obtain⟨_,a1,_,a3,a4,a5⟩:=hf b hb
  exact⟨a3,a1,a4,a5⟩
 ·obtain⟨o,es,ep,ho,r⟩:=hm
  exact⟨o,es,ep,k _ o (fun z=>(hf _ z).2.1 rfl) ho,r⟩
 ·refine (I.hok b u e).stay (fun c v hc q=>k c v ?_ q) (fun _ q=>q) fun _ _ q=>q
  rcases hc with z | z
  ·rw [z]; exact su b u e
  ·exact su c _ z
theorem Inv.turnedNew {t':Nat} {ch:List Addr} {T:Addr} {o:HO} (I:Inv X lj σ H s) (k:∀ b o,b∉ch→s.heap.get? b=some o→h'.get? b=some o) (hf:∀ b∈ch,zb3 X lj H b)
  (th:∀ b∈ch,∃ o,h'.get? b=some o) (hT:s.heap.objs.size≤T) (ok:zax X.prog X.w (lu H T o) h' T o):Inv X lj σ (lu H T o) { s with heap:=h',toks:=t' }:=by
 have I1:Inv X lj σ H { s with heap:=h',toks:=t' }:=I.turnedL k hf th
 have hn:H T=none:=I.hok.fresh hT
 obtain⟨_,a1,a2,a3,a4,a5⟩:=I.fpOk (H':=H) hT hn
 exact I1.track hn (a8 I.sz hT) (eE a1) a4 a5 ok
end
def zo6 (Sq:Hp→Addr→List V→Prop) (a:Addr):It :=
 ⟨fun i H=>∃ xs x,Sq H a xs∧xs[i]? = some x,fun i H x H'=>∃ T v,H T=none∧x = .ref T∧H'=lu H T (.tup [.int i,v])∧∀ xs,Sq H a xs→xs[i]? = some v,fun i H=>∃ xs,Sq H a xs∧xs.length≤i⟩
theorem zbQ {h:Heap} {T:Addr} {a b:Value} (e:h.get? T=some { cls:=.type "tuple",data:=.seq #[a,b] }):IsTup h T ([a,b]:List Value).toArray:=⟨_,e,rfl,_,rfl⟩
theorem zaL:2≤sizeLine:=by rw [aX]; decide
theorem ziB {P:Program} {w:World} {K:ag} {es:List Expr} {k:Nat} {pos:Pos} (a it e:Addr) (hei:e≠it):Turn P w K (.Tuple es k pos) (zo6 (lr K) a) [e,it] e (fun i h=>(∃ old,IsEnum h e it i old)∧h.IsListIter it a i) where
 mem:=by simp
 obj:=fun i h st b hb=>by
  obtain⟨⟨old,he⟩,o,ho,hc,hd⟩:=st
  rcases aI.mp hb with z | z
  ·subst z
   exact⟨_,he,fun v z=>by cases z⟩
  ·have z:b=it:=by simpa using z
   subst z
   exact⟨o,ho,fun v z=>by rw [hd] at z; cases z⟩
 keep:=fun i h h' st kk=>⟨st.1.imp fun old he=>kk e (by simp) _ he,st.2.at fun o eo=>kk it (by simp) o eo⟩
 item:=by
  intro X hP hw hK hc i lj s σ H E I hf st hg
  subst hP hw hK
  obtain⟨xs,x,hq,hx⟩:=hg
  obtain⟨⟨old,he⟩,hit⟩:=st
  obtain⟨lx,rv,p,hz⟩:=I.list hq
  obtain⟨u,hu,ru⟩:=rv.get hx
  have vz:e < s.heap.objs.size:=aK he
  have hits:it < s.heap.objs.size:=by obtain⟨o,ho,_⟩:=hit; exact aK ho
  refine wpAny_pyNext_enum_item he hit p.isList (x:=u) (by simpa using hu) hei fun h' uA tL hT hsz kk=>?_
  have k1:∀ b o,b∉[e,it]→s.heap.get? b=some o→h'.get? b=some o:=fun b o hb eo=>kk b o (fun z=>hb (by simp [z])) (fun z=>hb (by simp [z])) eo
  have yp:∀ b∈[e,it],∃ o,h'.get? b=some o:=fun b hb=>by
   rcases aI.mp hb with z | z
   ·subst z; exact⟨_,uA⟩
   ·have z:b=it:=by simpa using z
    subst z
    obtain⟨o,eo,_⟩:=tL
    exact⟨o,eo⟩
  have I1:Inv X lj σ (lu H s.heap.objs.size (.tup [.int i,x])) { s with heap:=h',toks:=s.toks+1 } :=
   I.turnedNew k1 hf yp (af _) ⟨zaL,_,.cons ⟨s.toks,rfl⟩ (.cons ru .nil),zbQ hT⟩
  refine⟨_,rfl,hJ uA fun uo tM oF=>?_⟩
  have fr:∀ b∈[e,it],lu H s.heap.objs.size (.tup [.int i,x]) b=none:=fun b hb=>by
   have lT:b < s.heap.objs.size:=by
    rcases aI.mp hb with z | z
    ·subst z; exact vz
    ·have z:b=it:=by simpa using z
     subst z; exact hits
   rw [zr (bz lT)]
   exact (hf b hb).1
  have I2:Inv X lj σ (lu H s.heap.objs.size (.tup [.int i,x])) { s with heap:=uo,toks:=s.toks+1 } :=
   Inv.turnedL (s:={ s with heap:=h',toks:=s.toks+1 }) (ch:=[e]) (t':=s.toks+1) I1 (fun b o hb eo=>oF.extBut b o (by simpa using hb) eo) (fun b hb=>by
    have z:b=e:=by simpa using hb
    subst z
    exact⟨fr b (by simp),(hf b (by simp)).2⟩) (fun b hb=>by
    have z:b=e:=by simpa using hb
    subst z
    exact⟨_,tM⟩)
  refine⟨.ref s.heap.objs.size,_,I2,rfl,⟨_,x,I.fresh,rfl,rfl,fun ys hy=>by rw [I.list_inj hy hq]; exact hx⟩,⟨⟨_,by simpa using tM⟩,tL.extBut oF.extBut (eE hei)⟩,fr⟩
 done:=by
  intro X hP hw hK hc i lj s σ H E I hf st hg
  subst hP hw hK
  obtain⟨xs,hq,hx⟩:=hg
  obtain⟨⟨old,he⟩,hit⟩:=st
  obtain⟨lx,rv,p,hz⟩:=I.list hq
  have hl:=rv.length
  obtain⟨f0,f1,f2,f3,f4,f5⟩:=hf it (by simp)
  exact wpAny_pyNext_enum_end (I.ok.hd hc) he hit p.isList (by simp; lia) fun h' eb=>⟨rfl,I.turned (t':=s.toks) (fun b o hb e=>eb b o hb e) f0 f1 f3 f4 f5⟩
 self:=fun _ _ _ _ _ st h=>by
  obtain⟨⟨old,he⟩,_⟩:=st
  exact gc he h
def iEn (Sq:Hp→Addr→List V→Prop) (ta:TA):TI:=fun σ H R=>ta σ H fun vs H1=>∃ a xs,vs = [.ref a]∧Sq H1 a xs∧R (zo6 Sq a) H1
theorem zll {X:Cx} {es:List Expr} {k:Nat} {pB p pos:Pos} {a:Expr} {ta:TA} (hg:Gl X "enumerate") (hm:X.mg "enumerate" = none) (ha:PA X [a] ta) (hs:starEach [a] X.env = [(false,eval a X.env)]:=by rfl) :
  PI X (.Tuple es k pB) (.Call (.Name "enumerate" p) [a] [] pos) (iEn (lr X.K) ta):=by
 intro lj s σ H R I h
 refine Call_ (zbE I hg hm boot_enumerate (bA (thn (ha pos lj s σ H _ I h) fun us s1 ⟨vs,H1,I1,r1,q1⟩=>?_) hs rfl))
 obtain⟨l,xs,e,hq,q⟩:=q1
 subst e
 cases r1 with
 | cons r rr =>
  cases rr
  cases r
  obtain⟨lx,rv,pl,hz⟩:=I1.list hq
  refine call_enumerate_list pl.isList fun h' he hi hsz kk=>?_
  have I2:Inv X lj σ H1 { s1 with heap:=h' }:=I1.kept (t':=s1.toks) kk
  refine gc he ?_; refine⟨_,[s1.heap.objs.size+1,s1.heap.objs.size],_,zo6 (lr X.K) l,H1,rfl,I2,ziB l s1.heap.objs.size (s1.heap.objs.size+1) (iH _),⟨⟨_,he⟩,hi⟩,fun b hb=>?_,q⟩
  have hle:s1.heap.objs.size≤b:=by
   rcases aI.mp hb with z | z
   ·rw [z]; exact gj _
   ·have z:b=s1.heap.objs.size:=by simpa using z
    rw [z]; exact af _
  exact I1.fpOk hle (I1.hok.fresh hle)
def zkl (rq rA:Hp→Addr→List V→Prop) (a b:Addr):It :=
 ⟨fun i H=>∃ xs ys x y,rq H a xs∧rA H b ys∧xs[i]? = some x∧ys[i]? = some y,
  fun i H x H'=>∃ T u v,H T=none∧x = .ref T∧H'=lu H T (.tup [u,v])∧(∀ xs,rq H a xs→xs[i]? = some u)∧∀ ys,rA H b ys→ys[i]? = some v,
  fun i H=>∃ xs ys,rq H a xs∧rA H b ys∧(xs.length≤i∨ys.length≤i)⟩
theorem zkm {P:Program} {w:World} {K:ag} {es:List Expr} {k:Nat} {pos:Pos} (a b:Addr) (n:Nat) (ha:a < n) (hb:b < n):Turn P w K (.Tuple es k pos) (zkl (lr K) (lr K) a b) [n+4,n+2,n+3,n,n+1] (n+4)
  (fun i h=>IsZip h (n+4) (n+2) (n+3) .none∧IsPair h (n+2) (.ref n) (.ref (n+1))∧(∃ u v,IsPair h (n+3) u v)∧h.IsListIter n a i∧h.IsListIter (n+1) b i) where
 mem:=by simp
 obj:=fun i h st c hc=>by
  obtain⟨h1,h2,⟨u,v,h3⟩,⟨o4,e4,_,d4⟩,⟨o5,e5,_,d5⟩⟩:=st
  simp only [aI,aV,or_false] at hc
  rcases hc with z | z | z | z | z <;> subst z
  ·exact⟨_,h1,fun v z=>by cases z⟩
  ·exact⟨_,h2,fun v z=>by cases z⟩
  ·exact⟨_,h3,fun v z=>by cases z⟩
  ·exact⟨_,e4,fun v z=>by rw [d4] at z; cases z⟩
  ·exact⟨_,e5,fun v z=>by rw [d5] at z; cases z⟩
 keep:=fun i h h' st kk=>by
  obtain⟨h1,h2,⟨u,v,h3⟩,h4,h5⟩:=st
  exact⟨kk _ (by simp) _ h1,kk _ (by simp) _ h2,⟨u,v,kk _ (by simp) _ h3⟩,h4.at fun o eo=>kk _ (by simp) o eo,h5.at fun o eo=>kk _ (by simp) o eo⟩
 item:=by
  intro X hP hw hK hc i lj s σ H E I hf st hg
  subst hP hw hK
  obtain⟨xs,ys,x,y,o7,nZ,hx,hy⟩:=hg
  obtain⟨h1,h2,⟨u0,v0,h3⟩,h4,h5⟩:=st
  obtain⟨mE,rB,p1,rL⟩:=I.list o7
  obtain⟨lZ,rM,p2,uH⟩:=I.list nZ
  obtain⟨u,hu,ru⟩:=rB.get hx
  obtain⟨v,hv,rv⟩:=rM.get hy
  have hzs:n+4 < s.heap.objs.size:=aK h1
  refine wpAny_pyNext_zip_item (dA ha hb) h1 h2 h3 h4 h5 p1.isList p2.isList (x:=u) (y:=v) (by simpa using hu) (by simpa using hv) fun h' a1 a2 a3 a4 a5 a6 kk=>?_
  have k1:∀ c o,c∉[n+4,n+3,n,n+1]→s.heap.get? c=some o→h'.get? c=some o:=fun c o lH eo =>
   kk c o (fun z=>lH (by simp [z])) (fun z=>lH (by simp [z])) (fun z=>lH (by simp [z])) (fun z=>lH (by simp [z])) eo
  have sub:∀ c∈[n+4,n+3,n,n+1],c∈[n+4,n+2,n+3,n,n+1]:=fun c lH=>by
   simp only [aI,aV,or_false] at lH ⊢
   rcases lH with z | z | z | z <;> subst z <;> simp
  have yp:∀ c∈[n+4,n+3,n,n+1],∃ o,h'.get? c=some o:=fun c lH=>by
   simp only [aI,aV,or_false] at lH
   rcases lH with z | z | z | z <;> subst z
   ·exact⟨_,a1⟩
   ·exact⟨_,a2⟩
   ·obtain⟨o,e,_⟩:=a3; exact⟨o,e⟩
   ·obtain⟨o,e,_⟩:=a4; exact⟨o,e⟩
  have I1:Inv X lj σ (lu H s.heap.objs.size (.tup [x,y])) { s with heap:=h' } :=
   I.turnedNew (t':=s.toks) k1 (fun c lH=>hf c (sub c lH)) yp (af _) ⟨zaL,_,.cons ru (.cons rv .nil),zbQ a5⟩
  refine⟨_,rfl,wpAny_letOwnedTupleGo_zip a1 fun uo vA oF=>?_⟩
  have fr:∀ c∈[n+4,n+2,n+3,n,n+1],lu H s.heap.objs.size (.tup [x,y]) c=none:=fun c lH=>by
   have lT:c < s.heap.objs.size:=by
    simp only [aI,aV,or_false] at lH
    rcases lH with z | z | z | z | z <;> subst z <;> lia
   rw [zr (bz lT)]
   exact (hf c lH).1
  have I2:Inv X lj σ (lu H s.heap.objs.size (.tup [x,y])) { s with heap:=uo } :=
   Inv.turnedL (s:={ s with heap:=h' }) (ch:=[n+4]) (t':=s.toks) I1 (fun c o lH eo=>oF.extBut c o (by simpa using lH) eo) (fun c lH=>by
    have z:c=n+4:=by simpa using lH
    subst z
    exact⟨fr _ (by simp),(hf _ (by simp)).2⟩) (fun c lH=>by
    have z:c=n+4:=by simpa using lH
    subst z
    exact⟨_,vA⟩)
  refine⟨.ref s.heap.objs.size,_,I2,rfl,⟨_,x,y,I.fresh,rfl,rfl,fun zs hz=>by rw [I.list_inj hz o7]; exact hx,fun zs hz=>by rw [I.list_inj hz nZ]; exact hy⟩,
   ⟨vA,oF.extBut _ _ (dA ha hb).TIz (kk _ _ (dA ha hb).TIz (dA ha hb).TITO (dA ha hb).TIi1 (dA ha hb).TIi2 h2),⟨_,_,oF.extBut _ _ (dA ha hb).TOz a2⟩,a3.extBut oF.extBut (dA ha hb).i1z,a4.extBut oF.extBut (dA ha hb).i2z⟩,fr⟩
 done:=by
  intro X hP hw hK hc i lj s σ H E I hf st hg
  subst hP hw hK
  obtain⟨xs,ys,o7,nZ,hx⟩:=hg
  obtain⟨h1,h2,⟨u0,v0,h3⟩,h4,h5⟩:=st
  obtain⟨mE,rB,p1,rL⟩:=I.list o7
  obtain⟨lZ,rM,p2,uH⟩:=I.list nZ
  have tj:=rB.length
  have qf:=rM.length
  refine wpAny_pyNext_zip_end (I.ok.hd hc) (dA ha hb) h1 h2 h3 h4 h5 p1.isList p2.isList ?_ fun h' kk=>⟨rfl,?_⟩
  ·rcases hx with z | z
   ·exact .inl (by simp; lia)
   ·exact .inr (by simp; lia)
  ·have hth:∀ c∈[n+4,n+3,n,n+1],c∈[n+4,n+2,n+3,n,n+1]:=fun c lH=>by
    simp only [aI,aV,or_false] at lH ⊢
    rcases lH with z | z | z | z <;> subst z <;> simp
   refine I.step (g':=s.gens) (d':=s.drawn) (t':=s.toks) (ch:=[n+4,n+3,n,n+1]) (fun c lH=>?_) (fun c o _ _ mQ e _=>kk c o (fun z=>mQ (by simp [z])) (fun z=>mQ (by simp [z])) (fun z=>mQ (by simp [z])) (fun z=>mQ (by simp [z])) e)
    (fun c o _ _ mQ e _=>⟨o.slots,kk c o (fun z=>mQ (by simp [z])) (fun z=>mQ (by simp [z])) (fun z=>mQ (by simp [z])) (fun z=>mQ (by simp [z])) e⟩) (fun _ _ _ _ n=>n)
    (fun c o mQ e=>⟨o,kk c o (fun z=>mQ (by simp [z])) (fun z=>mQ (by simp [z])) (fun z=>mQ (by simp [z])) (fun z=>mQ (by simp [z])) e⟩) (fun _ _ e=>e) (fun _ _ _ e=>e) (fun c ps e=>⟨#[],by rw [e]; simp⟩) (fun m hm=>?_) (fun c u e=>?_) I.bare
   ·obtain⟨_,a1,_,a3,a4,a5⟩:=hf c (hth c lH)
    exact⟨a3,a1,a4,a5⟩
   ·obtain⟨o,vf,ep,ho,r⟩:=hm
    have ne:∀ c∈[n+4,n+2,n+3,n,n+1],X.env.locals≠c:=fun c lH=>eE (hf c lH).2.1
    exact⟨o,vf,ep,kk _ o (ne _ (by simp)) (ne _ (by simp)) (ne _ (by simp)) (ne _ (by simp)) ho,r⟩
   ·have su:∀ d u',H d=some u'→∀ c∈[n+4,n+2,n+3,n,n+1],d≠c:=fun d u' e' c lH z=>by rw [z,(hf c lH).1] at e'; cases e'
    refine (I.hok c u e).stay (fun d v' hd q=>kk d v' ?_ ?_ ?_ ?_ q) (fun _ q=>q) fun _ _ q=>q
    all_goals
     rcases hd with z | z
     ·rw [z]; exact su c u e _ (by simp)
     ·exact su d _ z _ (by simp)
 self:=fun _ _ _ _ _ st h=>gn st.1 h
def iZp (rq rA:Hp→Addr→List V→Prop) (ta:TA):TI:=fun σ H R=>ta σ H fun vs H1=>∃ a b xs ys,vs = [.ref a,.ref b]∧rq H1 a xs∧rA H1 b ys∧R (zkl rq rA a b) H1
theorem zef {X:Cx} {es:List Expr} {k:Nat} {pB p pos:Pos} {a b:Expr} {ta:TA} (hg:Gl X "zip") (hm:X.mg "zip" = none) (ha:PA X [a,b] ta) (hs:starEach [a,b] X.env = [(false,eval a X.env),(false,eval b X.env)]:=by rfl) (oE:starEach [b] X.env = [(false,eval b X.env)]:=by rfl) :
  PI X (.Tuple es k pB) (.Call (.Name "zip" p) [a,b] [] pos) (iZp (lr X.K) (lr X.K) ta):=by
 intro lj s σ H R I h
 refine Call_ (zbE I hg hm kt (bA (thn (ha pos lj s σ H _ I h) fun us s1 ⟨vs,H1,I1,r1,q1⟩=>?_) (by rw [hs,oE]) (by rw [oE]; rfl)))
 obtain⟨l1,l2,xs,ys,e,o7,nZ,q⟩:=q1
 subst e
 cases r1 with
 | cons r rr =>
  cases rr with
  | cons r' rr =>
   cases rr
   cases r
   cases r'
   obtain⟨mE,rB,vB,rL⟩:=I1.list o7
   obtain⟨lZ,rM,wx,uH⟩:=I1.list nZ
   have pZ:l1 < s1.heap.objs.size:=by obtain⟨_,_,e,_⟩:=vB; exact aK e
   have p4:l2 < s1.heap.objs.size:=by obtain⟨_,_,e,_⟩:=wx; exact aK e
   refine call_zip_2 vB.isList wx.isList fun h' b1 b2 b3 b4 b5 b6 kk=>?_
   have I2:Inv X lj σ H1 { s1 with heap:=h' }:=I1.kept (t':=s1.toks) kk
   refine gn b1 ?_
   refine⟨_,_,_,zkl (lr X.K) (lr X.K) l1 l2,H1,rfl,I2,zkm l1 l2 s1.heap.objs.size pZ p4,⟨b1,b2,⟨_,_,b3⟩,b4,b5⟩,fun c hc=>?_,q⟩
   have hle:s1.heap.objs.size≤c:=by
    simp only [aI,aV,or_false] at hc
    rcases hc with z | z | z | z | z <;> subst z <;> lia
   exact I1.fpOk hle (I1.hok.fresh hle)
def zhq (Sq:Hp→Addr→List V→Prop) (a:Addr) (n:Nat):It :=
 ⟨fun i H=>i < n∧∃ xs,Sq H a xs∧xs.length=n,fun i H x H'=>H'=H∧∀ xs,Sq H a xs→xs[n - 1 - i]? = some x,fun i H=>n≤i⟩
theorem zkn {P:Program} {w:World} {K:ag} {tg:Expr} (a it:Addr) (n:Nat):Turn P w K tg (zhq (lr K) a n) [it] it (fun i h=>i≤n∧h.IsRevIter it a ((n:Int) - 1 - (i:Int))) where
 mem:=by simp
 obj:=fun i h st b hb=>by
  have z:b=it:=by simpa using hb
  subst z
  obtain⟨_,o,e,c,d⟩:=st
  exact⟨o,e,fun v z=>by rw [d] at z; cases z⟩
 keep:=fun i h h' st k=>⟨st.1,st.2.at fun o e=>k it (by simp) o e⟩
 item:=by
  intro X hP hw hK hc i lj s σ H E I hf st hg
  subst hP hw hK
  obtain⟨qT,xs,hq,hl⟩:=hg
  obtain⟨lx,rv,p,hz⟩:=I.list hq
  have lF:=rv.length
  obtain⟨x,hx⟩:∃ x,xs[n - 1 - i]? = some x:=⟨xs[n - 1 - i]'(by lia),by simp⟩
  obtain⟨u,hu,ru⟩:=rv.get hx
  obtain⟨f0,f1,f2,f3,f4,f5⟩:=hf it (by simp)
  have e:(n:Int) - 1 - (i:Int)=((n - 1 - i:Nat):Int):=by lia
  have hit:=st.2
  rw [e] at hit
  refine wpAny_pyNext_rev_item hit p.isList (x:=u) (by simpa using hu) fun h' ly sb=>?_
  have I1:Inv X lj σ H { s with heap:=h' }:=I.turned (t':=s.toks) (fun b o hb e=>(sb.2 b hb).trans e) f0 f1 f3 f4 f5
  have e2:((n - 1 - i:Nat):Int) - 1=(n:Int) - 1 - ((i+1:Nat):Int):=by lia
  rw [e2] at ly
  obtain⟨o,eo,c,d⟩:=id ly
  exact⟨u,rfl,zfI (s:={ s with heap:=h' }) eo c d (by decide) ⟨x,H,I1,ru,⟨rfl,fun ys hy=>by rw [I.list_inj hy hq]; exact hx⟩,⟨qT,ly⟩,fun b hb=>(hf b hb).1⟩⟩
 done:=by
  intro X hP hw hK hc i lj s σ H E I hf st hg
  subst hP hw hK
  obtain⟨f0,f1,f2,f3,f4,f5⟩:=hf it (by simp)
  have qT:n≤i:=hg
  have e:(n:Int) - 1 - (i:Int) = -1:=by have:=st.1; lia
  have hit:=st.2
  rw [e] at hit
  exact wpAny_pyNext_rev_end (I.ok.hd hc) hit fun h' eb=>⟨rfl,I.turned (t':=s.toks) (fun b o hb e=>eb b o hb e) f0 f1 f3 f4 f5⟩
 self:=fun _ _ _ _ _ st h=>jv st.2 h
end L2
end
section
namespace PySem
namespace F
theorem zfU:Manifest.owners.lookup (String.ofList ['d','e','s','r','e','v','e','r'].reverse)=some Manifest.sig_reversed:=by kernel_rfl
theorem slot_rvd_next:Slot "reversed" "__next__" "reversed.__next__" :=
 .of (owner:="reversed") (n:="__next__") (by rw [ed,cQ]; kernel_rfl) (by decide +kernel) (by decide +kernel) (by decide +kernel) (by first | exact .inl (by decide +kernel) | exact .inr (by decide +kernel)) (by rw [gJ]; kernel_rfl)
theorem entry_rvd_next:entryFor table "reversed.__next__" = some Builtin.«reversed.__next__»:=entryFor_of_tree (by kernel_rfl)
theorem args_rvd_next_1 (a:Value):argsOk "reversed.__next__" ⟨[a],[]⟩:=by
 unfold argsOk; rw [signature?_of (id:="reversed.__next__") (n:=['_','_','t','x','e','n','_','_']) (o:=['d','e','s','r','e','v','e','r']) (by kernel_rfl) zfU]; kernel_rfl
theorem slot_rvd_iter:Slot "reversed" "__iter__" "reversed.__iter__" :=
 .of (owner:="reversed") (n:="__iter__") (by rw [ed,cQ]; kernel_rfl) (by decide +kernel) (by decide +kernel) (by decide +kernel) (by first | exact .inl (by decide +kernel) | exact .inr (by decide +kernel)) (by rw [gJ]; kernel_rfl)
theorem args_rvd_iter_1 (a:Value):argsOk "reversed.__iter__" ⟨[a],[]⟩:=by
 unfold argsOk; rw [signature?_of (id:="reversed.__iter__") (n:=['_','_','r','e','t','i','_','_']) (o:=['d','e','s','r','e','v','e','r']) (by kernel_rfl) zfU]; kernel_rfl
theorem entry_rvd_iter:entryFor table "reversed.__iter__" = some Builtin.«dict_keyiterator.__iter__»:=entryFor_alias (id':="dict_keyiterator.__iter__") (by kernel_rfl) (by first | rfl | decide +kernel | (unfold String.splitOn; simp +decide [String.splitOnAux])) (by decide +kernel) (by kernel_rfl)
theorem zfw:Slot "reversed" "__init__" "object.__init__":=.of (owner:="object") (n:="__init__") (by rw [ed,cQ]; kernel_rfl) (by decide +kernel) (by decide +kernel) (by decide +kernel) (by first | exact .inl (by decide +kernel) | exact .inr (by decide +kernel)) (by rw [gJ]; kernel_rfl)
theorem called_rvd:TypeCalled "reversed" "reversed.__new__" "object.__init__" :=
 ⟨by decide +kernel,by decide +kernel,⟨_,_,mro_reversed⟩,made_reversed,by decide +kernel,by rw [gJ]; kernel_rfl,zfw⟩
theorem noRev_tuple:typeLookup (.type "tuple") "__reversed__" = pure none:=by rw [ed,cQ]; kernel_rfl
end F
def zgp (l:Addr) (i:Int):Obj:={ cls:=.type "reversed",data:=.fields #[.ref l,rawInt i] }
def Heap.IsRvd (h:Heap) (a l:Addr) (i:Int):Prop:=∃ o,h.get? a=some o∧o.cls = .type "reversed"∧o.data = .fields #[.ref l,rawInt i]
theorem Heap.IsRvd.typeIs {s:Shared} {a l:Addr} {i:Int} (x:s.heap.IsRvd a l i):s.TypeIs (.ref a) "reversed":=let ⟨o,ho,hc,_⟩:=x; ⟨o,ho,hc⟩
theorem Heap.IsRvd.at {h h':Heap} {a l:Addr} {i:Int} (x:h.IsRvd a l i) (e:∀ o,h.get? a=some o→h'.get? a=some o):h'.IsRvd a l i:=let ⟨o,ho,r⟩:=x; ⟨o,e _ ho,r⟩
open PyProof.Rows in
theorem zfx (l:Addr) (items:Array Value) :
  Meets (Builtin.«reversed.__new__» ⟨[.type "reversed",.ref l],[]⟩) (fun _ R s=>IsTup s.heap l items∧(items.size:Int) < 2 ^ 63 ∧
   R (.ok (.ret (.ref s.heap.objs.size))) { s with heap:=s.heap.push (zgp l ((items.size:Int) - 1)),toks:=s.toks+1+1 }) :=
 .of_wp fun prog w A R s h=>by
  obtain⟨hl,hsz,h⟩:=h
  unfold Builtin.«reversed.__new__»; refine ae (dS (newClass_reversed _) ?_)
  try dsimp only
  iterate 2 refine ae (dS (a:=()) (by first | rfl | kernel_rfl) ?_)
  try dsimp only
  refine ae (i3 hl.typeIs F.noRev_tuple ?_)
  try dsimp only
  refine ae (ae (m:=isInstance (.ref l) (.type "dict")) (fC hl.typeIs F.sub_tuple_dict ?_))
  simp only [bw,if_false]; refine ae (m:=specialOf (.ref l) "__getitem__") (i3 hl.typeIs slot_tuple_getitem.lookup ?_)
  refine ak ?_
  try dsimp only
  try simp only [Bool.not_true,bw,if_false]
  refine ae (len_tuple hl hsz ?_)
  refine ae (m:=asInt? _) (dS (a:=some (items.size:Int)) rfl ?_)
  try dsimp only
  refine ae (m:=kR _ _) ?_
  show wpAny _ _ (newObj (.type "reversed") (.fields #[.ref l,rawInt ((items.size:Int) - 1)]) none) _ _ _
  refine bV ?_
  exact ak ⟨_,rfl,h⟩
section
variable {prog:Program} {w:World} {A:Around} {E:Value→Shared→Prop} {s:Shared}
open PyProof.Rows
theorem zeI {l:Addr} {items:Array Value} {Q:Value→Shared→Prop} (hl:IsTup s.heap l items) (hsz:(items.size:Int) < 2 ^ 63)
  (h:Q (.ref s.heap.objs.size) { s with heap:=s.heap.push (zgp l ((items.size:Int) - 1)),toks:=s.toks+1+1 }):wpAny (model prog w) A (call (.type "reversed") [.ref l]) Q E s:=by
 refine jZ F.called_rvd (by decide) (F.typeCall_reversed_1 _) (F.newCall_reversed_1 _) (fun obj=>jw obj _) F.entry_reversed_new (zfx l items) ⟨hl,hsz,?_⟩; exact⟨⟨_,aO _ rfl,rfl⟩,h⟩
theorem zcx {it l:Addr} {i:Nat} {items:Array Value} {x:Value} {Q:Option Value→Shared→Prop} (hit:s.heap.IsRvd it l (i:Int)) (hl:IsTup s.heap l items) (hx:items[i]? = some x) (hi:(i:Int) < 2 ^ 62)
  (hQ:∀ h',h'.IsRvd it l ((i:Int) - 1)→bu it s.heap h'→Q (some x) { s with heap:=h',toks:=s.toks+1 }):wpAny (model prog w) A (pyNext (.ref it)) Q E s:=by
 obtain⟨o,ho,hc,hd⟩:=id hit; unfold pyNext
 refine ae (c9 (br (name:=bW "__next__") hit.typeIs F.slot_rvd_next
  (bD F.slot_rvd_next hit.typeIs F.entry_rvd_next ?_ (F.args_rvd_next_1 _))))
 unfold Builtin.«reversed.__next__»
 refine ae (dS (a:=(bd it,[])) rfl ?_); try dsimp only
 refine ae (bC ho hd (x:=.ref l) rfl ?_); refine ae (bC ho hd (x:=rawInt (i:Int)) rfl ?_)
 show wpAny _ _ (if (i:Int) < 0 then _ else _) _ _ s; rw [if_neg (by lia)]
 refine ae (i3 hl.typeIs slot_tuple_getitem.lookup ?_)
 try simp only [Option.isNone_some,bw,if_false]
 refine ae (wpAny_mkInt ?_); have lT:i < items.size:=by
  obtain⟨h1,_⟩:=da.mp hx
  exact h1
 refine ae (c9 (getItem_tuple (j:=i) hl (by lia) (by lia) (by rw [gQ (by lia) (by lia)]; simp) hx ?_))
 try dsimp only
 refine ae (bC (s:={ s with toks:=s.toks+1 }) ho hd (x:=rawInt (i:Int)) rfl ?_)
 show wpAny _ _ (setField (.ref it) 1 (rawInt ((i:Int) - 1)) >>= _) _ _ _
 refine ae (eG (s:={ s with toks:=s.toks+1 }) ho hd (by simp) (ak ⟨x,rfl,ak (hQ _ ?_ (cZ ..))⟩))
 exact⟨_,d9 _ ho (fk (dh hd _)),(io ..).trans hc,by rw [dh hd]; simp⟩
theorem zcz {it l:Addr} {Q:Option Value→Shared→Prop} (hh:A.handled=none) (hit:s.heap.IsRvd it l (-1)) (hQ:∀ h',kd it s.heap h'→Q none { s with heap:=h' }):wpAny (model prog w) A (pyNext (.ref it)) Q E s:=by
 obtain⟨o,ho,hc,hd⟩:=id hit; unfold pyNext
 refine ae (c9 (br (name:=bW "__next__") hit.typeIs F.slot_rvd_next
  (bD F.slot_rvd_next hit.typeIs F.entry_rvd_next ?_ (F.args_rvd_next_1 _))))
 unfold Builtin.«reversed.__next__»
 refine ae (dS (a:=(bd it,[])) rfl ?_); try dsimp only
 refine ae (bC ho hd (x:=.ref l) rfl ?_); refine ae (bC ho hd (x:=rawInt (-1)) rfl ?_)
 show wpAny _ _ (if (-1:Int) < 0 then _ else _) _ _ s; rw [if_pos (by decide)]
 refine ae (cn ?_)
 refine ae (ae (m:=setField (.ref it) 1 (rawInt (-1))) (eG ho hd (by simp) ?_))
 have hd2:=dh hd (·.setIfInBounds 1 (rawInt (-1)))
 have uh:=d9 (hU (·.setIfInBounds 1 (rawInt (-1)))) ho (fk hd2)
 refine eG uh hd2 (by simp) ?_
 try dsimp only
 refine ae ?_; show wpAny _ _ (newExc (.type "StopIteration") [] >>= _) _ _ _
 refine ae ?_
 simp only [newExc,newTuple]
 refine ae (bV ?_ (by size_fits)); refine ae (m:=firstArgMember _ _) (dS (a:=dQ) (by first | rfl | (simp only [firstArgMember]; rfl)) ?_)
 refine bV ?_ (by size_fits); simp only [raiseNew]
 refine ae (jB ?_); first | rw [show A.in1.handled=none from hh] | rw [hh]
 refine ae (ak (kf ?_)); refine ae (fC (T:="StopIteration") (b:=true) ⟨_,aO _ rfl,rfl⟩ gK ?_)
 exact ak (hQ _ ((((cZ ..).extBut.trans (cZ ..).extBut).push _).push _))
theorem zcc {it l:Addr} {i:Int} {Q:Value→Shared→Prop} (hit:s.heap.IsRvd it l i) (h:Q (.ref it) s):wpAny (model prog w) A (pyIter (.ref it)) Q E s:=by
 refine ip hit.typeIs F.slot_rvd_iter (bD F.slot_rvd_iter hit.typeIs F.entry_rvd_iter ?_ (F.args_rvd_iter_1 _))
 show wpAny _ _ (ret (.ref it)) _ _ s; exact ak ⟨_,rfl,"reversed",_,hit.typeIs,F.slot_rvd_next.lookup,h⟩
end
section
variable {prog:Program} {w:World} {A:Around} {E:Value→Shared→Prop} {s:Shared}
theorem zhr {it t:Addr} {i:Nat} {items:Array Value} {x:Value} {Q:Value→Shared→Prop} (hit:s.heap.IsTupleIter it t i) (ht:s.heap.IsTuple t items) (hx:items[i]? = some x)
  (hQ:∀ h',h'.IsTupleIter it t (i+1)→bu it s.heap h'→Q x { s with heap:=h' }):wpAny (model prog w) A (bi (.ref it)) Q E s:=by
 obtain⟨o,ho,hc,hd⟩:=id hit; obtain⟨ot,EV,_,nt,EW⟩:=ht
 unfold bi; refine ae (br (name:=bW "__next__") hit.typeIs ee (bD ee hit.typeIs gS ?_ (gL _)))
 show wpAny _ _ (field (.ref it) 0 >>= _) _ _ s; refine ae (bC ho hd (x:=.ref t) rfl ?_); show wpAny _ _ (if (bd t == dQ)=true then _ else _) _ _ _; rw [if_neg (by exact aR)]
 refine ae (bC ho hd (x:=.int _ 0) rfl ?_); refine ae (m:=seqItems? _) (dj EV EW ?_); simp only [bG,hx]
 have hn:=d9 (hU (·.setIfInBounds 1 (rawInt ((i+1:Nat):Int)))) ho (fk (dh hd _))
 refine ae (eG ho hd (by simp) (ak ⟨x,rfl,ak (hQ _ ⟨_,hn,(io ..).trans hc,?_⟩ (cZ ..))⟩)); rw [dh hd]; simp [rawInt]
theorem zhs {it t:Addr} {i:Nat} {items:Array Value} {Q:Value→Shared→Prop} (hh:A.handled=none) (hit:s.heap.IsTupleIter it t i) (ht:s.heap.IsTuple t items) (hx:items[i]? = none)
  (hE:∀ h' e,kd it s.heap h'→(∃ o,h'.get? e=some o∧o.cls = .type "StopIteration")→E (.ref e) { s with heap:=h' }):wpAny (model prog w) A (bi (.ref it)) Q E s:=by
 obtain⟨o,ho,hc,hd⟩:=id hit; obtain⟨ot,EV,_,nt,EW⟩:=ht
 unfold bi; refine ae (br (name:=bW "__next__") hit.typeIs ee (bD ee hit.typeIs gS ?_ (gL _)))
 show wpAny _ _ (field (.ref it) 0 >>= _) _ _ s; refine ae (bC ho hd (x:=.ref t) rfl ?_); show wpAny _ _ (if (bd t == dQ)=true then _ else _) _ _ _; rw [if_neg (by exact aR)]
 refine ae (bC ho hd (x:=.int _ 0) rfl ?_); refine ae (m:=seqItems? _) (dj EV EW ?_); simp only [bG,hx]
 refine ae (cn (ae (eG ho hd (by simp) ?_))); show wpAny _ _ (newExc (.type "StopIteration") [] >>= _) _ _ _; refine ae ?_
 simp only [newExc,newTuple]; refine ae (bV ?_ (by size_fits)); refine ae (m:=firstArgMember _ _) (dS (a:=dQ) (by first | rfl | (simp only [firstArgMember]; rfl)) ?_)
 refine bV ?_ (by size_fits); simp only [raiseNew]; refine ae (jB ?_); first | rw [show A.in1.handled=none from hh] | rw [hh]
 refine ae (ak (kf ?_)); exact hE _ _ (((cZ ..).extBut.push _).push _) ⟨_,aO _ rfl,rfl⟩
end
theorem Draws.tuple {prog:Program} {w:World} {A:Around} (hh:A.handled=none) (it t:Addr) (me:t≠it) (items:Array Value):Draws prog w A it [it,t] items.size (fun i v=>items[i]? = some v) (fun i h=>h.IsTupleIter it t i∧h.IsTuple t items) where
 live:=fun i h st=>st.1.imp fun o r=>r.1
 frame:=fun i h h' st kk=>⟨st.1.at fun o=>kk it (by simp) o,st.2.at fun o=>kk t (by simp) o⟩
 item:=fun i s Q E hi st hQ=>zhr st.1 st.2 (x:=items[i]) (by simp [hi]) fun h' a b=>hQ _ h' s.toks (by simp [hi]) ⟨a,st.2.extBut b.extBut me⟩ b
 done:=fun s Q E st hE=>zhs hh st.1 st.2 (by simp) hE
def zcw (t:Addr):Obj:={ cls:=.type "tuple_iterator",data:=.fields #[.ref t,.int 0 0] }
def zlm (it:Addr):Obj:={ cls:=.type "enumerate",data:=.fields #[.none,.bool false,.ref it,rawInt 0,.none,.none] }
end PySem
namespace L2
open PySem PySem.Spec PyProof.Rows
theorem zko {P:Program} {w:World} {K:ag} {tg:Expr} (a it:Addr) (n:Nat):Turn P w K tg (zhq (lE K) a n) [it] it (fun i h=>i≤n∧h.IsRvd it a ((n:Int) - 1 - (i:Int))) where
 mem:=by simp
 obj:=fun i h st b hb=>by
  have z:b=it:=by simpa using hb
  subst z
  obtain⟨_,o,e,c,d⟩:=st
  exact⟨o,e,fun v z=>by rw [d] at z; cases z⟩
 keep:=fun i h h' st k=>⟨st.1,st.2.at fun o e=>k it (by simp) o e⟩
 item:=by
  intro X hP hw hK hc i lj s σ H E I hf st hg
  subst hP hw hK
  obtain⟨qT,xs,hq,hl⟩:=hg
  obtain⟨lx,rv,p,hz⟩:=I.tuple hq
  have lF:=rv.length
  have o8:=aX
  obtain⟨x,hx⟩:∃ x,xs[n - 1 - i]? = some x:=⟨xs[n - 1 - i]'(by lia),by simp⟩
  obtain⟨u,hu,ru⟩:=rv.get hx
  obtain⟨f0,f1,f2,f3,f4,f5⟩:=hf it (by simp)
  have e:(n:Int) - 1 - (i:Int)=((n - 1 - i:Nat):Int):=by lia
  have hit:=st.2
  rw [e] at hit
  refine zcx hit p (x:=u) (by simpa using hu) (by lia) fun h' ly sb=>?_
  have I1:Inv X lj σ H { s with heap:=h',toks:=s.toks+1 }:=I.turned (t':=s.toks+1) (fun b o hb e=>(sb.2 b hb).trans e) f0 f1 f3 f4 f5
  have e2:((n - 1 - i:Nat):Int) - 1=(n:Int) - 1 - ((i+1:Nat):Int):=by lia
  rw [e2] at ly
  obtain⟨o,eo,c,d⟩:=id ly
  exact⟨u,rfl,zfI (s:={ s with heap:=h',toks:=s.toks+1 }) eo c d (by decide) ⟨x,H,I1,ru,⟨rfl,fun ys hy=>by rw [I.tuple_inj hy hq]; exact hx⟩,⟨qT,ly⟩,fun b hb=>(hf b hb).1⟩⟩
 done:=by
  intro X hP hw hK hc i lj s σ H E I hf st hg
  subst hP hw hK
  obtain⟨f0,f1,f2,f3,f4,f5⟩:=hf it (by simp)
  have qT:n≤i:=hg
  have e:(n:Int) - 1 - (i:Int) = -1:=by have:=st.1; lia
  have hit:=st.2
  rw [e] at hit
  exact zcz (I.ok.hd hc) hit fun h' eb=>⟨rfl,I.turned (t':=s.toks) (fun b o hb e=>eb b o hb e) f0 f1 f3 f4 f5⟩
 self:=fun _ _ _ _ _ st h=>zcc st.2 h
theorem zgq {X:Cx} {tg:Expr} {lj:List (Addr×Obj)} {σ:St} {H1:Hp} {s1:Shared} {R:It→Hp→Prop} {l:Addr} {xs:List V} (I1:Inv X lj σ H1 s1) (hq:lE X.K H1 l xs) (q:R (zhq (lE X.K) l xs.length) H1) :
  wpAny (model X.prog X.w) X.A (call (.type "reversed") [.ref l]) (fun v s2=>wpAny (model X.prog X.w) X.A (pyIter v) (PIE X lj σ tg R) X.xe s2) X.xe s1:=by
 obtain⟨lx,rv,pl,hz⟩:=I1.tuple hq
 have lF:=rv.length
 have o8:=aX
 refine zeI pl (by rw [ar]; lia) ?_
 have I2:Inv X lj σ H1 { s1 with heap:=s1.heap.push (zgp l ((lx.toArray.size:Int) - 1)),toks:=s1.toks+1+1 }:=I1.kept fun b o e=>aj _ e
 have hr:(s1.heap.push (zgp l ((lx.toArray.size:Int) - 1))).IsRvd s1.heap.objs.size l ((xs.length:Int) - 1 - ((0:Nat):Int)):=by
  refine⟨_,aO _ rfl,rfl,?_⟩
  have e1:(lx.toArray.size:Int) - 1=(xs.length:Int) - 1 - ((0:Nat):Int):=by rw [ar,lF]; lia
  show ka #[.ref l,rawInt ((lx.toArray.size:Int) - 1)]=_
  rw [e1]
 refine zcc hr ?_
 refine⟨_,[s1.heap.objs.size],_,zhq (lE X.K) l xs.length,H1,rfl,I2,zko l s1.heap.objs.size xs.length,⟨bj _,hr⟩,fun b hb=>?_,q⟩
 have z:b=s1.heap.objs.size:=by simpa using hb
 subst z
 exact I1.fpOk (af _) (I1.hok.fresh (af _))
theorem zht {X:Cx} {tg:Expr} {lj:List (Addr×Obj)} {σ:St} {H1:Hp} {s1:Shared} {R:It→Hp→Prop} {l:Addr} {xs:List V} (I1:Inv X lj σ H1 s1) (hq:lr X.K H1 l xs) (q:R (zhq (lr X.K) l xs.length) H1) :
  wpAny (model X.prog X.w) X.A (call (.type "reversed") [.ref l]) (fun v s2=>wpAny (model X.prog X.w) X.A (pyIter v) (PIE X lj σ tg R) X.xe s2) X.xe s1:=by
 obtain⟨lx,rv,pl,hz⟩:=I1.list hq
 have lF:=rv.length
 refine call_reversed_list pl.isList ?_
 have I2:Inv X lj σ H1 { s1 with heap:=s1.heap.push (revObj l ((lx.toArray.size:Int) - 1)) }:=I1.kept (t':=s1.toks) fun b o e=>aj _ e
 have hr:(s1.heap.push (revObj l ((lx.toArray.size:Int) - 1))).IsRevIter s1.heap.objs.size l ((xs.length:Int) - 1 - ((0:Nat):Int)):=by
  refine⟨_,aO _ rfl,rfl,?_⟩
  have e1:(lx.toArray.size:Int) - 1=(xs.length:Int) - 1 - ((0:Nat):Int):=by rw [ar,lF]; lia
  show ka #[.ref l,rawInt ((lx.toArray.size:Int) - 1)]=_
  rw [e1]
 refine jv hr ?_
 refine⟨_,[s1.heap.objs.size],_,zhq (lr X.K) l xs.length,H1,rfl,I2,zkn l s1.heap.objs.size xs.length,⟨bj _,hr⟩,fun b hb=>?_,q⟩
 have z:b=s1.heap.objs.size:=by simpa using hb
 subst z
 exact I1.fpOk (af _) (I1.hok.fresh (af _))
def zqI (K:ag) (ta:TA):TI:=fun σ H R=>ta σ H fun vs H1=>∃ a xs,vs = [.ref a]∧((lr K H1 a xs∧R (zhq (lr K) a xs.length) H1)∨(lE K H1 a xs∧R (zhq (lE K) a xs.length) H1))
theorem zo7 {X:Cx} {tg:Expr} {p pos:Pos} {a:Expr} {ta:TA} (hg:Gl X "reversed") (hm:X.mg "reversed" = none) (ha:PA X [a] ta) (hs:starEach [a] X.env = [(false,eval a X.env)]:=by rfl) :
  PI X tg (.Call (.Name "reversed" p) [a] [] pos) (zqI X.K ta):=by
 intro lj s σ H R I h
 refine Call_ (zbE I hg hm boot_reversed (bA (thn (ha pos lj s σ H _ I h) fun us s1 ⟨vs,H1,I1,r1,q1⟩=>?_) hs rfl))
 obtain⟨l,xs,e,hq⟩:=q1
 subst e
 cases r1 with
 | cons r rr =>
  cases rr
  cases r
  rcases hq with ⟨hq,q⟩ | ⟨hq,q⟩
  ·exact zht I1 hq q
  ·exact zgq I1 hq q
end L2
end
section
namespace L2
open PySem PySem.Spec PyProof.Rows
inductive EqD (K:ag) (H:Hp):Nat→V→V→Bool→Prop where
 | flat {d:Nat} {x y:V} (hx:zfQ x=true) (hy:zfQ y=true):EqD K H d x y (eqV x y)
 | same {d:Nat} {a:Addr}:EqD K H d (.ref a) (.ref a) true
 | lists {d:Nat} {a b:Addr} {xs ys:List V} {e:Nat→Bool} (me:a≠b) (ha:lr K H a xs) (hb:lr K H b ys) (hl:xs.length=ys.length)
   (he:∀ (j:Nat) x y,xs[j]? = some x→ys[j]? = some y→EqD K H d x y (e j)):EqD K H (d+1) (.ref a) (.ref b) ((aJ xs.length).all e)
 | lens {d:Nat} {a b:Addr} {xs ys:List V} (me:a≠b) (ha:lr K H a xs) (hb:lr K H b ys) (hl:xs.length≠ys.length):EqD K H (d+1) (.ref a) (.ref b) false
 | tups {d:Nat} {a b:Addr} {xs ys:List V} {e:Nat→Bool} (me:a≠b) (ha:lE K H a xs) (hb:lE K H b ys)
   (he:∀ (j:Nat) x y,xs[j]? = some x→ys[j]? = some y→EqD K H d x y (e j)):EqD K H (d+1) (.ref a) (.ref b) ((aJ (min xs.length ys.length)).all e && xs.length == ys.length)
theorem zT.getE {xs:List V} {us:List Value} (r:zT xs us) {j:Nat} (h:j < us.toArray.size):∃ x,xs[j]? = some x∧RelV x us.toArray[j]:=by
 have hl:=r.length
 have hj:j < xs.length:=by rw [hl]; simpa using h
 obtain⟨u,hu,ru⟩:=r.get (i:=j) (x:=xs[j]) (by simp)
 refine⟨xs[j],by simp,?_⟩
 have:us.toArray[j]=u:=by
  have h2:j < us.length:=by simpa using h
  rw [ai h2] at hu
  simpa using aT hu
 rw [this]
 exact ru
theorem EqD.at {X:Cx} {lj:List (Addr×Obj)} {σ:St} {H:Hp} {s:Shared} (I:Inv X lj σ H s) {d:Nat} {x y:V} {b:Bool} (h:EqD X.K H d x y b) :
  ∀ (A:Around) (u v:Value),RelV x u→RelV y v→A.units+d < cLine→SeqAt.EqAt A s u v b:=by
 induction h with
 | flat hx hy=>exact fun A u v rx ry _=>zo0 rx ry hx hy
 | same=>intro A u v rx ry _; cases rx; cases ry; exact kH _
 | lists me ha hb hl he ih =>
  intro A u v rx ry hu
  cases rx; cases ry
  obtain⟨yq,r1,p1,_⟩:=I.list ha
  obtain⟨yt,r2,p2,_⟩:=I.list hb
  have l1:=r1.length
  have l2:=r2.length
  refine gT me ?_
  have q:=SeqAt.RcAt.lists (A:=A) p1.isList p2.isList (by simp only [ar]; lia) (by lia) fun j h1 h2=>by
   obtain⟨x,hx,rx⟩:=r1.getE h1
   obtain⟨y,hy,ry⟩:=r2.getE h2
   exact ih j x y hx hy A.in1 _ _ rx ry (by simp only [eL]; lia)
  rw [ar,← l1] at q
  exact q
 | lens me ha hb hl =>
  intro A u v rx ry hu
  cases rx; cases ry
  obtain⟨yq,r1,p1,_⟩:=I.list ha
  obtain⟨yt,r2,p2,_⟩:=I.list hb
  have l1:=r1.length
  have l2:=r2.length
  exact gT me (SeqAt.RcAt.lists_lengths p1.isList p2.isList (by simp only [ar,bne_iff_ne]; lia) (by lia))
 | tups me ha hb he ih =>
  intro A u v rx ry hu
  cases rx; cases ry
  obtain⟨yq,r1,p1,_⟩:=I.tuple ha
  obtain⟨yt,r2,p2,_⟩:=I.tuple hb
  have l1:=r1.length
  have l2:=r2.length
  refine gT me ?_
  have q:=SeqAt.RcAt.tuples (A:=A) (s:=s) p1 p2 (by lia) fun j h1 h2=>by
   obtain⟨x,hx,rx⟩:=r1.getE h1
   obtain⟨y,hy,ry⟩:=r2.getE h2
   exact ih j x y hx hy A.in1 _ _ rx ry (by simp only [eL]; lia)
  rw [ar,ar,← l1,← l2] at q
  exact q
def zkp (K:ag) (neg:Bool):R2:=fun x y H Q=>∃ a b xs ys,x = .ref a∧y = .ref b∧((lr K H a xs∧lr K H b ys)∨(lE K H a xs∧lE K H b ys)) ∧
 ((xs.length≠ys.length∧(∀ (j:Nat) x y,xs[j]? = some x→ys[j]? = some y→∃ c,EqD K H 8 x y c)∧Q (.bl neg) H) ∨
  (xs.length=ys.length∧∃ e:Nat→Bool,(∀ (j:Nat) x y,xs[j]? = some x→ys[j]? = some y→EqD K H 8 x y (e j))∧Q (.bl (if neg then !(aJ xs.length).all e else (aJ xs.length).all e)) H))
theorem zgr {X:Cx} (hu:X.A.units+20 < cLine):OpR X (compareOp .NotEq) (zkp X.K true):=by
 intro lj s σ H x y v u Q I rx ry h
 obtain⟨a,b,xs,ys,rfl,rfl,hk,h⟩:=h
 cases rx; cases ry
 rcases hk with ⟨ha,hb⟩ | ⟨ha,hb⟩
 ·obtain⟨yq,r1,p1,_⟩:=I.list ha
  obtain⟨yt,r2,p2,_⟩:=I.list hb
  have l1:=r1.length
  have l2:=r2.length
  rcases h with ⟨hl,_,q⟩ | ⟨hl,e,he,q⟩
  ·exact SeqAt.RcNeAt.lists_lengths p1.isList p2.isList (by simp only [ar,bne_iff_ne]; lia) (by lia) _ _ _ _ ⟨.bl true,H,I,rfl,q⟩
  ·refine SeqAt.RcNeAt.lists p1.isList p2.isList (e:=e) (by simp only [ar]; lia) (by lia) (fun j h1 h2=>?_) _ _ _ _ ⟨.bl _,H,I,rfl,?_⟩
   ·obtain⟨x,hx,rx⟩:=r1.getE h1
    obtain⟨y,hy,ry⟩:=r2.getE h2
    exact (he j x y hx hy).at I _ _ _ rx ry (by simp only [eL]; lia)
   ·rw [ar,← l1]
    exact q
 ·obtain⟨yq,r1,p1,_⟩:=I.tuple ha
  obtain⟨yt,r2,p2,_⟩:=I.tuple hb
  have l1:=r1.length
  have l2:=r2.length
  rcases h with ⟨hl,he,q⟩ | ⟨hl,e,he,q⟩
  ·have wy:∀ j:Nat,∃ c:Bool,∀ x y,xs[j]? = some x→ys[j]? = some y→EqD X.K H 8 x y c:=fun j=>by
    cases hx:xs[j]? with
    | none=>exact⟨true,fun x y z=>by cases z⟩
    | some x =>
     cases hy:ys[j]? with
     | none=>exact⟨true,fun x y _ z=>by cases z⟩
     | some y =>
      obtain⟨c,hc⟩:=he j x y hx hy
      exact⟨c,fun x' y' z1 z2=>by cases z1; cases z2; exact hc⟩
   obtain⟨e,tM⟩:=Classical.axiomOfChoice wy
   refine jJ (s:=s) p1 p2 (e:=e) (by lia) (fun j h1 h2=>?_) _ _ _ _ ⟨.bl _,H,I,rfl,?_⟩
   ·obtain⟨x,hx,rx⟩:=r1.getE h1
    obtain⟨y,hy,ry⟩:=r2.getE h2
    exact (tM j x y hx hy).at I _ _ _ rx ry (by simp only [eL]; lia)
   ·have Bu:(yq.toArray.size == yt.toArray.size)=false:=by
     rw [ar,ar]; exact beq_eq_false_iff_ne.mpr (by lia)
    rw [Bu,kS]
    exact q
  ·refine jJ (s:=s) p1 p2 (e:=e) (by lia) (fun j h1 h2=>?_) _ _ _ _ ⟨.bl _,H,I,rfl,?_⟩
   ·obtain⟨x,hx,rx⟩:=r1.getE h1
    obtain⟨y,hy,ry⟩:=r2.getE h2
    exact (he j x y hx hy).at I _ _ _ rx ry (by simp only [eL]; lia)
   ·have Bu:(yq.toArray.size == yt.toArray.size)=true:=by
     rw [ar,ar]; exact beq_iff_eq.mpr (by lia)
    have yu:min yq.toArray.size yt.toArray.size=xs.length:=by rw [ar,ar]; lia
    rw [Bu,Bool.and_true,yu]
    exact q
theorem zhu {K:ag} {H:Hp} {ms ns:List Int}:∀ (j:Nat) x y,(ms.map V.int)[j]? = some x→(ns.map V.int)[j]? = some y→EqD K H 8 x y ((fun j=>decide (ms[j]? = ns[j]?)) j):=fun j x y hx hy=>by
 rw [ah] at hx hy
 cases h1:ms[j]? with
 | none=>rw [h1] at hx; cases hx
 | some m =>
  cases h2:ns[j]? with
  | none=>rw [h2] at hy; cases hy
  | some n =>
   rw [h1] at hx; rw [h2] at hy
   cases hx; cases hy
   have e:eqV (.int m) (.int n)=decide (some m=some n):=by
    show (m == n)=_
    rw [cL]; simp
   show EqD K H 8 (.int m) (.int n) (decide (ms[j]? = ns[j]?))
   rw [h1,h2,← e]
   exact EqD.flat rfl rfl
theorem zln {α:Type} [DecidableEq α] {ms ns:List α} (hl:ms.length=ns.length):(aJ ms.length).all (fun j=>decide (ms[j]? = ns[j]?))=decide (ms=ns):=by
 rw [cL]
 simp only [fB,bv,decide_eq_true_eq]
 constructor
 ·intro h
  apply gd
  intro j
  by_cases hj:j < ms.length
  ·exact h j hj
  ·rw [cw (by lia),cw (by lia)]
 ·intro h j _
  rw [h]
theorem zkq {K:ag} {neg:Bool} {H:Hp} {Q:VK} {a b:Addr} {ms ns:List Int} (hk:(lr K H a (ms.map V.int)∧lr K H b (ns.map V.int))∨(lE K H a (ms.map V.int)∧lE K H b (ns.map V.int)))
  (q:Q (.bl (if neg then !decide (ms=ns) else decide (ms=ns))) H):zkp K neg (.ref a) (.ref b) H Q:=by
 refine⟨a,b,_,_,rfl,rfl,hk,?_⟩
 rw [ab,ab]
 by_cases hl:ms.length=ns.length
 ·refine .inr ⟨hl,_,zhu,?_⟩
  rw [zln hl]
  exact q
 ·refine .inl ⟨hl,fun j x y hx hy=>⟨_,zhu j x y hx hy⟩,?_⟩
  have me:ms≠ns:=fun z=>hl (by rw [z])
  cases neg with
  | true=>simpa [me] using q
  | false=>simpa [me] using q
theorem zhv {X:Cx}:zbU X (.type "range") (fun xs H Q=>∃ j:Int,xs = [.int j]∧∀ l,H l=none→Q (.ref l) (lu H l (.rng 0 j))):=by
 intro lj s σ H xs us Q I r h
 obtain⟨j,rfl,q⟩:=h
 obtain⟨u,rfl,t,rfl⟩:=vals1 r
 refine call_range_1 ?_
 exact⟨.ref s.heap.objs.size,_,I.laid (o:=.rng 0 j) (fun b o e=>aj _ e) (af _) ⟨_,_,_,aO _ rfl⟩,rfl,q _ I.fresh⟩
def zb6 (lo:Int) (n:Nat):List Int:=(aJ n).map fun (i:Nat)=>lo+(i:Int)
theorem zc1 (lo:Int) (n:Nat):(zb6 lo n).length=n:=by simp [zb6]
theorem zfy {acc:Array Value} {lo:Int} {n:Nat} (h:ItemsOf (fun i v=>∃ t,v = .int (lo+(i:Nat)*1) t) acc n):zT ((zb6 lo n).map V.int) acc.toList:=by
 obtain⟨hsz,hv⟩:=h
 have go:∀ (us:List Value) (k:Nat),(∀ (j:Nat) v,us[j]? = some v→∃ t,v = .int (lo+((k+j:Nat):Int)) t)→zT (((aJ us.length).map fun (i:Nat)=>V.int (lo+((k+i:Nat):Int)))) us:=by
  intro us
  induction us with
  | nil=>intro k _; exact .nil
  | cons u us ih =>
   intro k hu
   rw [bn,jd,aZ,bq]
   refine .cons ?_ ?_
   ·obtain⟨t,e⟩:=hu 0 u rfl
    exact⟨t,e⟩
   ·have:=ih (k+1) fun j v e=>by
     obtain⟨t,z⟩:=hu (j+1) v (by simpa using e)
     exact⟨t,by rw [z]; congr 1; lia⟩
    have e2:(fun (i:Nat)=>V.int (lo+((k+1+i:Nat):Int)))=((fun (i:Nat)=>V.int (lo+((k+i:Nat):Int))) ∘ Nat.succ):=by
     funext i
     show V.int _=V.int _
     congr 2
     show ((k+1+i:Nat):Int)=((k+(i+1):Nat):Int)
     lia
    rw [← e2]
    exact this
 have h1:=go acc.toList 0 fun j v e=>by
  obtain⟨t,z⟩:=hv j v (by simpa using e)
  exact⟨t,by rw [z]; simp⟩
 have e1:acc.toList.length=n:=by simpa using hsz
 rw [e1] at h1
 unfold zb6
 rw [bq]
 have e2:(V.int ∘ fun (i:Nat)=>lo+(i:Int))=fun (i:Nat)=>V.int (lo+((0+i:Nat):Int)):=by
  funext i
  show V.int (lo+(i:Int))=V.int (lo+((0+i:Nat):Int))
  rw [dB]
 rw [e2]
 exact h1
theorem zfz {X:Cx} (hc:X.calm=true):zbU X (.type "list") (fun xs H Q=>∃ p hi,xs = [.ref p]∧H p=some (.rng 0 hi)∧0≤hi∧hi≤1000∧∀ l,H l=none→Q (.ref l) (lu H l (.lst ((zb6 0 hi.toNat).map V.int)))):=by
 intro lj s σ H xs us Q I r h
 obtain⟨p,hi,rfl,hp,h0,h1,q⟩:=h
 obtain⟨u,rfl,rx⟩:=vals1 r
 cases rx
 obtain⟨t,u',v,e⟩:=(show zax X.prog X.w H s.heap p (.rng 0 hi) from I.hok p _ hp)
 have o8:=aX
 refine call_list_range (n:=hi.toNat) (I.ok.hd hc) (show IsRange s.heap p 0 hi 1 t u' v from e) (small_one (by lia) (by lia) (by lia) (by lia)) (by rw [rangeSize_one]; split <;> lia) (by lia) fun h' tk EX c' kk ho vC=>?_
 have hv:=zfy (lo:=0) (n:=hi.toNat) vC
 refine⟨.ref s.heap.objs.size,_,I.laid kk (af _) ?_,rfl,q _ I.fresh⟩
 exact⟨by rw [ab,zc1]; lia,EX.toList,c',hv,by simpa using ho⟩
def zqJ (K:ag) (tl:TE):TI:=fun σ H R=>tl σ H fun x H1=>∃ a,x = .ref a∧(((∃ xs,lr K H1 a xs)∧R (Itl K a) H1)∨((∃ xs,lE K H1 a xs)∧R (Itt K a) H1))
theorem zo8 {X:Cx} {tg l:Expr} {tl:TE} (hl:PE X l tl):PI X tg l (zqJ X.K tl):=by
 intro lj s σ H R I h
 refine thn (hl lj s σ H _ I h) fun v s1 ⟨x,H1,I1,r1,q1⟩=>?_
 obtain⟨a,e,q⟩:=q1
 subst e
 cases r1
 rcases q with ⟨⟨xs,hq⟩,q⟩ | ⟨⟨xs,hq⟩,q⟩
 ·obtain⟨lx,rv,p,hz⟩:=I1.list hq
  refine ik p.isList ?_
  refine⟨s1.heap.objs.size,[s1.heap.objs.size],_,_,H1,rfl,I1.kept (t':=s1.toks) fun b o e=>aj _ e,zfJ a _,⟨_,aO _ rfl,rfl,rfl⟩,fun b hb=>?_,q⟩
  have e:b=s1.heap.objs.size:=by simpa using hb
  subst e
  exact I1.fpOk (af _) (I1.hok.fresh (af _))
 ·obtain⟨lx,rv,p,hz⟩:=I1.tuple hq
  refine fQ (show s1.heap.IsTuple a lx.toArray from p) ?_
  refine⟨s1.heap.objs.size,[s1.heap.objs.size],_,_,H1,rfl,I1.kept (t':=s1.toks) fun b o e=>aj _ e,zeA a _,⟨_,aO _ rfl,rfl,rfl⟩,fun b hb=>?_,q⟩
  have e:b=s1.heap.objs.size:=by simpa using hb
  subst e
  exact I1.fpOk (af _) (I1.hok.fresh (af _))
def intsOf:List Expr→Option (List Int)
 | []=>some []
 | .Constant (.int i) _ _ :: r=>(intsOf r).map (i :: ·)
 | _=>none
def zfV (ns:List Int):TA:=fun _ H Q=>Q (ns.map V.int) H
set_option tactic.hygienic true in
theorem zlo {X:Cx}:∀ (es:List Expr) (ns:List Int),intsOf es=some ns→PA X es (zfV ns):=by
 intro es
 induction es with
 | nil =>
  intro ns h
  have e:ns = []:=(aT h).symm
  subst e
  exact ze
 | cons e r ih =>
  intro ns h
  unfold intsOf at h
  split at h
  ·rename_i heq
   cases heq
  ·rename_i i j p r' heq
   injection heq with e1 e2
   subst e1 e2
   cases hr:intsOf r with
   | none=>rw [hr] at h; cases h
   | some ms =>
    rw [hr] at h
    have e:i :: ms=ns:=aT h
    subst e
    exact za zg (ih ms hr)
  ·cases h
theorem znj {X:Cx} {es:List Expr} {ns:List Int} (h:intsOf es=some ns):PA X es (zfV ns):=zlo es ns h
theorem zc2 {X:Cx} {i:Int} {j:Nat} {p:Pos} {es:List Expr} {t:TA} (hr:PA X es t):PA X (.Constant (.int i) j p :: es) (zos (tC (.int i)) t):=za zg hr
theorem zlp {X:Cx} {i:Nat} {x:Str} {pos' oG qj:Pos} {rest:List Stmt} {u:TS} {es:List Expr} {ns:List Int} (h:intsOf es=some ns) (hN:X.N.Nodup) (hi:X.N[i]? = some x) (hx:Loc X.env.scope x)
  (hf:X.fn x=true∨X.env.scope.names.lookup x=some .local) (hr:PSs X rest u):PSs X (.Assign [.Name x pos'] (.List es oG) qj :: rest) (zpO (ziq (znc (zfV ns)) (zaX i)) u):=by
 have h1:PE X (.List es oG) (znc (zfV ns)):=@z9 X es (zfV ns) oG (@znj X es ns h)
 have h2:PS X (.Assign [.Name x pos'] (.List es oG) qj) (ziq (znc (zfV ns)) (zaX i)):=zq hN hi hx h1 (by rfl) hf
 exact zd h2 hr
section
variable {X:Cx} {K:ag}
theorem zbR (hK:X.K=K):IxR X (zp2 K):=by subst hK; exact zG
theorem zlq (hK:X.K=K):SlR X (zp4 K):=by subst hK; exact zbt
def zp7 (K:ag):List V→Hp→VK→Prop:=fun xs H Q=>∃ p ys,xs = [.ref p]∧(lr K H p ys∨lE K H p ys)∧Q (.int ys.length) H
theorem zbu (hK:X.K=K):zbU X (.builtin "len") (zp7 K):=by subst hK; exact zE
theorem zah {es:List Expr} {k:Nat} {t:TGs} {n:Nat} {pos:Pos} (hK:X.K=K) (hc:X.calm=true) (h:PGs X es t)
  (hn:(assignEach es X.env).length=n:=by rfl) (sW:(assignEach es X.env).findIdx? (·.1)=none:=by rfl):PG X (.Tuple es k pos) (zhh K n t):=by subst hK; exact zaK hc h hn sW
theorem zo9 {o e:Expr} {es:List Expr} {to:TE} {t:TA} {name:Str} {apos ni:Pos} {T id:String} {r:V→List V→Hp→VK→Prop} (hK:X.K=K) (pa:PlainAttrs T) (slot:Slot T name id) (EA:typeOf (.builtin id)=pure (.type "method_descriptor")) (hm:MtR X id r) (ho:PE X o to) (ha:PA X (e :: es) t)
  (vt:attributeBase o name X.env (eval o X.env)=eval o X.env:=by rfl)
  (yl:((backTo ni (starEach (e :: es) X.env)).all (fun x=>!x.1) && (backToKw ni (keywordEach [] X.env)).all (fun x=>x.1.isSome)
   && decide ((e :: es).length+([]:List Keyword).length+(if ([]:List Keyword).isEmpty then 0 else 1) < 30))=true:=by rfl)
  (vw:(apos.endLine == ni.line)=true:=by rfl) (hs:starEach (e :: es) X.env=(false,eval e X.env) :: starEach es X.env:=by rfl) (tG:(backTo ni (starEach es X.env)).any (·.1)=false:=by rfl) :
  PE X (.Call (.Attribute o name apos) (e :: es) [] ni) (tBM K T r to t):=by subst hK; exact zeG pa slot EA hm ho ha vt yl vw hs tG
end
end L2
end
section
namespace My
def Cg (p a b:Int):Prop:=∃ k,a=b+p*k
theorem Cg.refl (p a:Int):Cg p a a:=⟨0,by grind⟩
theorem Cg.symm {p a b:Int} (h:Cg p a b):Cg p b a:=by obtain⟨k,e⟩:=h; exact⟨-k,by grind⟩
theorem Cg.trans {p a b c:Int} (h:Cg p a b) (h':Cg p b c):Cg p a c:=by
 obtain⟨k,e⟩:=h; obtain⟨l,e'⟩:=h'; exact⟨k+l,by grind⟩
theorem Cg.add {p a b c d:Int} (h:Cg p a b) (h':Cg p c d):Cg p (a+c) (b+d):=by
 obtain⟨k,e⟩:=h; obtain⟨l,e'⟩:=h'; exact⟨k+l,by grind⟩
theorem Cg.sub {p a b c d:Int} (h:Cg p a b) (h':Cg p c d):Cg p (a - c) (b - d):=by
 obtain⟨k,e⟩:=h; obtain⟨l,e'⟩:=h'; exact⟨k - l,by grind⟩
theorem Cg.mul {p a b c d:Int} (h:Cg p a b) (h':Cg p c d):Cg p (a*c) (b*d):=by
 obtain⟨k,e⟩:=h; obtain⟨l,e'⟩:=h'
 exact⟨k*d+b*l+p*k*l,by subst e e'; grind⟩
theorem Cg.of_eq {p a b:Int} (h:a=b):Cg p a b:=h ▸ Cg.refl p a
theorem Cg.emod (p a:Int):Cg p (a % p) a:=⟨-(a / p),by have:=Int.emod_add_mul_ediv a p; grind⟩
theorem Cg.mod_eq {p a b:Int} (h:Cg p a b):a % p=b % p:=by
 obtain⟨k,e⟩:=h; rw [e,Int.add_mul_emod_self_left]
theorem Cg.of_mod {p a b:Int} (h:a % p=b % p):Cg p a b:=(Cg.emod p a).symm.trans (h ▸ Cg.emod p b)
theorem Cg.eq {p a b:Int} (h:Cg p a b) (ha:0≤a) (ha':a < p) (hb:0≤b) (Bu:b < p):a=b:=by
 have:=h.mod_eq
 rwa [cr ha ha',cr hb Bu] at this
def zj (p x:Int):List Int→Int
 | []=>0
 | c :: r=>(c+x*zj p x r) % p
theorem zai {p x:Int} (hp:0 < p):∀ l,0≤zj p x l
 | []=>bP 0
 | _ :: _=>aG _ (by lia)
theorem zaj {p x:Int} (hp:0 < p):∀ l,zj p x l < p
 | []=>hp
 | _ :: _=>az _ hp
theorem zH (p x c:Int) (r:List Int):Cg p (zj p x (c :: r)) (c+x*zj p x r):=Cg.emod _ _
theorem ziC {p x:Int} (m:Nat):zj p x (ap m 0)=0:=by
 induction m with
 | zero=>rfl
 | succ m ih=>rw [cg]; show (0+x*zj p x (ap m 0)) % p=0; rw [ih]; simp
theorem zhw {p x:Int} (m:Nat):∀ l,zj p x (l++ap m 0)=zj p x l
 | []=>ziC m
 | c :: r=>by show (c+x*zj p x (r++ap m 0)) % p=(c+x*zj p x r) % p; rw [zhw m r]
def lv (p x:Int):Int→Int→List Int→Int
 | lK,_,[]=>lK
 | lK,power,c :: r=>lv p x ((lK+c*power) % p) (power*x % p) r
theorem zov {p x:Int}:∀ (l:List Int) (lK power:Int),Cg p (lv p x lK power l) (lK+power*zj p x l)
 | [],lK,power=>Cg.of_eq (by show lK=lK+power*0; grind)
 | c :: r,lK,power=>by
  have h1:=zov (p:=p) (x:=x) r ((lK+c*power) % p) (power*x % p)
  refine h1.trans ?_
  have h2:Cg p ((lK+c*power) % p+power*x % p*zj p x r) (lK+c*power+power*x*zj p x r):=(Cg.emod p _).add ((Cg.emod p (power*x)).mul (Cg.refl p _))
  refine h2.trans ?_
  have h3:Cg p (lK+power*(c+x*zj p x r)) (lK+power*zj p x (c :: r)):=(Cg.refl p _).add ((Cg.refl p _).mul (zH p x c r).symm)
  refine (Cg.of_eq ?_).trans h3
  grind
theorem zlr {p x:Int} (hp:0 < p):∀ (l:List Int) (lK power:Int),0≤lK→lK < p→0≤lv p x lK power l∧lv p x lK power l < p
 | [],lK,power,h1,h2=>⟨h1,h2⟩
 | c :: r,lK,power,h1,h2=>zlr hp r _ _ (aG _ (by lia)) (az _ hp)
theorem zjm {p x:Int} (hp:0 < p) (l:List Int):lv p x 0 1 l=zj p x l:=by
 obtain⟨a,b⟩:=zlr (x:=x) hp l 0 1 (bP _) hp
 exact ((zov l 0 1).trans (Cg.of_eq (by grind))).eq a b (zai hp l) (zaj hp l)
def zm:List Int:=[5,7,11,13,17,19,23,29,31,37,41,43,47,53,59,61,67,71,73,79,83,89,97]
def zcJ (p:Int):Nat→Int→Int→Int→Int
 | 0,prod,_,_=>prod
 | n+1,prod,sq,left=>if 0 < left then zcJ p n (if left % 2=1 then prod*sq % p else prod) (sq*sq % p) (left / 2) else prod
def inv (p h:Int):Int:=zcJ p 7 1 (h % p) (p - 2)
def zqK:Bool:=zm.all fun p=>(aJ p.toNat).all fun h=>h == 0 || (inv p h*h) % p == 1
theorem zkr:zqK=true:=by decide +kernel
theorem zp {p:Int} (hp:p∈zm):5≤p∧p≤97:=by
 have:zm.all (fun p=>decide (5≤p∧p≤97))=true:=by decide +kernel
 have:=fB.mp this p hp
 simpa using this
theorem zeJ {p h:Int} (hp:p∈zm) (h0:0 < h) (h1:h < p):Cg p (inv p h*h) 1:=by
 have e:=fB.mp (fB.mp zkr p hp) h.toNat (bv.mpr (by lia))
 have hh:((h.toNat:Nat):Int)=h:=by lia
 have:h.toNat≠0:=by lia
 simp only [Bool.or_eq_true,beq_iff_eq,hh,this,false_or] at e
 have hr:=zp hp
 exact Cg.of_mod (by rw [e,cr (by lia) (by lia)])
theorem zd1 {p a b:Int} (hp:p∈zm) (h:Cg p (a*b) 0):Cg p a 0∨Cg p b 0:=by
 have hr:=zp hp
 by_cases ha:a % p=0
 ·exact .inl (Cg.of_mod (by rw [ha]; simp))
 ·right
  have h0:0 < a % p:=by have:=aG a (show p≠0 by lia); lia
  have hi:=zeJ hp h0 (az a (by lia))
  have h1:Cg p (inv p (a % p)*(a*b)) 0:=((Cg.refl p _).mul h).trans (Cg.of_eq (by grind))
  have h2:Cg p (inv p (a % p)*(a % p)*b) (1*b):=hi.mul (Cg.refl p b)
  have h3:Cg p (inv p (a % p)*(a*b)) (inv p (a % p)*(a % p)*b):=by
   have:=((Cg.refl p (inv p (a % p))).mul (Cg.emod p a).symm).mul (Cg.refl p b)
   exact (Cg.of_eq (by grind)).trans this
  exact ((Cg.of_eq (by grind)).trans (h2.symm.trans (h3.symm.trans h1)))
def trF (p r:Int) (high low:Int):Int:=(high - r*low) % p
def zbH (p r:Int) (v:List Int):List Int:=a7 (trF p r) (0 :: v) (v++[0])
theorem zow {p r z:Int}:∀ (v:List Int) (h:Int),Cg p (zj p z (a7 (trF p r) (h :: v) (v++[0]))) (h+(z - r)*zj p z v)
 | [],h=>by
  show Cg p ((trF p r h 0+z*0) % p) (h+(z - r)*0)
  refine (Cg.emod p _).trans ?_
  have:Cg p (trF p r h 0) (h - r*0):=Cg.emod p _
  exact (this.add (Cg.refl p (z*0))).trans (Cg.of_eq (by grind))
 | c :: w,h=>by
  show Cg p ((trF p r h c+z*zj p z (a7 (trF p r) (c :: w) (w++[0]))) % p) (h+(z - r)*zj p z (c :: w))
  have ih:=zow (p:=p) (r:=r) (z:=z) w c
  have h1:Cg p (trF p r h c) (h - r*c):=Cg.emod p _
  refine (Cg.emod p _).trans ((h1.add ((Cg.refl p z).mul ih)).trans ?_)
  have h2:Cg p (h+(z - r)*(c+z*zj p z w)) (h+(z - r)*zj p z (c :: w)):=(Cg.refl p h).add ((Cg.refl p _).mul (zH p z c w).symm)
  exact (Cg.of_eq (by grind)).trans h2
theorem zjn {p r z:Int} (v:List Int):Cg p (zj p z (zbH p r v)) ((z - r)*zj p z v):=(zow v 0).trans (Cg.of_eq (by grind))
theorem zbM (p r:Int) (v:List Int):(zbH p r v).length=v.length+1:=by simp [zbH]
theorem zeK {α β γ:Type} {f:α→β→γ}:∀ {as:List α} {bs:List β} {c:γ},c∈a7 f as bs→∃ a b,c=f a b
 | [],_,c,h=>by simp at h
 | _ :: _,[],c,h=>by simp at h
 | a :: as,b :: bs,c,h=>by
  rcases aI.mp h with e | e
  ·exact⟨a,b,e⟩
  ·exact zeK e
theorem zls {p r:Int} (hp:0 < p) (v:List Int):∀ c∈zbH p r v,0≤c∧c < p:=by
 intro c hc
 obtain⟨a,b,e⟩:=zeK hc
 rw [e]; exact⟨aG _ (by lia),az _ hp⟩
def ad (p f:Int):List Int→List Int→List Int
 | c :: cs,v :: vs=>(c+f*v) % p :: ad p f cs vs
 | cs,[]=>cs
 | [],_ :: _=>[]
theorem zdL (p f:Int):∀ (cs vs:List Int),(ad p f cs vs).length=cs.length
 | _ :: cs,_ :: vs=>by show (ad p f cs vs).length+1=_; rw [zdL p f cs vs]; rfl
 | [],[]=>rfl
 | _ :: _,[]=>rfl
 | [],_ :: _=>rfl
theorem ziD {p f:Int} (hp:0 < p):∀ (cs vs:List Int),(∀ c∈cs,0≤c∧c < p)→∀ c∈ad p f cs vs,0≤c∧c < p
 | c :: cs,v :: vs,h,d,hd=>by
  rcases aI.mp hd with e | e
  ·rw [e]; exact⟨aG _ (by lia),az _ hp⟩
  ·exact ziD hp cs vs (fun c hc=>h c (au _ hc)) d e
 | [],[],h,d,hd=>h d hd
 | _ :: _,[],h,d,hd=>h d hd
 | [],_ :: _,h,d,hd=>by cases hd
theorem zgs {p f z:Int}:∀ (cs vs:List Int),vs.length≤cs.length→Cg p (zj p z (ad p f cs vs)) (zj p z cs+f*zj p z vs)
 | c :: cs,v :: vs,h=>by
  have ih:=zgs (p:=p) (f:=f) (z:=z) cs vs (by simpa using h)
  show Cg p (((c+f*v) % p+z*zj p z (ad p f cs vs)) % p) (zj p z (c :: cs)+f*zj p z (v :: vs))
  refine (Cg.emod p _).trans (((Cg.emod p (c+f*v)).add ((Cg.refl p z).mul ih)).trans ?_)
  have h2:Cg p ((c+z*zj p z cs)+f*(v+z*zj p z vs)) (zj p z (c :: cs)+f*zj p z (v :: vs)):=(zH p z c cs).symm.add ((Cg.refl p f).mul (zH p z v vs).symm)
  exact (Cg.of_eq (by grind)).trans h2
 | [],[],_=>Cg.of_eq (by show (0:Int)=0+f*0; grind)
 | c :: cs,[],_=>Cg.of_eq (by show zj p z (c :: cs)=zj p z (c :: cs)+f*0; grind)
 | [],_ :: _,h=>by simp at h
def zcA (p:Int) (s:List Int×List Int) (q:Int×Int):List Int×List Int :=
 (ad p ((q.2 - zj p q.1 s.1)*inv p (zj p q.1 s.2) % p) s.1 s.2,zbH p q.1 s.2)
def zp8 (p:Int) (n:Nat) (lq:List (Int×Int)):List Int×List Int:=lq.foldl (zcA p) (ap n 0,[1])
def thr (p:Int) (lq:List (Int×Int)):List Int:=(zp8 p lq.length lq).1
def zcB (z:Int):List (Int×Int)→Int
 | []=>1
 | q :: r=>(z - q.1)*zcB z r
theorem zeL (z:Int) (q:Int×Int):∀ l,zcB z (l++[q])=zcB z l*(z - q.1)
 | []=>by show (z - q.1)*1=1*(z - q.1); grind
 | a :: l=>by show (z - a.1)*zcB z (l++[q])=(z - a.1)*zcB z l*(z - q.1); rw [zeL z q l]; grind
theorem zeM {z:Int}:∀ {l:List (Int×Int)},(∃ q∈l,q.1=z)→zcB z l=0
 | [],h=>by obtain⟨q,hq,_⟩:=h; cases hq
 | a :: l,h=>by
  show (z - a.1)*zcB z l=0
  obtain⟨q,hq,e⟩:=h
  rcases aI.mp hq with hq | hq
  ·subst hq; rw [e]; simp
  ·rw [zeM ⟨q,hq,e⟩]; simp
theorem zhx {p z:Int} (hp:p∈zm) (hz:0≤z) (DB:z < p):∀ {l:List (Int×Int)},(∀ q∈l,0≤q.1∧q.1 < p∧q.1≠z)→¬ Cg p (zcB z l) 0
 | [],_,h=>by
  have hr:=zp hp
  have:=h.mod_eq
  have e1:(zcB z []:Int)=1:=rfl
  rw [e1,cr (by lia) (by lia)] at this
  simp at this
 | a :: l,hl,h=>by
  rcases zd1 hp (show Cg p ((z - a.1)*zcB z l) 0 from h) with h | h
  ·obtain⟨h1,h2,h3⟩:=hl a aH
   have:Cg p z a.1:=by
    have:=h.add (Cg.refl p a.1)
    exact (Cg.of_eq (by grind)).trans (this.trans (Cg.of_eq (by grind)))
   exact h3 (this.eq hz DB h1 h2).symm
  ·exact zhx hp hz DB (fun q hq=>hl q (au _ hq)) h
structure Nw (p:Int) (n:Nat) (done:List (Int×Int)) (s:List Int×List Int):Prop where
 lc:s.1.length=n
 lv:s.2.length=done.length+1
 rc:∀ c∈s.1,0≤c∧c < p
 rv:∀ c∈s.2,0≤c∧c < p
 van:∀ z,Cg p (zj p z s.2) (zcB z done)
 hit:∀ q∈done,zj p q.1 s.1=q.2
theorem zhy {p:Int} (hp:p∈zm) (n:Nat):Nw p n [] (ap n 0,[1]):=by
 have hr:=zp hp
 refine⟨by simp,rfl,fun c hc=>?_,fun c hc=>?_,fun z=>?_,fun q hq=>by cases hq⟩
 ·obtain⟨_,e⟩:=List.mem_replicate.mp hc
  lia
 ·have:c=1:=by simpa using hc
  lia
 ·show Cg p ((1+z*0) % p) 1
  exact (Cg.emod p _).trans (Cg.of_eq (by grind))
theorem zjo {p:Int} {n:Nat} {done:List (Int×Int)} {s:List Int×List Int} (hp:p∈zm) (h:Nw p n done s) {q:Int×Int} (q0:0≤q.1) (q1:q.1 < p) (hd:∀ a∈done,0≤a.1∧a.1 < p∧a.1≠q.1) :
  0 < zj p q.1 s.2∧zj p q.1 s.2 < p:=by
 have hr:=zp hp
 refine⟨?_,zaj (by lia) _⟩
 have h0:=zai (x:=q.1) (show 0 < p by lia) s.2
 by_cases e:zj p q.1 s.2=0
 ·exact absurd ((h.van q.1).symm.trans (Cg.of_eq e)) (zhx hp q0 q1 hd)
 ·lia
theorem zkt {p:Int} {n:Nat} {done:List (Int×Int)} {s:List Int×List Int} (hp:p∈zm) (h:Nw p n done s) {q:Int×Int} (q0:0≤q.1) (q1:q.1 < p) (hd:∀ a∈done,0≤a.1∧a.1 < p∧a.1≠q.1) :
  Cg p ((q.2 - zj p q.1 s.1)*inv p (zj p q.1 s.2) % p*zj p q.1 s.2) (q.2 - zj p q.1 s.1):=by
 obtain⟨h0,h1⟩:=zjo hp h q0 q1 hd
 have hi:=zeJ hp h0 h1
 refine ((Cg.emod p _).mul (Cg.refl p _)).trans ?_
 have:=(Cg.refl p (q.2 - zj p q.1 s.1)).mul hi
 exact (Cg.of_eq (by grind)).trans (this.trans (Cg.of_eq (by grind)))
theorem zjp {p:Int} {n:Nat} {done:List (Int×Int)} {s:List Int×List Int} (hp:p∈zm) (h:Nw p n done s) {q:Int×Int} (hn:done.length < n) (q0:0≤q.1) (q1:q.1 < p) (q2:0≤q.2) (q3:q.2 < p)
  (hd:∀ a∈done,0≤a.1∧a.1 < p∧a.1≠q.1∧0≤a.2∧a.2 < p):Nw p n (done++[q]) (zcA p s q):=by
 have hr:=zp hp
 have Ap:∀ a∈done,0≤a.1∧a.1 < p∧a.1≠q.1:=fun a ha=>⟨(hd a ha).1,(hd a ha).2.1,(hd a ha).2.2.1⟩
 have hlv:=h.lv
 have hlc:=h.lc
 have hle:s.2.length≤s.1.length:=by lia
 refine⟨by show (ad _ _ _ _).length=n; rw [zdL,h.lc],by show (zbH _ _ _).length=_; rw [zbM,h.lv,aq,fh],ziD (by lia) _ _ h.rc,zls (by lia) _,fun z=>?_,fun a ha=>?_⟩
 ·rw [zeL]
  exact (zjn s.2).trans (((Cg.refl p _).mul (h.van z)).trans (Cg.of_eq (by grind)))
 ·have hv:=zgs (p:=p) (f:=(q.2 - zj p q.1 s.1)*inv p (zj p q.1 s.2) % p) (z:=a.1) s.1 s.2 hle; rcases bf.mp ha with ha | ha
  ·obtain⟨b0,b1,b2,b3,b4⟩:=hd a ha
   have hz:Cg p (zj p a.1 s.2) 0:=(h.van a.1).trans (Cg.of_eq (zeM ⟨a,ha,rfl⟩))
   have h2:Cg p (zj p a.1 (ad p ((q.2 - zj p q.1 s.1)*inv p (zj p q.1 s.2) % p) s.1 s.2)) (zj p a.1 s.1):=hv.trans (((Cg.refl p (zj p a.1 s.1)).add ((Cg.refl p _).mul hz)).trans (Cg.of_eq (by rw [cH,iJ])))
   rw [h.hit a ha] at h2
   exact h2.eq (zai (by lia) _) (zaj (by lia) _) b3 b4
  ·have e:a=q:=by simpa using ha
   subst e
   have h2:Cg p (zj p a.1 (ad p ((a.2 - zj p a.1 s.1)*inv p (zj p a.1 s.2) % p) s.1 s.2)) a.2:=hv.trans (((Cg.refl p (zj p a.1 s.1)).add (zkt hp h q0 q1 Ap)).trans (Cg.of_eq (by lia)))
   exact h2.eq (zai (by lia) _) (zaj (by lia) _) q2 q3
structure Pts (p:Int) (lq:List (Int×Int)):Prop where
 nd:(lq.map (·.1)).Nodup
 rg:∀ q∈lq,0≤q.1∧q.1 < p∧0≤q.2∧q.2 < p
theorem Pts.apart {p:Int} {done rest:List (Int×Int)} {q:Int×Int} (h:Pts p (done++q :: rest)):∀ a∈done,0≤a.1∧a.1 < p∧a.1≠q.1∧0≤a.2∧a.2 < p:=fun a ha=>by
 obtain⟨r1,r2,r3,r4⟩:=h.rg a (aW _ ha)
 refine⟨r1,r2,fun e=>?_,r3,r4⟩
 have nd:=h.nd
 rw [ao,er] at nd
 exact nd.2.2 a.1 (aB.mpr ⟨a,ha,rfl⟩) q.1 (by simp) e
theorem zlu {p:Int} (hp:p∈zm) {n:Nat}:∀ (rest done:List (Int×Int)) (s:List Int×List Int),Pts p (done++rest)→(done++rest).length=n→Nw p n done s→Nw p n (done++rest) (rest.foldl (zcA p) s)
 | [],done,s,_,_,h=>by rw [bH]; exact h
 | q :: rest,done,s,hP,hn,h=>by
  have wL:done.length < n:=by rw [← hn]; simp
  obtain⟨a,b,c,d⟩:=hP.rg q (by simp)
  have hs:=zjp hp h (q:=q) wL a b c d hP.apart
  have e:done++q :: rest=(done++[q])++rest:=by simp
  rw [e] at hP hn ⊢
  exact zlu hp rest (done++[q]) _ hP hn hs
theorem zc9 {p:Int} (hp:p∈zm) {lq:List (Int×Int)} (hP:Pts p lq):(thr p lq).length=lq.length∧(∀ c∈thr p lq,0≤c∧c < p)∧∀ q∈lq,zj p q.1 (thr p lq)=q.2:=by
 have h:=zlu hp (n:=lq.length) lq [] _ (by simpa using hP) (by simp) (zhy hp lq.length)
 exact⟨h.lc,h.rc,h.hit⟩
end My
end
section
namespace My
open PySem L2 PyProof.Rows
section
variable {K:ag}
theorem zlv {ns:List Int} {k:Int} (h0:0≤k) (h1:k < ns.length):∃ c:Int,ns[k.toNat]? = some c∧atI (ns.map V.int) k=some (.int c):=by
 have lT:k.toNat < ns.length:=by lia
 have e:atI (ns.map V.int) ((k.toNat:Nat):Int)=some (.int ns[k.toNat]):=zaT (by simp [ah,ai lT])
 have hk:((k.toNat:Nat):Int)=k:=by lia
 rw [hk] at e
 exact⟨ns[k.toNat],by simp,e⟩
theorem zeg {ns:List Int} {k:Int} (h0:0≤k) (h1:k < ns.length):∃ c:Int,atI (ns.map V.int) k=some (.int c):=let ⟨c,_,e⟩:=zlv h0 h1; ⟨c,e⟩
theorem zb {H:Hp} {a:Addr} {o:HO} (h:H a=none):zt H (lu H a o):=fun b u e=>by rw [zr (zB e h)]; exact e
theorem zae {H H':Hp} {a:Addr} {o:HO} (s:zt H H') (h:H a=none):zt H (lu H' a o):=fun b u e=>by rw [zr (zB e h)]; exact s b u e
theorem zaa {n:Nat} (h:n≤10000):n < sizeLine:=by rw [aX]; lia
def zku (K:ag):Sp:=fun vs H Q _=>∃ (a:Addr) (ns:List Int) (k:Int),vs = [.ref a,.int k]∧lr K H a (ns.map V.int)∧ns.length≤63∧0≤k∧k≤1000∧∀ c:Int,Q (.int c) H
def zgt (many:Nat) (base:Int) (ds:List Int):Prop:=ds.length=many∧∀ d∈ds,0≤d∧d < base
def ziE (K:ag):Sp:=fun vs H Q _=>∃ (a:Addr) (ns:List Int) (k many base:Int),vs = [.ref a,.int k,.int many,.int base]∧lr K H a (ns.map V.int)∧ns.length≤63∧0≤k∧k≤1000∧0≤many∧many≤1000∧0 < base∧base < 1073741824 ∧
 ∀ (l:Addr) (ds:List Int) (H':Hp),H l=none→zt H H'→zgt many.toNat base ds→H' l=some (.lst (ds.map V.int))→Q (.ref l) H'
abbrev znk:List V:=[.int 2147483647,.int 2147483629,.int 2147483587,.int 2147483579,.int 2147483563,.int 2147483549,.int 2147483543,.int 2147483497]
theorem znl {m:Int} (h0:0≤m) (h1:m < 8):∃ q:Int,atI znk m=some (.int q)∧0 < q∧q < 2147483648:=by
 have:m=0∨m=1∨m=2∨m=3∨m=4∨m=5∨m=6∨m=7:=by lia
 rcases this with e | e | e | e | e | e | e | e <;> subst e <;> exact⟨_,rfl,by decide,by decide⟩
theorem zeN (j:Int):∃ q:Int,atI znk (j % 8)=some (.int q)∧0 < q∧q < 2147483648:=znl (aG _ (by decide)) (az _ (by decide))
theorem gY {i:Nat} {x:V} {σ:L2.St} {H:Hp} {A B:L2.St→Hp→Prop} (h:A (σ.set i (some x)) H):zaX i x σ H (fun σ2 H2=>zni σ2 H2 fun b H3=>if b=true then A σ2 H3 else B σ2 H3):=by
 show (if true=true then A (σ.set i (some x)) H else B (σ.set i (some x)) H)
 rw [if_pos rfl]
 exact h
structure CodeOk (mk mn p k:Int) (pl:List Int):Prop where
 pr:p∈zm
 k1:1≤k
 kk:k≤mk
 kl:k≤pl.length
 ln:(pl.length:Int)≤mn
 nd:pl.Nodup
 rg:∀ x∈pl,0≤x∧x < p
def zkv (K:ag):Sp:=fun vs H Q _=>∃ (a:Addr) (ns:List Int) (at' mk mn:Int),vs = [.ref a,.int at',.int mk,.int mn]∧lr K H a (ns.map V.int)∧ns.length≤63∧0≤at'∧at'≤1000∧1≤mk∧mk≤5∧mk≤mn∧mn≤16 ∧
 ∀ (c tt:Addr) (p k:Int) (pl:List Int) (H':Hp),H c=none→zt H H'→CodeOk mk mn p k pl→H' c=some (.tup [.int p,.int k,.ref tt])→H' tt=some (.tup (pl.map V.int))→Q (.ref c) H'
theorem zpa {x y m:Int} (h0:0≤m) (h1:m < 2):∃ z:Int,atI [V.int x,V.int y] m=some (.int z)∧(z=x∨z=y):=by
 have:m=0∨m=1:=by lia
 rcases this with e | e <;> subst e
 ·exact⟨x,rfl,.inl rfl⟩
 ·exact⟨y,rfl,.inr rfl⟩
theorem zlw {ns:List Int} {k:Int} (h0:0≤k) (h1:k < ns.length):∃ c:Int,c∈ns∧atI (ns.map V.int) k=some (.int c):=by
 obtain⟨c,e,h⟩:=zlv h0 h1
 exact⟨c,aF e,h⟩
theorem zfW {α β:Type} (f:α→β):∀ (l:List α) (k:Nat),(l.map f).eraseIdx k=(l.eraseIdx k).map f
 | [],_=>rfl
 | _ :: _,0=>rfl
 | a :: l,k+1=>by show f a :: (l.map f).eraseIdx k=f a :: (l.eraseIdx k).map f; rw [zfW f l k]
theorem zeO {α:Type}:∀ {l:List α} {k:Nat} {x:α},l[k]? = some x→(x :: l.eraseIdx k).Perm l
 | [],_,_,h=>by simp at h
 | a :: l,0,x,h=>by
  have e:a=x:=by simpa using h
  subst e
  exact List.Perm.refl _
 | a :: l,k+1,x,h=>by
  have ih:=zeO (l:=l) (k:=k) (x:=x) (by simpa using h)
  exact (List.Perm.swap a x _).trans (ih.cons a)
theorem znm {p:Int} {xs ls:List Int} {k:Nat} {x:Int} (h:ls[k]? = some x) (nd:(xs++ls).Nodup) (rg:∀ y∈xs++ls,0≤y∧y < p):((xs++[x])++ls.eraseIdx k).Nodup∧∀ y∈(xs++[x])++ls.eraseIdx k,0≤y∧y < p:=by
 have hp:((xs++[x])++ls.eraseIdx k).Perm (xs++ls):=by
  rw [bg]
  exact (zeO h).append_left xs
 exact⟨hp.nodup_iff.mpr nd,fun y hy=>rg y (hp.mem_iff.mp hy)⟩
theorem zkw (p:Int):(zb6 0 p.toNat).Nodup∧∀ y∈zb6 0 p.toNat,0≤y∧y < p:=by
 unfold zb6
 constructor
 ·rw [db,cu]
  exact (db.mp (iK (n:=p.toNat))).imp fun {a b} Av=>by lia
 ·intro y hy
  obtain⟨i,hi,e⟩:=aB.mp hy
  have:=bv.mp hi
  lia
def zd2 (K:ag):Sp:=fun vs H Q _=>∃ (p x:Int) (a:Addr) (cs:List Int),vs = [.int p,.ref a,.int x]∧(lr K H a (cs.map V.int)∨lE K H a (cs.map V.int))∧0 < p∧p≤97∧0≤x∧x < p∧Q (.int (zj p x cs)) H
def ziF (K:ag):Sp:=zd2 K
theorem zfX {cs:List Int} {i:Nat} {c:Int} (hi:i < cs.length) (h:cs[cs.length - 1 - i]? = some c):cs.drop (cs.length - (i+1))=c :: cs.drop (cs.length - i):=by
 have e:cs.length - (i+1)=cs.length - 1 - i:=by lia
 have lT:cs.length - 1 - i < cs.length:=by lia
 rw [e,cM lT]
 have:cs[cs.length - 1 - i]=c:=by
  rw [ai lT] at h
  exact aT h
 rw [this]
 congr 2
 lia
theorem zab {cs:List Int} {j:Nat} {x:V} (h:(cs.map V.int)[j]? = some x):∃ c,x = .int c∧cs[j]? = some c:=by
 rw [ah] at h
 cases e:cs[j]? with
 | none=>rw [e] at h; cases h
 | some c=>rw [e] at h; exact⟨c,(aT h).symm,rfl⟩
theorem zjq {p x lK power c:Int} {cs:List Int} {i:Nat} (h:cs[i]? = some c):lv p x lK power (cs.drop i)=lv p x ((lK+c*power) % p) (power*x % p) (cs.drop (i+1)):=by
 obtain⟨lT,e⟩:=aD.mp h
 rw [cM lT,e]
 rfl
def ziG (K:ag):Sp:=fun vs H Q _=>∃ (p h:Int),vs = [.int p,.int h]∧p∈zm∧0≤h∧h < p∧Q (.int (inv p h)) H
def zpb (σ:L2.St):Nat:=match (σ[4]?:Option (Option V)) with
 | some (some (V.int l))=>l.toNat
 | _=>0
theorem zgu {p prod sq left:Int} {n:Nat} (h0:0 < left) (h1:left < 2 ^ (n+1)):zcJ p (n+1) prod sq left=zcJ p n (if left % 2=1 then prod*sq % p else prod) (sq*sq % p) (left / 2):=by
 show (if 0 < left then _ else _)=_
 rw [if_pos h0]
theorem zhz {p prod sq:Int}:∀ n,zcJ p n prod sq 0=prod
 | 0=>rfl
 | n+1=>by show (if (0:Int) < 0 then _ else prod)=prod; rw [if_neg (by decide)]
theorem gY2 {K:ag} {i j:Nat} {T:Addr} {x y:V} {σ:L2.St} {H:Hp} {A B:L2.St→Hp→Prop} (hT:lE K H T [x,y]) (h:A ((σ.set i (some x)).set j (some y)) H) :
  zhh K 2 (zb9 (zaX i) (zb9 (zaX j) zio)) (.ref T) σ H (fun σ2 H2=>zni σ2 H2 fun b H3=>if b=true then A σ2 H3 else B σ2 H3):=by
 refine⟨T,_,rfl,hT,rfl,x,_,rfl,y,_,rfl,rfl,?_⟩
 show (if true=true then A ((σ.set i (some x)).set j (some y)) H else B ((σ.set i (some x)).set j (some y)) H)
 rw [if_pos rfl]
 exact h
theorem zhA {f:Int→Int→Int} {as bs:List Int} {i:Nat} {x y:Int} (hx:as[i]? = some x) (hy:bs[i]? = some y):(a7 f as bs).take (i+1)=(a7 f as bs).take i++[f x y]:=by
 have e:(a7 f as bs)[i]? = some (f x y):=by rw [dk,hx,hy]
 rw [iq,e,jC]
def zlx (K:ag) (H:Hp) (a:Addr) (lq:List (Int×Int)):Prop:=∃ bs:List Addr,lr K H a (bs.map V.ref)∧bs.length=lq.length∧∀ (i:Nat) (b:Addr) (q:Int×Int),bs[i]? = some b→lq[i]? = some q→H b=some (.tup [.int q.1,.int q.2])
theorem zdp (n:Nat):(ap n [V.int 0]).flatten=(ap n (0:Int)).map V.int:=by
 induction n with
 | zero=>rfl
 | succ n ih=>rw [cg,eg,ih,cg]; rfl
theorem znn {n j:Nat} (h:j < n):ixN n (j:Int)=some j:=by
 unfold ixN
 rw [if_pos (by lia),if_pos (by lia)]
 rfl
theorem zS {bs:List Addr} {i:Nat} {x:V} (h:(bs.map V.ref)[i]? = some x):∃ b,x = .ref b∧bs[i]? = some b:=by
 rw [ah] at h
 cases e:bs[i]? with
 | none=>rw [e] at h; cases h
 | some b=>rw [e] at h; exact⟨b,(aT h).symm,rfl⟩
theorem take_snoc {α:Type} {l:List α} {i:Nat} {x:α} (h:l[i]? = some x):l.take (i+1)=l.take i++[x]:=by
 rw [iq,h,jC]
theorem zeP {α:Type} {l:List α} {i:Nat} {x:α} (h:l[i]? = some x):l=l.take i++x :: l.drop (i+1):=by
 obtain⟨hi,e⟩:=aD.mp h; have:=ck i l
 rw [cM hi,e] at this
 exact this.symm
theorem zly {f:Int→Int→Int} {as bs:List Int} {n:Nat} (h1:n≤as.length) (h2:n≤bs.length) (h3:as.length≤n∨bs.length≤n):(a7 f as bs).length=n:=by
 rw [cK]
 lia
theorem zfY {a b:Addr} {as bs:List Int} {n:Nat} {f:Int→Int→Int} {g:TG} {ts:TT} {te:TE} {σ0:L2.St} {Q:VK} {H:Hp} (ha:H a=some (.lst (as.map V.int))) (hb:H b=some (.lst (bs.map V.int))) (h1:n≤as.length) (h2:n≤bs.length) (h3:as.length≤n∨bs.length≤n) (hn:n≤10000)
  (hs:∀ (i:Nat) (x y:Int) (H1:Hp) (T:Addr) (R:VK) (B:L2.St→Hp→Prop),as[i]? = some x→bs[i]? = some y→zt H H1→H1 T=none→R (.int (f x y)) (lu H1 T (.tup [.int x,.int y]))→g (.ref T) σ0 (lu H1 T (.tup [.int x,.int y])) fun σ2 H2=>ts σ2 H2 fun b H3=>if b=true then te σ2 H3 R else B σ2 H3)
  (hd:∀ D H1,zt H H1→H1 D=none→Q (.ref D) (lu H1 D (.lst ((a7 f as bs).map V.int)))):cGo g ts te σ0 (zkl (lr K) (lr K) a b) Q H:=by
 have hl:=zly (f:=f) h1 h2 h3
 refine zR (n:=n) (fun i ys H'=>ys=((a7 f as bs).take i).map V.int∧zt H H') ⟨by simp,fun _ _ e=>e⟩ ?_ ?_ ?_ ?_
 ·rintro i ys H3 hi ⟨_,s3⟩
  obtain⟨x,hx⟩:∃ x,as[i]? = some x:=⟨as[i]'(by lia),by simp⟩
  obtain⟨y,hy⟩:∃ y,bs[i]? = some y:=⟨bs[i]'(by lia),by simp⟩
  exact⟨_,_,.int x,.int y,lr.of (s3 _ _ ha),lr.of (s3 _ _ hb),by rw [ah,hx]; rfl,by rw [ah,hy]; rfl⟩
 ·rintro ys H3 ⟨_,s3⟩
  exact⟨_,_,lr.of (s3 _ _ ha),lr.of (s3 _ _ hb),by rw [ab,ab]; exact h3⟩
 ·rintro i x ys H3 H4 hi ⟨rfl,s3⟩ ⟨T,u,v,hT,rfl,rfl,hu,hv⟩
  obtain⟨x,rfl,hx⟩:=zab (hu _ (lr.of (s3 _ _ ha)))
  obtain⟨y,rfl,hy⟩:=zab (hv _ (lr.of (s3 _ _ hb)))
  refine hs i x y H3 T _ _ hx hy s3 hT ⟨zaa ?_,?_,s3.trans (zb hT)⟩
  ·rw [ab]
   exact a8 (fI _ _) (by lia)
  ·rw [zhA hx hy,ao]
   rfl
 ·rintro ys H3 D ⟨rfl,s3⟩ hD
  rw [aP (by lia)]
  exact hd D H3 s3 hD
theorem zcd {a:Addr} {xs fs:List V} {g:TG} {ts:TT} {te:TE} {σ0:L2.St} {Q:VK} {H:Hp} (ha:lr K H a xs) (hl:fs.length=xs.length) (hn:xs.length≤10000)
  (hs:∀ (i:Nat) (x y:V) (R:VK) (B:L2.St→Hp→Prop),xs[i]? = some x→fs[i]? = some y→R y H→g x σ0 H fun σ2 H2=>ts σ2 H2 fun b H3=>if b=true then te σ2 H3 R else B σ2 H3)
  (hd:∀ D,H D=none→Q (.ref D) (lu H D (.lst fs))):cGo g ts te σ0 (Itl K a) Q H:=by
 refine zR (n:=xs.length) (fun i ys H'=>ys=fs.take i∧H'=H) ⟨by simp,rfl⟩ ?_ ?_ ?_ ?_
 ·rintro i ys H3 hi ⟨_,rfl⟩
  exact⟨_,xs[i],ha,by simp⟩
 ·rintro ys H3 ⟨_,rfl⟩
  exact⟨_,ha,af _⟩
 ·rintro i x ys H3 H4 hi ⟨rfl,rfl⟩ ⟨rfl,hx⟩
  have hy:fs[i]? = some fs[i]:=by simp
  refine hs i x fs[i] _ _ (hx _ ha) hy ⟨zaa (a8 (fI _ _) (by lia)),?_,rfl⟩
  rw [take_snoc hy]
 ·rintro ys H3 D ⟨rfl,rfl⟩ hD
  rw [aP (by lia)]
  exact hd D hD
theorem zhB (ds:List Int) (lo hi:Option Int):∃ ms:List Int,za8 (ds.map V.int) lo hi=ms.map V.int∧ms.length≤ds.length:=by
 refine⟨(ds.drop (HT.sIx (ds.map V.int).length 0 lo)).take (HT.sIx (ds.map V.int).length (ds.map V.int).length hi - HT.sIx (ds.map V.int).length 0 lo),?_,?_⟩
 ·unfold za8; rw [de,h9]
 ·rw [av,b8]
  lia
theorem zhC {ms:List Int} {f:Int→V} {i:Nat} {x y:V} (hx:(ms.map V.int)[i]? = some x) (hy:(ms.map f)[i]? = some y):∃ c,ms[i]? = some c∧x = .int c∧y=f c:=by
 obtain⟨c,rfl,hc⟩:=zab hx
 rw [ah,hc] at hy
 exact⟨c,hc,rfl,(aT hy).symm⟩
def zgv (K:ag):Sp:=fun vs H Q _=>∃ (a:Addr) (ns:List Int),vs = [.ref a]∧lr K H a (ns.map V.int)∧ns.length≤63∧∀ H',Q (.bl true) H'
end
end My
end
section
namespace PySem
abbrev IsZ (h:Heap) (z TI TO:Addr) (f0 f1:Value):Prop:=h.get? z=some { cls:=.type "zip",dict:=none,data:=.fields #[f0,f1,.bool false,.ref TI,.ref TO],slots:=#[] }
def ZF (f0 f1:Value):Prop:=(f0 = .none∨∃ a t,f0 = .int a t)∧∃ b,f1 = .bool b
structure Zap (z TI TO i1 i2:Addr) (qN qO:List Addr):Prop where
 zTI:TI≠z
 zTO:TO≠z
 z1:i1≠z
 z2:i2≠z
 TT:TI≠TO
 T1:TI≠i1
 T2:TI≠i2
 O1:TO≠i1
 O2:TO≠i2
 ii:i1≠i2
 a1:z∉qN
 a2:TO∉qN
 a3:i2∉qN
 b1:z∉qO
 b2:TO∉qO
 b3:i1∉qO
section
variable {prog:Program} {w:World} {A:Around} {E:Value→Shared→Prop} {s:Shared}
theorem zkx {a:Addr} {Q:Option Obj→Shared→Prop} (h:Q (s.heap.get? a) s):wpAny (model prog w) A (loadIfAlive a) Q E s:=fun _ _ _=>h
theorem zlz {z TI TO:Addr} {f0 f1:Value} {Q:Bool→Shared→Prop} (hz:IsZ s.heap z TI TO f0 f1) (hf:ZF f0 f1) (h1:Q true s)
  (h2:∀ h',IsZ h' z TI TO f0 (.bool true)→bu z s.heap h'→Q false { s with heap:=h' }):wpAny (model prog w) A (bX (.ref z)) Q E s:=by
 obtain⟨hf,b,rfl⟩:=hf
 unfold bX; rcases hf with rfl | ⟨a,t,rfl⟩
 ·exact ae (bC hz rfl (x:=.none) rfl (ak h1))
 ·refine ae (bC hz rfl (x:=.int a t) rfl ?_)
  refine ae (zkx ?_)
  cases s.heap.get? a.toNat with
  | none=>exact ak h1
  | some o =>
   refine ae (bC hz rfl (x:=.bool b) rfl ?_)
   cases b with
   | true=>exact ak (h2 s.heap hz ⟨rfl,fun _ _=>rfl⟩)
   | false=>exact ae (bO hz (by simp) fun h' a' b'=>ak (h2 h' a' b'))
theorem zjr {z TI TO i1 i2:Addr} {qN qO:List Addr} {n1 n2 k1 k2:Nat} {P1 P2:Nat→Value→Prop} {S1 S2:Nat→Heap→Prop} {f0 f1 a b:Value} {Q:Value→Shared→Prop} (D1:Draws prog w A i1 qN n1 P1 S1) (D2:Draws prog w A i2 qO n2 P2 S2) (Z:Zap z TI TO i1 i2 qN qO)
  (hz:IsZ s.heap z TI TO f0 f1) (hf:ZF f0 f1) (uI:IsPair s.heap TI (.ref i1) (.ref i2)) (vh:IsPair s.heap TO a b) (n4:S1 k1 s.heap) (mG:S2 k2 s.heap) (l1:k1 < n1) (l2:k2 < n2)
  (hQ:∀ x y h' tk g0 g1 a' b',P1 k1 x→P2 k2 y→IsZ h' z TI TO g0 g1→ZF g0 g1→IsPair h' TI (.ref i1) (.ref i2)→IsPair h' TO a' b'→S1 (k1+1) h'→S2 (k2+1) h'→IsPair h' s.heap.objs.size x y→h'.objs.size=s.heap.objs.size+1 →
   (∀ c o,c≠z→c≠TO→c≠i1→c≠i2→s.heap.get? c=some o→h'.get? c=some o)→Q (.ref s.heap.objs.size) { s with heap:=h',toks:=tk }):wpAny (model prog w) A (Builtin.«zip.__next__» ⟨[.ref z],[]⟩) (fun fin s'=>∃ v,fin = .done (.ret v)∧Q v s') E s:=by
 obtain⟨hp,g,d,DC,os⟩:=s
 show wpAny _ _ (field (.ref z) 2 >>= _) _ _ _; refine ae (bC hz rfl (x:=.bool false) rfl ?_); show wpAny _ _ (field (.ref z) 3 >>= _) _ _ _
 refine ae (bC hz rfl (x:=.ref TI) rfl ?_); refine ae (dj uI rfl ?_)
 show wpAny _ _ (bX (.ref z) >>= _) _ _ _; refine ae (zlz hz hf ?_ fun h0 hz0 tq=>?_)
 ·simp only [if_true]
  refine ae (cn (ae (bC hz rfl (x:=.ref TO) rfl ?_)))
  refine ae (bO hz (by simp) fun ha xN tN=>?_)
  replace xN:IsZ ha z TI TO .ellipsis f1:=xN
  replace tN:bu z hp ha:=tN
  refine ae ?_
  simp only [ku,kK,eX,gM]; refine ae (ae (ic ?_)); show wpAny _ _ (bi (.ref i1) >>= _) _ _ _
  refine ae (D1.item k1 _ _ _ l1 (D1.frame _ _ _ n4 fun c hc o e=>tN.extBut c o (fun q=>Z.a1 (q ▸ hc)) e) fun x hb Bv px Bw n6=>ak ?_)
  replace n6:bu i1 ha hb:=n6
  have vD:IsPair hb TO a b:=n6.extBut _ _ Z.O1 (tN.extBut _ _ Z.zTO vh)
  refine ae (dj vD rfl (ae (gB vD fun hc wV uJ=>?_)))
  replace wV:IsPair hc TO x b:=wV
  replace uJ:bu TO hb hc:=uJ
  refine ae (je (ak (ae (ae (ic ?_))))); show wpAny _ _ (bi (.ref i2) >>= _) _ _ _
  refine ae (D2.item k2 _ _ _ l2 (D2.frame _ _ _ mG fun c p6 o e=>uJ.extBut c o (fun q=>Z.b2 (q ▸ p6)) (n6.extBut c o (fun q=>Z.b3 (q ▸ p6)) (tN.extBut c o (fun q=>Z.b1 (q ▸ p6)) e))) fun y hd EY py EZ rC=>ak ?_)
  replace rC:bu i2 hc hd:=rC
  have wW:IsPair hd TO x b:=rC.extBut _ _ Z.O2 wV
  refine ae (dj wW rfl (ae (gB wW fun he wX yw=>?_)))
  replace wX:IsPair he TO x y:=wX
  replace yw:bu TO hd he:=yw
  refine ae (je (ak (ak ?_))); refine ae (dj wX rfl (ae (gN ?_)))
  have hsz:he.objs.size=hp.objs.size:=by rw [yw.1,rC.1,uJ.1,n6.1,tN.1]
  have hze:IsZ he z TI TO .ellipsis f1:=yw.extBut _ _ Z.zTO.symm (rC.extBut _ _ Z.z2.symm (uJ.extBut _ _ Z.zTO.symm (n6.extBut _ _ Z.z1.symm xN)))
  have kk:∀ c o,c≠z→c≠TO→c≠i1→c≠i2→hp.get? c=some o→he.get? c=some o:=fun c o c1 c2 c3 c4 e=>yw.extBut _ _ c2 (rC.extBut _ _ c4 (uJ.extBut _ _ c2 (n6.extBut _ _ c3 (tN.extBut _ _ c1 e))))
  have E1:S1 (k1+1) he:=D1.frame _ _ _ Bw fun c p6 o e=>yw.extBut c o (fun q=>Z.a2 (q ▸ p6)) (rC.extBut c o (fun q=>Z.a3 (q ▸ p6)) (uJ.extBut c o (fun q=>Z.a2 (q ▸ p6)) e))
  have E2:S2 (k2+1) he:=D2.frame _ _ _ EZ fun c p6 o e=>yw.extBut c o (fun q=>Z.b2 (q ▸ p6)) e
  have zlt:z < he.objs.size:=aK hze
  show wpAny _ _ (cR (.ref z) (.ref he.objs.size) >>= _) _ _ _
  refine ae ?_
  unfold cR; have uK:IsZ (he.push { cls:=.type "tuple",data:=.seq #[x,y] }) z TI TO .ellipsis f1:=aj _ hze
  refine ae (bO uK (by simp) fun h7 E3 xO=>?_)
  replace E3:IsZ h7 z TI TO (rawInt he.objs.size) f1:=E3
  refine bO E3 (by simp) fun h8 DD E4=>ak ⟨_,rfl,?_⟩
  replace DD:IsZ h8 z TI TO (rawInt he.objs.size) (.bool false):=DD
  have up:∀ c o,c≠z→he.get? c=some o→h8.get? c=some o:=fun c o c1 e=>E4.extBut _ _ c1 (xO.extBut _ _ c1 (aj _ e))
  have Bx:IsPair h8 he.objs.size x y:=E4.extBut _ _ (fP zlt) (xO.extBut _ _ (fP zlt) (aO _ rfl))
  have vE:h8.objs.size=he.objs.size+1:=by rw [E4.1,xO.1,bT]
  show Q (.ref he.objs.size) _
  rw [hsz] at DD Bx vE ⊢
  exact hQ x y h8 EY _ _ _ _ px py DD ⟨.inr ⟨_,_,rfl⟩,_,rfl⟩ (up _ _ Z.zTI (kk _ _ Z.zTI Z.TT Z.T1 Z.T2 uI)) (up _ _ Z.zTO wX) (D1.frame _ _ _ E1 fun c p6 o e=>up c o (fun q=>Z.a1 (q ▸ p6)) e) (D2.frame _ _ _ E2 fun c p6 o e=>up c o (fun q=>Z.b1 (q ▸ p6)) e) Bx vE fun c o c1 c2 c3 c4 e=>up c o c1 (kk c o c1 c2 c3 c4 e)
 ·simp only [bw,if_false]; replace tq:bu z hp h0:=tq
  rw [show (#[bd i1,bd i2]:Array Value) = [bd i1,bd i2].toArray from rfl]
  simp only [j0,eX,gM]
  refine ae (ae (ae (bY ?_))); show wpAny _ _ (bi (.ref i1) >>= _) _ _ _
  refine ae (D1.item k1 _ _ _ l1 (D1.frame _ _ _ n4 fun c hc o e=>tq.extBut c o (fun q=>Z.a1 (q ▸ hc)) e) fun x hb Bv px Bw n6=>ak (ak ?_))
  replace n6:bu i1 h0 hb:=n6
  refine ae (ae (bY ?_)); show wpAny _ _ (bi (.ref i2) >>= _) _ _ _
  refine ae (D2.item k2 _ _ _ l2 (D2.frame _ _ _ mG fun c p6 o e=>n6.extBut c o (fun q=>Z.b3 (q ▸ p6)) (tq.extBut c o (fun q=>Z.b1 (q ▸ p6)) e)) fun y hd EY py EZ rC=>ak (ak (ak ?_)))
  replace rC:bu i2 hb hd:=rC
  show wpAny _ _ (newTuple [x,y] >>= _) _ _ _
  refine ae (gN (ak ⟨_,rfl,?_⟩))
  have hsz:hd.objs.size=hp.objs.size:=by rw [rC.1,n6.1,tq.1]
  have kk:∀ c o,c≠z→c≠TO→c≠i1→c≠i2→hp.get? c=some o→hd.get? c=some o:=fun c o c1 c2 c3 c4 e=>rC.extBut _ _ c4 (n6.extBut _ _ c3 (tq.extBut _ _ c1 e))
  have DE:IsZ hd z TI TO f0 (.bool true):=rC.extBut _ _ Z.z2.symm (n6.extBut _ _ Z.z1.symm hz0)
  have wW:IsPair hd TO a b:=rC.extBut _ _ Z.O2 (n6.extBut _ _ Z.O1 (tq.extBut _ _ Z.zTO vh))
  have E5:S1 (k1+1) hd:=D1.frame _ _ _ Bw fun c p6 o e=>rC.extBut c o (fun q=>Z.a3 (q ▸ p6)) e
  have up:∀ c o,hd.get? c=some o→(hd.push { cls:=.type "tuple",data:=.seq #[x,y] }).get? c=some o:=fun c o e=>aj _ e
  have Bx:IsPair (hd.push { cls:=.type "tuple",data:=.seq #[x,y] }) hd.objs.size x y:=aO _ rfl
  have vE:(hd.push { cls:=.type "tuple",data:=.seq #[x,y] }).objs.size=hd.objs.size+1:=bT ..
  show Q (.ref hd.objs.size) _
  rw [hsz] at Bx vE ⊢
  exact hQ x y _ EY _ _ _ _ px py (up _ _ DE) ⟨hf.1,_,rfl⟩ (up _ _ (kk _ _ Z.zTI Z.TT Z.T1 Z.T2 uI)) (up _ _ wW) (D1.frame _ _ _ E5 fun c _ o e=>up c o e) (D2.frame _ _ _ EZ fun c _ o e=>up c o e) Bx vE fun c o c1 c2 c3 c4 e=>up c o (kk c o c1 c2 c3 c4 e)
theorem zlA {z TI TO i1 i2:Addr} {qN qO:List Addr} {n1 n2 k1 k2:Nat} {P1 P2:Nat→Value→Prop} {S1 S2:Nat→Heap→Prop} {f0 f1 a b:Value} {Q:Fin→Shared→Prop} (D1:Draws prog w A i1 qN n1 P1 S1) (D2:Draws prog w A i2 qO n2 P2 S2) (Z:Zap z TI TO i1 i2 qN qO)
  (hz:IsZ s.heap z TI TO f0 f1) (hf:ZF f0 f1) (uI:IsPair s.heap TI (.ref i1) (.ref i2)) (vh:IsPair s.heap TO a b) (n4:S1 k1 s.heap) (mG:S2 k2 s.heap) (l1:k1=n1∨(k1 < n1∧k2=n2))
  (hE:∀ h' tk e,(∀ c o,c≠z→c≠TO→c≠i1→c≠i2→s.heap.get? c=some o→h'.get? c=some o)→(∃ o,h'.get? e=some o∧o.cls = .type "StopIteration")→E (.ref e) { s with heap:=h',toks:=tk }):wpAny (model prog w) A (Builtin.«zip.__next__» ⟨[.ref z],[]⟩) Q E s:=by
 obtain⟨hp,g,d,DC,os⟩:=s
 have nz:∀ {h:Heap} {e:Addr} {o:Obj} {x y:Value},IsZ h z TI TO x y→h.get? e=some o→o.cls = .type "StopIteration"→e≠z:=fun h1 h2 h3 q=>by subst q; rw [h1] at h2; cases h2; simp at h3
 show wpAny _ _ (field (.ref z) 2 >>= _) _ _ _; refine ae (bC hz rfl (x:=.bool false) rfl ?_); show wpAny _ _ (field (.ref z) 3 >>= _) _ _ _
 refine ae (bC hz rfl (x:=.ref TI) rfl ?_); refine ae (dj uI rfl ?_)
 show wpAny _ _ (bX (.ref z) >>= _) _ _ _; refine ae (zlz hz hf ?_ fun h0 hz0 tq=>?_)
 ·simp only [if_true]
  refine ae (cn (ae (bC hz rfl (x:=.ref TO) rfl ?_)))
  refine ae (bO hz (by simp) fun ha xN tN=>?_)
  replace xN:IsZ ha z TI TO .ellipsis f1:=xN
  replace tN:bu z hp ha:=tN
  refine ae ?_
  simp only [ku,kK,eX,gM]; refine ae (ae (ic ?_)); show wpAny _ _ (bi (.ref i1) >>= _) _ _ _
  have vF:S1 k1 ha:=D1.frame _ _ _ n4 fun c hc o e=>tN.extBut c o (fun q=>Z.a1 (q ▸ hc)) e
  rcases l1 with rfl | ⟨l1,rfl⟩
  ·refine ae (D1.done _ _ _ vF fun hb e n6 ⟨oe,By,Bz⟩=>?_)
   have hzb:IsZ hb z TI TO .ellipsis f1:=n6 _ _ Z.z1.symm xN
   exact bO hzb (by simp) fun h3 _ tu=>hE h3 DC e (fun c o c1 _ c3 _ x=>tu.extBut _ _ c1 (n6 _ _ c3 (tN.extBut _ _ c1 x))) ⟨oe,tu.extBut _ _ (nz hzb By Bz) By,Bz⟩
  ·refine ae (D1.item k1 _ _ _ l1 vF fun x hb Bv px Bw n6=>ak ?_)
   replace n6:bu i1 ha hb:=n6
   have vD:IsPair hb TO a b:=n6.extBut _ _ Z.O1 (tN.extBut _ _ Z.zTO vh)
   refine ae (dj vD rfl (ae (gB vD fun hc wV uJ=>?_)))
   replace uJ:bu TO hb hc:=uJ
   refine ae (je (ak (ae (ae (ic ?_))))); show wpAny _ _ (bi (.ref i2) >>= _) _ _ _
   refine ae (D2.done _ _ _ (D2.frame _ _ _ mG fun c p6 o e=>uJ.extBut c o (fun q=>Z.b2 (q ▸ p6)) (n6.extBut c o (fun q=>Z.b3 (q ▸ p6)) (tN.extBut c o (fun q=>Z.b1 (q ▸ p6)) e))) fun hd e rC ⟨oe,By,Bz⟩=>?_)
   have DE:IsZ hd z TI TO .ellipsis f1:=rC _ _ Z.z2.symm (uJ.extBut _ _ Z.zTO.symm (n6.extBut _ _ Z.z1.symm xN))
   exact bO DE (by simp) fun h3 _ tu=>hE h3 Bv e (fun c o c1 c2 c3 c4 x=>tu.extBut _ _ c1 (rC _ _ c4 (uJ.extBut _ _ c2 (n6.extBut _ _ c3 (tN.extBut _ _ c1 x))))) ⟨oe,tu.extBut _ _ (nz DE By Bz) By,Bz⟩
 ·simp only [bw,if_false]; replace tq:bu z hp h0:=tq
  rw [show (#[bd i1,bd i2]:Array Value) = [bd i1,bd i2].toArray from rfl]
  simp only [j0,eX,gM]
  refine ae (ae (ae (bY ?_))); show wpAny _ _ (bi (.ref i1) >>= _) _ _ _
  have vF:S1 k1 h0:=D1.frame _ _ _ n4 fun c hc o e=>tq.extBut c o (fun q=>Z.a1 (q ▸ hc)) e
  rcases l1 with rfl | ⟨l1,rfl⟩
  ·exact ae (D1.done _ _ _ vF fun hb e n6 he=>hE hb DC e (fun c o c1 _ c3 _ x=>n6 _ _ c3 (tq.extBut _ _ c1 x)) he)
  ·refine ae (D1.item k1 _ _ _ l1 vF fun x hb Bv px Bw n6=>ak (ak ?_))
   replace n6:bu i1 h0 hb:=n6
   refine ae (ae (bY ?_)); show wpAny _ _ (bi (.ref i2) >>= _) _ _ _
   exact ae (D2.done _ _ _ (D2.frame _ _ _ mG fun c p6 o e=>n6.extBut c o (fun q=>Z.b3 (q ▸ p6)) (tq.extBut c o (fun q=>Z.b1 (q ▸ p6)) e)) fun hd e rC he=>hE hd Bv e (fun c o c1 _ c3 c4 x=>rC _ _ c4 (n6.extBut _ _ c3 (tq.extBut _ _ c1 x))) he)
theorem zno {e z TI TO i1 i2:Addr} {qN qO:List Addr} {n1 n2 i:Nat} {P1 P2:Nat→Value→Prop} {S1 S2:Nat→Heap→Prop} {f0 f1 a b old:Value} {Q:Option Value→Shared→Prop} (D1:Draws prog w A.in1.in1 i1 qN n1 P1 S1) (D2:Draws prog w A.in1.in1 i2 qO n2 P2 S2) (Z:Zap z TI TO i1 i2 qN qO)
  (he:IsEnum s.heap e z i old) (ez:e≠z) (eT:e≠TI) (eO:e≠TO) (e1:e≠i1) (e2:e≠i2) (ef1:e∉qN) (ef2:e∉qO)
  (hz:IsZ s.heap z TI TO f0 f1) (hf:ZF f0 f1) (uI:IsPair s.heap TI (.ref i1) (.ref i2)) (vh:IsPair s.heap TO a b) (n4:S1 i s.heap) (mG:S2 i s.heap) (l1:i < n1) (l2:i < n2)
  (hQ:∀ x y h' tk g0 g1 a' b',P1 i x→P2 i y→IsEnumOut h' e z ((i:Int)+1) (.ref s.heap.objs.size) (s.heap.objs.size+1)→IsZ h' z TI TO g0 g1→ZF g0 g1→IsPair h' TI (.ref i1) (.ref i2)→IsPair h' TO a' b'→S1 (i+1) h'→S2 (i+1) h'→IsPair h' s.heap.objs.size x y →
   IsPair h' (s.heap.objs.size+1) (.int i tk) (.ref s.heap.objs.size)→h'.objs.size=s.heap.objs.size+2 →
   (∀ c o,c≠e→c≠z→c≠TO→c≠i1→c≠i2→s.heap.get? c=some o→h'.get? c=some o)→Q (some (.ref (s.heap.objs.size+1))) { s with heap:=h',toks:=tk+1 }):wpAny (model prog w) A (pyNext (.ref e)) Q E s:=by
 have hT:s.TypeIs (.ref e) "enumerate":=⟨_,he,rfl⟩; have uL:s.TypeIs (.ref z) "zip":=⟨_,hz,rfl⟩
 unfold pyNext
 refine ae (c9 (br (name:=bW "__next__") hT fm (bD fm hT jf ?_ (iR _))))
 obtain⟨hp,g,d,DC,os⟩:=s
 show wpAny _ _ (field (.ref e) 2 >>= _) _ _ _; refine ae (bC he rfl (x:=.ref z) rfl (ae ?_))
 unfold bi; refine ae (br (name:=bW "__next__") uL dC (bD dC uL gp ?_ (ge _)))
 refine zjr D1 D2 Z hz hf uI vh n4 mG l1 l2 fun x y h1 tk g0 g1 a' b' px py rL E6 yx yz yA yB qU yC kk=>ak ?_
 have E7:IsEnum h1 e z i old:=kk _ _ ez eO e1 e2 he
 have elt:e < hp.objs.size:=aK he
 show wpAny _ _ (field (.ref e) 3 >>= _) _ _ ⟨h1,g,d,tk,os⟩; refine ae (bC E7 rfl (x:=rawInt i) rfl ?_)
 show wpAny _ _ (field (.ref e) 4 >>= _) _ _ ⟨h1,g,d,tk,os⟩; refine ae (bC E7 rfl (x:=.none) rfl ?_)
 show wpAny _ _ (mkInt i >>= _) _ _ ⟨h1,g,d,tk,os⟩; refine ae (wpAny_mkInt ?_)
 show wpAny _ _ (setField (.ref e) 3 (rawInt ((i:Int)+1)) >>= _) _ _ ⟨h1,g,d,tk+1,os⟩; refine ae (bO E7 (by simp) fun h2 E8 oE=>?_)
 replace oE:bu e h1 h2:=oE
 replace E8:IsEnum h2 e z ((i:Int)+1) old:=E8
 show wpAny _ _ (setField (.ref e) 4 .none >>= _) _ _ ⟨h2,g,d,tk+1,os⟩; refine ae (bO E8 (by simp) fun h3 E9 tu=>?_)
 replace tu:bu e h2 h3:=tu
 replace E9:IsEnum h3 e z ((i:Int)+1) old:=E9
 show wpAny _ _ (newTuple [.int i tk,.ref hp.objs.size] >>= _) _ _ ⟨h3,g,d,tk+1,os⟩; refine ae (gN ?_)
 have z3:h3.objs.size=hp.objs.size+1:=by rw [tu.1,oE.1]; exact yC
 rw [z3]
 have DF:IsEnum (h3.push { cls:=.type "tuple",data:=.seq #[.int i tk,.ref hp.objs.size] }) e z ((i:Int)+1) old:=aj _ E9
 have Fb:=aO h3 (o:={ cls:=.type "tuple",data:=.seq #[.int i tk,.ref hp.objs.size] }) rfl
 rw [z3] at Fb
 have k4:∀ c o,c≠e→h1.get? c=some o→(h3.push { cls:=.type "tuple",data:=.seq #[.int i tk,.ref hp.objs.size] }).get? c=some o:=fun c o ce x=>aj _ (tu.extBut c o ce (oE.extBut c o ce x))
 have z4:(h3.push { cls:=.type "tuple",data:=.seq #[.int i tk,.ref hp.objs.size] }).objs.size=hp.objs.size+2:=by rw [bT,z3]
 generalize h3.push { cls:=.type "tuple",data:=.seq #[.int i tk,.ref hp.objs.size] }=h4 at DF Fb k4 z4 ⊢
 show wpAny _ _ (bX (.ref e) >>= _) _ _ ⟨h4,g,d,tk+1,os⟩
 refine ae ?_
 unfold bX; refine ae (bC DF rfl (x:=.none) rfl (ak ?_))
 simp only [if_true]; refine ae (cn (ae (bC DF rfl (x:=old) rfl ?_)))
 refine ae (bO DF (by simp) fun h5 Fc DG=>?_)
 replace DG:bu e h4 h5:=DG
 replace Fc:IsEnum h5 e z ((i:Int)+1) (.ref hp.objs.size):=Fc
 show wpAny _ _ (cR (.ref e) (.ref (hp.objs.size+1)) >>= _) _ _ ⟨h5,g,d,tk+1,os⟩
 refine ae ?_
 unfold cR; refine ae (bO Fc (by simp) fun h6 Fd DH=>?_)
 replace DH:bu e h5 h6:=DH
 replace Fd:IsEnumOut h6 e z ((i:Int)+1) (.ref hp.objs.size) (hp.objs.size+1):=Fd
 refine bO Fd (by simp) fun h7 Fe xO=>?_
 replace xO:bu e h6 h7:=xO
 replace Fe:IsEnumOut h7 e z ((i:Int)+1) (.ref hp.objs.size) (hp.objs.size+1):=Fe
 have up:∀ c o,c≠e→h4.get? c=some o→h7.get? c=some o:=fun c o ce x=>xO.extBut c o ce (DH.extBut c o ce (DG.extBut c o ce x))
 have z7:h7.objs.size=hp.objs.size+2:=by rw [xO.1,DH.1,DG.1,z4]
 refine ae (je (ak ⟨_,rfl,ak ?_⟩))
 exact hQ x y h7 tk g0 g1 a' b' px py Fe (up _ _ ez.symm (k4 _ _ ez.symm rL)) E6 (up _ _ eT.symm (k4 _ _ eT.symm yx)) (up _ _ eO.symm (k4 _ _ eO.symm yz))
  (D1.frame _ _ _ yA fun c hc o x=>up c o (fun q=>ef1 (q ▸ hc)) (k4 c o (fun q=>ef1 (q ▸ hc)) x)) (D2.frame _ _ _ yB fun c hc o x=>up c o (fun q=>ef2 (q ▸ hc)) (k4 c o (fun q=>ef2 (q ▸ hc)) x))
  (up _ _ (fP elt) (k4 _ _ (fP elt) qU)) (up _ _ (fP (fg elt)) Fb) z7 fun c o ce cz cO c1 c2 x=>up c o ce (k4 c o ce (kk c o cz cO c1 c2 x))
theorem zpc {e z TI TO i1 i2:Addr} {qN qO:List Addr} {n1 n2 k:Nat} {i:Int} {P1 P2:Nat→Value→Prop} {S1 S2:Nat→Heap→Prop} {f0 f1 a b old:Value} {Q:Option Value→Shared→Prop} (D1:Draws prog w A.in1.in1 i1 qN n1 P1 S1) (D2:Draws prog w A.in1.in1 i2 qO n2 P2 S2) (Z:Zap z TI TO i1 i2 qN qO)
  (he:IsEnum s.heap e z i old) (hz:IsZ s.heap z TI TO f0 f1) (hf:ZF f0 f1) (uI:IsPair s.heap TI (.ref i1) (.ref i2)) (vh:IsPair s.heap TO a b) (n4:S1 k s.heap) (mG:S2 k s.heap) (l1:k=n1∨(k < n1∧k=n2))
  (hQ:∀ h' tk,(∀ c o,c≠z→c≠TO→c≠i1→c≠i2→s.heap.get? c=some o→h'.get? c=some o)→Q none { s with heap:=h',toks:=tk }):wpAny (model prog w) A (pyNext (.ref e)) Q E s:=by
 have hT:s.TypeIs (.ref e) "enumerate":=⟨_,he,rfl⟩; have uL:s.TypeIs (.ref z) "zip":=⟨_,hz,rfl⟩
 unfold pyNext
 refine ae (c9 (br (name:=bW "__next__") hT fm (bD fm hT jf ?_ (iR _))))
 show wpAny _ _ (field (.ref e) 2 >>= _) _ _ _; refine ae (bC he rfl (x:=.ref z) rfl (ae ?_))
 unfold bi; refine ae (br (name:=bW "__next__") uL dC (bD dC uL gp ?_ (ge _)))
 refine zlA D1 D2 Z hz hf uI vh n4 mG l1 fun h' tk x kk ⟨o,ho,hc⟩=>?_
 exact ae (fC (T:="StopIteration") (b:=true) ⟨o,ho,hc⟩ gK (ak (hQ h' tk kk)))
end
def zgw (x y:Value):Obj:={ cls:=.type "tuple",data:=.seq #[x,y] }
def zp9 (a b:Addr):Obj:={ cls:=.type "zip",data:=.fields #[.none,.bool false,.bool false,.ref a,.ref b] }
def itO (C:String) (l:Addr):Obj:={ cls:=.type C,data:=.fields #[.ref l,.int 0 0] }
abbrev zt2 (C:String) (h:Heap) (l1 l2:Addr):Heap:=(h.push (zcw l1)).push (itO C l2)
abbrev zt4 (C:String) (h:Heap) (l1 l2:Addr):Heap:=((zt2 C h l1 l2).push (zgw (.ref h.objs.size) (.ref (h.push (zcw l1)).objs.size))).push (zgw .none .none)
abbrev zt5 (C:String) (h:Heap) (l1 l2:Addr):Heap:=(zt4 C h l1 l2).push (zp9 (zt2 C h l1 l2).objs.size ((zt2 C h l1 l2).push (zgw (.ref h.objs.size) (.ref (h.push (zcw l1)).objs.size))).objs.size)
def ItC (C:String) (h:Heap) (a l:Addr) (i:Nat):Prop:=∃ o,h.get? a=some o∧o.cls = .type C∧o.data = .fields #[.ref l,.int i 0]
structure SkH (C:String) (Is:Heap→Addr→Array Value→Prop):Prop where
 it:∀ {prog:Program} {w:World} {A:Around} {E:Value→Shared→Prop} {s:Shared} {l:Addr} {items:Array Value} {Q:Value→Shared→Prop},Is s.heap l items→Q (.ref s.heap.objs.size) { s with heap:=s.heap.push (itO C l) }→wpAny (model prog w) A (pyIter (.ref l)) Q E s
 pu:∀ {h:Heap} {l:Addr} {items:Array Value} (o:Obj),Is h l items→Is (h.push o) l items
 dr:∀ {prog:Program} {w:World} {A:Around},A.handled=none→∀ (it l:Addr),l≠it→∀ (items:Array Value),Draws prog w A it [it,l] items.size (fun i v=>items[i]? = some v) fun i h=>ItC C h it l i∧Is h l items
theorem skL:SkH "list_iterator" Heap.IsList:=⟨fun h q=>ik h q,fun o h=>Heap.IsList.push h o,fun hh it l ne items=>f8 hh it l ne items⟩
theorem skT:SkH "tuple_iterator" j1:=⟨fun h q=>fQ h q,fun o ⟨u,e,r⟩=>⟨u,aj _ e,r⟩,fun hh it l ne items=>Draws.tuple hh it l ne items⟩
theorem zhD {C:String} {Is:Heap→Addr→Array Value→Prop} (S:SkH C Is) (l1 l2:Addr) (xs ys:Array Value):Meets (Builtin.«zip.__new__» ⟨[.type "zip",.ref l1,.ref l2],[]⟩) (fun _ R s=>s.heap.IsTuple l1 xs∧Is s.heap l2 ys∧R (.ok (.ret (.ref (zt4 C s.heap l1 l2).objs.size))) { s with heap:=zt5 C s.heap l1 l2 }) :=
 .of_wp fun prog w A R s h=>by
  obtain⟨hp,g,d,tk,os⟩:=s; obtain⟨tj,qf,h⟩:=h; have wY:=sub_zip
  have wZ:j1 (kg ⟨hp,g,d,tk,os⟩) l1 xs:=tj
  have Aw:Is (kg ⟨hp.push { cls:=.type "tuple_iterator",data:=.fields #[.ref l1,.int 0 0] },g,d,tk,os⟩) l2 ys:=S.pu _ qf
  wp_walk using fQ wZ,S.it Aw
  exact⟨_,rfl,h⟩
section
variable {prog:Program} {w:World} {A:Around} {E:Value→Shared→Prop} {s:Shared}
theorem zeQ {C:String} {Is:Heap→Addr→Array Value→Prop} (S:SkH C Is) {l1 l2:Addr} {xs ys:Array Value} {Q:Value→Shared→Prop} (tj:s.heap.IsTuple l1 xs) (qf:Is s.heap l2 ys)
  (h:∀ h' n,n=s.heap.objs.size→IsZ h' (n+4) (n+2) (n+3) .none (.bool false)→IsPair h' (n+2) (.ref n) (.ref (n+1))→IsPair h' (n+3) .none .none→h'.IsTupleIter n l1 0→ItC C h' (n+1) l2 0→h'.objs.size=n+5 →
   (∀ c o,s.heap.get? c=some o→h'.get? c=some o)→Q (.ref (n+4)) { s with heap:=h' }):wpAny (model prog w) A (call (.type "zip") [.ref l1,.ref l2]) Q E s:=by
 refine jZ F.called_zip (by decide) (F.typeCall_zip_2 _ _) (F.newCall_zip_2 _ _) (fun obj=>F.args_object_init_3 obj _ _) F.entry_zip_new (zhD S l1 l2 xs ys) ⟨tj,qf,?_⟩
 have z1:(s.heap.push (zcw l1)).objs.size=s.heap.objs.size+1:=bT ..
 have z2:(zt2 C s.heap l1 l2).objs.size=s.heap.objs.size+2:=by rw [bT,z1]
 have z3:((zt2 C s.heap l1 l2).push (zgw (.ref s.heap.objs.size) (.ref (s.heap.push (zcw l1)).objs.size))).objs.size=s.heap.objs.size+3:=by rw [bT,z2]
 have z4:(zt4 C s.heap l1 l2).objs.size=s.heap.objs.size+4:=by rw [bT,z3]
 have g5:=aO (zt4 C s.heap l1 l2) (o:=zp9 (zt2 C s.heap l1 l2).objs.size ((zt2 C s.heap l1 l2).push (zgw (.ref s.heap.objs.size) (.ref (s.heap.push (zcw l1)).objs.size))).objs.size) rfl
 have g4:(zt5 C s.heap l1 l2).get? _=some _:=aj _ (aO ((zt2 C s.heap l1 l2).push (zgw (.ref s.heap.objs.size) (.ref (s.heap.push (zcw l1)).objs.size))) (o:=zgw .none .none) rfl)
 have g3:(zt5 C s.heap l1 l2).get? _=some _:=aj _ (aj _ (aO (zt2 C s.heap l1 l2) (o:=zgw (.ref s.heap.objs.size) (.ref (s.heap.push (zcw l1)).objs.size)) rfl))
 have g2:(zt5 C s.heap l1 l2).get? _=some _:=aj _ (aj _ (aj _ (aO (s.heap.push (zcw l1)) (o:=itO C l2) rfl)))
 have g1:(zt5 C s.heap l1 l2).get? s.heap.objs.size=some (zcw l1):=aj _ (aj _ (aj _ (aj _ (aO _ rfl))))
 have z5:(zt5 C s.heap l1 l2).objs.size=s.heap.objs.size+5:=by rw [bT,z4]
 have k5:∀ c o,s.heap.get? c=some o→(zt5 C s.heap l1 l2).get? c=some o:=fun c o x=>aj _ (aj _ (aj _ (aj _ (aj _ x))))
 show _∧_
 rw [z4] at g5 ⊢
 rw [z3] at g4
 rw [z2] at g3
 rw [z1] at g2
 refine⟨⟨_,g5,rfl⟩,h _ _ rfl ?_ ?_ g4 ⟨_,g1,rfl,rfl⟩ ⟨_,g2,rfl,rfl⟩ z5 k5⟩
 ·have:IsZ (zt5 C s.heap l1 l2) (s.heap.objs.size+4) (zt2 C s.heap l1 l2).objs.size ((zt2 C s.heap l1 l2).push (zgw (.ref s.heap.objs.size) (.ref (s.heap.push (zcw l1)).objs.size))).objs.size .none (.bool false):=g5
  rw [z2,z3] at this
  exact this
 ·have:IsPair (zt5 C s.heap l1 l2) (s.heap.objs.size+2) (.ref s.heap.objs.size) (.ref (s.heap.push (zcw l1)).objs.size):=g3
  rw [z1] at this
  exact this
theorem ziH {l1 l2:Addr} {xs ys:Array Value} {Q:Value→Shared→Prop} (tj:s.heap.IsTuple l1 xs) (qf:s.heap.IsList l2 ys)
  (h:∀ h' n,n=s.heap.objs.size→IsZ h' (n+4) (n+2) (n+3) .none (.bool false)→IsPair h' (n+2) (.ref n) (.ref (n+1))→IsPair h' (n+3) .none .none→h'.IsTupleIter n l1 0→h'.IsListIter (n+1) l2 0→h'.objs.size=n+5 →
   (∀ c o,s.heap.get? c=some o→h'.get? c=some o)→Q (.ref (n+4)) { s with heap:=h' }):wpAny (model prog w) A (call (.type "zip") [.ref l1,.ref l2]) Q E s:=zeQ skL tj qf h
end
open AutoSeq1 (wpAny_loadPart') in
set_option tactic.hygienic true in
theorem zhE (z TI TO:Addr) (f0:Value):Meets (Builtin.«enumerate.__new__» ⟨[.type "enumerate",.ref z],[]⟩) (fun _ R s=>IsZip s.heap z TI TO f0∧R (.ok (.ret (.ref s.heap.objs.size))) { s with heap:=s.heap.push (zlm z) }) :=
 .of_wp fun prog w A R s h=>by
  obtain⟨hp,g,d,tk,os⟩:=s; obtain⟨hz,h⟩:=h
  have hZ:IsZip (kg ⟨hp,g,d,tk,os⟩) z TI TO f0:=hz
  have wY:=sub_enumerate; wp_walk using cN hz
  refine wpAny_stack_any fun st=>ak ?_; split
  ·rename_i c _ _ _ _ _; cases (c == jq "enumerate") <;> (wp_walk using cN hz,gn hZ; exact⟨_,rfl,h⟩)
  ·wp_walk using cN hz,gn hZ; exact⟨_,rfl,h⟩
theorem ziI {prog:Program} {w:World} {A:Around} {E:Value→Shared→Prop} {s:Shared} {z TI TO:Addr} {f0:Value} {Q:Value→Shared→Prop} (hz:IsZip s.heap z TI TO f0)
  (h:∀ h',IsEnum h' s.heap.objs.size z 0 .none→h'.objs.size=s.heap.objs.size+1→(∀ b o,s.heap.get? b=some o→h'.get? b=some o)→Q (.ref s.heap.objs.size) { s with heap:=h' }):wpAny (model prog w) A (call (.type "enumerate") [.ref z]) Q E s:=by
 refine jZ F.called_enumerate (by decide) (F.typeCall_enumerate_1 _) (F.newCall_enumerate_1 _) (fun obj=>jw obj _) F.entry_enumerate_new (zhE z TI TO f0) ⟨hz,?_⟩
 have he:=aO s.heap (o:=zlm z) rfl
 exact⟨⟨_,he,rfl⟩,h _ he (bT ..) fun b o x=>aj _ x⟩
end PySem
end
section
namespace L2
open PySem PySem.Spec PyProof.Rows
def znp (rq rA:Hp→Addr→List V→Prop) (a b:Addr):It :=
 ⟨fun i H=>∃ xs ys x y,rq H a xs∧rA H b ys∧xs[i]? = some x∧ys[i]? = some y,
  fun i H x H'=>∃ T1 T2 u v,H T1=none∧H T2=none∧T1≠T2∧x = .ref T2∧H'=lu (lu H T1 (.tup [u,v])) T2 (.tup [.int i,.ref T1])∧(∀ xs,rq H a xs→xs[i]? = some u)∧∀ ys,rA H b ys→ys[i]? = some v,
  fun i H=>∃ xs ys,rq H a xs∧rA H b ys∧xs.length=i⟩
abbrev zeR (n:Nat):List Addr:=[n+5,n+4,n+2,n+3,n,n+1]
abbrev zpd (n a b:Nat) (i:Nat) (h:Heap):Prop:=(∃ old,IsEnum h (n+5) (n+4) i old)∧(∃ f0 f1,IsZ h (n+4) (n+2) (n+3) f0 f1∧ZF f0 f1)∧IsPair h (n+2) (.ref n) (.ref (n+1))∧(∃ u v,IsPair h (n+3) u v)∧h.IsTupleIter n a i∧h.IsListIter (n+1) b i
theorem nq {x y:Nat} (h:x≠y):@Ne Addr x y:=h
theorem nl {x y:Nat} (h:x < y):@LT.lt Nat _ x y:=h
theorem nm2 {c x y:Nat} (h1:c≠x) (h2:c≠y):¬ @Membership.mem Addr (List Addr) _ [x,y] c:=fun h=>by
 rcases aI.mp h with e | e
 ·exact h1 e
 ·exact h2 (be.mp e)
theorem zcK {n a b:Nat} (ha:a < n) (hb:b < n):Zap (n+4) (n+2) (n+3) n (n+1) [n,a] [n+1,b] :=
 ⟨nq (by lia),nq (by lia),nq (by lia),nq (by lia),nq (by lia),nq (by lia),nq (by lia),nq (by lia),nq (by lia),nq (by lia),nm2 (by lia) (by lia),nm2 (by lia) (by lia),nm2 (by lia) (by lia),nm2 (by lia) (by lia),nm2 (by lia) (by lia),nm2 (by lia) (by lia)⟩
theorem znq {P:Program} {w:World} {K:ag} {es:List Expr} {k:Nat} {pos:Pos} (a b n:Nat) (ha:a < n) (hb:b < n):Turn P w K (.Tuple es k pos) (znp (lE K) (lr K) a b) (zeR n) (n+5) (zpd n a b) where
 mem:=by simp
 obj:=fun i h st c hc=>by
  obtain⟨⟨old,h0⟩,⟨f0,f1,h1,_⟩,h2,⟨u,v,h3⟩,⟨o4,e4,_,d4⟩,⟨o5,e5,_,d5⟩⟩:=st
  simp only [zeR,aI,aV,or_false] at hc
  rcases hc with z | z | z | z | z | z <;> subst z
  ·exact⟨_,h0,fun v z=>by cases z⟩
  ·exact⟨_,h1,fun v z=>by cases z⟩
  ·exact⟨_,h2,fun v z=>by cases z⟩
  ·exact⟨_,h3,fun v z=>by cases z⟩
  ·exact⟨_,e4,fun v z=>by rw [d4] at z; cases z⟩
  ·exact⟨_,e5,fun v z=>by rw [d5] at z; cases z⟩
 keep:=fun i h h' st kk=>by
  obtain⟨⟨old,h0⟩,⟨f0,f1,h1,hf⟩,h2,⟨u,v,h3⟩,h4,h5⟩:=st
  exact⟨⟨old,kk _ (by simp) _ h0⟩,⟨f0,f1,kk _ (by simp) _ h1,hf⟩,kk _ (by simp) _ h2,⟨u,v,kk _ (by simp) _ h3⟩,h4.at fun o eo=>kk _ (by simp) o eo,h5.at fun o eo=>kk _ (by simp) o eo⟩
 item:=by
  intro X hP hw hK hc i lj s σ H E I hf st hg
  subst hP hw hK
  obtain⟨xs,ys,x,y,o7,nZ,hx,hy⟩:=hg
  obtain⟨⟨old,h0⟩,⟨f0,f1,h1,uK⟩,h2,⟨u0,v0,h3⟩,h4,h5⟩:=st
  obtain⟨mE,rB,p1,rL⟩:=I.tuple o7
  obtain⟨lZ,rM,p2,uH⟩:=I.list nZ
  obtain⟨u,hu,ru⟩:=rB.get hx
  obtain⟨v,hv,rv⟩:=rM.get hy
  have vz:n+5 < s.heap.objs.size:=aK h0
  have hh:X.A.in1.in1.handled=none:=by simp [I.ok.hd hc]
  have pZ:i < mE.toArray.size:=by have:=(aD.mp hu).1; simpa using this
  have p4:i < lZ.toArray.size:=by have:=(aD.mp hv).1; simpa using this
  refine zno (Draws.tuple hh n a (nq (by lia)) mE.toArray) (f8 hh (n+1) b (nq (by lia)) lZ.toArray) (zcK ha hb) h0 (nq (by lia)) (nq (by lia)) (nq (by lia)) (nq (by lia)) (nq (by lia)) (nm2 (by lia) (by lia)) (nm2 (by lia) (by lia)) h1 uK h2 h3 ⟨h4,(show s.heap.IsTuple a mE.toArray from p1)⟩ ⟨h5,p2.isList⟩ pZ p4
   fun x' y' h' tk g0 g1 a' b' px py eo ez BA e2 e3 t4 t5 pp pe hsz kk=>?_
  have eu:x'=u:=by
   have e1:mE[i]? = some x':=by simpa using px
   rw [hu] at e1; exact (aT e1).symm
  have ev:y'=v:=by
   have e1:lZ[i]? = some y':=by simpa using py
   rw [hv] at e1; exact (aT e1).symm
  subst eu ev
  have ch:∀ c∈[n+5,n+4,n+3,n,n+1],c∈zeR n:=fun c lH=>by
   simp only [zeR,aI,aV,or_false] at lH ⊢
   rcases lH with z | z | z | z | z <;> subst z <;> simp
  have k1:∀ c o,c∉[n+5,n+4,n+3,n,n+1]→s.heap.get? c=some o→h'.get? c=some o:=fun c o lH eo=>by
   simp only [aI,aV,or_false,not_or] at lH
   exact kk c o lH.1 lH.2.1 lH.2.2.1 lH.2.2.2.1 lH.2.2.2.2 eo
  have yp:∀ c∈[n+5,n+4,n+3,n,n+1],∃ o,h'.get? c=some o:=fun c lH=>by
   simp only [aI,aV,or_false] at lH
   rcases lH with z | z | z | z | z <;> subst z
   ·exact⟨_,eo⟩
   ·exact⟨_,ez⟩
   ·exact⟨_,e3⟩
   ·obtain⟨o,e,_⟩:=t4.1; exact⟨o,e⟩
   ·obtain⟨o,e,_⟩:=t5.1; exact⟨o,e⟩
  have I1:Inv X lj σ (lu H s.heap.objs.size (.tup [x,y])) { s with heap:=h',toks:=tk+1 } :=
   I.turnedNew k1 (fun c lH=>hf c (ch c lH)) yp (af _) ⟨zaL,_,.cons ru (.cons rv .nil),zbQ pp⟩
  have uE:H (s.heap.objs.size+1)=none:=I.hok.fresh (gj _)
  have Ff:lu H s.heap.objs.size (.tup [x,y]) (s.heap.objs.size+1)=none:=by rw [zr (iH _)]; exact uE
  obtain⟨_,a1,a2,a3,a4,a5⟩:=I.fpOk (H':=H) (gj s.heap.objs.size) uE
  have I1':Inv X lj σ (lu (lu H s.heap.objs.size (.tup [x,y])) (s.heap.objs.size+1) (.tup [.int i,.ref s.heap.objs.size])) { s with heap:=h',toks:=tk+1 } :=
   I1.track Ff (a8 I.sz (gj _)) (eE a1) a4 a5 ⟨zaL,_,.cons ⟨tk,rfl⟩ (.cons rfl .nil),zbQ pe⟩
  refine⟨_,rfl,hJ eo fun uo tM oF=>?_⟩
  have fr:∀ c∈zeR n,lu (lu H s.heap.objs.size (.tup [x,y])) (s.heap.objs.size+1) (.tup [.int i,.ref s.heap.objs.size]) c=none:=fun c lH=>by
   have lT:c < s.heap.objs.size:=by
    simp only [zeR,aI,aV,or_false] at lH
    rcases lH with z | z | z | z | z | z <;> subst z <;> exact nl (by lia)
   rw [zr (bz (fg lT)),zr (bz lT)]
   exact (hf c lH).1
  have I2:Inv X lj σ (lu (lu H s.heap.objs.size (.tup [x,y])) (s.heap.objs.size+1) (.tup [.int i,.ref s.heap.objs.size])) { s with heap:=uo,toks:=tk+1 } :=
   Inv.turnedL (s:={ s with heap:=h',toks:=tk+1 }) (ch:=[n+5]) (t':=tk+1) I1' (fun c o lH eo=>oF.extBut c o (by simpa using lH) eo) (fun c lH=>by
    have z:c=n+5:=by simpa using lH
    subst z
    exact⟨fr _ (by simp),(hf _ (by simp)).2⟩) (fun c lH=>by
    have z:c=n+5:=by simpa using lH
    subst z
    exact⟨_,tM⟩)
  have up:∀ c o,c≠n+5→h'.get? c=some o→uo.get? c=some o:=fun c o lH e=>oF.extBut c o lH e
  exact⟨.ref (s.heap.objs.size+1),_,I2,rfl,⟨_,_,x,y,I.fresh,uE,bz (iG _),rfl,rfl,fun zs hz=>by rw [I.tuple_inj hz o7]; exact hx,fun zs hz=>by rw [I.list_inj hz nZ]; exact hy⟩,
   ⟨⟨_,by simpa using tM⟩,⟨g0,g1,up _ _ (nq (by lia)) ez,BA⟩,up _ _ (nq (by lia)) e2,⟨_,_,up _ _ (nq (by lia)) e3⟩,t4.1.at fun o e=>up _ o (nq (by lia)) e,t5.1.at fun o e=>up _ o (nq (by lia)) e⟩,fr⟩
 done:=by
  intro X hP hw hK hc i lj s σ H E I hf st hg
  subst hP hw hK
  obtain⟨xs,ys,o7,nZ,hx⟩:=hg
  obtain⟨⟨old,h0⟩,⟨f0,f1,h1,uK⟩,h2,⟨u0,v0,h3⟩,h4,h5⟩:=st
  obtain⟨mE,rB,p1,rL⟩:=I.tuple o7
  obtain⟨lZ,rM,p2,uH⟩:=I.list nZ
  have hh:X.A.in1.in1.handled=none:=by simp [I.ok.hd hc]
  have tj:=rB.length
  refine zpc (Draws.tuple hh n a (nq (by lia)) mE.toArray) (f8 hh (n+1) b (nq (by lia)) lZ.toArray) (zcK ha hb) h0 h1 uK h2 h3 ⟨h4,(show s.heap.IsTuple a mE.toArray from p1)⟩ ⟨h5,p2.isList⟩ (.inl (by rw [ar]; lia)) fun h' tk kk=>⟨rfl,?_⟩
  have sub:∀ c∈[n+4,n+3,n,n+1],c∈zeR n:=fun c lH=>by
   simp only [zeR,aI,aV,or_false] at lH ⊢
   rcases lH with z | z | z | z <;> subst z <;> simp
  have k1:∀ c o,c∉[n+4,n+3,n,n+1]→s.heap.get? c=some o→h'.get? c=some o:=fun c o lH e=>by
   simp only [aI,aV,or_false,not_or] at lH
   exact kk c o lH.1 lH.2.1 lH.2.2.1 lH.2.2.2 e
  have su:∀ d u',H d=some u'→d∉[n+4,n+3,n,n+1]:=fun d u' e' hd=>by rw [(hf d (sub d hd)).1] at e'; cases e'
  refine I.step (g':=s.gens) (d':=s.drawn) (t':=tk) (ch:=[n+4,n+3,n,n+1]) (fun c lH=>?_) (fun c o _ _ mQ e _=>k1 c o mQ e) (fun c o _ _ mQ e _=>⟨o.slots,k1 c o mQ e⟩) (fun _ _ _ _ n=>n)
   (fun c o mQ e=>⟨o,k1 c o mQ e⟩) (fun _ _ e=>e) (fun _ _ _ e=>e) (fun c ps e=>⟨#[],by rw [e]; simp⟩) (fun m hm=>?_) (fun c u e=>?_) I.bare
  ·obtain⟨_,a1,_,a3,a4,a5⟩:=hf c (sub c lH)
   exact⟨a3,a1,a4,a5⟩
  ·obtain⟨o,vf,ep,ho,r⟩:=hm
   exact⟨o,vf,ep,k1 _ o (fun z=>(hf _ (sub _ z)).2.1 rfl) ho,r⟩
  ·refine (I.hok c u e).stay (fun d v' hd q=>k1 d v' ?_ q) (fun _ q=>q) fun _ _ q=>q
   rcases hd with z | z
   ·rw [z]; exact su c u e
   ·exact su d _ z
 self:=fun _ _ _ _ _ st h=>by
  obtain⟨⟨old,he⟩,_⟩:=st
  exact gc he h
def iEZ (rq rA:Hp→Addr→List V→Prop) (ta:TA):TI:=fun σ H R=>ta σ H fun vs H1=>∃ a b xs ys,vs = [.ref a,.ref b]∧rq H1 a xs∧rA H1 b ys∧R (znp rq rA a b) H1
theorem ziJ {X:Cx} {es:List Expr} {k:Nat} {pB p p2 pos oG:Pos} {a b:Expr} {ta:TA} (hg:Gl X "enumerate") (hm:X.mg "enumerate" = none) (w8:Gl X "zip") (rD:X.mg "zip" = none) (ha:PA X [a,b] ta) (hs:starEach [a,b] X.env = [(false,eval a X.env),(false,eval b X.env)]:=by rfl) (oE:starEach [b] X.env = [(false,eval b X.env)]:=by rfl)
  (tu:starEach [.Call (.Name "zip" p2) [a,b] [] oG] X.env = [(false,eval (.Call (.Name "zip" p2) [a,b] [] oG) X.env)]:=by rfl) :
  PI X (.Tuple es k pB) (.Call (.Name "enumerate" p) [.Call (.Name "zip" p2) [a,b] [] oG] [] pos) (iEZ (lE X.K) (lr X.K) ta):=by
 intro lj s σ H R I h
 refine Call_ (zbE I hg hm boot_enumerate (bA ?_ tu rfl))
 rw [tu]
 show wpAny _ _ (spliced ((false,eval (.Call (.Name "zip" p2) [a,b] [] oG) X.env) :: [])) _ _ s
 refine eU ?_
 refine Call_ (zbE I w8 rD kt (bA (thn (ha oG lj s σ H _ I h) fun us s1 ⟨vs,H1,I1,r1,q1⟩=>?_) (by rw [hs,oE]) (by rw [oE]; rfl)))
 obtain⟨l1,l2,xs,ys,e,o7,nZ,q⟩:=q1
 subst e
 cases r1 with
 | cons r rr =>
  cases rr with
  | cons r' rr =>
   cases rr
   cases r
   cases r'
   obtain⟨mE,rB,vB,rL⟩:=I1.tuple o7
   obtain⟨lZ,rM,wx,uH⟩:=I1.list nZ
   have pZ:l1 < s1.heap.objs.size:=by obtain⟨_,e,_⟩:=vB; exact aK e
   have p4:l2 < s1.heap.objs.size:=by obtain⟨_,_,e,_⟩:=wx; exact aK e
   refine ziH (show s1.heap.IsTuple l1 mE.toArray from vB) wx.isList fun h' n hn b1 b2 b3 b4 b5 b6 kk=>?_
   refine gb ?_
   refine ziI b1 fun h2 he hsz wA=>?_
   have I2:Inv X lj σ H1 { s1 with heap:=h2 }:=I1.kept (t':=s1.toks) fun c o e=>wA c o (kk c o e)
   refine gc he ?_; have e5:h'.objs.size=n+5:=b6
   have wy:IsEnum h2 (n+5) (n+4) 0 .none:=by rw [← e5]; exact he
   refine⟨_,zeR n,zpd n l1 l2,znp (lE X.K) (lr X.K) l1 l2,H1,rfl,I2,?_,⟨⟨_,wy⟩,⟨_,_,wA _ _ b1,.inl rfl,_,rfl⟩,wA _ _ b2,⟨_,_,wA _ _ b3⟩,b4.at fun o e=>wA _ o e,b5.at fun o e=>wA _ o e⟩,fun c hc=>?_,q⟩
   ·show Turn X.prog X.w X.K (.Tuple es k pB) (znp (lE X.K) (lr X.K) l1 l2) (zeR n) h'.objs.size (zpd n l1 l2)
    rw [e5]
    exact znq l1 l2 n (by rw [hn]; exact pZ) (by rw [hn]; exact p4)
   ·have hle:s1.heap.objs.size≤c:=by
     simp only [zeR,aI,aV,or_false] at hc
     rw [← hn]
     rcases hc with z | z | z | z | z | z <;> subst z
     all_goals first | exact gq _ _ | exact af _
    exact I1.fpOk hle (I1.hok.fresh hle)
end L2
end
section
namespace L2
open PySem PySem.Spec PyProof.Rows
theorem ziK {K:ag} {i j:Nat}:∀ (x:V) (σ:St) (H:Hp) (Q Q':St→Hp→Prop),(∀ σ' H',Q σ' H'→Q' σ' H')→zhh K 2 (zb9 (zaX i) (zb9 (zaX j) zio)) x σ H Q→zhh K 2 (zb9 (zaX i) (zb9 (zaX j) zio)) x σ H Q':=fun x σ H Q Q' hq ⟨a,xs,e1,h1,h2,v,r,e3,v2,r2,e4,e5,h⟩=>⟨a,xs,e1,h1,h2,v,r,e3,v2,r2,e4,e5,hq _ _ h⟩
end L2
end
section
namespace My
open PySem L2 PyProof.Rows
section
variable {K:ag}
def zqO (H:Hp):V→Option (List V)
 | .ref a=>match H a with
  | some (.lst xs)=>some xs
  | _=>none
 | _=>none
def zbf (H:Hp) (c tt:Addr) (p k:Int) (pl:List Int):Prop:=H c=some (.tup [.int p,.int k,.ref tt])∧H tt=some (.tup (pl.map V.int))
theorem zbf.same {H H':Hp} {c tt:Addr} {p k:Int} {pl:List Int} (s:zt H H') (h:zbf H c tt p k pl):zbf H' c tt p k pl:=⟨s _ _ h.1,s _ _ h.2⟩
theorem zky {a:Addr} {xs:List V} {kp:V→Bool} {f:V→V} {g:TG} {ts:TT} {te:TE} {σ0:L2.St} {Q:VK} {H:Hp} (ha:lr K H a xs) (hn:xs.length≤10000)
  (hs:∀ (i:Nat) (x:V) (R:VK) (B:Hp→Prop),xs[i]? = some x→(if kp x=true then R (f x) H else B H)→g x σ0 H fun σ2 H2=>ts σ2 H2 fun b H3=>if b=true then te σ2 H3 R else B H3)
  (hd:∀ D,H D=none→Q (.ref D) (lu H D (.lst ((xs.filter kp).map f)))):cGo g ts te σ0 (Itl K a) Q H:=by
 refine zR (n:=xs.length) (fun i ys H'=>ys=((xs.take i).filter kp).map f∧H'=H) ⟨by simp,rfl⟩ ?_ ?_ ?_ ?_
 ·rintro i ys H3 hi ⟨_,rfl⟩
  exact⟨_,xs[i],ha,by simp⟩
 ·rintro ys H3 ⟨_,rfl⟩
  exact⟨_,ha,af _⟩
 ·rintro i x ys H3 H4 hi ⟨rfl,rfl⟩ ⟨rfl,hx⟩
  refine hs i x _ _ (hx _ ha) ?_
  rw [take_snoc (hx _ ha),cS,ao]
  by_cases h:kp x=true
  ·rw [if_pos h]
   refine⟨zaa ?_,?_,rfl⟩
   ·rw [ab]
    exact a8 (dm _ _) (a8 (fI _ _) (by lia))
   ·congr 1
    simp [h]
  ·rw [if_neg h]
   refine⟨?_,rfl⟩
   simp [h]
 ·rintro ys H3 D ⟨rfl,rfl⟩ hD
  rw [ba]
  exact hd D hD
def o9:Option Int→V
 | none=>.non
 | some i=>.int i
def zeS (p:Int) (pl:List Int) (rw:List (Option Int)) (mF:List Int) (j:Nat):Bool:=match pl[j]?,rw[j]? with
 | some x,some (some i)=>decide (i=zj p x mF)
 | _,_=>false
def zcZ (p:Int) (pl:List Int) (rw:List (Option Int)) (mF:List Int) (n:Nat):List Int:=((aJ n).filter (zeS p pl rw mF)).map fun (j:Nat)=>(j:Int)
theorem zfZ {p:Int} {pl:List Int} {rw:List (Option Int)} {mF:List Int} {n:Nat}:zcZ p pl rw mF (n+1)=zcZ p pl rw mF n++if zeS p pl rw mF n then [(n:Int)] else []:=by
 unfold zcZ
 rw [cp,cS,ao]
 congr 1
 by_cases h:zeS p pl rw mF n=true
 ·rw [if_pos h]; simp [h]
 ·rw [if_neg h]; simp [h]
theorem zhF (p:Int) (pl:List Int) (rw:List (Option Int)) (mF:List Int) (n:Nat):(zcZ p pl rw mF n).length≤n:=by
 unfold zcZ
 rw [ab]
 exact a8 (dm _ _) (by rw [aY]; exact af _)
theorem zeh {rw:List (Option Int)} {j:Nat} {x:V} (h:(rw.map o9)[j]? = some x):∃ o,x=o9 o∧rw[j]? = some o:=by
 rw [ah] at h
 cases e:rw[j]? with
 | none=>rw [e] at h; cases h
 | some c=>rw [e] at h; exact⟨c,(aT h).symm,rfl⟩
def hide (H:Hp) (a:Addr):Hp:=fun b=>if b=a then none else H b
theorem zlB (H:Hp) (a:Addr):zt (hide H a) H:=fun b o e=>by
 unfold hide at e
 split at e
 ·cases e
 ·exact e
theorem zei {H:Hp} {a b:Addr} {o:HO} (h:H b=some o) (me:b≠a):hide H a b=some o:=by unfold hide; rw [if_neg me]; exact h
end
end My
end
section
namespace My
open PySem L2 PyProof.Rows
section
variable {K:ag}
def znr (K:ag):Sp:=fun vs H Q _=>∃ (c tt ra po:Addr) (p k:Int) (pl mF:List Int) (rw:List (Option Int)),vs = [.ref c,.ref ra,.ref po]∧zbf H c tt p k pl∧H ra=some (.lst (rw.map o9))∧rw.length=pl.length∧H po=some (.tup (mF.map V.int))∧0 < p∧p≤97∧(∀ x∈pl,0≤x∧x < p)∧pl.length≤100 ∧
 ∀ (l:Addr) (H':Hp),H l=none→zt H H'→H' l=some (.lst ((zcZ p pl rw mF pl.length).map V.int))→Q (.ref l) H'
theorem zlC (o:Option Int) (z:Int):zoW (o9 o) (.int z)=true:=by cases o <;> rfl
theorem zlD {p:Int} {pl:List Int} {rw:List (Option Int)} {mF:List Int} {j:Nat} {x:Int} {o:Option Int} (hx:pl[j]? = some x) (ho:rw[j]? = some o):zeS p pl rw mF j=decide (o9 o = .int (zj p x mF)):=by
 unfold zeS
 rw [hx,ho]
 cases o with
 | none=>rfl
 | some i=>simp [o9]
end
end My
end
section
namespace PySem
section
variable {prog:Program} {w:World} {A:Around} {E:Value→Shared→Prop} {s:Shared}
theorem zjs {z TI TO i1 i2:Addr} {qN qO:List Addr} {n1 n2 k1 k2:Nat} {P1 P2:Nat→Value→Prop} {S1 S2:Nat→Heap→Prop} {f0 f1 a b:Value} {Q:Option Value→Shared→Prop} (D1:Draws prog w A.in1 i1 qN n1 P1 S1) (D2:Draws prog w A.in1 i2 qO n2 P2 S2) (Z:Zap z TI TO i1 i2 qN qO)
  (hz:IsZ s.heap z TI TO f0 f1) (hf:ZF f0 f1) (uI:IsPair s.heap TI (.ref i1) (.ref i2)) (vh:IsPair s.heap TO a b) (n4:S1 k1 s.heap) (mG:S2 k2 s.heap) (l1:k1 < n1) (l2:k2 < n2)
  (hQ:∀ x y h' tk g0 g1 a' b',P1 k1 x→P2 k2 y→IsZ h' z TI TO g0 g1→ZF g0 g1→IsPair h' TI (.ref i1) (.ref i2)→IsPair h' TO a' b'→S1 (k1+1) h'→S2 (k2+1) h'→IsPair h' s.heap.objs.size x y→h'.objs.size=s.heap.objs.size+1 →
   (∀ c o,c≠z→c≠TO→c≠i1→c≠i2→s.heap.get? c=some o→h'.get? c=some o)→Q (some (.ref s.heap.objs.size)) { s with heap:=h',toks:=tk }):wpAny (model prog w) A (pyNext (.ref z)) Q E s:=by
 have uL:s.TypeIs (.ref z) "zip":=⟨_,hz,rfl⟩
 unfold pyNext
 refine ae (c9 (br (name:=bW "__next__") uL dC (bD dC uL gp ?_ (ge _))))
 exact zjr D1 D2 Z hz hf uI vh n4 mG l1 l2 fun x y h1 tk g0 g1 a' b' px py rL E6 yx yz yA yB qU yC kk=>ak (hQ x y h1 tk g0 g1 a' b' px py rL E6 yx yz yA yB qU yC kk)
theorem zlE {z TI TO i1 i2:Addr} {qN qO:List Addr} {n1 n2 k1 k2:Nat} {P1 P2:Nat→Value→Prop} {S1 S2:Nat→Heap→Prop} {f0 f1 a b:Value} {Q:Option Value→Shared→Prop} (D1:Draws prog w A.in1 i1 qN n1 P1 S1) (D2:Draws prog w A.in1 i2 qO n2 P2 S2) (Z:Zap z TI TO i1 i2 qN qO)
  (hz:IsZ s.heap z TI TO f0 f1) (hf:ZF f0 f1) (uI:IsPair s.heap TI (.ref i1) (.ref i2)) (vh:IsPair s.heap TO a b) (n4:S1 k1 s.heap) (mG:S2 k2 s.heap) (l1:k1=n1∨(k1 < n1∧k2=n2))
  (hQ:∀ h' tk,(∀ c o,c≠z→c≠TO→c≠i1→c≠i2→s.heap.get? c=some o→h'.get? c=some o)→Q none { s with heap:=h',toks:=tk }):wpAny (model prog w) A (pyNext (.ref z)) Q E s:=by
 have uL:s.TypeIs (.ref z) "zip":=⟨_,hz,rfl⟩
 unfold pyNext
 refine ae (c9 (br (name:=bW "__next__") uL dC (bD dC uL gp ?_ (ge _))))
 refine zlA D1 D2 Z hz hf uI vh n4 mG l1 fun h' tk x kk ⟨o,ho,hc⟩=>?_
 exact ae (fC (T:="StopIteration") (b:=true) ⟨o,ho,hc⟩ gK (ak (hQ h' tk kk)))
theorem zgx {z TI TO:Addr} {f0 f1:Value} {Q:Value→Shared→Prop} (hz:IsZ s.heap z TI TO f0 f1) (h:Q (.ref z) s):wpAny (model prog w) A (pyIter (.ref z)) Q E s:=by
 have hT:s.TypeIs (.ref z) "zip":=⟨_,hz,rfl⟩; refine ip hT F.slot_zip_iter (bD F.slot_zip_iter hT F.entry_zip_iter ?_ (F.args_zip_iter_1 _))
 show wpAny _ _ (ret (.ref z)) _ _ s; exact ak ⟨_,rfl,"zip",_,hT,F.slot_zip_next.lookup,h⟩
theorem zqa {elts:List Expr} {x1} {pos:Pos} {z TI TO T:Addr} {f0 f1:Value} {Q:Unit→Shared→Prop} (hz:IsZ s.heap z TI TO f0 f1) (hf:ZF f0 f1)
  (hQ:∀ h' g0,IsZ h' z TI TO g0 f1→ZF g0 f1→bu z s.heap h'→Q () { s with heap:=h' }):wpAny (model prog w) A (letOwnedTupleGo (.Tuple elts x1 pos) (.ref z) (.ref T)) Q E s:=by
 unfold letOwnedTupleGo; refine ae (wpAny_load hz ?_)
 show wpAny _ _ (if _ then _ else _) Q E s
 split
 ·refine ae (cn ?_); show wpAny _ _ (setField (.ref z) 0 .none) Q E s
  exact bO hz (by simp) fun h' DB oK=>hQ h' .none DB ⟨.inl rfl,hf.2⟩ oK
 ·exact ak (hQ s.heap f0 hz hf ⟨rfl,fun _ _=>rfl⟩)
end
end PySem
namespace L2
open PySem PySem.Spec PyProof.Rows
def zpe (rq rA:Hp→Addr→List V→Prop) (a b:Addr):It :=
 ⟨(zkl rq rA a b).go,(zkl rq rA a b).yld,fun i H=>∃ xs ys,rq H a xs∧rA H b ys∧(xs.length=i∨(i < xs.length∧ys.length=i))⟩
abbrev zb7 (n:Nat):List Addr:=[n+4,n+2,n+3,n,n+1]
abbrev zqb (C:String) (n a b:Nat) (i:Nat) (h:Heap):Prop:=(∃ f0 f1,IsZ h (n+4) (n+2) (n+3) f0 f1∧ZF f0 f1)∧IsPair h (n+2) (.ref n) (.ref (n+1))∧(∃ u v,IsPair h (n+3) u v)∧h.IsTupleIter n a i∧ItC C h (n+1) b i
structure Sk (C:String) (Is:Heap→Addr→Array Value→Prop) (Sq:ag→Hp→Addr→List V→Prop):Prop where
 h:SkH C Is
 inv:∀ {X:Cx} {lj:List (Addr×Obj)} {σ:St} {H:Hp} {s:Shared} {a:Addr} {xs:List V},Inv X lj σ H s→Sq X.K H a xs→∃ lx:List Value,zT xs lx∧Is s.heap a lx.toArray∧a < s.heap.objs.size
 inj:∀ {X:Cx} {lj:List (Addr×Obj)} {σ:St} {H:Hp} {s:Shared} {a:Addr} {xs ys:List V},Inv X lj σ H s→Sq X.K H a xs→Sq X.K H a ys→xs=ys
theorem sqL:Sk "list_iterator" Heap.IsList lr:=⟨skL,fun I h=>let ⟨lx,r,p,_⟩:=I.list h; ⟨lx,r,p.isList,by obtain⟨_,_,e,_⟩:=p; exact aK e⟩,fun I h h'=>I.list_inj h h'⟩
theorem sqT:Sk "tuple_iterator" j1 lE:=⟨skT,fun I h=>let ⟨lx,r,p,_⟩:=I.tuple h; ⟨lx,r,p,by obtain⟨_,e,_⟩:=p; exact aK e⟩,fun I h h'=>I.tuple_inj h h'⟩
theorem zlF {C:String} {Is:Heap→Addr→Array Value→Prop} {Sq:ag→Hp→Addr→List V→Prop} (S:Sk C Is Sq) {P:Program} {w:World} {K:ag} {es:List Expr} {k:Nat} {pos:Pos} (a b n:Nat) (ha:a < n) (hb:b < n):Turn P w K (.Tuple es k pos) (zpe (lE K) (Sq K) a b) (zb7 n) (n+4) (zqb C n a b) where
 mem:=by simp
 obj:=fun i h st c hc=>by
  obtain⟨⟨f0,f1,h1,_⟩,h2,⟨u,v,h3⟩,⟨o4,e4,_,d4⟩,⟨o5,e5,_,d5⟩⟩:=st
  simp only [zb7,aI,aV,or_false] at hc
  rcases hc with z | z | z | z | z <;> subst z
  ·exact⟨_,h1,fun v z=>by cases z⟩
  ·exact⟨_,h2,fun v z=>by cases z⟩
  ·exact⟨_,h3,fun v z=>by cases z⟩
  ·exact⟨_,e4,fun v z=>by rw [d4] at z; cases z⟩
  ·exact⟨_,e5,fun v z=>by rw [d5] at z; cases z⟩
 keep:=fun i h h' st kk=>by
  obtain⟨⟨f0,f1,h1,hf⟩,h2,⟨u,v,h3⟩,h4,h5⟩:=st
  obtain⟨o5,e5,r5⟩:=h5
  exact⟨⟨f0,f1,kk _ (by simp) _ h1,hf⟩,kk _ (by simp) _ h2,⟨u,v,kk _ (by simp) _ h3⟩,h4.at fun o eo=>kk _ (by simp) o eo,o5,kk _ (by simp) _ e5,r5⟩
 item:=by
  intro X hP hw hK hc i lj s σ H E I hf st hg
  subst hP hw hK
  obtain⟨xs,ys,x,y,o7,nZ,hx,hy⟩:=hg
  obtain⟨⟨f0,f1,h1,uK⟩,h2,⟨u0,v0,h3⟩,h4,h5⟩:=st
  obtain⟨mE,rB,p1,rL⟩:=I.tuple o7
  obtain⟨lZ,rM,p2,_⟩:=S.inv I nZ
  obtain⟨u,hu,ru⟩:=rB.get hx
  obtain⟨v,hv,rv⟩:=rM.get hy
  have vz:n+4 < s.heap.objs.size:=aK h1
  have hh:X.A.in1.handled=none:=by simp [I.ok.hd hc]
  have pZ:i < mE.toArray.size:=by have:=(aD.mp hu).1; simpa using this
  have p4:i < lZ.toArray.size:=by have:=(aD.mp hv).1; simpa using this
  refine zjs (Draws.tuple hh n a (nq (by lia)) mE.toArray) (S.h.dr hh (n+1) b (nq (by lia)) lZ.toArray) (zcK ha hb) h1 uK h2 h3 ⟨h4,(show s.heap.IsTuple a mE.toArray from p1)⟩ ⟨h5,p2⟩ pZ p4
   fun x' y' h' tk g0 g1 a' b' px py ez BA e2 e3 t4 t5 pp hsz kk=>?_
  have eu:x'=u:=by
   have e1:mE[i]? = some x':=by simpa using px
   rw [hu] at e1; exact (aT e1).symm
  have ev:y'=v:=by
   have e1:lZ[i]? = some y':=by simpa using py
   rw [hv] at e1; exact (aT e1).symm
  subst eu ev
  have ch:∀ c∈[n+4,n+3,n,n+1],c∈zb7 n:=fun c lH=>by
   simp only [zb7,aI,aV,or_false] at lH ⊢
   rcases lH with z | z | z | z <;> subst z <;> simp
  have k1:∀ c o,c∉[n+4,n+3,n,n+1]→s.heap.get? c=some o→h'.get? c=some o:=fun c o lH eo=>by
   simp only [aI,aV,or_false,not_or] at lH
   exact kk c o lH.1 lH.2.1 lH.2.2.1 lH.2.2.2 eo
  have yp:∀ c∈[n+4,n+3,n,n+1],∃ o,h'.get? c=some o:=fun c lH=>by
   simp only [aI,aV,or_false] at lH
   rcases lH with z | z | z | z <;> subst z
   ·exact⟨_,ez⟩
   ·exact⟨_,e3⟩
   ·obtain⟨o,e,_⟩:=t4.1; exact⟨o,e⟩
   ·obtain⟨o,e,_⟩:=t5.1; exact⟨o,e⟩
  have I1:Inv X lj σ (lu H s.heap.objs.size (.tup [x,y])) { s with heap:=h',toks:=tk } :=
   I.turnedNew k1 (fun c lH=>hf c (ch c lH)) yp (af _) ⟨zaL,_,.cons ru (.cons rv .nil),zbQ pp⟩
  refine⟨_,rfl,zqa (s:={ s with heap:=h',toks:=tk }) ez BA fun uo g2 vA BB oF=>?_⟩
  have fr:∀ c∈zb7 n,lu H s.heap.objs.size (.tup [x,y]) c=none:=fun c lH=>by
   have lT:c < s.heap.objs.size:=by
    simp only [zb7,aI,aV,or_false] at lH
    rcases lH with z | z | z | z | z <;> subst z <;> exact nl (by lia)
   rw [zr (bz lT)]
   exact (hf c lH).1
  have I2:Inv X lj σ (lu H s.heap.objs.size (.tup [x,y])) { s with heap:=uo,toks:=tk } :=
   Inv.turnedL (s:={ s with heap:=h',toks:=tk }) (ch:=[n+4]) (t':=tk) I1 (fun c o lH eo=>oF.extBut c o (by simpa using lH) eo) (fun c lH=>by
    have z:c=n+4:=by simpa using lH
    subst z
    exact⟨fr _ (by simp),(hf _ (by simp)).2⟩) (fun c lH=>by
    have z:c=n+4:=by simpa using lH
    subst z
    exact⟨_,vA⟩)
  have up:∀ c o,c≠n+4→h'.get? c=some o→uo.get? c=some o:=fun c o lH e=>oF.extBut c o lH e
  exact⟨.ref s.heap.objs.size,_,I2,rfl,⟨_,x,y,I.fresh,rfl,rfl,fun zs hz=>by rw [I.tuple_inj hz o7]; exact hx,fun zs hz=>by rw [S.inj I hz nZ]; exact hy⟩,
   ⟨⟨g2,g1,vA,BB⟩,up _ _ (nq (by lia)) e2,⟨_,_,up _ _ (nq (by lia)) e3⟩,t4.1.at fun o e=>up _ o (nq (by lia)) e,⟨t5.1.choose,up _ _ (nq (by lia)) t5.1.choose_spec.1,t5.1.choose_spec.2⟩⟩,fr⟩
 done:=by
  intro X hP hw hK hc i lj s σ H E I hf st hg
  subst hP hw hK
  obtain⟨xs,ys,o7,nZ,hx⟩:=hg
  obtain⟨⟨f0,f1,h1,uK⟩,h2,⟨u0,v0,h3⟩,h4,h5⟩:=st
  obtain⟨mE,rB,p1,rL⟩:=I.tuple o7
  obtain⟨lZ,rM,p2,_⟩:=S.inv I nZ
  have hh:X.A.in1.handled=none:=by simp [I.ok.hd hc]
  have tj:=rB.length
  have qf:=rM.length
  refine zlE (Draws.tuple hh n a (nq (by lia)) mE.toArray) (S.h.dr hh (n+1) b (nq (by lia)) lZ.toArray) (zcK ha hb) h1 uK h2 h3 ⟨h4,(show s.heap.IsTuple a mE.toArray from p1)⟩ ⟨h5,p2⟩ (by rw [ar,ar]; lia) fun h' tk kk=>⟨rfl,?_⟩
  have sub:∀ c∈[n+4,n+3,n,n+1],c∈zb7 n:=fun c lH=>by
   simp only [zb7,aI,aV,or_false] at lH ⊢
   rcases lH with z | z | z | z <;> subst z <;> simp
  have k1:∀ c o,c∉[n+4,n+3,n,n+1]→s.heap.get? c=some o→h'.get? c=some o:=fun c o lH e=>by
   simp only [aI,aV,or_false,not_or] at lH
   exact kk c o lH.1 lH.2.1 lH.2.2.1 lH.2.2.2 e
  have su:∀ d u',H d=some u'→d∉[n+4,n+3,n,n+1]:=fun d u' e' hd=>by rw [(hf d (sub d hd)).1] at e'; cases e'
  refine I.step (g':=s.gens) (d':=s.drawn) (t':=tk) (ch:=[n+4,n+3,n,n+1]) (fun c lH=>?_) (fun c o _ _ mQ e _=>k1 c o mQ e) (fun c o _ _ mQ e _=>⟨o.slots,k1 c o mQ e⟩) (fun _ _ _ _ n=>n)
   (fun c o mQ e=>⟨o,k1 c o mQ e⟩) (fun _ _ e=>e) (fun _ _ _ e=>e) (fun c ps e=>⟨#[],by rw [e]; simp⟩) (fun m hm=>?_) (fun c u e=>?_) I.bare
  ·obtain⟨_,a1,_,a3,a4,a5⟩:=hf c (sub c lH)
   exact⟨a3,a1,a4,a5⟩
  ·obtain⟨o,vf,ep,ho,r⟩:=hm
   exact⟨o,vf,ep,k1 _ o (fun z=>(hf _ (sub _ z)).2.1 rfl) ho,r⟩
  ·refine (I.hok c u e).stay (fun d v' hd q=>k1 d v' ?_ q) (fun _ q=>q) fun _ _ q=>q
   rcases hd with z | z
   ·rw [z]; exact su c u e
   ·exact su d _ z
 self:=fun _ _ _ _ _ st h=>by
  obtain⟨⟨f0,f1,hz,_⟩,_⟩:=st
  exact zgx hz h
def iZq (rq rA:Hp→Addr→List V→Prop) (ta:TA):TI:=fun σ H R=>ta σ H fun vs H1=>∃ a b xs ys,vs = [.ref a,.ref b]∧rq H1 a xs∧rA H1 b ys∧R (zpe rq rA a b) H1
theorem zhG {C:String} {Is:Heap→Addr→Array Value→Prop} {Sq:ag→Hp→Addr→List V→Prop} (S:Sk C Is Sq) {X:Cx} {es:List Expr} {k:Nat} {pB p pos:Pos} {a b:Expr} {ta:TA} (hg:Gl X "zip") (hm:X.mg "zip" = none) (ha:PA X [a,b] ta) (hs:starEach [a,b] X.env = [(false,eval a X.env),(false,eval b X.env)]:=by rfl) (oE:starEach [b] X.env = [(false,eval b X.env)]:=by rfl) :
  PI X (.Tuple es k pB) (.Call (.Name "zip" p) [a,b] [] pos) (iZq (lE X.K) (Sq X.K) ta):=by
 intro lj s σ H R I h
 refine Call_ (zbE I hg hm kt (bA (thn (ha pos lj s σ H _ I h) fun us s1 ⟨vs,H1,I1,r1,q1⟩=>?_) (by rw [hs,oE]) (by rw [oE]; rfl)))
 obtain⟨l1,l2,xs,ys,e,o7,nZ,q⟩:=q1
 subst e
 cases r1 with
 | cons r rr =>
  cases rr with
  | cons r' rr =>
   cases rr
   cases r
   cases r'
   obtain⟨mE,rB,vB,rL⟩:=I1.tuple o7
   obtain⟨lZ,rM,wx,p4⟩:=S.inv I1 nZ
   have pZ:l1 < s1.heap.objs.size:=by obtain⟨_,e,_⟩:=vB; exact aK e
   refine zeQ S.h (show s1.heap.IsTuple l1 mE.toArray from vB) wx fun h' n hn b1 b2 b3 b4 b5 b6 kk=>?_
   have I2:Inv X lj σ H1 { s1 with heap:=h' }:=I1.kept (t':=s1.toks) kk
   refine zgx b1 ?_
   refine⟨_,zb7 n,zqb C n l1 l2,zpe (lE X.K) (Sq X.K) l1 l2,H1,rfl,I2,zlF S l1 l2 n (by rw [hn]; exact pZ) (by rw [hn]; exact p4),⟨⟨_,_,b1,.inl rfl,_,rfl⟩,b2,⟨_,_,b3⟩,b4,b5⟩,fun c hc=>?_,q⟩
   have hle:s1.heap.objs.size≤c:=by
    simp only [zb7,aI,aV,or_false] at hc
    rw [← hn]
    rcases hc with z | z | z | z | z <;> subst z
    all_goals first | exact gq _ _ | exact af _
   exact I1.fpOk hle (I1.hok.fresh hle)
theorem zhH {X:Cx} {es:List Expr} {k:Nat} {pB p pos:Pos} {a b:Expr} {ta:TA} (hg:Gl X "zip") (hm:X.mg "zip" = none) (ha:PA X [a,b] ta) (hs:starEach [a,b] X.env = [(false,eval a X.env),(false,eval b X.env)]:=by rfl) (oE:starEach [b] X.env = [(false,eval b X.env)]:=by rfl) :
  PI X (.Tuple es k pB) (.Call (.Name "zip" p) [a,b] [] pos) (iZq (lE X.K) (lr X.K) ta):=zhG sqL hg hm ha hs oE
theorem zlG {X:Cx} {es:List Expr} {k:Nat} {pB p pos:Pos} {a b:Expr} {ta:TA} (hg:Gl X "zip") (hm:X.mg "zip" = none) (ha:PA X [a,b] ta) (hs:starEach [a,b] X.env = [(false,eval a X.env),(false,eval b X.env)]:=by rfl) (oE:starEach [b] X.env = [(false,eval b X.env)]:=by rfl) :
  PI X (.Tuple es k pB) (.Call (.Name "zip" p) [a,b] [] pos) (iZq (lE X.K) (lE X.K) ta):=zhG sqT hg hm ha hs oE
end L2
end
section
namespace L2
open PySem PySem.Spec PyProof.Rows
end L2
end
section
namespace L2
open PySem PySem.Spec PyProof.Rows
end L2
end
section
namespace L2
open PySem PySem.Spec PyProof.Rows
end L2
end
section
namespace L2
open PySem PySem.Spec PyProof.Rows
end L2
end
section
namespace L2
open PySem PySem.Spec PyProof.Rows
section
variable {P:Program} {w:World} {outer:List Env} {H H':Hp} {h h' B:Heap} {e C:Addr}
theorem zpf {o:HO} {a:Addr} (x:zax P w H h a o):∃ ob,h.get? a=some ob:=by
 cases o with
 | lst xs=>obtain⟨_,_,_,_,e⟩:=x; exact⟨_,e⟩
 | tup xs=>obtain⟨_,_,_,o,e,_⟩:=x; exact⟨_,e⟩
 | dK lB=>obtain⟨_,_,_,_,o,_,_,e,_⟩:=x; exact⟨_,e⟩
 | dT lB=>obtain⟨_,_,_,_,o,_,_,e,_⟩:=x; exact⟨_,e⟩
 | set S n=>obtain⟨o,_,_,_,e,_⟩:=x; exact⟨_,e⟩
 | ins C dx fs=>obtain⟨_,_,_,e,_⟩:=x; exact⟨_,e⟩
 | own y=>obtain⟨_,e⟩:=x; exact⟨_,e⟩
 | xd fs=>obtain⟨_,⟨_,_,_,e,_⟩,_⟩:=x; exact⟨_,e⟩
 | rng lo hi=>obtain⟨_,_,_,e⟩:=x; exact⟨_,e⟩
 | frz ob u=>obtain⟨e,_⟩:=x; exact⟨_,e⟩
 | tbl ps=>exact⟨_,(show h.get? a=some _ from x)⟩
 | met f y=>exact⟨_,(show h.get? a=some _ from x)⟩
 | ext φ=>obtain⟨_,⟨_,e⟩,_⟩:=x; exact⟨_,e⟩
end
end L2
end
section
namespace L2
open PySem PySem.Spec PyProof.Rows
end L2
end
section
namespace L2
open PySem PySem.Spec PyProof.Rows
end L2
end
section
namespace L2
open PySem PySem.Spec PyProof.Rows
end L2
end
section
namespace L2
open PySem PySem.Spec PyProof.Rows
end L2
end
section
namespace L2
open PySem PySem.Spec PyProof.Rows
section
variable {κ:Type} [DecidableEq κ]
def zda (lB:List (κ×V)) (k:κ):Option V:=(lB.find? fun kv=>decide (kv.1=k)).map (·.2)
def putK (lB:List (κ×V)) (k:κ) (v:V):List (κ×V) :=
 if (lB.any fun kv=>decide (kv.1=k))=true then lB.map (fun kv=>if kv.1=k then (kv.1,v) else kv) else lB++[(k,v)]
theorem zeT {p:κ×V} {r:List (κ×V)} {k:κ} (e:p.1=k):zda (p :: r) k=some p.2:=by simp [zda,eY,e]
theorem zeU {p:κ×V} {r:List (κ×V)} {k:κ} (e:¬ p.1=k):zda (p :: r) k=zda r k:=by simp [zda,eY,e]
theorem zeV (k:κ):∀ lB:List (κ×V),(lB.any fun kv=>decide (kv.1=k))=(zda lB k).isSome
 | []=>rfl
 | p :: r=>by
  rw [jD]
  by_cases e:p.1=k
  ·simp only [zeT e,decide_eq_true e,Bool.true_or,jY]
  ·rw [zeU e,decide_eq_false e,Bool.false_or]; exact zeV k r
theorem zcC (lB:List (κ×V)) (k:κ) (v:V):(putK lB k v).length≤lB.length+1:=by
 unfold putK
 split
 ·rw [ab]; lia
 ·rw [aq,bn,i4]; lia
theorem zlH {lB:List (κ×V)} {k:κ} (v:V) (h:zda lB k=none):putK lB k v=lB++[(k,v)]:=by
 unfold putK
 rw [zeV,h]
 exact if_neg (by decide)
theorem zhf.isSome_eq {o:Option V} {u:Option Value} (r:zhf o u):o.isSome=u.isSome:=by
 cases o with
 | none=>cases u with
  | none=>rfl
  | some _=>exact (show False from r).elim
 | some _=>cases u with
  | none=>exact (show False from r).elim
  | some _=>rfl
theorem zhf.getD {o:Option V} {u:Option Value} {d:V} {d':Value} (r:zhf o u) (rd:RelV d d'):RelV (o.getD d) (u.getD d'):=by
 cases o with
 | none=>cases u with
  | none=>exact rd
  | some _=>exact (show False from r).elim
 | some _=>cases u with
  | none=>exact (show False from r).elim
  | some _=>exact r
theorem KV.val {lB:List (κ×V)} {vs:List (κ×Value)} (r:KV lB vs) (k:κ):zhf (zda lB k) (valueAt vs k):=by
 unfold KV at r
 induction r with
 | nil=>exact iC
 | @cons p q ps qs h t ih =>
  obtain⟨h1,h2⟩:=h
  by_cases e:p.1=k
  ·have e':q.1=k:=h1.symm.trans e
   have b:valueAt (q :: qs) k=some q.2:=by simp [valueAt,eY,e']
   rw [zeT e,b]; exact h2
  ·have e':¬ q.1=k:=fun z=>e (h1.trans z)
   have b:valueAt (q :: qs) k=valueAt qs k:=by simp [valueAt,eY,e']
   rw [zeU e,b]; exact ih
theorem KV.any {lB:List (κ×V)} {vs:List (κ×Value)} (r:KV lB vs) (k:κ):(lB.any fun kv=>decide (kv.1=k))=vs.any fun kv=>decide (kv.1=k):=by
 unfold KV at r
 induction r with
 | nil=>rfl
 | cons h t ih=>rw [jD,jD,ih,h.1]
theorem KV.repl {lB:List (κ×V)} {vs:List (κ×Value)} (r:KV lB vs) (k:κ) {y:V} {u:Value} (ry:RelV y u) :
  KV (lB.map fun kv=>if kv.1=k then (kv.1,y) else kv) (vs.map fun kv=>if kv.1=k then (kv.1,u) else kv):=by
 unfold KV at r ⊢
 induction r with
 | nil=>exact .nil
 | @cons p q ps qs h t ih =>
  rw [aZ,aZ]
  refine .cons ?_ ih
  obtain⟨h1,h2⟩:=h
  by_cases e:p.1=k
  ·rw [if_pos e,if_pos (h1.symm.trans e)]; exact⟨h1,ry⟩
  ·rw [if_neg e,if_neg (fun z=>e (h1.trans z))]; exact⟨h1,h2⟩
theorem KV.put {lB:List (κ×V)} {vs:List (κ×Value)} (r:KV lB vs) (k:κ) {y:V} {u:Value} (ry:RelV y u):KV (putK lB k y) (stored vs k u):=by
 unfold putK stored
 rw [r.any k]
 by_cases e:(vs.any fun kv=>decide (kv.1=k))=true
 ·rw [if_pos e,if_pos e]; exact r.repl k ry
 ·rw [if_neg e,if_neg e]; exact bJ r ⟨rfl,ry⟩
theorem KV.length {lB:List (κ×V)} {vs:List (κ×Value)} (r:KV lB vs):lB.length=vs.length:=bm r
end
theorem zlI {P:Program} {w:World} {k:Key} {u:Value} (r:RelV (kV k) u):(zau P w).is k u=true:=by
 cases k with
 | inl i=>obtain⟨t,e⟩:=(show ∃ t,u=iV i t from r); subst e; exact zhd P w i t
 | inr x=>obtain⟨t,e⟩:=(show ∃ t,u=kY x t from r); subst e; exact zhe P w x t
theorem zf0 {P:Program} {w:World}:∀ {ks:List Key} {us:List Value},zT (ks.map kV) us→ItemsAre (zau P w) ks us
 | [],_,r=>by rw [fT] at r; cases r; exact .nil
 | k :: ks,_,r=>by
  rw [aZ] at r
  cases r with
  | cons h t=>exact .cons (zlI h) (zf0 t)
abbrev KT (H:Hp):List (List Key×V)→List (List Key×Addr×Value)→Prop:=Paired fun p q=>p.1=q.1∧H q.2.1=some (.tup (p.1.map kV))∧RelV p.2 q.2.2
theorem KT.val {H:Hp} {lB:List (List Key×V)} {xs:List (List Key×Addr×Value)} (r:KT H lB xs) (k:List Key):zhf (zda lB k) ((atKey xs k).map (·.2)):=by
 induction r with
 | nil=>exact iC
 | @cons p q ps qs h t ih =>
  obtain⟨h1,_,h2⟩:=h
  by_cases e:p.1=k
  ·have e':q.1=k:=h1.symm.trans e
   have b:atKey (q :: qs) k=some q.2:=by simp [atKey,eY,e']
   rw [zeT e,b]; exact h2
  ·have e':¬ q.1=k:=fun z=>e (h1.trans z)
   have b:atKey (q :: qs) k=atKey qs k:=by simp [atKey,eY,e']
   rw [zeU e,b]; exact ih
theorem KT.repl {H:Hp} {lB:List (List Key×V)} {xs:List (List Key×Addr×Value)} (r:KT H lB xs) (k:List Key) {y:V} {u:Value} (ry:RelV y u) :
  KT H (lB.map fun kv=>if kv.1=k then (kv.1,y) else kv) (xs.map (putAt k u)):=by
 induction r with
 | nil=>exact .nil
 | @cons p q ps qs h t ih =>
  rw [aZ,aZ]
  refine .cons ?_ ih
  obtain⟨h1,h2,h3⟩:=h
  unfold putAt
  by_cases e:p.1=k
  ·rw [if_pos e,if_pos (h1.symm.trans e)]; exact⟨h1,h2,ry⟩
  ·rw [if_neg e,if_neg (fun z=>e (h1.trans z))]; exact⟨h1,h2,h3⟩
theorem KT.put {H:Hp} {lB:List (List Key×V)} {xs:List (List Key×Addr×Value)} (r:KT H lB xs) (k:List Key) {b:Addr} {y:V} {u:Value} (hb:H b=some (.tup (k.map kV))) (ry:RelV y u) :
  KT H (putK lB k y) (storedH xs k b u):=by
 have e:(lB.any fun kv=>decide (kv.1=k))=(atKey xs k).isSome:=by
  rw [zeV,(r.val k).isSome_eq,Option.isSome_map]
 unfold putK storedH
 rw [e]
 by_cases q:(atKey xs k).isSome=true
 ·rw [if_pos q,if_pos q]; exact r.repl k ry
 ·rw [if_neg q,if_neg q]; exact bJ r ⟨rfl,hb,ry⟩
theorem KT.keeps {H H':Hp} {lB:List (List Key×V)} {xs:List (List Key×Addr×Value)} (r:KT H lB xs) (ht:∀ b ys,H b=some (.tup ys)→H' b=some (.tup ys)):KT H' lB xs :=
 Paired.mapP r fun _ _ z=>⟨z.1,ht _ _ z.2.1,z.2.2⟩
section
variable {P:Program} {w:World} {H:Hp} {h:Heap} {a:Addr}
theorem zox {u:HO} (ok:HOk P w H h) (e:Rd H a u):zax P w H h a u:=e.ok ok
theorem zlJ {lB:List (Key×V)} (ok:HOk P w H h) (e:Rd H a (.dK lB)):lB.length≤sizeLine∧(a == sysModules)=false∧∃ vs,KV lB vs∧h.DictOf (zau P w) a vs :=
 show zax P w H h a (.dK lB) from zox ok e
theorem zqc {lB:List (Key×V)} (ok:HOk P w H h) (e:H a=some (.dK lB)):lB.length≤sizeLine∧(a == sysModules)=false∧∃ vs,KV lB vs∧h.DictOf (zau P w) a vs:=zlJ ok (.inl e)
theorem zgy {ks:List Key} (ok:HOk P w H h) (e:H a=some (.tup (ks.map kV))):(tupleKind (zau P w)).is h ks a:=by
 obtain⟨_,lx,r,o,h1,h2,n,h3⟩:=(show zax P w H h a (.tup (ks.map kV)) from ok a _ e)
 exact⟨o,lx.toArray,n,h1,h2,h3,by simpa using zf0 r⟩
theorem zlK {lB:List (List Key×V)} (ok:HOk P w H h) (e:Rd H a (.dT lB)):lB.length≤sizeLine∧(a == sysModules)=false ∧
  ∃ xs,KT H lB xs∧h.DictOfH (tupleKind (zau P w)) a xs:=by
 obtain⟨z,y,xs,r,o,es,ep,h1,h2,h3,h4,h5⟩:=(show zax P w H h a (.dT lB) from zox ok e)
 refine⟨z,y,xs,r,o,es,ep,h1,h2,h3,h4,fun x hx=>?_,h5⟩
 have all:∀ {l:List (List Key×V)} {m:List (List Key×Addr×Value)},KT H l m→∀ x∈m,(tupleKind (zau P w)).is h x.1 x.2.1:=by
  intro l m q
  induction q with
  | nil=>intro x hx; exact nomatch hx
  | @cons p q ps qs hq t ih =>
   intro x hx
   rcases aI.mp hx with e | hx
   ·subst e
    exact zgy ok (by rw [← hq.1]; exact hq.2.1)
   ·exact ih x hx
 exact all r x hx
theorem zoy {lB:List (List Key×V)} (ok:HOk P w H h) (e:H a=some (.dT lB)):lB.length≤sizeLine∧(a == sysModules)=false ∧
  ∃ xs,KT H lB xs∧h.DictOfH (tupleKind (zau P w)) a xs:=zlK ok (.inl e)
end
def zqd (H:Hp) (a:Addr) (y:V) (r:Option V):Prop :=
 (∃ lB k,Rd H a (.dK lB)∧y=kV k∧r=zda lB k)∨∃ lB k b,Rd H a (.dT lB)∧y = .ref b∧H b=some (.tup (k.map kV))∧r=zda lB k
def zlL (H:Hp) (a:Addr) (y v:V) (H':Hp):Prop :=
 (∃ lB k,H a=some (.dK lB)∧y=kV k∧lB.length < sizeLine∧H'=lu H a (.dK (putK lB k v))) ∨
 ∃ lB k b,H a=some (.dT lB)∧y = .ref b∧H b=some (.tup (k.map kV))∧lB.length < sizeLine∧H'=lu H a (.dT (putK lB k v))
theorem zlL.t {H:Hp} {a b:Addr} {lB:List (List Key×V)} {k:List Key} {v:V} (e:H a=some (.dT lB)) (eb:H b=some (.tup (k.map kV))) (hl:lB.length < sizeLine) :
  zlL H a (.ref b) v (lu H a (.dT (putK lB k v))):=.inr ⟨lB,k,b,e,rfl,eb,hl,rfl⟩
section
variable {X:Cx} {lj:List (Addr×Obj)} {σ:St} {H:Hp} {s:Shared} {a:Addr} {y v:V} {u r:Value} {o:Option V} {A:Around} {E:Value→Shared→Prop}
theorem Inv.big (I:Inv X lj σ H s):sysModules < s.heap.objs.size:=by
 have h:mainGlobals < s.heap.objs.size:=(I.mod.glob.keeps I.bk).lt
 exact Nat.lt_trans (by decide) h
theorem zgz {h':Heap} {t':Nat} {ob:HO} (I:Inv X lj σ H s) (mu:Mut (H a)) (hs:bu a s.heap h') (he:∃ q,h'.get? a=some q) (new:zax X.prog X.w (lu H a ob) h' a ob) :
  Inv X lj σ (lu H a ob) { s with heap:=h',toks:=t' } :=
 I.write (x:=a) (e:=a) mu (.inl rfl) (fun b q hb z=>(hs.2 b hb).trans z) he new
theorem zpg {P:Program} {w:World} {H':Hp} {h':Heap} {lB:List (Key×V)} {vs:List (Key×Value)} (z:lB.length≤sizeLine) (hd:(a == sysModules)=false) (rel:KV lB vs) (dd:h'.DictOf (zau P w) a vs) :
  zax P w H' h' a (.dK lB):=⟨z,hd,vs,rel,dd⟩
theorem zkz {H':Hp} {Q:Unit→Shared→Prop} (hu:A.units+1 < cLine) (I:Inv X lj σ H s) (g:zlL H a y v H') (ry:RelV y u) (rv:RelV v r) (h:∀ s',Inv X lj σ H' s'→Q () s') :
  wpAny (model X.prog X.w) A (setItem (.ref a) u r) Q E s:=by
 rcases g with ⟨lB,k,e,ey,l,eH⟩ | ⟨lB,k,b,e,ey,eb,l,eH⟩
 ·subst ey eH
  obtain⟨z,hd,vs,rel,dd⟩:=zqc I.hok e
  have hz:vs.length≤sizeLine:=by rw [← rel.length]; exact z
  have hl:(putK lB k v).length≤sizeLine:=by have:=zcC lB k v; lia
  refine wpAny_setItem_pairs (hsz:=hz) (zlI ry) dd fun h' Ax hs=>h _ ?_
  have he:∃ q,h'.get? a=some q:=let ⟨q,_,_,hq,_⟩:=Ax; ⟨q,hq⟩
  exact zgz I (by rw [e]; exact iC) hs he (zpg hl hd (rel.put k rv) Ax)
 ·subst ey eH
  cases (show u=bd b from ry)
  obtain⟨z,hd,xs,rel,dd⟩:=zoy I.hok e
  have hz:xs.length≤sizeLine:=by rw [← bm rel]; exact z
  have hl:(putK lB k v).length≤sizeLine:=by have:=zcC lB k v; lia
  refine wpAny_setItem_heap (hsz:=hz) (gU hu) (zgy I.hok eb) dd fun h' Ax hs=>h _ ?_
  obtain⟨q,es,ep,hq,h2,h3,h4,_,h5⟩:=Ax
  refine zgz I (by rw [e]; exact iC) hs ⟨q,hq⟩ ⟨hl,hd,_,(rel.put k eb rv).keeps fun c ys ec=>?_,q,es,ep,hq,h2,h3,h4,h5⟩
  rw [zr (zor ec e (fun z=>nomatch z))]
  exact ec
end
def zqe (td ty tv:TE):TS:=fun D σ H=>tv σ H fun v H1=>td σ H1 fun x H2=>ty σ H2 fun y H3=>∃ a H4,x = .ref a∧zlL H3 a y v H4∧D.nx σ H4
section
variable {X:Cx} {o i e value:Expr} {pos pos' pB:Pos} {td ty tv:TE}
theorem zns (hu:X.A.units+1 < cLine) (ho:PE X o td) (hi:PE X i ty) (hv:PE X value tv) (hs:swapsWith value (some (.Subscript o i pos')) pos.line X.env=pure false) :
  PS X (.Assign [.Subscript o i pos'] value pos) (zqe td ty tv):=by
 intro lj s σ H D I h
 refine wpAny_Assign_Subscript (thn (hv lj s σ H _ I h) fun r s1 ⟨v,H1,I1,rv,q1⟩=>thn (ho lj s1 σ H1 _ I1 q1) fun u s2 ⟨x,H2,I2,rx,q2⟩=>thn (hi lj s2 σ H2 _ I2 q2) fun iv s3 ⟨y,H3,I3,ry,a,H4,ex,g,q3⟩=>?_) hs
 subst ex
 obtain rfl:u=bd a:=rx
 exact zkz hu I3 g ry rv fun s4 I4=>⟨σ,H4,I4,q3⟩
end
theorem zhI {P:Program} {w:World} {H:Hp} (h:Heap) (hb:sysModules < h.objs.size):zax P w H (h.push { cls:=.type "dict",data:=.dict #[] }) h.objs.size (.dT []) :=
 ⟨bj _,beq_eq_false_iff_ne.mpr (eE (bz hb)),[],.nil,_,#[],0,aO _ rfl,⟨rfl,rfl,rfl⟩,rfl,rfl,List.nodup_nil⟩
def zph:TE:=fun _ H Q=>∀ p,H p=none→Q (.ref p) (lu H p (.dT []))
section
variable {X:Cx} {pos:Pos}
theorem zlM:PE X (.Dict [] [] pos) zph:=fun lj s σ H Q I h =>
 wpAny_Dict_empty ⟨.ref s.heap.objs.size,_,I.laid (a:=s.heap.objs.size) (o:=.dT []) (t':=s.toks) (fun _ _ q=>aj _ q) (af _) (zhI s.heap I.big),rfl,h _ (I.hok.fresh (af _))⟩
end
structure M2 (X:Cx) (o:Expr) (m:Str) (apos:Pos) (e f:Expr) (ni:Pos):Prop where
 base:attributeBase o m X.env (eval o X.env)=eval o X.env
 few:((backTo ni (starEach [e,f] X.env)).all (fun x=>!x.1) && (backToKw ni (keywordEach [] X.env)).all (fun x=>x.1.isSome)
  && decide (([e,f]:List Expr).length+([]:List Keyword).length+(if ([]:List Keyword).isEmpty then 0 else 1) < 30))=true
 line:(apos.endLine == ni.line)=true
 trees:backTo ni (starEach [e,f] X.env) = [(false,eval e X.env),(false,eval f X.env)]
def IsD (H:Hp) (a:Addr):Prop:=(∃ lB,Rd H a (.dK lB))∨∃ lB,Rd H a (.dT lB)
theorem zpi {X:Cx} {lj:List (Addr×Obj)} {σ:St} {H:Hp} {s:Shared} {a:Addr} (I:Inv X lj σ H s) (d:IsD H a) :
  s.TypeIs (.ref a) "dict"∧(∀ b,bd a = .ref b→∃ ob,s.heap.get? b=some ob∧ob.dict=none)∧(a == sysModules)=false:=by
 rcases d with ⟨lB,e⟩ | ⟨lB,e⟩
 ·obtain⟨_,hd,vs,_,dd⟩:=zlJ I.hok e
  refine⟨dd.typeIs,fun b q=>?_,hd⟩
  cases q
  obtain⟨ob,_,_,h1,h2,_⟩:=dd
  exact⟨ob,h1,h2.2.1⟩
 ·obtain⟨_,hd,xs,_,dd⟩:=zlK I.hok e
  refine⟨dd.typeIs,fun b q=>?_,hd⟩
  cases q
  obtain⟨ob,_,_,h1,h2,_⟩:=dd
  exact⟨ob,h1,h2.2.1⟩
section
variable {X:Cx} {lj:List (Addr×Obj)} {σ:St} {H:Hp} {s:Shared} {a:Addr} {y d:V} {u r:Value} {o:Option V} {A:Around} {E:Value→Shared→Prop}
theorem zpj {Q:Value→Shared→Prop} (hu:A.units+1 < cLine) (I:Inv X lj σ H s) (g:zqd H a y o) (ry:RelV y u) (rd:RelV d r) (h:∀ w' s',Inv X lj σ H s'→RelV (o.getD d) w'→Q w' s') :
  wpAny (model X.prog X.w) A (call (.builtin "dict.get") [.ref a,u,r]) Q E s:=by
 rcases g with ⟨lB,k,e,ey,l⟩ | ⟨lB,k,b,e,ey,eb,l⟩
 ·subst ey
  obtain⟨z,hd,vs,rel,dd⟩:=zlJ I.hok e
  refine call_meetsIn gu dd.typeIs jg (iS _ _ _) (meets_dict_get_default (zau X.prog X.w) a (zlI ry) hd r) ⟨_,dd.mapOf,h _ _ (I.tok _) ?_⟩
  rw [l]
  exact (rel.val k).getD rd
 ·subst ey
  cases (show u=bd b from ry)
  obtain⟨z,hd,xs,rel,dd⟩:=zlK I.hok e
  refine call_meetsIn gu dd.typeIs jg (iS _ _ _) (meetsH_dict_get_default (tupleKind (zau X.prog X.w)) a b hd r) ⟨gU hu,k,xs,zgy I.hok eb,dd,h _ _ (I.tok _) ?_⟩
  rw [l]
  exact (rel.val k).getD rd
end
def zpk (td ty tx:TE):TE:=fun σ H Q=>td σ H fun x H1=>∃ a,x = .ref a∧IsD H1 a∧ty σ H1 fun y H2=>tx σ H2 fun z H3=>∃ o,zqd H3 a y o∧Q (o.getD z) H3
section
variable {X:Cx} {o e f:Expr} {apos ni:Pos} {td ty tx:TE}
theorem zlN (hu:X.A.units+1 < cLine) (ho:PE X o td) (he:PE X e ty) (hf:PE X f tx) (m:M2 X o "get" apos e f ni):PE X (.Call (.Attribute o "get" apos) [e,f] [] ni) (zpk td ty tx):=by
 intro lj s σ H Q I h
 refine wpAny_Call_method m.base m.few m.line PySem.F.plainAttrs_dict gu PySem.F.type_dict_get (thn (ho lj s σ H _ I h) fun u s1 ⟨x,H1,I1,rx,a,ex,d,q1⟩=>?_)
 subst ex
 obtain rfl:u=bd a:=rx
 obtain⟨t1,t2,_⟩:=zpi I1 d
 refine⟨t1,t2,?_⟩
 rw [m.trees]
 refine jb rfl (jt (eU (thn (he lj s1 σ H1 _ I1 q1) fun iv s2 ⟨y,H2,I2,ry,q2⟩ =>
  eU (thn (hf lj s2 σ H2 _ I2 q2) fun fv s3 ⟨z,H3,I3,rz,ov,g,q3⟩=>gb ?_))))
 exact zpj hu I3 g ry rz fun w' s4 I4 uD=>⟨_,H3,I4,uD,q3⟩
end
end L2
end
section
namespace L2
open PySem PySem.Spec PyProof.Rows
theorem zhJ:∀ {ns:List Int} {us:List Value},zT (ns.map V.int) us→∃ ps:List (Int×Tok),us=ps.map (fun p=>iV p.1 p.2)∧ps.map (·.1)=ns
 | [],_,r=>by cases r; exact⟨[],rfl,rfl⟩
 | n :: ns,_,r=>by
  cases r with
  | cons r1 r2 =>
   obtain⟨ps,e1,e2⟩:=zhJ r2
   obtain⟨t,rfl⟩:=r1
   exact⟨(n,t) :: ps,by rw [e1]; rfl,by rw [← e2]; rfl⟩
theorem zkA {X:Cx} (hc:X.calm=true):zbU X (.builtin "sum") (fun xs H Q=>∃ (p:Addr) (ns:List Int),xs = [.ref p]∧lr X.K H p (ns.map V.int)∧Q (.int ns.sum) H):=by
 intro lj s σ H xs us Q I r h
 obtain⟨p,ns,rfl,hq,q⟩:=h
 obtain⟨u,rfl,rx⟩:=vals1 r
 cases rx
 obtain⟨lx,rv,pl,hz⟩:=I.list hq
 obtain⟨ps,e1,e2⟩:=zhJ rv
 subst e1 e2
 have hl:s.heap.IsList p (intItems ps.toArray):=by
  have:=pl.isList
  simpa [intItems] using this
 refine sum_intListG (xs:=ps.toArray) (by simp [I.ok.hd hc]) hl fun h' tk t' kk=>⟨.int (ps.map (·.1)).sum,H,I.kept kk,⟨t',?_⟩,q⟩
 rw [preSum_eq,aP (by simp)]
end L2
namespace PySem
open PyProof.Rows
end PySem
namespace L2
open PySem PySem.Spec PyProof.Rows
end L2
end
section
namespace L2
open PySem PySem.Spec PyProof.Rows
end L2
namespace My
open PySem L2 PyProof.Rows
section
variable {K:ag}
structure RowAt (K:ag) (H:Hp) (r:Addr) (n:Nat) (rw:List (Option Int)):Prop where
 at':lr K H r (rw.map o9)
 len:rw.length=n
end
end My
end
section
namespace Srt
open PySem PyProof.Rows
def Vk (val:Keyed→Int) (xs:Array Keyed) (i:Nat):Int:=match xs[i]? with
 | some p=>val p
 | none=>0
theorem zad {val:Keyed→Int} {xs ys:Array Keyed} {i j:Nat} (h:xs[i]? = ys[j]?):Vk val xs i=Vk val ys j:=by unfold Vk; rw [h]
theorem z8 {val:Keyed→Int} {xs:Array Keyed} {i:Nat} {p:Keyed} (h:xs[i]? = some p):Vk val xs i=val p:=by unfold Vk; rw [h]
def SIn (val:Keyed→Int) (xs:Array Keyed) (lo hi:Nat):Prop:=∀ i j,lo≤i→i≤j→j < hi→Vk val xs i≤Vk val xs j
def DIn (val:Keyed→Int) (xs:Array Keyed) (lo hi:Nat):Prop:=∀ i j,lo≤i→i≤j→j < hi→Vk val xs j≤Vk val xs i
structure SB (κ:SortKind) (a₀:Array Keyed) (st:SortSt):Prop where
 perm:(arrOf st).Perm a₀
 kind:kindOf st=κ
 failed:failedOf st=none
theorem SB.size {κ:SortKind} {a₀:Array Keyed} {st:SortSt} (h:SB κ a₀ st):(arrOf st).size=a₀.size:=h.perm.size_eq
theorem SB.mem {κ:SortKind} {a₀:Array Keyed} {st:SortSt} (h:SB κ a₀ st) {i:Nat} (hi:i < a₀.size):∃ p,(arrOf st)[i]? = some p∧p∈a₀.toList:=by
 (have oC:i < (arrOf st).size:=by rw [h.size]; exact hi)
 exact⟨(arrOf st)[i],getElem?_pos _ i oC,(fG.mp h.perm).mem_iff.mp (by simp)⟩
structure SF (κ:SortKind) (a₀:Array Keyed) (lo:Nat) (st₀ st:SortSt):Prop where
 b:SB κ a₀ st
 low:∀ k,k < lo→(arrOf st)[k]? = (arrOf st₀)[k]?
 pend:pendingOf st=pendingOf st₀
theorem SF.refl {κ:SortKind} {a₀:Array Keyed} {lo:Nat} {st:SortSt} (h:SB κ a₀ st):SF κ a₀ lo st st:=⟨h,fun _ _=>rfl,rfl⟩
theorem SF.setArr {κ:SortKind} {a₀:Array Keyed} {lo:Nat} {st₀ st:SortSt} (h:SF κ a₀ lo st₀ st) {xs:Array Keyed} (hp:xs.Perm (arrOf st)) (hl:∀ k,k < lo→xs[k]? = (arrOf st)[k]?):SF κ a₀ lo st₀ (setArr st xs) :=
 ⟨⟨hp.trans h.b.perm,h.b.kind,h.b.failed⟩,fun k hk=>(hl k hk).trans (h.low k hk),h.pend⟩
section
variable {prog:Program} {w:World} {A:Around} {E:Value→Shared→Prop} {s:Shared} {a₀:Array Keyed} {κ:SortKind} {val:Keyed→Int}
def Cmp (prog:Program) (w:World) (A:Around) (s:Shared) (κ:SortKind) (val:Keyed→Int) (a₀:Array Keyed):Prop :=
 ∀ x y,x∈a₀.toList→y∈a₀.toList→∀ (Q:Bool→Shared→Prop) (E:Value→Shared→Prop),Q (decide (val x < val y)) s→wpAny (model prog w) A (keyLt' κ x.1 y.1) Q E s
theorem zlO {st:SortSt} {x y:Keyed} {Q:Option Bool→SortSt→Prop} (hC:Cmp prog w A s κ val a₀) (hk:kindOf st=κ) (hx:x∈a₀.toList) (hy:y∈a₀.toList) (h:Q (some (decide (val x < val y))) st) :
  wpS (model prog w) A E s (lt' x y) Q st:=by
 rw [lt'_eq]
 refine aw (fo ?_)
 rw [hk]
 refine aw (gO (c9 (hC x y hx hy _ _ ⟨rfl,?_⟩)))
 exact aA h
theorem zZ {st:SortSt} {arr:Array Keyed} {i:Nat} {p:Keyed} {Q:Keyed→SortSt→Prop} (hi:arr[i]? = some p) (h:Q p st):wpS (model prog w) A E s (elem' arr i) Q st:=by
 rw [elem'_eq,hi]
 exact aA h
theorem zeW {st:SortSt} {i j:Nat} {Q:Option Bool→SortSt→Prop} (hC:Cmp prog w A s κ val a₀) (hB:SB κ a₀ st) (hi:i < a₀.size) (hj:j < a₀.size) (h:Q (some (decide (Vk val (arrOf st) i < Vk val (arrOf st) j))) st) :
  (wpS (model prog w) A E s (ltAt' i j) Q st):=by
 obtain⟨x,ex,mx⟩:=hB.mem hi
 obtain⟨y,ey,my⟩:=hB.mem hj
 rw [ltAt'_eq]
 refine aw (fo ?_)
 (show wpS _ _ _ _ (do let x ← elem' (arrOf st) i; let y ← elem' (arrOf st) j; lt' x y) Q st)
 refine aw (zZ ex (aw (zZ ey (zlO hC hB.kind mx my ?_))))
 rw [z8 ex,z8 ey] at h
 exact h
theorem zjt {st:SortSt} {i j:Nat} {Q:Unit→SortSt→Prop} (h:Q () (setArr st (mirror (arrOf st) i j ((j - i) / 2)))) :
  (wpS (model prog w) A E s (reverseSlice' i j) Q st):=by
 ((rw [reverseSlice'_eq]; exact dU h))
theorem zeX {xs:Array Keyed} {i j:Nat} (hj:j≤xs.size) (k:Nat):Vk val (mirror xs i j ((j - i) / 2)) k=if i≤k∧k < j then Vk val xs (i+j - 1 - k) else Vk val xs k:=by
 (have e:=jK (i:=i) hj k)
 by_cases h1:i≤k∧k < j
 ·rw [if_pos h1] at e ⊢; exact zad e
 ·rw [if_neg h1] at e ⊢; exact zad e
theorem zbA {xs:Array Keyed} {i j:Nat} (hj:j≤xs.size) (heq:∀ k,i≤k→k < j→Vk val xs k=Vk val xs (j - 1)) (k:Nat):Vk val (mirror xs i j ((j - i) / 2)) k=Vk val xs k:=by
 rw [zeX hj]
 split
 ·(rw [heq _ (by lia) (by lia),heq k (by lia) (by lia)])
 ·rfl
theorem zco {xs:Array Keyed} {lo i j:Nat} (hj:j≤xs.size) (hi:lo≤i):∀ k,k < lo→(mirror xs i j ((j - i) / 2))[k]? = xs[k]?:=fun k hk=>by
 rw [jK hj,if_neg (by lia)]
theorem ziL {xs:Array Keyed} {lo src d:Nat} (hs:src < xs.size) (hd:d≤src) (hl:lo≤src - d):∀ k,k < lo→(bubble xs src d)[k]? = xs[k]?:=fun k hk=>by
 rw [getElem?_bubble hs d hd,if_neg (by lia),if_neg (by lia)]
def zlP (lo a lM:Nat):StateT SortSt Sem AscSt :=
 forIn [a:lM] ((none,a):AscSt) fun _ st=>do
  let x ← ltAt' (lo+st.snd) (lo+st.snd - 1)
  match x with
  | some rN=>if rN=true then pure (f9 (none,st.snd)) else pure (cC (none,st.snd+1))
  | _=>pure (f9 (some none,st.snd))
def zhK (lo n lM:Nat):StateT SortSt Sem (Option Nat):=do
 reverseSlice' lo (lo+n)
 let st ← zlP lo n lM
 match st.fst with
 | some r=>pure r
 | none=>pure (some st.snd)
def zju (lo n lM:Nat):StateT SortSt Sem DescSt :=
 forIn [n:lM] ((none,n,0):DescSt) fun _ st=>do
  let x ← ltAt' (lo+st.snd.fst) (lo+st.snd.fst - 1)
  match x with
  | some rN =>
   if rN=true then
    if st.snd.snd > 0 then do
     reverseSlice' (lo+st.snd.fst - (st.snd.snd+1)) (lo+st.snd.fst)
     pure (cC (none,st.snd.fst+1,0))
    else pure (cC (none,st.snd.fst+1,0))
   else do
    let x ← ltAt' (lo+st.snd.fst - 1) (lo+st.snd.fst)
    match x with
    | some yD =>
     if yD=true then pure (f9 (none,st.snd.fst,st.snd.snd))
     else pure (cC (none,st.snd.fst+1,st.snd.snd+1))
    | _=>pure (f9 (some none,st.snd.fst,st.snd.snd))
  | _=>pure (f9 (some none,st.snd.fst,st.snd.snd))
def zhL (lo n lM:Nat):StateT SortSt Sem (Option Nat):=do
 liftM (rule "list.sort.descending-run"); let st ← zju lo (n+1) lM
 match st.fst with
 | some r=>pure r
 | none =>
  if st.snd.snd > 0 then do
   reverseSlice' (lo+st.snd.fst - (st.snd.snd+1)) (lo+st.snd.fst)
   zhK lo st.snd.fst lM
  else zhK lo st.snd.fst lM
theorem zgA (lo lM:Nat):countRun' lo lM=(do
  let st ← zlP lo 1 lM
  match st.fst with
  | some r=>pure r
  | none =>
   if (st.snd == lM)=true then pure (some st.snd)
   else if st.snd > 1 then do
    let x ← ltAt' lo (lo+st.snd - 1)
    match x with
    | some BC=>if BC=true then pure (some st.snd) else do
      reverseSlice' lo (lo+st.snd)
      zhL lo st.snd lM
    | _=>pure none
   else zhL lo st.snd lM):=by
 rw [countRun'_eq]
 unfold zhL zhK zju zlP
 dsimp only
 refine congrArg (bind _) ?_
 funext c
 obtain⟨r,n⟩:=c
 cases r with
 | some r=>rfl
 | none =>
  dsimp only
  split
  ·rfl
  ·split
   ·congr 1
    funext x
    cases x with
    | none=>rfl
    | some BC =>
     dsimp only
     split
     ·rfl
     ·congr 1
      funext _r
      congr 1; funext _u; congr 1; congr 1; funext s2; obtain⟨r2,n2,q2⟩:=s2
      cases r2 with
      | some r2=>rfl
      | none =>
       dsimp only
       split
       ·congr 1; funext _v; congr 1; funext _w; congr 1; funext s3; obtain⟨r3,n3⟩:=s3; cases r3 <;> rfl
       ·congr 1; funext _w; congr 1; funext s3; obtain⟨r3,n3⟩:=s3; cases r3 <;> rfl
   ·congr 1; funext _u; congr 1; congr 1; funext s2; obtain⟨r2,n2,q2⟩:=s2
    cases r2 with
    | some r2=>rfl
    | none =>
     dsimp only
     split
     ·congr 1; funext _v; congr 1; funext _w; congr 1; funext s3; obtain⟨r3,n3⟩:=s3; cases r3 <;> rfl
     ·congr 1; funext _w; congr 1; funext s3; obtain⟨r3,n3⟩:=s3; cases r3 <;> rfl
theorem zoz {st₀ st:SortSt} {lo a lM:Nat} {Q:AscSt→SortSt→Prop} (hC:Cmp prog w A s κ val a₀) (hn:lo+lM≤a₀.size) (ha:1≤a) (han:a≤lM) (hB:SF κ a₀ lo st₀ st)
  (hs:SIn val (arrOf st) lo (lo+a))
  (h:∀ n,a≤n→n≤lM→SIn val (arrOf st) lo (lo+n)→(n=lM∨Vk val (arrOf st) (lo+n) < Vk val (arrOf st) (lo+n - 1))→Q (none,n) st) :
  wpS (model prog w) A E s (zlP lo a lM) Q st:=by
 unfold zlP
 refine bZ (I:=fun x c ly=>ly=st∧c=(none,x)∧SIn val (arrOf st) lo (lo+x)) ?step ?fin ⟨rfl,rfl,hs⟩
 case fin =>
  rintro c ly ⟨rfl,rfl,oK⟩
  (rw [show max a lM=lM by lia] at oK ⊢)
  (exact h lM han (af _) oK (.inl rfl))
 case step =>
  (rintro x c ly Fg DI ⟨rfl,rfl,oK⟩)
  dsimp only
  refine aw (zeW hC hB.b (by lia) (by lia) ?_)
  by_cases nF:Vk val (arrOf ly) (lo+x) < Vk val (arrOf ly) (lo+x - 1)
  ·(simp only [nF,decide_true,if_true])
   (exact aA (h x Fg (by lia) oK (.inr nF)))
  ·(simp only [nF,decide_false,bw,if_false])
   refine aA ⟨rfl,rfl,fun i j sy p7 hj=>?_⟩
   by_cases BD:j < lo+x
   ·exact oK i j sy p7 BD
   ·have pV:j=lo+x:=by lia
    subst pV
    by_cases oC:i=lo+x
    ·(subst oC; exact bP _)
    ·exact b7 (oK i (lo+x - 1) sy (by lia) (by lia)) (Int.not_lt.mp nF)
theorem zlQ {st₀ st:SortSt} {lo n lM:Nat} {Q:Option Nat→SortSt→Prop} (hC:Cmp prog w A s κ val a₀) (hn:lo+lM≤a₀.size) (h1:1≤n) (xa:n≤lM) (hB:SF κ a₀ lo st₀ st)
  (hs:DIn val (arrOf st) lo (lo+n)) (h:∀ m ly,SF κ a₀ lo st₀ ly→1≤m→m≤lM→SIn val (arrOf ly) lo (lo+m)→Q (some m) ly) :
  wpS (model prog w) A E s (zhK lo n lM) Q st:=by
 unfold zhK
 have hsz:lo+n≤(arrOf st).size:=by rw [hB.b.size]; lia
 refine aw (zjt ?_)
 have oT:=hB.setArr (jh (arrOf st) lo (lo+n) ((lo+n - lo) / 2)) (zco hsz (af _))
 refine aw (zoz hC hn h1 xa oT ?_ fun m sC rD xP _=>aA (h m _ oT (by lia) rD xP))
 intro i j sy p7 hj
 show Vk val (mirror (arrOf st) lo (lo+n) ((lo+n - lo) / 2)) i≤Vk val (mirror (arrOf st) lo (lo+n) ((lo+n - lo) / 2)) j
 rw [zeX hsz,zeX hsz,if_pos (by lia),if_pos (by lia)]
 exact hs _ _ (by lia) (by lia) (by lia)
theorem zpl {st₀ st:SortSt} {lo n lM:Nat} {Q:DescSt→SortSt→Prop} (hC:Cmp prog w A s κ val a₀) (hn:lo+lM≤a₀.size) (h1:1≤n) (xa:n≤lM) (hB:SF κ a₀ lo st₀ st)
  (hs:DIn val (arrOf st) lo (lo+n))
  (h:∀ m tO ly,SF κ a₀ lo st₀ ly→n≤m→m≤lM→DIn val (arrOf ly) lo (lo+m)→tO+1≤m→(∀ i,lo+m - (tO+1)≤i→i < lo+m→Vk val (arrOf ly) i=Vk val (arrOf ly) (lo+m - 1))→Q (none,m,tO) ly) :
  wpS (model prog w) A E s (zju lo n lM) Q st:=by
 unfold zju
 refine bZ (I:=fun x c ly=>∃ tO,c=(none,x,tO)∧SF κ a₀ lo st₀ ly∧DIn val (arrOf ly) lo (lo+x)∧tO+1≤x ∧
   (∀ i,lo+x - (tO+1)≤i→i < lo+x→Vk val (arrOf ly) i=Vk val (arrOf ly) (lo+x - 1))) ?step ?fin ⟨0,rfl,hB,hs,by lia,fun i h1 h2=>by congr 1; lia⟩
 case fin =>
  (rintro c ly ⟨tO,rfl,oT,oK,hq,he⟩)
  (rw [show max n lM=lM by lia] at oK hq he ⊢)
  (exact h lM tO ly oT xa (af _) oK hq he)
 case step =>
  (rintro x c ly Fg DI ⟨tO,rfl,oT,oK,hq,he⟩)
  dsimp only
  have hsz:lo+x≤(arrOf ly).size:=by rw [oT.b.size]; lia
  refine aw (zeW hC oT.b (by lia) (by lia) ?_)
  by_cases nF:Vk val (arrOf ly) (lo+x) < Vk val (arrOf ly) (lo+x - 1)
  ·(simp only [nF,decide_true,if_true])
   have step1:∀ xs:Array Keyed,(∀ k,Vk val xs k=Vk val (arrOf ly) k)→DIn val xs lo (lo+(x+1)):=by
    intro xs hk i j sy p7 hj
    rw [hk,hk]
    by_cases BD:j < lo+x
    ·exact oK i j sy p7 BD
    ·have pV:j=lo+x:=by lia
     subst pV
     by_cases oC:i=lo+x
     ·(subst oC; exact bP _)
     ·exact b7 (fq nF) (oK i (lo+x - 1) sy (by lia) (by lia))
   by_cases vG:tO > 0
   ·rw [if_pos vG]
    refine aw (zjt (aA ⟨0,rfl,oT.setArr (jh _ _ _ _) (zco hsz (by lia)),step1 _ (zbA hsz he),by lia,fun i h1 h2=>by congr 1; lia⟩))
   ·rw [if_neg vG]
    (exact aA ⟨0,rfl,oT,step1 _ (fun _=>rfl),by lia,fun i h1 h2=>by congr 1; lia⟩)
  ·(simp only [nF,decide_false,bw,if_false])
   refine aw (zeW hC oT.b (by lia) (by lia) ?_)
   by_cases uq:Vk val (arrOf ly) (lo+x - 1) < Vk val (arrOf ly) (lo+x)
   ·(simp only [uq,decide_true,if_true])
    (exact aA (h x tO ly oT Fg (by lia) oK hq he))
   ·(simp only [uq,decide_false,bw,if_false])
    have BE:Vk val (arrOf ly) (lo+x)=Vk val (arrOf ly) (lo+x - 1):=by lia
    refine aA ⟨tO+1,rfl,oT,fun i j sy p7 hj=>?_,by lia,fun i h1 h2=>?_⟩
    ·by_cases BD:j < lo+x
     ·exact oK i j sy p7 BD
     ·have pV:j=lo+x:=by lia
      subst pV
      by_cases oC:i=lo+x
      ·(subst oC; exact bP _)
      ·rw [BE]; exact oK i (lo+x - 1) sy (by lia) (by lia)
    ·rw [show lo+(x+1) - 1=lo+x by lia]
     by_cases hix:i=lo+x
     ·subst hix; rfl
     ·(rw [BE]; exact he i (by lia) (by lia))
theorem zjv {st₀ st:SortSt} {lo n lM:Nat} {Q:Option Nat→SortSt→Prop} (hC:Cmp prog w A s κ val a₀) (hn:lo+lM≤a₀.size) (xa:n+1≤lM) (hB:SF κ a₀ lo st₀ st)
  (hs:DIn val (arrOf st) lo (lo+(n+1))) (h:∀ m ly,SF κ a₀ lo st₀ ly→1≤m→m≤lM→SIn val (arrOf ly) lo (lo+m)→Q (some m) ly) :
  wpS (model prog w) A E s (zhL lo n lM) Q st:=by
 unfold zhL
 (refine aw (gO (cn ⟨rfl,?_⟩)))
 refine aw (zpl hC hn (by lia) xa hB hs fun m tO ly oT sC rD oK hq he=>?_)
 dsimp only
 have hsz:lo+m≤(arrOf ly).size:=by rw [oT.b.size]; lia
 by_cases vG:tO > 0
 ·rw [if_pos vG]
  refine aw (zjt (zlQ hC hn (by lia) rD (oT.setArr (jh _ _ _ _) (zco hsz (by lia))) ?_ h))
  intro i j sy p7 hj
  show Vk val (mirror (arrOf ly) _ _ _) j≤Vk val (mirror (arrOf ly) _ _ _) i
  rw [zbA hsz he,zbA hsz he]
  exact oK i j sy p7 hj
 ·rw [if_neg vG]
  exact zlQ hC hn (by lia) rD oT oK h
theorem znt {st₀ st:SortSt} {lo lM:Nat} {Q:Option Nat→SortSt→Prop} (hC:Cmp prog w A s κ val a₀) (hn:lo+lM≤a₀.size) (h1:1≤lM) (hB:SF κ a₀ lo st₀ st)
  (h:∀ m ly,SF κ a₀ lo st₀ ly→1≤m→m≤lM→SIn val (arrOf ly) lo (lo+m)→Q (some m) ly) :
  wpS (model prog w) A E s (countRun' lo lM) Q st:=by
 rw [zgA]
 refine aw (zoz hC hn (af 1) h1 hB (fun i j sy p7 hj=>(by
   have e:i=j:=by lia
   rw [e]
   exact bP _)) fun n xQ uE uM hor=>?_)
 dsimp only
 by_cases xa:n=lM
 ·(rw [if_pos (by simpa using xa)])
  (exact aA (h n st hB xQ uE uM))
 ·(rw [if_neg (by simpa using xa)])
  have lT:Vk val (arrOf st) (lo+n) < Vk val (arrOf st) (lo+n - 1):=hor.resolve_left xa
  by_cases hgt:n > 1
  ·rw [if_pos hgt]
   refine aw (zeW hC hB.b (by lia) (by lia) ?_)
   by_cases xR:Vk val (arrOf st) lo < Vk val (arrOf st) (lo+n - 1)
   ·(simp only [xR,decide_true,if_true])
    (exact aA (h n st hB xQ uE uM))
   ·(simp only [xR,decide_false,bw,if_false])
    have hsz:lo+n≤(arrOf st).size:=by rw [hB.b.size]; lia
    have nE:∀ k,lo≤k→k < lo+n→Vk val (arrOf st) k=Vk val (arrOf st) (lo+n - 1):=by
     intro k vi hk
     have a1:=uM lo k (af _) vi hk
     have a2:=uM k (lo+n - 1) vi (by lia) (by lia)
     lia
    refine aw (zjt (zjv hC hn (by lia) (hB.setArr (jh _ _ _ _) (zco hsz (af _))) ?_ h))
    intro i j sy p7 hj
    show Vk val (mirror (arrOf st) _ _ _) j≤Vk val (mirror (arrOf st) _ _ _) i
    rw [zbA hsz nE,zbA hsz nE]
    by_cases hjn:j < lo+n
    ·(rw [nE i (by lia) (by lia),nE j (by lia) hjn]; exact bP _)
    ·have pV:j=lo+n:=by lia
     subst pV
     by_cases oC:i=lo+n
     ·(subst oC; exact bP _)
     ·(rw [nE i (by lia) (by lia)]; exact fq lT)
  ·rw [if_neg hgt]
   have Fh:n=1:=by lia
   subst Fh
   refine zjv hC hn (by lia) hB ?_ h
   intro i j sy p7 hj
   by_cases oC:i=j
   ·(subst oC; exact bP _)
   ·have hi0:i=lo:=by lia
    have yE:j=lo+1:=by lia
    subst hi0; subst yE
    exact fq lT
theorem zhM {xs:Array Keyed} {src d:Nat} (hs:src < xs.size) (hd:d≤src) (k:Nat) :
  Vk val (bubble xs src d) k=if k=src - d then Vk val xs src else if src - d < k∧k≤src then Vk val xs (k - 1) else Vk val xs k:=by
 (have e:=getElem?_bubble hs d hd k)
 by_cases h1:k=src - d
 ·rw [if_pos h1] at e ⊢; exact zad e
 ·rw [if_neg h1] at e ⊢
  (by_cases h2:src - d < k∧k≤src)
  ·rw [if_pos h2] at e ⊢; exact zad e
  ·rw [if_neg h2] at e ⊢; exact zad e
theorem zqf {st₀ st:SortSt} {lo n ok:Nat} {Q:Bool→SortSt→Prop} (hC:Cmp prog w A s κ val a₀) (hn:lo+n≤a₀.size) (hok:ok≤n) (hB:SF κ a₀ lo st₀ st) (hs:SIn val (arrOf st) lo (lo+ok))
  (h:∀ ly,SF κ a₀ lo st₀ ly→SIn val (arrOf ly) lo (lo+n)→Q true ly):wpS (model prog w) A E s (binarySort' lo n ok) Q st:=by
 rw [binarySort'_eq]
 refine aw (dg (bZ (I:=fun k c ly=>c=(none,())∧SF κ a₀ lo st₀ ly∧SIn val (arrOf ly) lo (lo+min k n))
  (Q:=fun c ly=>c=(none,())∧SF κ a₀ lo st₀ ly∧SIn val (arrOf ly) lo (lo+n)) ?step ?fin ?init) ?post)
 case post =>
  rintro c ly ⟨rfl,oT,oK⟩
  (exact aA (h ly oT oK))
 case init =>
  refine⟨rfl,hB,fun i j sy p7 hj=>?_⟩
  by_cases h1:ok=0
  ·have e:i=j:=by lia
   rw [e]; exact bP _
  ·exact hs i j sy p7 (by lia)
 case fin =>
  rintro c ly ⟨hc,oT,oK⟩
  refine⟨hc,oT,?_⟩
  (rwa [show min (max (max ok 1) n) n=n by lia] at oK)
 case step =>
  (rintro k c ly hak DJ ⟨rfl,oT,oK⟩)
  (rw [show min k n=k by lia] at oK)
  have hk:lo+k < a₀.size:=(by lia); refine aw (dg (bZ (I:=fun x c n8=>n8=ly∧∃ l r,c=(none,l,r)∧l≤r∧r≤k∧r - l≤k - x ∧
    (∀ i,i < l→Vk val (arrOf ly) (lo+i)≤Vk val (arrOf ly) (lo+k))∧(∀ i,r≤i→i < k→Vk val (arrOf ly) (lo+k) < Vk val (arrOf ly) (lo+i)))
   (Q:=fun c n8=>n8=ly∧∃ l r,c=(none,l,r)∧l≤k∧(∀ i,i < l→Vk val (arrOf ly) (lo+i)≤Vk val (arrOf ly) (lo+k))∧(∀ i,l≤i→i < k→Vk val (arrOf ly) (lo+k) < Vk val (arrOf ly) (lo+i))) ?istep ?ifin ?iinit) ?ipost)
  case iinit=>(exact⟨rfl,0,k,rfl,by lia,by lia,by lia,fun i hi=>by lia,fun i h1 h2=>by lia⟩)
  case ifin =>
   (rintro c n8 ⟨rfl,l,r,rfl,Ay,Fi,hm,qS,xb⟩)
   have:l=r:=by lia
   subst this
   (exact⟨rfl,l,l,rfl,Fi,qS,xb⟩)
  case istep =>
   (rintro x c n8 _ hxk ⟨rfl,l,r,rfl,Ay,Fi,hm,qS,xb⟩)
   dsimp only
   by_cases oM:l≥r
   ·rw [if_pos oM]
    have:l=r:=by lia
    subst this
    (exact aA ⟨rfl,l,l,rfl,Fi,qS,xb⟩)
   ·rw [if_neg oM]
    refine aw (zeW hC oT.b hk (by lia) ?_)
    by_cases nF:Vk val (arrOf n8) (lo+k) < Vk val (arrOf n8) (lo+(l+r) / 2)
    ·(simp only [nF,decide_true,if_true])
     (refine aA ⟨rfl,l,(l+r) / 2,rfl,by lia,by lia,by lia,qS,fun i h1 h2=>?_⟩)
     exact Int.lt_of_lt_of_le nF (oK _ _ (by lia) (by lia) (by lia))
    ·(simp only [nF,decide_false,bw,if_false])
     (refine aA ⟨rfl,(l+r) / 2+1,r,rfl,by lia,by lia,by lia,fun i h1=>?_,xb⟩)
     exact b7 (oK (lo+i) (lo+(l+r) / 2) (by lia) (by lia) (by lia)) (Int.not_lt.mp nF)
  case ipost =>
   (rintro c n8 ⟨rfl,l,r,rfl,hlk,qS,xb⟩)
   show wpS _ _ _ _ (do moveDown' (lo+k) (lo+l); pure (cC (none,()))) _ _
   rw [moveDown'_eq]
   have Fj:lo+k < (arrOf n8).size:=by rw [oT.b.size]; exact hk
   refine aw (dU (aA ⟨rfl,oT.setArr (bubble_perm _ _ _) (ziL Fj (by lia) (by lia)),?_⟩))
   (rw [show min (k+1) n=k+1 by lia])
   intro i j sy p7 hj
   show Vk val (bubble (arrOf n8) (lo+k) (lo+k - (lo+l))) i≤Vk val (bubble (arrOf n8) (lo+k) (lo+k - (lo+l))) j
   rw [zhM Fj (by lia),zhM Fj (by lia),show lo+k - (lo+k - (lo+l))=lo+l by lia]
   have Fk:∀ i,lo≤i→i < lo+l→Vk val (arrOf n8) i≤Vk val (arrOf n8) (lo+k):=fun i h1 h2=>by
    have:=qS (i - lo) (by lia)
    rwa [show lo+(i - lo)=i by lia] at this
   have Fl:∀ i,lo+l≤i→i < lo+k→Vk val (arrOf n8) (lo+k) < Vk val (arrOf n8) i:=fun i h1 h2=>by
    have:=xb (i - lo) (by lia) (by lia)
    rwa [show lo+(i - lo)=i by lia] at this
   repeat' split
   all_goals first
    | (exfalso; lia)
    | exact bP _
    | exact Fk _ (by lia) (by lia)
    | exact fq (Fl _ (by lia) (by lia))
    | exact oK _ _ (by lia) (by lia) (by lia)
end
end Srt
end
section
namespace Srt
open PySem PyProof.Rows
def znu:Bool→Keyed→Array Keyed→Nat→Nat→Nat→StateT SortSt Sem (Option Nat):=sortPriv% PySem.Builtin.gallop
def zlR:Array Keyed→Array Keyed→StateT SortSt Sem (Array Keyed):=sortPriv% PySem.Builtin.mergeLo
def zlS:Array Keyed→Array Keyed→StateT SortSt Sem (Array Keyed):=sortPriv% PySem.Builtin.mergeHi
def zc3:Nat→StateT SortSt Sem Unit:=sortPriv% PySem.Builtin.setMinGallop
theorem zgB {M:Model} {A:Around} {E:Value→Shared→Prop} {s:Shared} {α:Type} {m:StateT SortSt Sem α} {Q:α→SortSt→Prop} {st:SortSt} (h:wpAny M A (m st) (fun r s'=>s'=s∧Q r.1 r.2) E s):wpS M A E s m Q st:=h
theorem zgC {M:Model} {A:Around} {E:Value→Shared→Prop} {s:Shared} {α:Type} {m:StateT SortSt Sem α} {Q:α→SortSt→Prop} {st:SortSt} (h:wpS M A E s m Q st):wpAny M A (m st) (fun r s'=>s'=s∧Q r.1 r.2) E s:=h
section
variable {prog:Program} {w:World} {A:Around} {E:Value→Shared→Prop} {s:Shared} {a₀:Array Keyed} {κ:SortKind} {val:Keyed→Int}
def bB (val:Keyed→Int) (left:Bool) (key:Keyed) (arr:Array Keyed) (base i:Nat):Bool:=if left then decide (Vk val arr (base+i) < val key) else !decide (val key < Vk val arr (base+i))
theorem zdq {left:Bool} {key:Keyed} {arr:Array Keyed} {base n i j:Nat} (hs:SIn val arr base (base+n)) (p7:i≤j) (hj:j < n) (h:bB val left key arr base j=true):bB val left key arr base i=true:=by
 have:=hs (base+i) (base+j) (by lia) (by lia) (by lia)
 unfold bB at h ⊢
 cases left <;> simp at h ⊢ <;> lia
theorem s_beyond {st:SortSt} {left:Bool} {key:Keyed} {arr:Array Keyed} {base i:Nat} {Q:Option Bool→SortSt→Prop} {p:Keyed} (hC:Cmp prog w A s κ val a₀) (hk:kindOf st=κ) (qk:key∈a₀.toList) (he:arr[base+i]? = some p) (hp:p∈a₀.toList)
  (h:Q (some (bB val left key arr base i)) st):wpS (model prog w) A E s (do
   let x ← elem' arr (base+i)
   if left then lt' x key else do
    let r ← lt' key x
    return r.map (!·)) Q st:=by
 refine aw (zZ he ?_)
 unfold bB at h
 rw [z8 he] at h
 cases left with
 | true=>exact zlO hC hk hp qk h
 | false=>exact aw (zlO hC hk qk hp (aA h))
abbrev znv:=Option (Option Nat)×Nat×Nat
theorem zlT {st:SortSt} {left:Bool} {key:Keyed} {arr:Array Keyed} {base n lo hi:Nat} {f:Nat→znv→StateT SortSt Sem (ForInStep znv)} (hs:SIn val arr base (base+n)) (hlh:lo≤hi) (hhn:hi≤n)
  (h1:∀ i,i < lo→bB val left key arr base i=true) (h2:∀ i,hi≤i→i < n→bB val left key arr base i=false)
  (hf:∀ (x l r:Nat) (R:ForInStep znv→SortSt→Prop),r≤n→(l≥r→R (.done (none,l,r)) st)→(l < r→R (if bB val left key arr base (l+(r - l) / 2)=true then .yield (none,l+(r - l) / 2+1,r) else .yield (none,l,l+(r - l) / 2)) st)→wpS (model prog w) A E s (f x (none,l,r)) R st) :
  wpS (model prog w) A E s (forIn [0:n] ((none,lo,hi):znv) f) (fun c ly=>ly=st∧∃ l,c=(none,l,l)∧l≤n∧(∀ i,i < l→bB val left key arr base i=true)∧(∀ i,l≤i→i < n→bB val left key arr base i=false)) st:=by
 refine bZ (I:=fun x c ly=>ly=st∧∃ l r,c=(none,l,r)∧l≤r∧r≤n∧r - l≤n - x∧(∀ i,i < l→bB val left key arr base i=true)∧(∀ i,r≤i→i < n→bB val left key arr base i=false)) ?step ?fin ⟨rfl,lo,hi,rfl,hlh,hhn,by lia,h1,h2⟩
 case fin =>
  rintro c ly ⟨rfl,l,r,rfl,Ay,xS,hm,a1,a2⟩
  have:l=r:=by lia
  subst this
  exact⟨rfl,l,rfl,xS,a1,a2⟩
 case step =>
  rintro x c ly _ DI ⟨rfl,l,r,rfl,Ay,xS,hm,a1,a2⟩
  refine hf x l r _ xS (fun oM=>?_) (fun lT=>?_)
  ·have:l=r:=by lia
   subst this
   exact⟨rfl,l,rfl,xS,a1,a2⟩
  ·cases hb:bB val left key arr base (l+(r - l) / 2) with
   | true =>
    rw [if_pos rfl]
    exact⟨rfl,l+(r - l) / 2+1,r,rfl,by lia,xS,by lia,fun i hi=>zdq hs (by lia) (by lia) hb,a2⟩
   | false =>
    rw [if_neg (by decide)]
    refine⟨rfl,l,l+(r - l) / 2,rfl,by lia,by lia,by lia,a1,fun i hi qT=>?_⟩
    cases e:bB val left key arr base i with
    | false=>rfl
    | true=>rw [zdq hs hi qT e] at hb; cases hb
theorem zbB {st:SortSt} {left:Bool} {key:Keyed} {arr:Array Keyed} {base n hint:Nat} {Q:Option Nat→SortSt→Prop} (hC:Cmp prog w A s κ val a₀) (hk:kindOf st=κ) (qk:key∈a₀.toList)
  (ha:∀ i,i < n→∃ p,arr[base+i]? = some p∧p∈a₀.toList) (hs:SIn val arr base (base+n)) (hh:hint < n)
  (h:∀ k,k≤n→(∀ i,i < k→bB val left key arr base i=true)→(∀ i,k≤i→i < n→bB val left key arr base i=false)→Q (some k) st) :
  wpS (model prog w) A E s (znu left key arr base n hint) Q st:=by
 refine zgB ?_
 wp_delta
 wp_delta
 refine zgC ?_
 dsimp only
 obtain⟨p,ep,mp⟩:=ha hint hh
 refine aw (s_beyond hC hk qk ep mp ?_)
 dsimp only
 have up:∀ {i j:Nat},i≤j→j < n→bB val left key arr base i=false→bB val left key arr base j=false:=fun {i j} p7 hj h=>by
  cases e:bB val left key arr base j with
  | false=>rfl
  | true=>rw [zdq hs p7 hj e] at h; cases h
 cases hr:bB val left key arr base hint with
 | true =>
  simp only [if_true]
  refine aw (dg (bZ (I:=fun x c ly=>ly=st∧∃ l o,c=(none,l,o)∧l < o∧x+1≤o∧hint+l < n∧bB val left key arr base (hint+l)=true)
   (Q:=fun c ly=>ly=st∧∃ l o,c=(none,l,o)∧l < o∧hint+l < n∧bB val left key arr base (hint+l)=true∧(hint+o < n→bB val left key arr base (hint+o)=false)) ?step ?fin ⟨rfl,0,1,rfl,by lia,by lia,hh,hr⟩) ?post)
  case fin =>
   rintro c ly ⟨rfl,l,o,rfl,qS,hx,hl,hb⟩
   exact⟨rfl,l,o,rfl,qS,hl,hb,fun z=>by lia⟩
  case step =>
   rintro x c ly _ DI ⟨rfl,l,o,rfl,qS,hx,hl,hb⟩
   dsimp only
   by_cases oM:o≥n - hint
   ·rw [if_pos oM]
    exact aA ⟨rfl,l,o,rfl,qS,hl,hb,fun z=>by lia⟩
   ·rw [if_neg oM]
    obtain⟨p,ep,mp⟩:=ha (hint+o) (by lia)
    refine aw (s_beyond hC hk qk ep mp ?_)
    dsimp only
    cases uN:bB val left key arr base (hint+o) with
    | true =>
     rw [if_neg (by decide)]
     exact aA ⟨rfl,o,2*o+1,rfl,by lia,by lia,by lia,uN⟩
    | false =>
     rw [if_pos (by decide)]
     exact aA ⟨rfl,l,o,rfl,qS,hl,hb,fun _=>uN⟩
  case post =>
   rintro c ly ⟨rfl,l,o,rfl,qS,hl,hb,uN⟩
   dsimp only
   refine aw (dg (zlT (val:=val) (left:=left) (key:=key) (arr:=arr) (base:=base) hs (by lia) (by lia) (fun i hi=>zdq hs (by lia) hl hb) (fun i hi qT=>(by
    by_cases ho:hint+o < n
    ·exact up (by lia) qT (uN ho)
    ·lia)) (fun x l' r' R xS k1 k2=>?_)) ?_)
   ·dsimp only
    by_cases oM:l'≥r'
    ·rw [if_pos oM]
     exact aA (k1 oM)
    ·rw [if_neg oM]
     obtain⟨p,ep,mp⟩:=ha (l'+(r' - l') / 2) (by lia)
     refine aw (s_beyond hC hk qk ep mp ?_)
     have k3:=k2 (by lia)
     dsimp only
     cases Az:bB val left key arr base (l'+(r' - l') / 2) with
     | true=>rw [Az] at k3; rw [if_pos rfl] at k3 ⊢; exact aA k3
     | false=>rw [Az] at k3; rw [if_neg (by decide)] at k3 ⊢; exact aA k3
   ·rintro c n8 ⟨rfl,l,rfl,hl,b1,b2⟩
    exact aA (h l hl b1 b2)
 | false =>
  (simp only [bw,if_false])
  refine aw (dg (bZ (I:=fun x c ly=>ly=st∧∃ l o,c=(none,l,o)∧l < o∧x+1≤o∧l≤hint∧bB val left key arr base (hint - l)=false)
   (Q:=fun c ly=>ly=st∧∃ l o,c=(none,l,o)∧l < o∧l≤hint∧bB val left key arr base (hint - l)=false∧(o≤hint→bB val left key arr base (hint - o)=true)) ?step ?fin ⟨rfl,0,1,rfl,by lia,by lia,by lia,hr⟩) ?post)
  case fin =>
   rintro c ly ⟨rfl,l,o,rfl,qS,hx,hl,hb⟩
   exact⟨rfl,l,o,rfl,qS,hl,hb,fun z=>by lia⟩
  case step =>
   rintro x c ly _ DI ⟨rfl,l,o,rfl,qS,hx,hl,hb⟩
   dsimp only
   by_cases oM:o≥hint+1
   ·rw [if_pos oM]
    exact aA ⟨rfl,l,o,rfl,qS,hl,hb,fun z=>by lia⟩
   ·rw [if_neg oM]
    obtain⟨p,ep,mp⟩:=ha (hint - o) (by lia)
    refine aw (s_beyond hC hk qk ep mp ?_)
    dsimp only
    cases uN:bB val left key arr base (hint - o) with
    | false =>
     rw [if_neg (by decide)]
     exact aA ⟨rfl,o,2*o+1,rfl,by lia,by lia,by lia,uN⟩
    | true =>
     rw [if_pos rfl]
     exact aA ⟨rfl,l,o,rfl,qS,hl,hb,fun _=>uN⟩
  case post =>
   rintro c ly ⟨rfl,l,o,rfl,qS,hl,hb,uN⟩
   dsimp only
   refine aw (dg (zlT (val:=val) (left:=left) (key:=key) (arr:=arr) (base:=base) hs (by lia) (by lia) (fun i hi=>(by
    by_cases ho:o≤hint
    ·exact zdq hs (by lia) (by lia) (uN ho)
    ·lia)) (fun i hi qT=>up hi qT hb) (fun x l' r' R xS k1 k2=>?_)) ?_)
   ·dsimp only
    by_cases oM:l'≥r'
    ·rw [if_pos oM]
     exact aA (k1 oM)
    ·rw [if_neg oM]
     obtain⟨p,ep,mp⟩:=ha (l'+(r' - l') / 2) (by lia)
     refine aw (s_beyond hC hk qk ep mp ?_)
     have k3:=k2 (by lia)
     dsimp only
     cases Az:bB val left key arr base (l'+(r' - l') / 2) with
     | true=>rw [Az] at k3; rw [if_pos rfl] at k3 ⊢; exact aA k3
     | false=>rw [Az] at k3; rw [if_neg (by decide)] at k3 ⊢; exact aA k3
   ·rintro c n8 ⟨rfl,l,rfl,hl,b1,b2⟩
    exact aA (h l hl b1 b2)
end
end Srt
end
section
namespace Srt
open PySem PyProof.Rows
abbrev zas (st:SortSt) (g:Nat):SortSt:=kL (kindOf st) (arrOf st) (pendingOf st) g (failedOf st)
theorem zdM (g:Nat):zc3 g=modify fun s=>zas s g:=rfl
def Le (val:Keyed→Int) (xs ys:List Keyed):Prop:=∀ x∈xs,∀ y∈ys,val x≤val y
def Ris (val:Keyed→Int) (xs:List Keyed):Prop:=xs.Pairwise fun x y=>val x≤val y
theorem zaz {val:Keyed→Int} {xs ys:List Keyed}:Ris val (xs++ys)↔Ris val xs∧Ris val ys∧Le val xs ys:=jx
structure MI (val:Keyed→Int) (T o l r:List Keyed):Prop where
 perm:(o++l++r).Perm T
 so:Ris val o
 sl:Ris val l
 sr:Ris val r
 ol:Le val o l
 or':Le val o r
def Good (val:Keyed→Int) (T res:List Keyed):Prop:=res.Perm T∧Ris val res
section
variable {val:Keyed→Int} {T o l l1 l2 r r1 r2:List Keyed}
theorem Le.left {xs ys zs:List Keyed} (h:Le val (xs++ys) zs):Le val xs zs:=fun x hx y hy=>h x (aW _ hx) y hy
theorem Le.right {xs ys zs:List Keyed} (h:Le val (xs++ys) zs):Le val ys zs:=fun x hx y hy=>h x (aL _ hx) y hy
theorem Le.app {xs ys zs:List Keyed} (h1:Le val xs zs) (h2:Le val ys zs):Le val (xs++ys) zs:=fun x hx y hy=>by
 rcases bf.mp hx with h | h
 ·exact h1 x h y hy
 ·exact h2 x h y hy
theorem Le.app' {xs ys zs:List Keyed} (h1:Le val xs ys) (h2:Le val xs zs):Le val xs (ys++zs):=fun x hx y hy=>by
 rcases bf.mp hy with h | h
 ·exact h1 x hx y h
 ·exact h2 x hx y h
theorem Le.sub {xs ys zs:List Keyed} (h1:Le val xs (ys++zs)):Le val xs ys∧Le val xs zs:=⟨fun x hx y hy=>h1 x hx y (aW _ hy),fun x hx y hy=>h1 x hx y (aL _ hy)⟩
theorem MI.takeA (h:MI val T o (l1++l2) r) (hle:Le val l1 r):MI val T (o++l1) l2 r:=by
 obtain⟨a1,a2,a3⟩:=zaz.mp h.sl
 obtain⟨b1,b2⟩:=h.ol.sub
 exact⟨by have:=h.perm; simpa [bg] using this,zaz.mpr ⟨h.so,a1,b1⟩,a2,h.sr,b2.app a3,h.or'.app hle⟩
theorem MI.takeB (h:MI val T o l (r1++r2)) (hle:Le val r1 l):MI val T (o++r1) l r2:=by
 obtain⟨a1,a2,a3⟩:=zaz.mp h.sr
 obtain⟨b1,b2⟩:=h.or'.sub
 refine⟨?_,zaz.mpr ⟨h.so,a1,b1⟩,h.sl,a2,h.ol.app hle,b2.app a3⟩
 refine fK ?_ h.perm
 have:(r1++l++r2).Perm (l++r1++r2):=List.perm_append_comm.append_right _
 simpa [bg] using this.append_left o
theorem MI.doneA (h:MI val T o l []):Good val T (o++l):=⟨by have:=h.perm; simpa using this,zaz.mpr ⟨h.so,h.sl,h.ol⟩⟩
theorem MI.doneB (h:MI val T o [] r):Good val T (o++r):=⟨by have:=h.perm; simpa using this,zaz.mpr ⟨h.so,h.sr,h.or'⟩⟩
theorem MI.last (h:MI val T o l r) (hle:Le val r l):Good val T (o++r++l):=by
 refine⟨fK ?_ h.perm,?_⟩
 ·rw [bg,bg]
  exact List.perm_append_comm.append_left o
 ·exact zaz.mpr ⟨zaz.mpr ⟨h.so,h.sr,h.or'⟩,h.sl,h.ol.app hle⟩
end
section
variable {val:Keyed→Int} {T:List Keyed} {a b out:Array Keyed} {ia ib:Nat}
abbrev MA (val:Keyed→Int) (T:List Keyed) (a b out:Array Keyed) (ia ib:Nat):Prop:=MI val T out.toList (a.toList.drop ia) (b.toList.drop ib)
theorem zej {xs:Array Keyed} {i:Nat} {p:Keyed} (h:xs[i]? = some p):xs.toList.drop i=p :: xs.toList.drop (i+1):=by
 have hi:i < xs.toList.length:=by
  have:=(da.mp h).1
  simpa using this
 rw [cM hi]
 congr 1
 have:=(da.mp h).2
 simpa using this
theorem zdr {xs:Array Keyed} (h:SIn val xs 0 xs.size):∀ i,Ris val (xs.toList.drop i):=by
 have all:Ris val xs.toList:=by
  unfold Ris
  (rw [cP])
  intro i j hi hj p7
  (have oC:i < xs.size:=by simpa using hi)
  (have pV:j < xs.size:=by simpa using hj)
  have:=h i j (bj _) (by lia) pV
  rw [z8 (getElem?_pos xs i oC),z8 (getElem?_pos xs j pV)] at this
  simpa using this
 exact fun i=>ft (List.drop_sublist _ _) all
theorem zek {xs:Array Keyed} {i:Nat} {p q:Keyed} (h:SIn val xs 0 xs.size) (hp:xs[i]? = some p) (hq:q∈xs.toList.drop i):val p≤val q:=by
 have:=zdr h i
 rw [zej hp] at this hq
 rcases (aI.mp hq) with rfl | hq
 ·exact bP _
 ·exact List.rel_of_pairwise_cons this hq
theorem MA.pushB {y x:Keyed} (h:MA val T a b out ia ib) (sa:SIn val a 0 a.size) (hy:b[ib]? = some y) (hx:a[ia]? = some x) (hle:val y≤val x):MA val T a b (out.push y) ia (ib+1):=by
 unfold MA at h ⊢
 rw [zej hy] at h
 have:=MI.takeB (r1:=[y]) h fun p hp q hq=>by
  rw [be.mp hp]
  exact b7 hle (zek sa hx hq)
 simpa using this
theorem MA.pushA {y x:Keyed} (h:MA val T a b out ia ib) (sb:SIn val b 0 b.size) (hy:b[ib]? = some y) (hx:a[ia]? = some x) (hle:val x≤val y):MA val T a b (out.push x) (ia+1) ib:=by
 unfold MA at h ⊢
 rw [zej hx] at h
 have:=MI.takeA (l1:=[x]) h fun p hp q hq=>by
  rw [be.mp hp]
  exact b7 hle (zek sb hy hq)
 simpa using this
theorem zlU (xs:Array Keyed) (i k:Nat):xs.toList.drop i=(xs.extract i (i+k)).toList++xs.toList.drop (i+k):=by
 rw [dD]
 have:(xs.toList.extract i (i+k))=(xs.toList.drop i).take k:=by
  simp [dt] <;> lia
 rw [this,← jl,ck]
theorem zel {xs:Array Keyed} {i k:Nat} {p:Keyed} (h:p∈(xs.extract i (i+k)).toList):∃ j,j < k∧xs[i+j]? = some p:=by
 have e0:(xs.extract i (i+k)).toList=(xs.toList.drop i).take k:=by
  rw [dD]
  simp [dt] <;> lia
 rw [e0] at h
 (obtain⟨j,hj,e⟩:=eS h)
 have tw:j < k∧j < (xs.toList.drop i).length:=by
  rw [av] at hj
  lia
 refine⟨j,tw.1,?_⟩
 rw [← bt,← eZ,ai tw.2,← e,j7]
theorem MA.takeA {y:Keyed} {k:Nat} (h:MA val T a b out ia ib) (sb:SIn val b 0 b.size) (hy:b[ib]? = some y) (hle:∀ i,i < k→Vk val a (ia+i)≤val y):MA val T a b (out++a.extract ia (ia+k)) (ia+k) ib:=by
 unfold MA at h ⊢
 rw [zlU a ia k] at h
 have:=MI.takeA h fun p hp q hq=>by
  obtain⟨j,hj,e⟩:=zel hp
  have:=hle j hj
  rw [z8 e] at this
  exact b7 this (zek sb hy hq)
 simpa using this
theorem MA.takeB {x:Keyed} {k:Nat} (h:MA val T a b out ia ib) (sa:SIn val a 0 a.size) (hx:a[ia]? = some x) (hle:∀ i,i < k→Vk val b (ib+i)≤val x):MA val T a b (out++b.extract ib (ib+k)) ia (ib+k):=by
 unfold MA at h ⊢
 rw [zlU b ib k] at h
 have:=MI.takeB h fun p hp q hq=>by
  obtain⟨j,hj,e⟩:=zel hp
  have:=hle j hj
  rw [z8 e] at this
  exact b7 this (zek sa hx hq)
 simpa using this
theorem zcL (xs:Array Keyed) (i:Nat):(xs.extract i xs.size).toList=xs.toList.drop i:=by
 rw [dD]
 simp only [dt]
 (exact aP (by simp))
theorem MA.doneB (h:MA val T a b out ia ib) (e:ib=b.size):Good val T (out++a.extract ia a.size++b.extract ib b.size).toList:=by
 unfold MA at h
 rw [show b.toList.drop ib = [] from dW (by simp [e])] at h
 have:=h.doneA
 rw [bS,bS,zcL,zcL,show b.toList.drop ib = [] from dW (by simp [e]),bH]
 exact this
theorem MA.doneA (h:MA val T a b out ia ib) (e:ia=a.size):Good val T (out++a.extract ia a.size++b.extract ib b.size).toList:=by
 unfold MA at h
 rw [show a.toList.drop ia = [] from dW (by simp [e])] at h
 have:=h.doneB
 rw [bS,bS,zcL,zcL,show a.toList.drop ia = [] from dW (by simp [e]),bH]
 exact this
theorem MA.last (h:MA val T a b out ia ib) (e:ia+1=a.size) (hl:∀ i,i < b.size→Vk val b i≤Vk val a (a.size - 1)):Good val T (out++b.extract ib b.size++a.extract ia a.size).toList:=by
 unfold MA at h
 have hx:a[ia]? = some (a[ia]'(by lia)):=getElem?_pos a ia (by lia)
 have:=h.last fun p hp q hq=>by
  rw [zej hx,show a.toList.drop (ia+1) = [] from dW (by simp [e])] at hq
  rw [be.mp hq]
  obtain⟨j,hj,ej⟩:=eS (gC hp)
  have pV:j < b.size:=by simpa using hj
  have:=hl j pV
  rw [z8 (getElem?_pos b j pV),show a.size - 1=ia by lia,z8 hx] at this
  rw [← ej]
  simpa using this
 rw [bS,bS,zcL,zcL]
 exact this
end
end Srt
end
section
namespace Srt
open PySem PyProof.Rows
section
variable {prog:Program} {w:World} {A:Around} {E:Value→Shared→Prop} {s:Shared} {a₀:Array Keyed} {κ:SortKind} {val:Keyed→Int}
theorem zds {st:SortSt} {g:Nat} {Q:Unit→SortSt→Prop} (h:Q () (zas st g)):wpS (model prog w) A E s (zc3 g) Q st:=by
 rw [zdM]
 exact dU h
theorem zay {xs:Array Keyed} {i:Nat} (h:i < xs.size):∃ p,xs[i]? = some p∧p∈xs.toList:=⟨xs[i],getElem?_pos xs i h,by simp⟩
theorem zcp {key:Keyed} {arr:Array Keyed} {base i:Nat} (h:bB val true key arr base i=true):Vk val arr (base+i) < val key:=by
 unfold bB at h
 simpa using h
theorem zdt {key:Keyed} {arr:Array Keyed} {base i:Nat} (h:bB val false key arr base i=true):Vk val arr (base+i)≤val key:=by
 unfold bB at h
 simp at h
 lia
theorem zdb {key:Keyed} {arr:Array Keyed} {base i:Nat} (h:bB val true key arr base i=false):val key≤Vk val arr (base+i):=by
 unfold bB at h
 simp at h
 lia
theorem zem {key:Keyed} {arr:Array Keyed} {base i:Nat} (h:bB val false key arr base i=false):val key < Vk val arr (base+i):=by
 unfold bB at h
 simp at h
 exact h
theorem SIn.sub {xs:Array Keyed} {lo hi lo' oC:Nat} (h:SIn val xs lo hi) (h1:lo≤lo') (h2:oC≤hi):SIn val xs lo' oC:=fun i j a b c=>h i j (by lia) b (by lia)
theorem zz {σ α:Type} {M:Model} {c:Prop} {inst:Decidable c} {x y:StateT σ Sem α} {Q:α→σ→Prop} {st:σ} (h:c) (k:wpS M A E s x Q st):wpS M A E s (@ite _ c inst x y) Q st:=by rw [if_pos h]; exact k
theorem zA {σ α:Type} {M:Model} {c:Prop} {inst:Decidable c} {x y:StateT σ Sem α} {Q:α→σ→Prop} {st:σ} (h:¬ c) (k:wpS M A E s y Q st):wpS M A E s (@ite _ c inst x y) Q st:=by rw [if_neg h]; exact k
theorem za5 {σ α:Type} {M:Model} {c:Prop} {inst:Decidable c} {x y:StateT σ Sem α} {Q:α→σ→Prop} {st:σ} (h:c→wpS M A E s x Q st) (k:¬ c→wpS M A E s y Q st):wpS M A E s (@ite _ c inst x y) Q st:=by
 by_cases hc:c
 ·rw [if_pos hc]; exact h hc
 ·rw [if_neg hc]; exact k hc
theorem zkB {st:SortSt} {a b:Array Keyed} {Q:Array Keyed→SortSt→Prop} (hC:Cmp prog w A s κ val a₀) (hk:kindOf st=κ) (ma:∀ p∈a.toList,p∈a₀.toList) (mb:∀ p∈b.toList,p∈a₀.toList)
  (sa:SIn val a 0 a.size) (sb:SIn val b 0 b.size) (h1:1≤a.size) (h2:1≤b.size) (hf:Vk val b 0≤Vk val a 0) (hl:∀ i,i < b.size→Vk val b i≤Vk val a (a.size - 1))
  (h:∀ out g,Good val (a.toList++b.toList) out.toList→Q out (zas st g)):wpS (model prog w) A E s (zlR a b) Q st:=by
 refine zgB ?_
 wp_delta
 wp_delta
 refine zgC ?_
 (refine aw (gO (cn ⟨rfl,?_⟩)))
 obtain⟨y0,wB,Fm⟩:=zay (xs:=b) (i:=0) (by lia)
 obtain⟨x0,wC,Fn⟩:=zay (xs:=a) (i:=0) (by lia)
 refine aw (zZ wB ?_)
 have I0:MA val (a.toList++b.toList) a b #[] 0 0:=⟨by simp,il,zdr sa 0,zdr sb 0,fun x hx=>by simp at hx,fun x hx=>by simp at hx⟩
 have I1:MA val (a.toList++b.toList) a b #[y0] 0 1:=I0.pushB sa wB wC (by rw [z8 wB,z8 wC] at hf; exact hf)
 dsimp only
 by_cases tB:1=b.size
 ·refine zz (by simpa using tB) ?_
  exact aA (h _ (gallopOf st) (I1.doneB tB))
 refine zA (by simpa using tB) ?_
 by_cases vj:0+1=a.size
 ·refine zz (by simpa using vj) ?_
  exact aA (h _ (gallopOf st) (I1.last (by lia) hl))
 refine zA (by simpa using vj) ?_
 refine aw (fo ?_)
 refine aw (dg (bZ (I:=fun x c ly=>∃ g out ia ib mg,ly=zas st g∧c=(none,out,ia,ib,mg)∧MA val (a.toList++b.toList) a b out ia ib∧ia+1 < a.size∧ib < b.size∧x+1≤ia+ib)
  (Q:=fun c ly=>∃ g r o,ly=zas st g∧c=(some r,o)∧Good val (a.toList++b.toList) r.toList) ?step ?fin ⟨gallopOf st,#[y0],0,1,gallopOf st,rfl,rfl,I1,by lia,by lia,by lia⟩) ?post)
 case post =>
  rintro c ly ⟨g,r,o,rfl,rfl,hG⟩
  exact aA (h _ g hG)
 case fin =>
  rintro c ly ⟨g,out,ia,ib,mg,rfl,rfl,hI,b1,b2,b3⟩
  lia
 case step =>
  rintro x c ly _ hx ⟨g,out,ia,ib,mg,rfl,rfl,hI,b1,b2,b3⟩
  dsimp only
  refine aw (dg (bZ (I:=fun x c ly=>ly=zas st g∧∃ lU n5 nU ac bc,c=(none,lU,n5,nU,ac,bc)∧MA val (a.toList++b.toList) a b lU n5 nU∧n5+1 < a.size∧nU < b.size∧ia+ib+x≤n5+nU)
   (Q:=fun c ly=>ly=zas st g∧((∃ r o,c=(some r,o)∧Good val (a.toList++b.toList) r.toList)∨∃ lU n5 nU ac bc,c=(none,lU,n5,nU,ac,bc)∧MA val (a.toList++b.toList) a b lU n5 nU∧n5+1 < a.size∧nU < b.size∧ia+ib+1≤n5+nU)) ?step1 ?fin1 ⟨rfl,out,ia,ib,0,0,rfl,hI,b1,b2,by lia⟩) ?post1)
  case fin1 =>
   rintro c ly ⟨rfl,lU,n5,nU,ac,bc,rfl,hI,b1,b2,b3⟩
   exact⟨rfl,.inr ⟨lU,n5,nU,ac,bc,rfl,hI,b1,b2,by lia⟩⟩
  case step1 =>
   rintro x1 c ly _ AA ⟨rfl,lU,n5,nU,ac,bc,rfl,hI,b1,b2,b3⟩
   dsimp only
   obtain⟨y,ey,my⟩:=zay (xs:=b) (i:=nU) (by lia)
   obtain⟨z,ez,mz⟩:=zay (xs:=a) (i:=n5) (by lia)
   refine aw (zZ ey (aw (zZ ez (aw (zlO hC hk (mb y my) (ma z mz) ?_)))))
   dsimp only
   by_cases BF:val y < val z
   ·refine zz (by simpa using BF) ?_
    refine aw (zZ ey ?_)
    have pW:=hI.pushB sa ey ez (by lia)
    by_cases e1:nU+1=b.size
    ·refine zz (by simpa using e1) ?_
     exact aA ⟨rfl,.inl ⟨_,_,rfl,pW.doneB e1⟩⟩
    refine zA (by simpa using e1) ?_
    refine za5 (fun _=>?_) (fun _=>?_)
    ·exact aA ⟨rfl,.inr ⟨_,_,_,_,_,rfl,pW,b1,by lia,by lia⟩⟩
    ·exact aA ⟨rfl,_,_,_,_,_,rfl,pW,b1,by lia,by lia⟩
   ·refine zA (by simpa using BF) ?_
    refine aw (zZ ez ?_)
    have pW:=hI.pushA sb ey ez (by lia)
    by_cases e1:n5+1+1=a.size
    ·refine zz (by simpa using e1) ?_
     exact aA ⟨rfl,.inl ⟨_,_,rfl,pW.last e1 hl⟩⟩
    refine zA (by simpa using e1) ?_
    refine za5 (fun _=>?_) (fun _=>?_)
    ·exact aA ⟨rfl,.inr ⟨_,_,_,_,_,rfl,pW,by lia,b2,by lia⟩⟩
    ·exact aA ⟨rfl,_,_,_,_,_,rfl,pW,by lia,b2,by lia⟩
  case post1 =>
   rintro c ly ⟨rfl,hc⟩
   rcases hc with ⟨r,o,rfl,hG⟩ | ⟨yF,Fo,Fp,Fq,Fs,rfl,Ft,c1,c2,c3⟩
   ·exact aA ⟨g,r,_,rfl,rfl,hG⟩
   dsimp only
   (refine aw (gO (cn ⟨rfl,?_⟩)))
   refine aw (dg (bZ (I:=fun x c ly=>∃ g lU n5 nU mg ac bc,ly=zas st g∧c=(none,lU,n5,nU,mg,ac,bc)∧MA val (a.toList++b.toList) a b lU n5 nU∧n5+1 < a.size∧nU < b.size∧Fo+Fp≤n5+nU)
    (Q:=fun c ly=>∃ g,ly=zas st g∧((∃ r o,c=(some r,o)∧Good val (a.toList++b.toList) r.toList)∨∃ lU n5 nU mg ac bc,c=(none,lU,n5,nU,mg,ac,bc)∧MA val (a.toList++b.toList) a b lU n5 nU∧n5+1 < a.size∧nU < b.size∧Fo+Fp≤n5+nU)) ?step2 ?fin2 ⟨g,yF,Fo,Fp,_,Fq,Fs,rfl,rfl,Ft,c1,c2,af _⟩) ?post2)
   case fin2 =>
    rintro c ly ⟨g,lU,n5,nU,mg,ac,bc,rfl,rfl,hI,b1,b2,b3⟩
    exact⟨g,rfl,.inr ⟨lU,n5,nU,mg,ac,bc,rfl,hI,b1,b2,b3⟩⟩
   case post2 =>
    rintro c ly ⟨g,rfl,hc⟩
    rcases hc with ⟨r,o,rfl,hG⟩ | ⟨yG,ia2,ib2,mg2,ac2,bc2,rfl,pW,d1,d2,d3⟩
    ·exact aA ⟨g,r,_,rfl,rfl,hG⟩
    dsimp only
    refine aw (zds (aA ⟨_,yG,ia2,ib2,_,rfl,rfl,pW,d1,d2,by lia⟩))
   case step2 =>
    rintro x2 c ly _ ur ⟨g,lU,n5,nU,Fu,ac,bc,rfl,rfl,hI,b1,b2,b3⟩
    dsimp only
    obtain⟨y,ey,my⟩:=zay (xs:=b) (i:=nU) (by lia)
    by_cases wO:Fu > 1
    all_goals
     first
      | refine zz wO ?_
      | refine zA wO ?_
     refine aw (zds (aw (zZ ey (aw (zbB hC hk (mb y my) (fun i hi=>(by
      obtain⟨p,ep,mp⟩:=zay (xs:=a) (i:=n5+i) (by lia)
      exact⟨p,ep,ma p mp⟩)) (sa.sub (by lia) (by lia)) (by lia) fun k BG pf wD=>?_)))))
     dsimp only
     have pW:=hI.takeA (k:=k) sb ey fun i hi=>zdt (pf i hi)
     by_cases vi:k > 0
     ·refine zz vi ?_
      by_cases e1:n5+k+1=a.size
      ·refine zz (by simpa using e1) ?_
       exact aA ⟨_,rfl,.inl ⟨_,_,rfl,pW.last e1 hl⟩⟩
      refine zA (by simpa using e1) ?_
      by_cases e2:n5+k=a.size
      ·refine zz (by simpa using e2) ?_
       exact aA ⟨_,rfl,.inl ⟨_,_,rfl,pW.doneA e2⟩⟩
      refine zA (by simpa using e2) ?_
      refine aw (zZ ey ?_)
      obtain⟨z,ez,mz⟩:=zay (xs:=a) (i:=n5+k) (by lia)
      have tP:=pW.pushB sa ey ez (by have:=zem (wD k (af _) (by lia)); rw [z8 ez] at this; lia)
      by_cases e3:nU+1=b.size
      ·refine zz (by simpa using e3) ?_
       exact aA ⟨_,rfl,.inl ⟨_,_,rfl,tP.doneB e3⟩⟩
      refine zA (by simpa using e3) ?_
      refine aw (zZ ez (aw (zbB hC hk (ma z mz) (fun i hi=>(by
       obtain⟨p,ep,mp⟩:=zay (xs:=b) (i:=nU+1+i) (by lia)
       exact⟨p,ep,mb p mp⟩)) (sb.sub (by lia) (by lia)) (by lia) fun j yE tw xc=>?_)))
      dsimp only
      have uO:=tP.takeB (k:=j) sa ez fun i hi=>fq (zcp (tw i hi))
      by_cases tQ:j > 0
      ·refine zz tQ ?_
       by_cases e4:nU+1+j=b.size
       ·refine zz (by simpa using e4) ?_
        exact aA ⟨_,rfl,.inl ⟨_,_,rfl,uO.doneB e4⟩⟩
       refine zA (by simpa using e4) ?_
       obtain⟨y2,ql,xf⟩:=zay (xs:=b) (i:=nU+1+j) (by lia)
       refine aw (zZ ez ?_)
       have oU:=uO.pushA sb ql ez (by have:=zdb (xc j (af _) (by lia)); rw [z8 ql] at this; exact this)
       by_cases e9:n5+k+1+1=a.size
       ·refine zz (by simpa using e9) ?_
        exact aA ⟨_,rfl,.inl ⟨_,_,rfl,oU.last e9 hl⟩⟩
       refine zA (by simpa using e9) ?_
       refine za5 (fun _=>?_) (fun _=>?_)
       ·exact aA ⟨_,rfl,.inr ⟨_,_,_,_,_,_,rfl,oU,by lia,by lia,by lia⟩⟩
       ·exact aA ⟨_,_,_,_,_,_,_,rfl,rfl,oU,by lia,by lia,by lia⟩
      ·refine zA tQ ?_
       have yH:j=0:=by lia
       subst yH
       obtain⟨y2,ql,xf⟩:=zay (xs:=b) (i:=nU+1) (by lia)
       refine aw (zZ ez ?_)
       have oU:=tP.pushA sb ql ez (by have:=zdb (xc 0 (af _) (by lia)); rw [fU,z8 ql] at this; exact this)
       by_cases e9:n5+k+1+1=a.size
       ·refine zz (by simpa using e9) ?_
        exact aA ⟨_,rfl,.inl ⟨_,_,rfl,oU.last e9 hl⟩⟩
       refine zA (by simpa using e9) ?_
       refine za5 (fun _=>?_) (fun _=>?_)
       ·exact aA ⟨_,rfl,.inr ⟨_,_,_,_,_,_,rfl,oU,by lia,by lia,by lia⟩⟩
       ·exact aA ⟨_,_,_,_,_,_,_,rfl,rfl,oU,by lia,by lia,by lia⟩
     ·refine zA vi ?_
      have Fv:k=0:=by lia
      subst Fv
      refine aw (zZ ey ?_)
      obtain⟨z,ez,mz⟩:=zay (xs:=a) (i:=n5) (by lia)
      have tP:=hI.pushB sa ey ez (by have:=zem (wD 0 (af _) (by lia)); rw [fU,z8 ez] at this; lia)
      by_cases e3:nU+1=b.size
      ·refine zz (by simpa using e3) ?_
       exact aA ⟨_,rfl,.inl ⟨_,_,rfl,tP.doneB e3⟩⟩
      refine zA (by simpa using e3) ?_
      refine aw (zZ ez (aw (zbB hC hk (ma z mz) (fun i hi=>(by
       obtain⟨p,ep,mp⟩:=zay (xs:=b) (i:=nU+1+i) (by lia)
       exact⟨p,ep,mb p mp⟩)) (sb.sub (by lia) (by lia)) (by lia) fun j yE tw xc=>?_)))
      dsimp only
      have uO:=tP.takeB (k:=j) sa ez fun i hi=>fq (zcp (tw i hi))
      by_cases tQ:j > 0
      ·refine zz tQ ?_
       by_cases e4:nU+1+j=b.size
       ·refine zz (by simpa using e4) ?_
        exact aA ⟨_,rfl,.inl ⟨_,_,rfl,uO.doneB e4⟩⟩
       refine zA (by simpa using e4) ?_
       obtain⟨y2,ql,xf⟩:=zay (xs:=b) (i:=nU+1+j) (by lia)
       refine aw (zZ ez ?_)
       have oU:=uO.pushA sb ql ez (by have:=zdb (xc j (af _) (by lia)); rw [z8 ql] at this; exact this)
       by_cases e9:n5+1+1=a.size
       ·refine zz (by simpa using e9) ?_
        exact aA ⟨_,rfl,.inl ⟨_,_,rfl,oU.last e9 hl⟩⟩
       refine zA (by simpa using e9) ?_
       refine za5 (fun _=>?_) (fun _=>?_)
       ·exact aA ⟨_,rfl,.inr ⟨_,_,_,_,_,_,rfl,oU,by lia,by lia,by lia⟩⟩
       ·exact aA ⟨_,_,_,_,_,_,_,rfl,rfl,oU,by lia,by lia,by lia⟩
      ·refine zA tQ ?_
       have yH:j=0:=by lia
       subst yH
       obtain⟨y2,ql,xf⟩:=zay (xs:=b) (i:=nU+1) (by lia)
       refine aw (zZ ez ?_)
       have oU:=tP.pushA sb ql ez (by have:=zdb (xc 0 (af _) (by lia)); rw [fU,z8 ql] at this; exact this)
       by_cases e9:n5+1+1=a.size
       ·refine zz (by simpa using e9) ?_
        exact aA ⟨_,rfl,.inl ⟨_,_,rfl,oU.last e9 hl⟩⟩
       refine zA (by simpa using e9) ?_
       refine za5 (fun _=>?_) (fun _=>?_)
       ·exact aA ⟨_,rfl,.inr ⟨_,_,_,_,_,_,rfl,oU,by lia,by lia,by lia⟩⟩
       ·exact aA ⟨_,_,_,_,_,_,_,rfl,rfl,oU,by lia,by lia,by lia⟩
end
end Srt
end
section
namespace Srt
open PySem PyProof.Rows
structure MH (val:Keyed→Int) (T l r o:List Keyed):Prop where
 perm:(l++r++o).Perm T
 so:Ris val o
 sl:Ris val l
 sr:Ris val r
 lo:Le val l o
 ro:Le val r o
section
variable {val:Keyed→Int} {T o l l1 l2 r r1 r2:List Keyed}
theorem MH.takeA (h:MH val T (l1++l2) r o) (hle:Le val r l2):MH val T l1 r (l2++o):=by
 obtain⟨a1,a2,a3⟩:=zaz.mp h.sl
 refine⟨?_,zaz.mpr ⟨a2,h.so,h.lo.right⟩,a1,h.sr,a3.app' h.lo.left,hle.app' h.ro⟩
 refine fK ?_ h.perm
 have:(r++l2).Perm (l2++r):=List.perm_append_comm
 have:=(this.append_left l1).append_right o
 simpa [bg] using this
theorem MH.takeB (h:MH val T l (r1++r2) o) (hle:Le val l r2):MH val T l r1 (r2++o):=by
 obtain⟨a1,a2,a3⟩:=zaz.mp h.sr
 exact⟨by have:=h.perm; simpa [bg] using this,zaz.mpr ⟨a2,h.so,h.ro.right⟩,h.sl,a1,hle.app' h.lo,a3.app' h.ro.left⟩
theorem MH.doneA (h:MH val T [] r o):Good val T (r++o):=⟨by have:=h.perm; simpa using this,zaz.mpr ⟨h.sr,h.so,h.ro⟩⟩
theorem MH.doneB (h:MH val T l [] o):Good val T (l++o):=⟨by have:=h.perm; simpa using this,zaz.mpr ⟨h.sl,h.so,h.lo⟩⟩
theorem MH.first (h:MH val T l r o) (hle:Le val r l):Good val T (r++l++o):=by
 refine⟨fK (List.perm_append_comm.append_right _) h.perm,?_⟩
 exact zaz.mpr ⟨zaz.mpr ⟨h.sr,h.sl,hle⟩,h.so,h.ro.app h.lo⟩
end
section
variable {val:Keyed→Int} {T:List Keyed} {a b out:Array Keyed} {na nb:Nat}
abbrev MB (val:Keyed→Int) (T:List Keyed) (a b out:Array Keyed) (na nb:Nat):Prop:=MH val T (a.toList.take na) (b.toList.take nb) out.toList.reverse
theorem zjw {xs:Array Keyed} {n:Nat} {p:Keyed} (h:xs[n]? = some p):xs.toList.take (n+1)=xs.toList.take n++[p]:=by
 rw [List.take_succ,bt,h]
 rfl
theorem zhN {xs:Array Keyed} (h:SIn val xs 0 xs.size) (i:Nat):Ris val (xs.toList.take i):=by
 have:=zdr h 0
 rw [dn] at this
 exact ft (bU _ _) this
theorem zeY {xs:Array Keyed} {n:Nat} {p:Keyed} (h:p∈xs.toList.take n):∃ j,j < n∧j < xs.size∧xs[j]? = some p:=by
 (obtain⟨j,hj,e⟩:=eS h)
 have tw:j < n∧j < xs.toList.length:=by
  rw [av] at hj
  lia
 refine⟨j,tw.1,by simpa using tw.2,?_⟩
 rw [← bt,ai tw.2,← e,j7]
theorem zen {xs:Array Keyed} {n:Nat} {p q:Keyed} (h:SIn val xs 0 xs.size) (hp:xs[n]? = some p) (hq:q∈xs.toList.take (n+1)):val q≤val p:=by
 obtain⟨j,hj,tH,e⟩:=zeY hq
 have hn:=(da.mp hp).1
 have:=h j n (bj _) (by lia) hn
 rw [z8 e,z8 hp] at this
 exact this
theorem MB.pushA {y x:Keyed} (h:MB val T a b out (na+1) nb) (sb:SIn val b 0 b.size) (hn:1≤nb) (hy:b[nb - 1]? = some y) (hx:a[na]? = some x) (hle:val y≤val x):MB val T a b (out.push x) na nb:=by
 unfold MB at h ⊢
 rw [zjw hx] at h
 have:=MH.takeA h fun p hp q hq=>by
  rw [be.mp hq]
  exact b7 (zen sb hy (by rw [show nb - 1+1=nb by lia]; exact hp)) hle
 simpa using this
theorem MB.pushB {y x:Keyed} (h:MB val T a b out na (nb+1)) (sa:SIn val a 0 a.size) (hn:1≤na) (hy:b[nb]? = some y) (hx:a[na - 1]? = some x) (hle:val x≤val y):MB val T a b (out.push y) na nb:=by
 unfold MB at h ⊢
 rw [zjw hy] at h
 have:=MH.takeB h fun p hp q hq=>by
  rw [be.mp hq]
  exact b7 (zen sa hx (by rw [show na - 1+1=na by lia]; exact hp)) hle
 simpa using this
theorem zjx (xs:Array Keyed) {i n:Nat} (h:i≤n):xs.toList.take n=xs.toList.take i++(xs.extract i n).toList:=by
 rw [dD]
 simp only [dt]
 rw [← ck i (xs.toList.take n),kT,cD h,List.drop_take]
theorem MB.takeA {y:Keyed} {at':Nat} (h:MB val T a b out na nb) (sb:SIn val b 0 b.size) (mU:at'≤na) (hn:1≤nb) (hy:b[nb - 1]? = some y) (hle:∀ i,at'≤i→i < na→val y≤Vk val a i):MB val T a b (out++(a.extract at' na).reverse) at' nb:=by
 unfold MB at h ⊢
 rw [zjx a mU] at h
 have:=MH.takeA h fun p hp q hq=>by
  have nZ:q∈(a.extract at' (at'+(na - at'))).toList:=by rw [show at'+(na - at')=na by lia]; exact hq
  obtain⟨j,hj,e⟩:=zel nZ
  have:=hle (at'+j) (by lia) (by lia)
  rw [z8 e] at this
  exact b7 (zen sb hy (by rw [show nb - 1+1=nb by lia]; exact hp)) this
 simpa using this
theorem MB.takeB {x:Keyed} {at':Nat} (h:MB val T a b out na nb) (sa:SIn val a 0 a.size) (mU:at'≤nb) (hn:1≤na) (hx:a[na - 1]? = some x) (hle:∀ i,at'≤i→i < nb→val x≤Vk val b i):MB val T a b (out++(b.extract at' nb).reverse) na at':=by
 unfold MB at h ⊢
 rw [zjx b mU] at h
 have:=MH.takeB h fun p hp q hq=>by
  have nZ:q∈(b.extract at' (at'+(nb - at'))).toList:=by rw [show at'+(nb - at')=nb by lia]; exact hq
  obtain⟨j,hj,e⟩:=zel nZ
  have:=hle (at'+j) (by lia) (by lia)
  rw [z8 e] at this
  exact b7 (zen sa hx (by rw [show na - 1+1=na by lia]; exact hp)) this
 simpa using this
theorem zce (xs:Array Keyed) (n:Nat):(xs.extract 0 n).toList=xs.toList.take n:=by
 rw [dD]
 simp [dt]
theorem MB.doneA (h:MB val T a b out na nb) (e:na=0):Good val T (a.extract 0 na++b.extract 0 nb++out.reverse).toList:=by
 unfold MB at h
 subst e
 have:=MH.doneA h
 rw [bS,bS,zce,zce,dO,iZ,gD]
 exact this
theorem MB.doneB (h:MB val T a b out na nb) (e:nb=0):Good val T (a.extract 0 na++b.extract 0 nb++out.reverse).toList:=by
 unfold MB at h
 subst e
 have:=MH.doneB h
 rw [bS,bS,zce,zce,dO,bH,gD]
 exact this
theorem MB.first (h:MB val T a b out na nb) (e:nb=1) (sa:SIn val a 0 a.size) (h2:1≤b.size) (hf:Vk val b 0≤Vk val a 0):Good val T (b.extract 0 nb++a.extract 0 na++out.reverse).toList:=by
 unfold MB at h
 subst e
 have:=MH.first h fun p hp q hq=>by
  obtain⟨j,hj,tH,ej⟩:=zeY hp
  have tQ:j=0:=by lia
  subst tQ
  obtain⟨i,hi,BH,ei⟩:=zeY hq
  have:=sa 0 i (bj _) (bj _) BH
  rw [z8 ei] at this
  rw [z8 ej] at hf
  lia
 rw [bS,bS,zce,zce,gD]
 exact this
end
section
variable {prog:Program} {w:World} {A:Around} {E:Value→Shared→Prop} {s:Shared} {a₀:Array Keyed} {κ:SortKind} {val:Keyed→Int}
theorem zkC {st:SortSt} {a b:Array Keyed} {Q:Array Keyed→SortSt→Prop} (hC:Cmp prog w A s κ val a₀) (hk:kindOf st=κ) (ma:∀ p∈a.toList,p∈a₀.toList) (mb:∀ p∈b.toList,p∈a₀.toList)
  (sa:SIn val a 0 a.size) (sb:SIn val b 0 b.size) (h1:1≤a.size) (h2:1≤b.size) (hf:Vk val b 0≤Vk val a 0) (hl:∀ i,i < b.size→Vk val b i≤Vk val a (a.size - 1))
  (h:∀ out g,Good val (a.toList++b.toList) out.toList→Q out (zas st g)):wpS (model prog w) A E s (zlS a b) Q st:=by
 refine zgB ?_
 wp_delta
 wp_delta
 refine zgC ?_
 (refine aw (gO (cn ⟨rfl,?_⟩)))
 obtain⟨x0,wC,Fn⟩:=zay (xs:=a) (i:=a.size - 1) (by lia)
 obtain⟨y0,wB,Fm⟩:=zay (xs:=b) (i:=b.size - 1) (by lia)
 refine aw (zZ wC ?_)
 have I0:MB val (a.toList++b.toList) a b #[] (a.size - 1+1) b.size:=by
  refine⟨?_,il,zhN sa _,zhN sb _,fun x _ y hy=>by simp at hy,fun x _ y hy=>by simp at hy⟩
  rw [show a.size - 1+1=a.size by lia,aP (by simp),aP (by simp)]
  simp
 have I1:MB val (a.toList++b.toList) a b #[x0] (a.size - 1) b.size:=I0.pushA sb h2 wB wC (by have:=hl (b.size - 1) (by lia); rw [z8 wB,z8 wC] at this; exact this)
 dsimp only
 by_cases vj:a.size - 1=0
 ·refine zz (by simpa using vj) ?_
  exact aA (h _ (gallopOf st) (I1.doneA vj))
 refine zA (by simpa using vj) ?_
 by_cases tB:b.size=1
 ·refine zz (by simpa using tB) ?_
  exact aA (h _ (gallopOf st) (I1.first tB sa h2 hf))
 refine zA (by simpa using tB) ?_
 refine aw (fo ?_)
 refine aw (dg (bZ (I:=fun x c ly=>∃ g out na nb mg,ly=zas st g∧c=(none,na,nb,out,mg)∧MB val (a.toList++b.toList) a b out na nb∧1≤na∧2≤nb∧na≤a.size∧nb≤b.size∧x+na+nb+1≤a.size+b.size)
  (Q:=fun c ly=>∃ g r o,ly=zas st g∧c=(some r,o)∧Good val (a.toList++b.toList) r.toList) ?step ?fin ⟨gallopOf st,#[x0],a.size - 1,b.size,gallopOf st,rfl,rfl,I1,by lia,by lia,by lia,by lia,by lia⟩) ?post)
 case post =>
  rintro c ly ⟨g,r,o,rfl,rfl,hG⟩
  exact aA (h _ g hG)
 case fin =>
  rintro c ly ⟨g,out,na,nb,mg,rfl,rfl,hI,b1,b2,b3⟩
  lia
 case step =>
  rintro x c ly _ hx ⟨g,out,na,nb,mg,rfl,rfl,hI,b1,b2,b4,b5,b3⟩
  dsimp only
  refine aw (dg (bZ (I:=fun x c ly=>ly=zas st g∧∃ lU oH oI ac bc,c=(none,oH,oI,lU,ac,bc)∧MB val (a.toList++b.toList) a b lU oH oI∧1≤oH∧2≤oI∧oH≤a.size∧oI≤b.size∧x+oH+oI≤na+nb)
   (Q:=fun c ly=>ly=zas st g∧((∃ r o,c=(some r,o)∧Good val (a.toList++b.toList) r.toList)∨∃ lU oH oI ac bc,c=(none,oH,oI,lU,ac,bc)∧MB val (a.toList++b.toList) a b lU oH oI∧1≤oH∧2≤oI∧oH≤a.size∧oI≤b.size∧1+oH+oI≤na+nb)) ?step1 ?fin1 ⟨rfl,out,na,nb,0,0,rfl,hI,b1,b2,b4,b5,by lia⟩) ?post1)
  case fin1 =>
   rintro c ly ⟨rfl,lU,oH,oI,ac,bc,rfl,hI,b1,b2,b4,b5,b3⟩
   exact⟨rfl,.inr ⟨lU,oH,oI,ac,bc,rfl,hI,b1,b2,b4,b5,by lia⟩⟩
  case step1 =>
   rintro x1 c ly _ AA ⟨rfl,lU,oH,oI,ac,bc,rfl,hI,b1,b2,b4,b5,b3⟩
   dsimp only
   obtain⟨n1,rfl⟩:∃ n1,oH=n1+1:=⟨oH - 1,by lia⟩
   obtain⟨m1,rfl⟩:∃ m1,oI=m1+1:=⟨oI - 1,by lia⟩
   simp only [cT]
   obtain⟨y,ey,my⟩:=zay (xs:=b) (i:=m1) (by lia)
   obtain⟨z,ez,mz⟩:=zay (xs:=a) (i:=n1) (by lia)
   refine aw (zZ ey (aw (zZ ez (aw (zlO hC hk (mb y my) (ma z mz) ?_)))))
   dsimp only
   by_cases BF:val y < val z
   ·refine zz (by simpa using BF) ?_
    refine aw (zZ ez ?_)
    have pW:=hI.pushA sb (by lia) ey ez (by lia)
    by_cases e1:n1=0
    ·refine zz (by simpa using e1) ?_
     exact aA ⟨rfl,.inl ⟨_,_,rfl,pW.doneA e1⟩⟩
    refine zA (by simpa using e1) ?_
    refine za5 (fun _=>?_) (fun _=>?_)
    ·exact aA ⟨rfl,.inr ⟨_,_,_,_,_,rfl,pW,by lia,by lia,by lia,by lia,by lia⟩⟩
    ·exact aA ⟨rfl,_,_,_,_,_,rfl,pW,by lia,by lia,by lia,by lia,by lia⟩
   ·refine zA (by simpa using BF) ?_
    refine aw (zZ ey ?_)
    have pW:=hI.pushB sa (by lia) ey ez (by lia)
    by_cases e1:m1=1
    ·refine zz (by simpa using e1) ?_
     exact aA ⟨rfl,.inl ⟨_,_,rfl,pW.first e1 sa h2 hf⟩⟩
    refine zA (by simpa using e1) ?_
    refine za5 (fun _=>?_) (fun _=>?_)
    ·exact aA ⟨rfl,.inr ⟨_,_,_,_,_,rfl,pW,by lia,by lia,by lia,by lia,by lia⟩⟩
    ·exact aA ⟨rfl,_,_,_,_,_,rfl,pW,by lia,by lia,by lia,by lia,by lia⟩
  case post1 =>
   rintro c ly ⟨rfl,hc⟩
   rcases hc with ⟨r,o,rfl,hG⟩ | ⟨yF,Fw,Fx,Fq,Fs,rfl,Ft,c1,c2,c4,c5,c3⟩
   ·exact aA ⟨g,r,_,rfl,rfl,hG⟩
   dsimp only
   (refine aw (gO (cn ⟨rfl,?_⟩)))
   refine aw (dg (bZ (I:=fun x c ly=>∃ g lU oH oI mg ac bc,ly=zas st g∧c=(none,oH,oI,lU,mg,ac,bc)∧MB val (a.toList++b.toList) a b lU oH oI∧1≤oH∧2≤oI∧oH≤a.size∧oI≤b.size∧oH+oI≤Fw+Fx)
    (Q:=fun c ly=>∃ g,ly=zas st g∧((∃ r o,c=(some r,o)∧Good val (a.toList++b.toList) r.toList)∨∃ lU oH oI mg ac bc,c=(none,oH,oI,lU,mg,ac,bc)∧MB val (a.toList++b.toList) a b lU oH oI∧1≤oH∧2≤oI∧oH≤a.size∧oI≤b.size∧oH+oI≤Fw+Fx)) ?step2 ?fin2 ⟨g,yF,Fw,Fx,_,Fq,Fs,rfl,rfl,Ft,c1,c2,c4,c5,af _⟩) ?post2)
   case fin2 =>
    rintro c ly ⟨g,lU,oH,oI,mg,ac,bc,rfl,rfl,hI,b1,b2,b4,b5,b3⟩
    exact⟨g,rfl,.inr ⟨lU,oH,oI,mg,ac,bc,rfl,hI,b1,b2,b4,b5,b3⟩⟩
   case post2 =>
    rintro c ly ⟨g,rfl,hc⟩
    rcases hc with ⟨r,o,rfl,hG⟩ | ⟨yG,na2,nb2,mg2,ac2,bc2,rfl,pW,d1,d2,d4,d5,d3⟩
    ·exact aA ⟨g,r,_,rfl,rfl,hG⟩
    dsimp only
    refine aw (zds (aA ⟨_,yG,na2,nb2,_,rfl,rfl,pW,d1,d2,d4,d5,by lia⟩))
   case step2 =>
    rintro x2 c ly _ ur ⟨g,lU,oH,oI,Fu,ac,bc,rfl,rfl,hI,b1,b2,b4,b5,b3⟩
    dsimp only
    obtain⟨m1,rfl⟩:∃ m1,oI=m1+1:=⟨oI - 1,by lia⟩
    simp only [cT]
    obtain⟨y,ey,my⟩:=zay (xs:=b) (i:=m1) (by lia)
    by_cases wO:Fu > 1
    all_goals
     first
      | refine zz wO ?_
      | refine zA wO ?_
     refine aw (zds (aw (zZ ey (aw (zbB hC hk (mb y my) (fun i hi=>(by
      obtain⟨p,ep,mp⟩:=zay (xs:=a) (i:=0+i) (by lia)
      exact⟨p,ep,ma p mp⟩)) (sa.sub (by lia) (by lia)) (by lia) fun k BG pf wD=>?_)))))
     dsimp only
     have pW:=hI.takeA (at':=k) sb BG (by lia) ey fun i h1 h2=>fq (by have:=zem (wD i h1 h2); rwa [dB] at this)
     by_cases vi:oH - k > 0
     ·refine zz vi ?_
      by_cases e1:k=0
      ·refine zz (by simpa using e1) ?_
       exact aA ⟨_,rfl,.inl ⟨_,_,rfl,pW.doneA e1⟩⟩
      refine zA (by simpa using e1) ?_
      obtain⟨n1,rfl⟩:∃ n1,k=n1+1:=⟨k - 1,by lia⟩
      simp only [cT]
      refine aw (zZ ey ?_)
      obtain⟨z,ez,mz⟩:=zay (xs:=a) (i:=n1) (by lia)
      have tP:=pW.pushB sa (by lia) ey (show a[n1+1 - 1]? = some z by rw [cT]; exact ez) (by have:=zdt (pf n1 (by lia)); rw [dB,z8 ez] at this; exact this)
      by_cases e3:m1=1
      ·refine zz (by simpa using e3) ?_
       exact aA ⟨_,rfl,.inl ⟨_,_,rfl,tP.first e3 sa h2 hf⟩⟩
      refine zA (by simpa using e3) ?_
      refine aw (zZ ez (aw (zbB hC hk (ma z mz) (fun i hi=>(by
       obtain⟨p,ep,mp⟩:=zay (xs:=b) (i:=0+i) (by lia)
       exact⟨p,ep,mb p mp⟩)) (sb.sub (by lia) (by lia)) (by lia) fun j yE tw xc=>?_)))
      dsimp only
      have uO:=tP.takeB (at':=j) sa yE (by lia) (show a[n1+1 - 1]? = some z by rw [cT]; exact ez) fun i h1 h2=>(by have:=zdb (xc i h1 h2); rwa [dB] at this)
      by_cases tQ:m1 - j > 0
      ·refine zz tQ ?_
       by_cases e4:j=1
       ·refine zz (by simpa using e4) ?_
        exact aA ⟨_,rfl,.inl ⟨_,_,rfl,uO.first e4 sa h2 hf⟩⟩
       refine zA (by simpa using e4) ?_
       by_cases e5:j=0
       ·refine zz (by simpa using e5) ?_
        exact aA ⟨_,rfl,.inl ⟨_,_,rfl,uO.doneB e5⟩⟩
       refine zA (by simpa using e5) ?_
       obtain⟨y2,ql,xf⟩:=zay (xs:=b) (i:=j - 1) (by lia)
       refine aw (zZ ez ?_)
       have oU:=uO.pushA sb (by lia) ql ez (by have:=zcp (tw (j - 1) (by lia)); rw [dB,z8 ql] at this; lia)
       by_cases e9:n1=0
       ·refine zz (by simpa using e9) ?_
        exact aA ⟨_,rfl,.inl ⟨_,_,rfl,oU.doneA e9⟩⟩
       refine zA (by simpa using e9) ?_
       refine za5 (fun _=>?_) (fun _=>?_)
       ·exact aA ⟨_,rfl,.inr ⟨_,_,_,_,_,_,rfl,oU,by lia,by lia,by lia,by lia,by lia⟩⟩
       ·exact aA ⟨_,_,_,_,_,_,_,rfl,rfl,oU,by lia,by lia,by lia,by lia,by lia⟩
      ·refine zA tQ ?_
       have Fy:j=m1:=by lia
       subst Fy
       obtain⟨y2,ql,xf⟩:=zay (xs:=b) (i:=j - 1) (by lia)
       refine aw (zZ ez ?_)
       have oU:=tP.pushA sb (by lia) ql ez (by have:=zcp (tw (j - 1) (by lia)); rw [dB,z8 ql] at this; lia)
       by_cases e9:n1=0
       ·refine zz (by simpa using e9) ?_
        exact aA ⟨_,rfl,.inl ⟨_,_,rfl,oU.doneA e9⟩⟩
       refine zA (by simpa using e9) ?_
       refine za5 (fun _=>?_) (fun _=>?_)
       ·exact aA ⟨_,rfl,.inr ⟨_,_,_,_,_,_,rfl,oU,by lia,by lia,by lia,by lia,by lia⟩⟩
       ·exact aA ⟨_,_,_,_,_,_,_,rfl,rfl,oU,by lia,by lia,by lia,by lia,by lia⟩
     ·refine zA vi ?_
      have DJ:k=oH:=by lia
      subst DJ
      obtain⟨n1,rfl⟩:∃ n1,k=n1+1:=⟨k - 1,by lia⟩
      simp only [cT]
      refine aw (zZ ey ?_)
      obtain⟨z,ez,mz⟩:=zay (xs:=a) (i:=n1) (by lia)
      have tP:=hI.pushB sa (by lia) ey (show a[n1+1 - 1]? = some z by rw [cT]; exact ez) (by have:=zdt (pf n1 (by lia)); rw [dB,z8 ez] at this; exact this)
      by_cases e3:m1=1
      ·refine zz (by simpa using e3) ?_
       exact aA ⟨_,rfl,.inl ⟨_,_,rfl,tP.first e3 sa h2 hf⟩⟩
      refine zA (by simpa using e3) ?_
      refine aw (zZ ez (aw (zbB hC hk (ma z mz) (fun i hi=>(by
       obtain⟨p,ep,mp⟩:=zay (xs:=b) (i:=0+i) (by lia)
       exact⟨p,ep,mb p mp⟩)) (sb.sub (by lia) (by lia)) (by lia) fun j yE tw xc=>?_)))
      dsimp only
      have uO:=tP.takeB (at':=j) sa yE (by lia) (show a[n1+1 - 1]? = some z by rw [cT]; exact ez) fun i h1 h2=>(by have:=zdb (xc i h1 h2); rwa [dB] at this)
      by_cases tQ:m1 - j > 0
      ·refine zz tQ ?_
       by_cases e4:j=1
       ·refine zz (by simpa using e4) ?_
        exact aA ⟨_,rfl,.inl ⟨_,_,rfl,uO.first e4 sa h2 hf⟩⟩
       refine zA (by simpa using e4) ?_
       by_cases e5:j=0
       ·refine zz (by simpa using e5) ?_
        exact aA ⟨_,rfl,.inl ⟨_,_,rfl,uO.doneB e5⟩⟩
       refine zA (by simpa using e5) ?_
       obtain⟨y2,ql,xf⟩:=zay (xs:=b) (i:=j - 1) (by lia)
       refine aw (zZ ez ?_)
       have oU:=uO.pushA sb (by lia) ql ez (by have:=zcp (tw (j - 1) (by lia)); rw [dB,z8 ql] at this; lia)
       by_cases e9:n1=0
       ·refine zz (by simpa using e9) ?_
        exact aA ⟨_,rfl,.inl ⟨_,_,rfl,oU.doneA e9⟩⟩
       refine zA (by simpa using e9) ?_
       refine za5 (fun _=>?_) (fun _=>?_)
       ·exact aA ⟨_,rfl,.inr ⟨_,_,_,_,_,_,rfl,oU,by lia,by lia,by lia,by lia,by lia⟩⟩
       ·exact aA ⟨_,_,_,_,_,_,_,rfl,rfl,oU,by lia,by lia,by lia,by lia,by lia⟩
      ·refine zA tQ ?_
       have Fy:j=m1:=by lia
       subst Fy
       obtain⟨y2,ql,xf⟩:=zay (xs:=b) (i:=j - 1) (by lia)
       refine aw (zZ ez ?_)
       have oU:=tP.pushA sb (by lia) ql ez (by have:=zcp (tw (j - 1) (by lia)); rw [dB,z8 ql] at this; lia)
       by_cases e9:n1=0
       ·refine zz (by simpa using e9) ?_
        exact aA ⟨_,rfl,.inl ⟨_,_,rfl,oU.doneA e9⟩⟩
       refine zA (by simpa using e9) ?_
       refine za5 (fun _=>?_) (fun _=>?_)
       ·exact aA ⟨_,rfl,.inr ⟨_,_,_,_,_,_,rfl,oU,by lia,by lia,by lia,by lia,by lia⟩⟩
       ·exact aA ⟨_,_,_,_,_,_,_,rfl,rfl,oU,by lia,by lia,by lia,by lia,by lia⟩
end
end Srt
end
section
namespace Srt
open PySem PyProof.Rows
def wb (sa:Nat) (l:List (Keyed×Nat)) (xs:Array Keyed):Array Keyed:=l.foldl (fun a (p,j)=>a.setIfInBounds (sa+j) p) xs
theorem zlV (sa:Nat):∀ (l:List Keyed) (n:Nat) (xs:Array Keyed) (k:Nat),sa+n+l.length≤xs.size→(wb sa (l.zipIdx n) xs)[k]? = if sa+n≤k∧k < sa+n+l.length then l[k - (sa+n)]? else xs[k]?
 | [],n,xs,k,h=>by
  rw [if_neg (by simp only [i4]; lia)]
  rfl
 | p :: l,n,xs,k,h=>by
  have hl:(p :: l).length=l.length+1:=rfl
  rw [hl] at h ⊢
  show (wb sa (l.zipIdx (n+1)) (xs.setIfInBounds (sa+n) p))[k]? = _
  rw [zlV sa l (n+1) _ k (by rw [Array.size_setIfInBounds]; lia)]
  by_cases h1:sa+(n+1)≤k∧k < sa+(n+1)+l.length
  ·rw [if_pos h1,if_pos (by lia),show k - (sa+n)=k - (sa+(n+1))+1 by lia,cE]
  ·rw [if_neg h1,Array.getElem?_setIfInBounds]
   by_cases h2:sa+n=k
   ·rw [if_pos h2,if_pos (by lia),if_pos (by lia),show k - (sa+n)=0 by lia]
    rfl
   ·rw [if_neg h2,if_neg (by lia)]
theorem znw {sa:Nat} {m xs:Array Keyed} (h:sa+m.size≤xs.size):(wb sa m.toList.zipIdx xs).toList=xs.toList.take sa++m.toList++xs.toList.drop (sa+m.size):=by
 have hm:m.toList.length=m.size:=by simp
 have hx:xs.toList.length=xs.size:=by simp
 refine gd fun k=>?_
 rw [bt,zlV sa m.toList 0 xs k (by rw [hm]; lia),hm,fU]
 by_cases h1:k < sa
 ·rw [if_neg (by lia),bg,bo (by rw [av]; lia),bL h1,bt]
 ·by_cases h2:k < sa+m.size
  ·rw [if_pos (by lia),bg,bN (by rw [av]; lia),av,hx,show min sa xs.size=sa by lia,bo (by lia)]
  ·rw [if_neg (by lia),bN (by rw [aq,av]; lia),aq,av,hx,show min sa xs.size=sa by lia,hm,eZ,show sa+m.size+(k - (sa+m.size))=k by lia,bt]
theorem zkD (xs:List Keyed) {i j k:Nat} (h1:i≤j) (h2:j≤k):xs=xs.take i++((xs.drop i).take (j - i)++(xs.drop j).take (k - j))++xs.drop k:=by
 have e1:xs.drop i=(xs.drop i).take (j - i)++xs.drop j:=by
  have:=(ck (j - i) (xs.drop i)).symm
  rwa [jl,show i+(j - i)=j by lia] at this
 have e2:xs.drop j=(xs.drop j).take (k - j)++xs.drop k:=by
  have:=(ck (k - j) (xs.drop j)).symm
  rwa [jl,show j+(k - j)=k by lia] at this
 have e0:=(ck i xs).symm
 rw [e1,e2] at e0
 rw [bg,bg]
 exact e0
theorem zdu (xs:Array Keyed) (i j:Nat):(xs.extract i j).toList=(xs.toList.drop i).take (j - i):=by
 rw [dD]
theorem znx {sa sb e:Nat} {m xs:Array Keyed} (h1:sa≤sb) (h2:sb≤e) (h3:e≤xs.size) (hp:m.toList.Perm ((xs.extract sa sb).toList++(xs.extract sb e).toList)):(wb sa m.toList.zipIdx xs).Perm xs:=by
 have DK:m.size=e - sa:=by
  have:=hp.length_eq
  rw [aq,zdu,zdu,av,av,b8,b8] at this
  have hx:xs.toList.length=xs.size:=by simp
  have hm:m.toList.length=m.size:=by simp
  lia
 rw [fG,znw (by lia),show sa+m.size=e by lia]
 refine fK ((hp.append_left _).append_right _) ?_
 rw [zdu,zdu,← zkD xs.toList h1 h2]
section
variable {prog:Program} {w:World} {A:Around} {E:Value→Shared→Prop} {s:Shared} {a₀:Array Keyed} {κ:SortKind} {val:Keyed→Int}
theorem zdc {xs:Array Keyed} {i j k:Nat} (h:k < j - i) (hj:j≤xs.size):(xs.extract i j)[k]? = xs[i+k]?:=by
 rw [← bt,zdu,bL h,eZ,bt]
theorem zdv {xs:Array Keyed} {i j:Nat} (hj:j≤xs.size):(xs.extract i j).size=j - i:=by rw [Array.size_extract,cD hj]
theorem zjy {xs:Array Keyed} {i j:Nat} (hj:j≤xs.size) (h:SIn val xs i j):SIn val (xs.extract i j) 0 (xs.extract i j).size:=by
 rw [zdv hj]
 intro p q _ hpq hq
 rw [zad (zdc (by lia) hj),zad (zdc hq hj)]
 exact h _ _ (by lia) (by lia) (by lia)
theorem zeo {xs:Array Keyed} {i j:Nat} (hj:j≤xs.size) {p:Keyed} (h:p∈(xs.extract i j).toList):∃ k,i≤k∧k < j∧xs[k]? = some p:=by
 obtain⟨k,hk,e⟩:=eS h
 have uF:k < j - i:=by
  rwa [bF,zdv hj] at hk
 refine⟨i+k,by lia,by lia,?_⟩
 rw [← zdc uF hj,← bt,ai hk,e]
theorem zkE {st:SortSt} {i sa na pw sb nb pw2:Nat} {Q:Bool→SortSt→Prop} (hC:Cmp prog w A s κ val a₀) (hB:SB κ a₀ st) (e1:(pendingOf st)[i]? = some (sa,na,pw)) (e2:(pendingOf st)[i+1]? = some (sb,nb,pw2))
  (n6:sb=sa+na) (Fz:1≤na) (hnb:1≤nb) (hsz:sb+nb≤a₀.size) (sA:SIn val (arrOf st) sa (sa+na)) (sB:SIn val (arrOf st) sb (sb+nb))
  (h:∀ ly,SB κ a₀ ly→pendingOf ly=((pendingOf st).setIfInBounds i (sa,na+nb,pw)).eraseIdxIfInBounds (i+1)→(∀ k,(k < sa∨sb+nb≤k)→(arrOf ly)[k]? = (arrOf st)[k]?)→SIn val (arrOf ly) sa (sb+nb)→Q true ly) :
  wpS (model prog w) A E s (mergeAt' i) Q st:=by
 refine zgB ?_
 wp_delta
 wp_delta
 refine zgC ?_
 refine aw (fo ?_)
 rw [e1,e2]
 dsimp only
 have BI:=hB.size
 obtain⟨y0,wB,Fm⟩:=hB.mem (i:=sb) (by lia)
 generalize yI:(sortPriv% PySem.Builtin.SortState.mk) (kindOf st) (arrOf st) (((pendingOf st).setIfInBounds i (sa,na+nb,pw)).eraseIdxIfInBounds (i+1)) (gallopOf st) (failedOf st)=n4
 have vH:SB κ a₀ n4:=by subst yI; exact⟨hB.perm,hB.kind,hB.failed⟩
 have qU:pendingOf n4=((pendingOf st).setIfInBounds i (sa,na+nb,pw)).eraseIdxIfInBounds (i+1):=by subst yI; rfl
 have vj:arrOf n4=arrOf st:=by subst yI; rfl
 have xg:∀ n,n < a₀.size→∃ p,(arrOf st)[n]? = some p∧p∈a₀.toList:=fun n hn=>hB.mem hn
 refine aw (show wpS _ _ _ _ (set n4) _ st from dU (f:=fun _=>n4) ?_)
 refine aw (zZ wB (aw (zbB (arr:=arrOf st) hC vH.kind Fm (fun j hj=>xg (sa+j) (by lia)) sA (by lia) fun k BG pf wD=>?_)))
 dsimp only
 have BJ:∀ j,sa≤j→j < sa+k→Vk val (arrOf st) j≤Vk val (arrOf st) sb:=fun j h1 h2=>by
  have:=zdt (pf (j - sa) (by lia))
  rwa [show sa+(j - sa)=j by lia,← z8 (val:=val) wB] at this
 by_cases vi:na - k=0
 ·rw [if_pos (by simpa using vi)]
  refine aA (h n4 vH qU (fun _ _=>by rw [vj]) ?_)
  rw [vj]
  intro p q h1 h2 h3
  by_cases hq:q < sa+na
  ·exact sA p q h1 h2 hq
  ·by_cases hp:p < sa+na
   ·exact b7 (BJ p h1 (by lia)) (sB sb q (by lia) (by lia) h3)
   ·exact sB p q (by lia) h2 h3
 rw [if_neg (by simpa using vi)]
 have BK:sa+k+(na - k) - 1=sa+na - 1:=by lia
 rw [BK]
 obtain⟨x0,wC,Fn⟩:=hB.mem (i:=sa+na - 1) (by lia)
 refine aw (zZ wC (aw (zbB (arr:=arrOf st) hC vH.kind Fn (fun j hj=>xg (sb+j) (by lia)) sB (by lia) fun m sC rD FA=>?_)))
 dsimp only
 have xT:∀ j,sb+m≤j→j < sb+nb→Vk val (arrOf st) (sa+na - 1)≤Vk val (arrOf st) j:=fun j h1 h2=>by
  have:=zdb (FA (j - sb) (by lia) (by lia))
  rwa [show sb+(j - sb)=j by lia,← z8 (val:=val) wC] at this
 have FC:∀ j,sb≤j→j < sb+m→Vk val (arrOf st) j < Vk val (arrOf st) (sa+na - 1):=fun j h1 h2=>by
  have:=zcp (rD (j - sb) (by lia))
  rwa [show sb+(j - sb)=j by lia,← z8 (val:=val) wC] at this
 by_cases hm0:m=0
 ·rw [if_pos (by simpa using hm0)]
  refine aA (h n4 vH qU (fun _ _=>by rw [vj]) ?_)
  rw [vj]
  intro p q h1 h2 h3
  by_cases hq:q < sa+na
  ·exact sA p q h1 h2 hq
  ·by_cases hp:p < sa+na
   ·exact b7 (sA p (sa+na - 1) h1 (by lia) (by lia)) (xT q (by lia) h3)
   ·exact sB p q (by lia) h2 h3
 rw [if_neg (by simpa using hm0)]
 have zx:(arrOf st).size=a₀.size:=BI
 have z1:=zdv (xs:=arrOf st) (i:=sa+k) (j:=sb) (by lia)
 have z2:=zdv (xs:=arrOf st) (i:=sb) (j:=sb+m) (by lia)
 have hf:Vk val ((arrOf st).extract sb (sb+m)) 0≤Vk val ((arrOf st).extract (sa+k) sb) 0:=by
  rw [zad (zdc (by lia) (by lia)),zad (zdc (xs:=arrOf st) (i:=sa+k) (j:=sb) (k:=0) (by lia) (by lia))]
  have:=zem (wD k (af _) (by lia))
  rw [← z8 (val:=val) wB] at this
  simp only [fU] at this ⊢
  lia
 have hl:∀ j,j < ((arrOf st).extract sb (sb+m)).size→Vk val ((arrOf st).extract sb (sb+m)) j≤Vk val ((arrOf st).extract (sa+k) sb) (((arrOf st).extract (sa+k) sb).size - 1):=by
  intro j hj
  rw [z2] at hj
  rw [z1,zad (zdc (by lia) (by lia)),zad (zdc (xs:=arrOf st) (i:=sa+k) (j:=sb) (by lia) (by lia))]
  have:=FC (sb+j) (by lia) (by lia)
  rw [show sa+k+(sb - (sa+k) - 1)=sa+na - 1 by lia]
  lia
 have fin:∀ (out:Array Keyed) (g:Nat),Good val (((arrOf st).extract (sa+k) sb).toList++((arrOf st).extract sb (sb+m)).toList) out.toList →
   wpS (model prog w) A E s (do
    modify fun s=>setArr s (out.toList.zipIdx.foldl (fun a (p,j)=>a.setIfInBounds (sa+k+j) p) (arrOf s))
    let s' ← get
    pure (failedOf s').isNone) Q (zas n4 g):=by
  intro out g hG
  refine aw (dU (aw (fo ?_)))
  have DK:out.size=sb+m - (sa+k):=by
   have:=hG.1.length_eq
   rw [aq] at this
   have e1:out.toList.length=out.size:=by simp
   have e2:((arrOf st).extract (sa+k) sb).toList.length=sb - (sa+k):=by rw [bF,z1]
   have e3:((arrOf st).extract sb (sb+m)).toList.length=sb+m - sb:=by rw [bF,z2]
   lia
  have rE:=znx (xs:=arrOf st) (sa:=sa+k) (sb:=sb) (e:=sb+m) (by lia) (by lia) (by lia) hG.1
  have mU:∀ n,(wb (sa+k) out.toList.zipIdx (arrOf st))[n]? = if sa+k≤n∧n < sb+m then out[n - (sa+k)]? else (arrOf st)[n]?:=fun n=>by
   have:=zlV (sa+k) out.toList 0 (arrOf st) n (by rw [bF]; lia)
   rw [bF,fU,DK,show sa+k+(sb+m - (sa+k))=sb+m by lia,bt] at this
   exact this
  have Bd:(failedOf (setArr (zas n4 g) (wb (sa+k) out.toList.zipIdx (arrOf st)))).isNone=true:=by
   show (failedOf n4).isNone=true
   rw [vH.failed]
   rfl
  have FD:arrOf (zas n4 g)=arrOf st:=vj
  show wpS _ _ _ _ (pure (failedOf (setArr (zas n4 g) (wb (sa+k) out.toList.zipIdx (arrOf (zas n4 g))))).isNone) Q (setArr (zas n4 g) (wb (sa+k) out.toList.zipIdx (arrOf (zas n4 g))))
  rw [FD,Bd]
  refine aA (h _ ⟨rE.trans hB.perm,vH.kind,vH.failed⟩ qU (fun n hn=>?_) ?_)
  ·show (wb (sa+k) out.toList.zipIdx (arrOf st))[n]? = _
   rw [mU,if_neg (by lia)]
  ·show SIn val (wb (sa+k) out.toList.zipIdx (arrOf st)) sa (sb+nb)
   have qT:∀ n,sa+k≤n→n < sb+m→∃ q,sa+k≤q∧q < sb+m∧Vk val (wb (sa+k) out.toList.zipIdx (arrOf st)) n=Vk val (arrOf st) q:=fun n h1 h2=>by
    have ho:n - (sa+k) < out.size:=by lia
    have uh:out[n - (sa+k)]? = some out[n - (sa+k)]:=getElem?_pos out _ ho
    have n9:out[n - (sa+k)]∈((arrOf st).extract (sa+k) sb).toList++((arrOf st).extract sb (sb+m)).toList:=hG.1.mem_iff.mp (by simp)
    have hv:Vk val (wb (sa+k) out.toList.zipIdx (arrOf st)) n=val out[n - (sa+k)]:=z8 (by rw [mU,if_pos ⟨h1,h2⟩,uh])
    rcases bf.mp n9 with n9 | n9
    ·obtain⟨q,q1,q2,q3⟩:=zeo (by lia) n9
     exact⟨q,q1,by lia,by rw [hv,z8 q3]⟩
    ·obtain⟨q,q1,q2,q3⟩:=zeo (by lia) n9
     exact⟨q,by lia,q2,by rw [hv,z8 q3]⟩
   have qV:∀ n,¬ (sa+k≤n∧n < sb+m)→Vk val (wb (sa+k) out.toList.zipIdx (arrOf st)) n=Vk val (arrOf st) n:=fun n hn=>zad (by rw [mU,if_neg hn])
   intro p q h1 h2 h3
   by_cases hp:p < sa+k
   ·rw [qV p (by lia)]
    by_cases hq:q < sa+k
    ·rw [qV q (by lia)]
     exact sA p q h1 h2 (by lia)
    ·have key:∀ q',sa+k≤q'→q' < sb+nb→Vk val (arrOf st) p≤Vk val (arrOf st) q':=fun q' a1 a2=>by
      by_cases oJ:q' < sb
      ·exact sA p q' h1 (by lia) (by lia)
      ·exact b7 (BJ p h1 hp) (sB sb q' (by lia) (by lia) a2)
     by_cases nZ:q < sb+m
     ·obtain⟨q',q1,q2,q3⟩:=qT q (by lia) nZ
      rw [q3]
      exact key q' q1 (by lia)
     ·rw [qV q (by lia)]
      exact key q (by lia) h3
   ·by_cases oO:p < sb+m
    ·by_cases nZ:q < sb+m
     ·have BM:p - (sa+k) < out.size:=by lia
      have uh:q - (sa+k) < out.size:=by lia
      rw [z8 (p:=out[p - (sa+k)]) (by rw [mU,if_pos (by lia)]; exact getElem?_pos out _ BM),z8 (p:=out[q - (sa+k)]) (by rw [mU,if_pos (by lia)]; exact getElem?_pos out _ uh)]
      by_cases hpq:p=q
      ·subst hpq
       exact bP _
      ·have:=cP.mp hG.2 (p - (sa+k)) (q - (sa+k)) (by simpa using BM) (by simpa using uh) (by lia)
       simpa using this
     ·obtain⟨p',p1,p2,p3⟩:=qT p (by lia) oO
      rw [p3,qV q (by lia)]
      by_cases qL:p' < sb
      ·exact b7 (sA p' (sa+na - 1) (by lia) (by lia) (by lia)) (xT q (by lia) h3)
      ·exact sB p' q (by lia) (by lia) h3
    ·rw [qV p (by lia),qV q (by lia)]
     exact sB p q (by lia) h2 h3
 have ma:∀ p∈((arrOf st).extract (sa+k) sb).toList,p∈a₀.toList:=fun p hp=>by
  obtain⟨q,q1,q2,q3⟩:=zeo (by lia) hp
  obtain⟨p',e,m'⟩:=xg q (by lia)
  rw [q3] at e
  cases e
  exact m'
 have mb:∀ p∈((arrOf st).extract sb (sb+m)).toList,p∈a₀.toList:=fun p hp=>by
  obtain⟨q,q1,q2,q3⟩:=zeo (by lia) hp
  obtain⟨p',e,m'⟩:=xg q (by lia)
  rw [q3] at e
  cases e
  exact m'
 have ss1:=zjy (val:=val) (xs:=arrOf st) (i:=sa+k) (j:=sb) (by lia) (sA.sub (by lia) (by lia))
 have ss2:=zjy (val:=val) (xs:=arrOf st) (i:=sb) (j:=sb+m) (by lia) (sB.sub (by lia) (by lia))
 by_cases hle:na - k≤m
 ·rw [if_pos hle]
  exact aw (zkB (a:=(arrOf st).extract (sa+k) sb) (b:=(arrOf st).extract sb (sb+m)) hC vH.kind ma mb ss1 ss2 (by lia) (by lia) hf hl fin)
 ·rw [if_neg hle]
  exact aw (zkC (a:=(arrOf st).extract (sa+k) sb) (b:=(arrOf st).extract sb (sb+m)) hC vH.kind ma mb ss1 ss2 (by lia) (by lia) hf hl fin)
end
end Srt
end
section
namespace Srt
open PySem PyProof.Rows
def Runs (val:Keyed→Int) (xs:Array Keyed):List (Nat×Nat×Nat)→Nat→Nat→Prop
 | [],lo,hi=>lo=hi
 | (s,n,_) :: r,lo,hi=>s=lo∧1≤n∧SIn val xs lo (lo+n)∧Runs val xs r (lo+n) hi
section
variable {val:Keyed→Int}
theorem Runs.le {xs:Array Keyed}:∀ {p:List (Nat×Nat×Nat)} {lo hi:Nat},Runs val xs p lo hi→lo+p.length≤hi
 | [],lo,hi,h=>by
  have h:lo=hi:=h
  simp only [i4]
  lia
 | (s,n,w) :: r,lo,hi,h=>by
  obtain⟨_,h1,_,h2⟩:=h
  have:=h2.le
  simp only [bn]
  lia
theorem Runs.append {xs:Array Keyed}:∀ {p q:List (Nat×Nat×Nat)} {lo hi:Nat},Runs val xs (p++q) lo hi↔∃ mid,Runs val xs p lo mid∧Runs val xs q mid hi
 | [],q,lo,hi=>⟨fun h=>⟨lo,rfl,h⟩,fun ⟨mid,h1,h2⟩=>by
   have h1:lo=mid:=h1
   subst h1
   exact h2⟩
 | (s,n,w) :: p,q,lo,hi=>by
  constructor
  ·rintro⟨h1,h2,h3,h4⟩
   obtain⟨mid,h5,h6⟩:=Runs.append.mp h4
   exact⟨mid,⟨h1,h2,h3,h5⟩,h6⟩
  ·rintro⟨mid,⟨h1,h2,h3,h5⟩,h6⟩
   exact⟨h1,h2,h3,Runs.append.mpr ⟨mid,h5,h6⟩⟩
theorem Runs.keep {xs ys:Array Keyed}:∀ {p:List (Nat×Nat×Nat)} {lo hi:Nat},Runs val xs p lo hi→(∀ k,lo≤k→k < hi→ys[k]? = xs[k]?)→Runs val ys p lo hi
 | [],lo,hi,h,_=>h
 | (s,n,w) :: p,lo,hi,h,e=>by
  obtain⟨h1,h2,h3,h4⟩:=h
  have:=h4.le
  refine⟨h1,h2,fun i j a b c=>?_,h4.keep fun k a b=>e k (by lia) b⟩
  rw [zad (e i (by lia) (by lia)),zad (e j (by lia) (by lia))]
  exact h3 i j a b c
theorem zlW {α:Type} (p q:List α) (x y v:α):((p++x :: y :: q).toArray.setIfInBounds p.length v).eraseIdxIfInBounds (p.length+1)=(p++v :: q).toArray:=by
 simp [Array.eraseIdxIfInBounds]
 rw [List.eraseIdx_append_of_length_le (by lia),show p.length+1 - p.length=1 by lia]
 rfl
theorem zhO {α:Type} (q:List α) (z:α) (f:α→α):(q++[z]).toArray.modify ((q++[z]).toArray.size - 1) f=(q++[f z]).toArray:=by
 apply Array.ext'
 simp
 induction q with
 | nil=>rfl
 | cons a q ih =>
  show (a :: (q++[z])).modify (q.length+1) f=a :: (q++[f z])
  rw [List.modify_succ_cons,ih]
theorem zjz {xs:Array Keyed} {p:List (Nat×Nat×Nat)} {n:Nat} (hl:p.length≤1) (hn:1≤n) (h:Runs val xs p 0 n):SIn val xs 0 n:=by
 match p,hl,h with
 | [],_,h =>
  have h:0=n:=h
  lia
 | [(a,b,c)],_,h =>
  obtain⟨_,_,h3,h4⟩:=h
  have h4:0+b=n:=h4
  rw [← h4]
  exact h3
 | _ :: _ :: _,hl,_=>simp at hl
theorem zkF {α:Type} {p:List α} {j:Nat} (h:j+2≤p.length):∃ pre x y post,p=pre++x :: y :: post∧pre.length=j:=by
 refine⟨p.take j,p[j],p[j+1],p.drop (j+2),?_,by rw [av]; lia⟩
 have e1:=(ck j p).symm
 rw [cM (show j < p.length by lia),cM (show j+1 < p.length by lia)] at e1
 exact e1
end
section
variable {prog:Program} {w:World} {A:Around} {E:Value→Shared→Prop} {s:Shared} {a₀:Array Keyed} {κ:SortKind} {val:Keyed→Int}
theorem zeZ {st:SortSt} {pre post:List (Nat×Nat×Nat)} {x y:Nat×Nat×Nat} {hi:Nat} {Q:Bool→SortSt→Prop} (hC:Cmp prog w A s κ val a₀) (hB:SB κ a₀ st) (hp:pendingOf st=(pre++x :: y :: post).toArray) (hR:Runs val (arrOf st) (pre++x :: y :: post) 0 hi) (xb:hi≤a₀.size)
  (h:∀ ly v,SB κ a₀ ly→pendingOf ly=(pre++v :: post).toArray→(∀ k,hi≤k→(arrOf ly)[k]? = (arrOf st)[k]?)→Runs val (arrOf ly) (pre++v :: post) 0 hi→Q true ly) :
  wpS (model prog w) A E s (mergeAt' pre.length) Q st:=by
 obtain⟨sa,na,pw⟩:=x
 obtain⟨sb,nb,pw2⟩:=y
 obtain⟨mid,r1,r2⟩:=Runs.append.mp hR
 obtain⟨rfl,q1,q2,rfl,q4,q5,r3⟩:=r2
 have hle:=r3.le
 refine zkE (i:=pre.length) (sa:=sa) (na:=na) (pw:=pw) (sb:=sa+na) (nb:=nb) (pw2:=pw2) hC hB (by rw [hp]; simp) (by rw [hp]; simp) rfl q1 q4 (by lia) q2 q5 fun ly oT qL hk hs=>?_
 refine h ly (sa,na+nb,pw) oT (by rw [qL,hp,zlW]) (fun k uF=>hk k (by lia)) ?_
 refine Runs.append.mpr ⟨sa,r1.keep fun k _ b=>hk k (by lia),rfl,by lia,?_,?_⟩
 ·rw [← Nat.add_assoc]
  exact hs
 ·rw [← Nat.add_assoc]
  exact r3.keep fun k a b=>hk k (by lia)
theorem zny {n:Nat} {c:Prop} [Decidable c] (h:¬ n≤1):(if c then n - 2 - 1 else n - 2)+2≤n:=by
 by_cases hc:c
 ·rw [if_pos hc]
  lia
 ·rw [if_neg hc]
  lia
theorem zlX {st:SortSt} {p:List (Nat×Nat×Nat)} {j hi:Nat} {Q:Bool→SortSt→Prop} (hj:j+2≤p.length) (hC:Cmp prog w A s κ val a₀) (hB:SB κ a₀ st) (hp:pendingOf st=p.toArray) (hR:Runs val (arrOf st) p 0 hi) (xb:hi≤a₀.size)
  (h:∀ ly p',SB κ a₀ ly→pendingOf ly=p'.toArray→Runs val (arrOf ly) p' 0 hi→p'.length+1=p.length→Q true ly):wpS (model prog w) A E s (mergeAt' j) Q st:=by
 obtain⟨pre,x,y,post,rfl,rfl⟩:=zkF hj
 exact zeZ hC hB hp hR xb fun ly v a b _ d=>h ly _ a b d (by simp only [aq,bn]; lia)
theorem zpm {st:SortSt} {Q:Unit→SortSt→Prop} (hC:Cmp prog w A s κ val a₀) (hB:SB κ a₀ st) (hp:pendingOf st = #[]) (h2:1≤a₀.size)
  (h:∀ ly,SB κ a₀ ly→SIn val (arrOf ly) 0 a₀.size→Q () ly):wpS (model prog w) A E s sortRuns' Q st:=by
 rw [sortRuns'_eq]
 refine aw (fo ?_)
 dsimp only
 rw [hB.size]
 generalize minRun' a₀.size a₀.size 0=mr
 refine aw (dg (bZ (I:=fun x c ly=>∃ lo p,c=(none,lo)∧SB κ a₀ ly∧pendingOf ly=p.toArray∧Runs val (arrOf ly) p 0 lo∧lo≤a₀.size∧min x a₀.size≤lo)
  (Q:=fun c ly=>∃ p,c=(none,a₀.size)∧SB κ a₀ ly∧pendingOf ly=p.toArray∧Runs val (arrOf ly) p 0 a₀.size) ?step ?fin ⟨0,[],rfl,hB,hp,rfl,by lia,by lia⟩) ?post)
 case fin =>
  rintro c ly ⟨lo,p,rfl,oT,qL,hR,qS,hx⟩
  have:lo=a₀.size:=by lia
  subst this
  exact⟨p,rfl,oT,qL,hR⟩
 case step =>
  rintro x c ly _ hx ⟨lo,p,rfl,oT,qL,hR,qS,FE⟩
  dsimp only
  by_cases oM:lo≥a₀.size
  ·rw [if_pos oM]
   have:lo=a₀.size:=by lia
   subst this
   exact aA ⟨p,rfl,oT,qL,hR⟩
  rw [if_neg oM]
  refine aw (znt hC (by lia) (by lia) (SF.refl oT) fun m n4 yJ sC rD FF=>?_)
  dsimp only
  by_cases DL:m < mr
  ·rw [if_pos DL]
   (refine aw (gO (cn ⟨rfl,?_⟩)))
   refine aw (zqf hC (by lia) (by lia) yJ FF fun mG AB oE=>?_)
   rw [if_neg (by decide)]
   have xQ:1≤min (a₀.size - lo) mr:=by lia
   have uE:lo+min (a₀.size - lo) mr≤a₀.size:=by lia
   generalize min (a₀.size - lo) mr=n at oE xQ uE ⊢
   refine aw (fo ?_)
   have qU:pendingOf mG=p.toArray:=AB.pend.trans qL
   have vm:Runs val (arrOf mG) p 0 lo:=hR.keep fun k _ b=>AB.low k b
   rcases fu p with rfl | ⟨q,z,rfl⟩
   ·rw [qU]
    show wpS _ _ _ _ (do
     modify fun s=>setPending s ((pendingOf s).push (lo,n,0)); pure (cC (none,lo+n))) _ _
    refine aw (dU (aA ⟨lo+n,[(lo,n,0)],rfl,⟨AB.b.perm,AB.b.kind,AB.b.failed⟩,?_,?_,by lia,by lia⟩))
    ·show (pendingOf mG).push _=_
     rw [qU]
     rfl
    ·have h0:0=lo:=vm
     subst h0
     exact⟨rfl,xQ,oE,rfl⟩
   obtain⟨s1,n1,w1⟩:=z
   rw [qU,dq,show ((q++[(s1,n1,w1)]).toArray).back? = some (s1,n1,w1) by simp]
   rw [dq] at qU vm
   dsimp only
   generalize power' a₀.size (2*s1+n1) (2*s1+n1+n1+n) a₀.size=pw
   refine aw (dg (bZ (I:=fun _ c ly=>c=(none,())∧∃ q' z,SB κ a₀ ly∧pendingOf ly=(q'++[z]).toArray∧Runs val (arrOf ly) (q'++[z]) 0 lo∧(∀ k,lo≤k→(arrOf ly)[k]? = (arrOf mG)[k]?))
    (Q:=fun c ly=>c=(none,())∧∃ q' z,SB κ a₀ ly∧pendingOf ly=(q'++[z]).toArray∧Runs val (arrOf ly) (q'++[z]) 0 lo∧(∀ k,lo≤k→(arrOf ly)[k]? = (arrOf mG)[k]?)) ?_ (fun _ _ hh=>hh) ⟨rfl,q,(s1,n1,w1),AB.b,qU,vm,fun _ _=>rfl⟩) ?_)
   ·rintro x2 c mG _ ur ⟨rfl,q',z,pC,oO,rF,pf⟩
    refine aw (fo ?_)
    rcases fu q' with rfl | ⟨q2,y,rfl⟩
    ·rw [oO,if_neg (by simp)]
     exact aA ⟨rfl,[],z,pC,oO,rF,pf⟩
    rw [dq,bg] at oO rF
    have yK:(pendingOf mG).size - 2=q2.length:=by rw [oO]; simp
    have FG:(if (pendingOf mG).size > 1 then (pendingOf mG)[(pendingOf mG).size - 2]? else none)=some y:=by
     rw [if_pos (by rw [oO]; simp),yK,oO]
     simp
    rw [FG]
    obtain⟨y1,y2,y3⟩:=y
    dsimp only
    by_cases ho:y3≤pw
    ·rw [if_pos ho]
     exact aA ⟨rfl,q2++[(y1,y2,y3)],z,pC,by rw [oO,bg],by rw [bg]; exact rF,pf⟩
    ·rw [if_neg ho,yK]
     refine aw (zeZ hC pC oO rF (by lia) fun Be v BN vn wD BO=>?_)
     rw [if_neg (by decide)]
     exact aA ⟨rfl,q2,v,BN,vn,BO,fun k hk=>(wD k hk).trans (pf k hk)⟩
   ·rintro c mG ⟨rfl,q',z,pC,oO,rF,pf⟩
    obtain⟨z1,z2,z3⟩:=z
    dsimp only
    refine aw (dU (aw (dU (aA ⟨lo+n,q'++[(z1,z2,pw),(lo,n,0)],rfl,⟨pC.perm,pC.kind,pC.failed⟩,?_,?_,by lia,by lia⟩))))
    ·show ((pendingOf mG).modify ((pendingOf mG).size - 1) fun x=>(x.fst,x.2.fst,pw)).push (lo,n,0)=_
     rw [oO,zhO]
     simp
    ·show Runs val (arrOf mG) _ _ _
     obtain⟨mid,r1,r2⟩:=Runs.append.mp rF
     obtain⟨e1,e2,e3,e4⟩:=r2
     have e4:mid+z2=lo:=e4
     refine Runs.append.mpr ⟨mid,r1,e1,e2,e3,e4.symm,xQ,?_,?_⟩
     ·intro i j a1 a2 a3
      rw [zad (pf i (by lia)),zad (pf j (by lia))]
      exact oE i j (by lia) a2 (by lia)
     ·show mid+z2+n=lo+n
      lia
  ·rw [if_neg DL]
   have uE:lo+m≤a₀.size:=by lia
   refine aw (fo ?_)
   have qU:pendingOf n4=p.toArray:=yJ.pend.trans qL
   have vm:Runs val (arrOf n4) p 0 lo:=hR.keep fun k _ b=>yJ.low k b
   rcases fu p with rfl | ⟨q,z,rfl⟩
   ·rw [qU]
    show wpS _ _ _ _ (do
     modify fun s=>setPending s ((pendingOf s).push (lo,m,0))
     pure (cC (none,lo+m))) _ _
    refine aw (dU (aA ⟨lo+m,[(lo,m,0)],rfl,⟨yJ.b.perm,yJ.b.kind,yJ.b.failed⟩,?_,?_,by lia,by lia⟩))
    ·show (pendingOf n4).push _=_
     rw [qU]
     rfl
    ·have h0:0=lo:=vm
     subst h0
     exact⟨rfl,sC,FF,rfl⟩
   obtain⟨s1,n1,w1⟩:=z
   rw [qU,dq,show ((q++[(s1,n1,w1)]).toArray).back? = some (s1,n1,w1) by simp]
   rw [dq] at qU vm
   dsimp only
   generalize power' a₀.size (2*s1+n1) (2*s1+n1+n1+m) a₀.size=pw
   refine aw (dg (bZ (I:=fun _ c ly=>c=(none,())∧∃ q' z,SB κ a₀ ly∧pendingOf ly=(q'++[z]).toArray∧Runs val (arrOf ly) (q'++[z]) 0 lo∧(∀ k,lo≤k→(arrOf ly)[k]? = (arrOf n4)[k]?))
    (Q:=fun c ly=>c=(none,())∧∃ q' z,SB κ a₀ ly∧pendingOf ly=(q'++[z]).toArray∧Runs val (arrOf ly) (q'++[z]) 0 lo∧(∀ k,lo≤k→(arrOf ly)[k]? = (arrOf n4)[k]?)) ?_ (fun _ _ hh=>hh) ⟨rfl,q,(s1,n1,w1),yJ.b,qU,vm,fun _ _=>rfl⟩) ?_)
   ·rintro x2 c mG _ ur ⟨rfl,q',z,pC,oO,rF,pf⟩
    refine aw (fo ?_)
    rcases fu q' with rfl | ⟨q2,y,rfl⟩
    ·rw [oO,if_neg (by simp)]
     exact aA ⟨rfl,[],z,pC,oO,rF,pf⟩
    rw [dq,bg] at oO rF
    have yK:(pendingOf mG).size - 2=q2.length:=by rw [oO]; simp
    have FG:(if (pendingOf mG).size > 1 then (pendingOf mG)[(pendingOf mG).size - 2]? else none)=some y:=by
     rw [if_pos (by rw [oO]; simp),yK,oO]
     simp
    rw [FG]
    obtain⟨y1,y2,y3⟩:=y
    dsimp only
    by_cases ho:y3≤pw
    ·rw [if_pos ho]
     exact aA ⟨rfl,q2++[(y1,y2,y3)],z,pC,by rw [oO,bg],by rw [bg]; exact rF,pf⟩
    ·rw [if_neg ho,yK]
     refine aw (zeZ hC pC oO rF (by lia) fun Be v BN vn wD BO=>?_)
     rw [if_neg (by decide)]
     exact aA ⟨rfl,q2,v,BN,vn,BO,fun k hk=>(wD k hk).trans (pf k hk)⟩
   ·rintro c mG ⟨rfl,q',z,pC,oO,rF,pf⟩
    obtain⟨z1,z2,z3⟩:=z
    dsimp only
    refine aw (dU (aw (dU (aA ⟨lo+m,q'++[(z1,z2,pw),(lo,m,0)],rfl,⟨pC.perm,pC.kind,pC.failed⟩,?_,?_,by lia,by lia⟩))))
    ·show ((pendingOf mG).modify ((pendingOf mG).size - 1) fun x=>(x.fst,x.2.fst,pw)).push (lo,m,0)=_
     rw [oO,zhO]
     simp
    ·show Runs val (arrOf mG) _ _ _
     obtain⟨mid,r1,r2⟩:=Runs.append.mp rF
     obtain⟨e1,e2,e3,e4⟩:=r2
     have e4:mid+z2=lo:=e4
     refine Runs.append.mpr ⟨mid,r1,e1,e2,e3,e4.symm,sC,?_,?_⟩
     ·intro i j a1 a2 a3
      rw [zad (pf i (by lia)),zad (pf j (by lia))]
      exact FF i j (by lia) a2 (by lia)
     ·show mid+z2+m=lo+m
      lia
 case post =>
  rintro c n4 ⟨p,rfl,vH,qU,vm⟩
  dsimp only
  have m8:=vm.le
  refine aw (dg (bZ (I:=fun x c ly=>c=(none,())∧∃ p,SB κ a₀ ly∧pendingOf ly=p.toArray∧Runs val (arrOf ly) p 0 a₀.size∧p.length≤max 1 (a₀.size - x))
   (Q:=fun c ly=>c=(none,())∧SB κ a₀ ly∧SIn val (arrOf ly) 0 a₀.size) ?_ ?_ ⟨rfl,p,vH,qU,vm,by lia⟩) ?_)
  ·rintro x c mG _ hx ⟨rfl,p2,pC,oO,rF,qf⟩
   refine aw (fo ?_)
   have hsz:(pendingOf mG).size=p2.length:=by rw [oO]; simp
   rw [hsz]
   by_cases hle:p2.length≤1
   ·rw [if_pos hle]
    exact aA ⟨rfl,pC,zjz hle h2 rF⟩
   rw [if_neg hle]
   refine aw (zlX (p:=p2) (zny hle) hC pC oO rF (af _) fun Be p3 BN vn BO hl3=>?_)
   rw [if_neg (by decide)]
   exact aA ⟨rfl,p3,BN,vn,BO,by lia⟩
  ·rintro c mG ⟨rfl,p2,pC,oO,rF,qf⟩
   exact⟨rfl,pC,zjz (by lia) h2 rF⟩
  ·rintro c mG ⟨rfl,pC,hS⟩
   exact aA (h mG pC hS)
end
end Srt
end
section
namespace Srt
open PySem PyProof.Rows
def num (B:Int):List Int→Int
 | []=>0
 | n :: r=>n*B ^ r.length+num B r
theorem num_rng {B:Int} (hB:1≤B):∀ {ns:List Int},(∀ n∈ns,0≤n∧n < B)→0≤num B ns∧num B ns < B ^ ns.length
 | [],_=>by simp [num]
 | n :: r,h=>by
  obtain⟨h1,h2⟩:=num_rng hB (ns:=r) fun m hm=>h m (au _ hm)
  obtain⟨a,b⟩:=h n (by simp)
  have hp:0 < B ^ r.length:=Int.pow_pos (by lia)
  have e:B ^ (n :: r).length=B ^ r.length*B:=by rw [bn,dE]
  show 0≤n*B ^ r.length+num B r∧n*B ^ r.length+num B r < _
  rw [e]
  have h3:0≤n*B ^ r.length:=kU a (by lia)
  have h4:n*B ^ r.length≤(B - 1)*B ^ r.length:=dF (by lia) (by lia)
  have h5:(B - 1)*B ^ r.length=B ^ r.length*B - B ^ r.length:=by rw [Int.sub_mul,gk,dG]
  lia
def zhP:List Int→List Int→Bool
 | [],[]=>false
 | [],_ :: _=>true
 | _ :: _,[]=>false
 | x :: xs,y :: ys=>if x=y then zhP xs ys else decide (x < y)
theorem zcM (x y:Int) (xs ys:List Int):zhP (x :: xs) (y :: ys)=if x=y then zhP xs ys else decide (x < y):=rfl
theorem zjA {B:Int} (hB:1≤B):∀ {ms ns:List Int},ms.length=ns.length→(∀ n∈ms,0≤n∧n < B)→(∀ n∈ns,0≤n∧n < B)→zhP ms ns=decide (num B ms < num B ns)
 | [],[],_,_,_=>by simp [zhP,num]
 | [],_ :: _,h,_,_=>by simp at h
 | _ :: _,[],h,_,_=>by simp at h
 | m :: ms,n :: ns,hl,h1,h2=>by
  have yg:ms.length=ns.length:=by simpa using hl
  have ih:=zjA hB yg (fun x hx=>h1 x (au _ hx)) (fun x hx=>h2 x (au _ hx))
  obtain⟨a1,a2⟩:=num_rng hB fun x hx=>h1 x (au m hx)
  obtain⟨b1,b2⟩:=num_rng hB fun x hx=>h2 x (au n hx)
  rw [zcM]
  show _=decide (m*B ^ ms.length+num B ms < n*B ^ ns.length+num B ns)
  rw [yg] at a2 ⊢
  have hp:0 < B ^ ns.length:=Int.pow_pos (by lia)
  by_cases e:m=n
  ·rw [if_pos e,ih,e]
   rw [cL]
   simp only [decide_eq_true_eq]
   lia
  ·rw [if_neg e,cL]
   simp only [decide_eq_true_eq]
   have key:∀ x y:Int,x < y→x*B ^ ns.length+B ^ ns.length≤y*B ^ ns.length:=fun x y hxy=>by
    have:=dF (show x+1≤y by lia) (show 0≤B ^ ns.length by lia)
    rw [Int.add_mul,gk] at this
    exact this
   constructor
   ·intro h
    have:=key m n h
    lia
   ·intro h
    rcases j8 m n with h3 | h3 | h3
    ·exact h3
    ·exact absurd h3 e
    ·have:=key n m h3
     lia
section
variable {prog:Program} {w:World} {A:Around} {E:Value→Shared→Prop} {s:Shared}
theorem zjB {Q:Bool→Shared→Prop} {fin:Bool}:∀ {xs ys:List Value} {ms ns:List Int} (i:Nat),IntsAre xs ms→IntsAre ys ns→ms.length=ns.length→Q (if ms=ns then fin else zhP ms ns) s→PySem.W.KatLex prog w A true fin Q (xs.zip ys) i s
 | [],[],[],[],i,_,_,_,h=>PySem.W.kat_nil (by simpa using h)
 | _ :: _,_,[],_,_,hx,_,_,_=>by cases hx
 | [],_,_ :: _,_,_,hx,_,_,_=>by cases hx
 | _,[],_,_ :: _,_,_,hy,_,_=>by cases hy
 | _,_ :: _,_,[],_,_,hy,_,_=>by cases hy
 | x :: xs,y :: ys,m :: ms,n :: ns,i,hx,hy,hl,h=>by
  cases hx with
  | cons _ t hx =>
   cases hy with
   | cons _ u hy =>
    refine PySem.W.kat_cons (wpAny_eqBool_int ?_)
    by_cases e:m=n
    ·rw [show (m == n)=true by simpa using e]
     refine PySem.W.kat_yes (zjB (i+1) hx hy (by simpa using hl) ?_)
     subst e
     rw [zcM,if_pos rfl] at h
     simpa using h
    ·rw [show (m == n)=false by simpa using e]
     have me:¬ (m :: ms=n :: ns):=fun z=>e (jE z).1
     rw [if_neg me,zcM,if_neg e] at h
     refine PySem.W.kat_no ?_
     by_cases hi:i=0
     ·subst hi
      exact oneLt_int h
     ·have hb:(true && i == 0)=false:=by simp [hi]
      rw [hb]
      exact PySem.W.kat_one _ _ (wpAny_lt_int h)
end
end Srt
end
section
namespace PySem
open PyProof.Rows
def zd6 (h:Heap) (d:Addr) (es:Array DictEntry) (ep:Nat):Prop:=∃ o,h.get? d=some o∧o.ExactDict∧o.data = .dict es ep
theorem zd6.at' {h h':Heap} {d:Addr} {es:Array DictEntry} {ep:Nat} (x:zd6 h d es ep) (e:∀ o,h.get? d=some o→h'.get? d=some o):zd6 h' d es ep:=let ⟨o,ho,r⟩:=x; ⟨o,e _ ho,r⟩
theorem zd6.typeIs {s:Shared} {d:Addr} {es:Array DictEntry} {ep:Nat} (x:zd6 s.heap d es ep):s.TypeIs (.ref d) "dict":=let ⟨o,ho,hc,_⟩:=x; ⟨o,ho,hc.1⟩
section
variable {prog:Program} {w:World} {A:Around} {E:Value→Shared→Prop} {s:Shared} {it d:Addr} {i ep:Nat} {es:Array DictEntry}
theorem zhQ {Q:Value→Shared→Prop} (hd:(d == sysModules)=false) (hm:zd6 s.heap d es ep) (hQ:Q (.ref s.heap.objs.size) { s with heap:=s.heap.push { cls:=.type "dict_keyiterator",data:=.fields #[.ref d,.int 0 0,.int es.size 0,.int ep 0] } }):wpAny (model prog w) A (pyIter (.ref d)) Q E s:=by
 have hT:=hm.typeIs
 obtain⟨o,ho,hc,BP⟩:=id hm
 refine ip hT kw (bD kw hT F.entry_dict_iter ?_ (F.args_dict_iter_1 _)); unfold Builtin.«dict.__iter__» Builtin.Dict.dictSlotNone
 refine ae (ae (jm hT ?_)); show wpAny _ _ (pure (bd d)) _ _ s
 refine ak ?_; show wpAny _ _ (jn d >>= _) _ _ s; unfold jn
 rw [if_neg (show ¬ ((d == sysModules)=true) by rw [hd]; decide)]
 refine ae (ak (ae (ir ho BP (ae (i5 ho BP (ae (bV (ak ⟨_,rfl,"dict_keyiterator",_,⟨_,aO _ rfl,rfl⟩,F.slot_dict_keyiterator_next.lookup,?_⟩))))))))
 simpa [rawInt] using hQ
theorem zhR {e:DictEntry} {Q:Option Value→Shared→Prop} (hit:s.heap.IsKeyIter it d i es.size ep) (hm:zd6 s.heap d es ep) (he:es[i]? = some e)
  (hQ:∀ h',h'.IsKeyIter it d (i+1) es.size ep→bu it s.heap h'→Q (some e.key) { s with heap:=h' }):wpAny (model prog w) A (pyNext (.ref it)) Q E s:=by
 (obtain⟨o,ho,hc,hd⟩:=id hit)
 obtain⟨od,BQ,uB,BR⟩:=id hm
 have lT:i < es.size:=(da.mp he).1
 have yL:gP "dict_keyiterator" = false:=by decide +kernel
 unfold pyNext; refine ae (c9 (br (name:=bW "__next__") hit.typeIs dP (bD dP hit.typeIs gH ?_ (gE _))))
 refine ae (ak (ae (ae (ae (dL hit.typeIs (ak (ae (wpAny_fieldsOf ho hd ?_))))))))
 simp only [yL,bw,if_false]; show wpAny _ _ (if (bd d == dQ)=true then _ else _) _ _ s
 rw [if_neg (show ¬ ((bd d == dQ)=true) from fun z=>aR z)]
 refine ae (ak (ae (ir BQ BR ?_)))
 rw [if_neg (show ¬ ((((es.size:Nat):Int) != ((es.size:Nat):Int))=true) by simp)]
 refine ae (ak (ae (i5 BQ BR ?_)))
 rw [if_neg (by simp)]; refine ak ?_
 simp only [show ¬ ((i:Int) < 0) by lia,if_false,bG,he]
 refine ae (ae (dL hit.typeIs (ak (ae (jo hit.typeIs ?_)))))
 show wpAny _ _ (setField (.ref it) 1 (rawInt ((i:Int)+1)) >>= _) _ _ s; refine ae (eG ho hd (by simp) ?_)
 have tL:(s.heap.update it (hU (·.setIfInBounds 1 (rawInt ((i:Int)+1))))).IsKeyIter it d (i+1) es.size ep:=⟨_,d9 _ ho (fk (dh hd _)),(io ..).trans hc,by rw [dh hd]; simp [rawInt]⟩
 refine ae (bY (ae (jo (s:={ s with heap:=s.heap.update it (hU (·.setIfInBounds 1 (rawInt ((i:Int)+1)))) }) tL.typeIs ?_)))
 show wpAny _ _ (pure e.key) _ _ _; exact ak (ak ⟨_,rfl,ak (hQ _ tL (cZ ..))⟩)
theorem zjC {Q:Option Value→Shared→Prop} (hh:A.handled=none) (hit:s.heap.IsKeyIter it d i es.size ep) (hm:zd6 s.heap d es ep) (he:es.size≤i) (hQ:∀ h',kd it s.heap h'→Q none { s with heap:=h' }):wpAny (model prog w) A (pyNext (.ref it)) Q E s:=by
 (obtain⟨o,ho,hc,hd⟩:=id hit)
 obtain⟨od,BQ,uB,BR⟩:=id hm
 have yL:gP "dict_keyiterator" = false:=by decide +kernel
 unfold pyNext; refine ae (c9 (br (name:=bW "__next__") hit.typeIs dP (bD dP hit.typeIs gH ?_ (gE _))))
 refine ae (ak (ae (ae (ae (dL hit.typeIs (ak (ae (wpAny_fieldsOf ho hd ?_))))))))
 simp only [yL,bw,if_false]; show wpAny _ _ (if (bd d == dQ)=true then _ else _) _ _ s
 rw [if_neg (show ¬ ((bd d == dQ)=true) from fun z=>aR z)]
 refine ae (ak (ae (ir BQ BR ?_)))
 rw [if_neg (show ¬ ((((es.size:Nat):Int) != ((es.size:Nat):Int))=true) by simp)]
 refine ae (ak (ae (i5 BQ BR ?_)))
 rw [if_neg (by simp)]; refine ak ?_
 simp only [show ¬ ((i:Int) < 0) by lia,if_false,bG,Array.getElem?_eq_none he]
 refine ae (ae (dL hit.typeIs (ak ?_)))
 show wpAny _ _ (setField (.ref it) 0 .none >>= _) _ _ s; refine ae (eG ho hd (by simp) ?_)
 show wpAny _ _ (newExc (.type "StopIteration") [] >>= _) _ _ _; simp only [newExc,newTuple]
 refine ae (ae (bV (ae (m:=firstArgMember _ _) (dS (a:=dQ) (by first | rfl | (simp only [firstArgMember]; rfl)) (bV ?_ (by size_fits)))) (by size_fits)))
 simp only [raiseNew]; refine ae (jB ?_); rw [show A.in1.handled=none from hh]
 refine ae (ak (kf ?_)); refine ae (fC (T:="StopIteration") (b:=true) ⟨_,aO _ rfl,rfl⟩ gK ?_)
 (exact ak (hQ _ (((cZ ..).extBut.push _).push _)))
theorem zkG (hh:A.handled=none) (I d:Addr) (me:d≠I) (es:Array DictEntry) (ep:Nat) :
  Walks prog w A I [I,d] [I] es.size (fun i v=>∃ e,es[i]? = some e∧v=e.key) (fun i h=>h.IsKeyIter I d i es.size ep∧zd6 h d es ep) where
 sub:=(fun b hb=>by simp at hb; simp [hb])
 frame:=(fun _ _ _ st hk=>⟨st.1.at fun o e=>hk I (by simp) o e,st.2.at' fun o e=>hk d (by simp) o e⟩)
 item:=fun i s Q E hi st hQ=>zhR st.1 st.2 (getElem?_pos es i hi) fun h' tL oK=>hQ _ h' s.toks ⟨es[i],getElem?_pos es i hi,rfl⟩ ⟨tL,st.2.at' fun o e=>oK.extBut d o me e⟩ fun b o hb e=>oK.extBut b o (fun h=>hb (by simp [h])) e
 done:=fun s Q E st hQ=>zjC hh st.1 st.2 (af _) fun h' wy=>hQ h' s.toks fun b o hb e=>wy b o (fun h=>hb (by simp [h])) e
 self:=(fun _ _ _ _ st hQ=>jy st.1 hQ)
theorem znz (lo:(d == sysModules)=false):PySem.W.KdlSrc prog w "dict" d d es.size (fun i v=>∃ e,es[i]? = some e∧v=e.key) (fun h=>zd6 h d es ep) where
 type:=fun _ hm=>hm.typeIs
 there:=fun _ hm=>let ⟨_,ho,_⟩:=hm; ⟨aK ho,aK ho⟩
 keep:=(fun _ _ hm hk=>hm.at' fun o e=>hk d (.inl rfl) o e)
 notList:=by decide
 notTuple:=by decide
 hint:=fun _ _ _ _ hm hq=>PySem.W.kdl_hint_dict hm.typeIs hq
 iter:=fun _ _ hh hm=>⟨_,_,(fun _ _ hq=>zhQ lo hm hq),zkG hh _ d (by obtain⟨_,ho,_⟩:=id hm; exact bz (aK ho)) es ep,⟨⟨_,aO _ rfl,rfl,rfl⟩,hm.at' fun o e=>aj _ e⟩⟩
end
end PySem
end
section
namespace Srt
open PySem PyProof.Rows
section
variable {prog:Program} {w:World} {A:Around} {E:Value→Shared→Prop} {s:Shared} {κ:SortKind} {val:Keyed→Int}
theorem zdN {vs:List Value} {p:Keyed} (h:p∈(pairsOf vs).toList):p.1∈vs∧p.2=p.1:=by
 rw [jp] at h
 obtain⟨i,hi,e⟩:=eS h
 rw [List.getElem_zip] at e
 rw [← e]
 exact⟨eP _,rfl⟩
theorem zpn {vs:List Value} {xs:Array Keyed} (hp:xs.Perm (pairsOf vs)) (hs:SIn val xs 0 (pairsOf vs).size):(xs.map (·.2)).toList.Perm vs∧(xs.map (·.2)).toList.Pairwise fun x y=>val (x,x)≤val (y,y):=by
 (have hl:xs.toList.Perm (vs.zip vs):=by rw [← jp]; exact fG.mp hp)
 have hm:∀ p∈xs.toList,p=(p.2,p.2):=fun p qL=>by
  have:=zdN (by rw [jp]; exact hl.mem_iff.mp qL)
  exact kj this.2.symm rfl
 constructor
 ·rw [kx]
  refine (hl.map (·.2)).trans ?_
  rw [show (vs.zip vs).map (·.2)=vs from List.map_snd_zip (af _)]
 ·rw [kx,cu,cP]
  intro i j hi hj p7
  (have oC:i < xs.size:=by simpa using hi)
  (have pV:j < xs.size:=by simpa using hj)
  have h1:=hs i j (bj _) (by lia) (by rw [← hp.size_eq]; exact pV)
  rw [z8 (getElem?_pos xs i oC),z8 (getElem?_pos xs j pV)] at h1
  have e1:=hm xs.toList[i] (eP _)
  have e2:=hm xs.toList[j] (eP _)
  rw [← e1,← e2]
  simpa using h1
theorem zkH {a:Addr} {vs:List Value} {n:Nat} {P:PySem.Fin→Shared→Prop} (ho:s.heap.get? a=some (seqObj "list" vs.toArray n)) (lF:vs.length≤sizeLine)
  (sv:∀ h',(∀ b o,b≠a→s.heap.get? b=some o→h'.get? b=some o)→2≤vs.length→∀ (Q:SortKind→Shared→Prop) (E:Value→Shared→Prop),Q κ { s with heap:=h' }→wpAny (model prog w) A (keyKind' vs.toArray) Q E { s with heap:=h' })
  (yM:∀ h',(∀ b o,b≠a→s.heap.get? b=some o→h'.get? b=some o)→Cmp prog w A { s with heap:=h' } κ val (pairsOf vs))
  (h:∀ out:Array Value,out.toList.Perm vs→(out.toList.Pairwise fun x y=>val (x,x)≤val (y,y))→P (.done (.ret .none)) { s with heap:=sortedHeap s.heap a vs out }):wpAny (model prog w) A (Builtin.«list.sort» ⟨[.ref a],[]⟩) P E s:=by
 rw [list_sort_plain]
 (have ha:a < s.heap.objs.size:=aK ho)
 have hz:vs.toArray.size=vs.length:=ar
 refine ae (listItems_at ho rfl (ae (jF ho rfl ?_ (hsz:=by rw [hz]; exact lF))))
 (obtain⟨e1,BM⟩:∃ e1,(s.heap.update a (dz fun _=>#[])).get? a=some (seqObj "list" #[] e1):=⟨_,get?_update_seq ho (fun _=>#[])⟩)
 refine ae (kh BM rfl (ae (gN (ae (wpAny_newList (bY ?_))) (hsz:=lF))))
 have DM:(((s.heap.update a (dz fun _=>#[])).push (seqObj "tuple" vs.toArray 0)).push (seqObj "list" #[] 0)).get? a=some (seqObj "list" #[] e1):=aj _ (aj _ BM)
 have hk6:∀ b o,b≠a→s.heap.get? b=some o→(((s.heap.update a (dz fun _=>#[])).push (seqObj "tuple" vs.toArray 0)).push (seqObj "list" #[] 0)).get? b=some o:=fun b o hb e=>aj _ (aj _ ((jL _ _ _ _ hb).trans e))
 (show wpAny (model prog w) A _ P E { s with heap:=((s.heap.update a (dz fun _=>#[])).push (seqObj "tuple" vs.toArray 0)).push (seqObj "list" #[] 0) })
 dsimp only
 have hcm:=yM _ hk6
 have fin:∀ ly:SortSt,SB κ (pairsOf vs) ly∨(arrOf ly=pairsOf vs∧failedOf ly=none)→SIn val (arrOf ly) 0 (pairsOf vs).size →
   P (.done (.ret .none)) { s with heap:=sortedHeap s.heap a vs ((arrOf ly).map (·.2)) }:=fun ly hB hs=>by
  have hp:(arrOf ly).Perm (pairsOf vs):=by
   rcases hB with hB | hB
   ·exact hB.perm
   ·rw [hB.1]
  obtain⟨b1,b2⟩:=zpn hp hs
  exact h _ b1 b2
 (by_cases h2:vs.toArray.size < 2)
 ·rw [if_pos h2,if_pos h2]
  refine ae (ak ?_); rw [StateT.run_pure]; refine ae (ak ?_)
  dsimp only
  refine ae (kh DM rfl (ae (jF DM rfl ?_ (hsz2:=by rw [kW]; show (pairsOf vs).size≤_; rw [iL]; lia))))
  (simp only [bne_self_eq_false,bw,if_false])
  refine ak (fin (kL general' (vs.toArray.zip vs.toArray) #[] 7 none) (.inr ⟨rfl,rfl⟩) fun i j _ p7 hj=>?_)
  have e:i=j:=by rw [iL] at hj; lia
  rw [e]
  exact bP _
 ·rw [if_neg h2,if_neg h2]
  refine ae (sv _ hk6 (by lia) _ _ ?_)
  refine ae (c7 (zpm (a₀:=pairsOf vs) (κ:=κ) (val:=val) (st:=kL κ (vs.toArray.zip vs.toArray) #[] 7 none) (Q:=fun _ ly=>SB κ (pairsOf vs) ly∧SIn val (arrOf ly) 0 (pairsOf vs).size)
   hcm ⟨Array.Perm.refl _,rfl,rfl⟩ rfl (by rw [iL]; lia) fun ly a1 a2=>⟨a1,a2⟩) ?_ fun _ _ e=>e)
  rintro⟨⟨⟩,ly⟩ s' ⟨rfl,hB,hs⟩
  dsimp only
  refine ae (kh DM rfl (ae (jF DM rfl ?_ (hsz2:=a8 (iF ((kW ..).trans (hB.perm.size_eq.trans (iL _)))) (by lia)))))
  rw [hB.failed]
  (simp only [bne_self_eq_false,bw,if_false])
  exact ak (fin ly (.inl hB) hs)
theorem zf1 {v:Value} {vs:List Value} {Q:Value→Shared→Prop} (lF:vs.length≤sizeLine)
  (FH:∀ R:List Value→Shared→Prop,(∀ (h':Heap) (tk:Nat),(∀ b o,s.heap.get? b=some o→h'.get? b=some o)→R vs { s with heap:=h',toks:=tk })→wpAny (model prog w) A.in1 (collect v) R E s)
  (sv:∀ s',(∀ b o,s.heap.get? b=some o→s'.heap.get? b=some o)→2≤vs.length→∀ (A':Around) (Q:SortKind→Shared→Prop) (E:Value→Shared→Prop),Q κ s'→wpAny (model prog w) A' (keyKind' vs.toArray) Q E s')
  (yM:∀ s' A',(∀ b o,s.heap.get? b=some o→s'.heap.get? b=some o)→Cmp prog w A' s' κ val (pairsOf vs))
  (h:∀ (h':Heap) (tk:Nat) (out:Array Value) (e:Nat) (D:Addr),(∀ b o,s.heap.get? b=some o→h'.get? b=some o)→(∀ b o,s.heap.get? b=some o→b < D)→h'.get? D=some (seqObj "list" out e)→out.toList.Perm vs→(out.toList.Pairwise fun x y=>val (x,x)≤val (y,y))→Q (.ref D) { s with heap:=h',toks:=tk }) :
  wpAny (model prog w) A (call (.builtin "sorted") [v]) Q E s:=by
 refine Calls.call_function_entry kind_sorted plain_sorted entry_sorted (args_sorted1 _) ?_; unfold Builtin.«sorted»
 refine ae (m:=checkCount "sorted" 1 1 _) (ak (ae (c7 (FH (fun us s'=>us=vs∧∃ (h':Heap) (tk:Nat),s' = { s with heap:=h',toks:=tk }∧∀ b o,s.heap.get? b=some o→h'.get? b=some o) fun h' tk k=>⟨rfl,h',tk,rfl,k⟩) ?_ fun _ _ e=>e)))
 rintro us s' ⟨rfl,h1,tk,rfl,kk⟩
 refine ae (wpAny_newList ?_ (hsz:=lF))
 have Bc:(h1.push (seqObj "list" us.toArray 0)).get? h1.objs.size=some (seqObj "list" us.toArray 0):=aO _ rfl
 have kn:∀ b o,s.heap.get? b=some o→b≠h1.objs.size:=fun b o e=>bz (aK (kk b o e))
 refine ae (bY (bD slot_list_sort ⟨_,Bc,rfl⟩ entry_list_sort (zkH (κ:=κ) (val:=val) Bc lF (fun h' hk h2 Q E hq=>sv _ (fun b o e=>hk b o (kn b o e) (aj _ (kk b o e))) h2 _ Q E hq) (fun h' hk=>yM _ _ fun b o e=>hk b o (kn b o e) (aj _ (kk b o e))) fun out a1 a2=>⟨_,rfl,?_⟩) (args_list_sort _)))
 obtain⟨e,he⟩:=sortedHeap_at (out:=out) Bc
 refine ak ⟨_,rfl,h _ tk out e h1.objs.size (fun b o x=>?_) (fun b o x=>aK (kk _ _ x)) he a1 a2⟩
 rw [sortedHeap_old (kn b o x) (by rw [bT]; exact fg (aK (kk _ _ x)))]
 exact aj _ (kk _ _ x)
end
end Srt
end
section
namespace L2
open PySem PySem.Spec PyProof.Rows PySem.Builtin.Str
end L2
end
section
namespace L2
open PySem PySem.Spec PyProof.Rows PySem.Builtin.Str
theorem Inv.above {X:Cx} {lj:List (Addr×Obj)} {σ:St} {H:Hp} {s:Shared} {h':Heap} {tk:Nat} {D:Addr} {o:HO} (I:Inv X lj σ H s) (k:∀ b o,s.heap.get? b=some o→h'.get? b=some o) (hD:∀ b o,s.heap.get? b=some o→b < D)
  (new:zax X.prog X.w (lu H D o) h' D o):H D=none∧Inv X lj σ (lu H D o) { s with heap:=h',toks:=tk }:=by
 have hn:H D=none:=by
  cases e:H D with
  | none=>rfl
  | some u =>
   obtain⟨ob,z⟩:=zpf (I.hok D u e)
   exact absurd (hD D ob z) (cG _)
 have hL:X.env.locals < D:=by
  obtain⟨m,⟨o,es,ep,ho,_⟩,_⟩:=I.loc
  exact hD _ _ ho
 have I1:Inv X lj σ H { s with heap:=h',toks:=tk }:=I.kept k
 refine⟨hn,I1.track hn (fO (gV I.ok.above hL)) (bz hL) (fun x c e z=>?_) (fun p hp z=>?_) new⟩
 ·obtain⟨v,oc,q,_⟩:=I.cell x c e
  exact absurd (hD c oc q) (by rw [z]; exact cG _)
 ·exact absurd (hD p.1 _ (I.pin p hp).1) (by rw [z]; exact cG _)
end L2
end
section
namespace L2
open PySem PySem.Spec PyProof.Rows Srt
def zlY (xs:List V):List Int:=xs.filterMap fun x=>match x with
 | .int n=>some n
 | _=>none
theorem zkI (ns:List Int):zlY (ns.map V.int)=ns:=by
 unfold zlY
 rw [jT]
 induction ns with
 | nil=>rfl
 | cons n ns ih =>
  rw [fH]
  simp only [Function.comp]
  rw [ih]
def zc4 (H:Hp) (v:Value):List Int:=match v with
 | .ref a=>(match H a with
  | some (.tup xs)=>zlY xs
  | _=>[])
 | _=>[]
theorem ze0 {H:Hp} {a:Addr} {ns:List Int} (h:H a=some (.tup (ns.map V.int))):zc4 H (.ref a)=ns:=by
 unfold zc4
 simp only [h]
 exact zkI ns
def ziM (H:Hp) (k:Nat) (B:Int) (ps:List (Addr×List Int)):Prop:=∀ q∈ps,H q.1=some (.tup (q.2.map V.int))∧q.2.length=k∧∀ n∈q.2,0≤n∧n < B
theorem zf2:∀ {ps:List (Addr×List Int)} {us:List Value},zT (ps.map fun q=>V.ref q.1) us→us=ps.map fun q=>bd q.1
 | [],_,r=>by cases r; rfl
 | q :: ps,_,r=>by
  cases r with
  | cons r1 r2 =>
   cases r1
   rw [zf2 r2]
   rfl
theorem zcq:∀ (ps:List (Addr×List Int)),zT (ps.map fun q=>V.ref q.1) (ps.map fun q=>bd q.1)
 | []=>.nil
 | q :: ps=>.cons rfl (zcq ps)
section
variable {X:Cx} {lj:List (Addr×Obj)} {σ:St} {H:Hp} {s:Shared} {k:Nat} {B:Int} {ps:List (Addr×List Int)}
theorem zgD (I:Inv X lj σ H s) {q:Addr×List Int} (h:H q.1=some (.tup (q.2.map V.int))):∃ o lx n,s.heap.get? q.1=some o∧o.cls = .type "tuple"∧o.data = .seq lx n∧IntsAre lx.toList q.2:=by
 obtain⟨lx,r,⟨o,ho,hc,n,hd⟩,hz⟩:=I.tuple (lE.of h)
 exact⟨o,lx.toArray,n,ho,hc,hd,by simpa using intsAre_of r⟩
theorem zlZ (I:Inv X lj σ H s) (hT:ziM H k B ps) (hk:1≤k) {s':Shared} (kk:∀ b o,s.heap.get? b=some o→s'.heap.get? b=some o):∃ fs:List Value,PySem.W.KatTups s'.heap (ps.map fun q=>bd q.1) fs∧fs.length=ps.length∧∀ v∈fs,∃ n t,v=iV n t:=by
 induction ps with
 | nil=>exact⟨[],trivial,rfl,fun v hv=>by cases hv⟩
 | cons q ps ih =>
  obtain⟨fs,h1,h2,h3⟩:=ih fun q' oJ=>hT q' (au _ oJ)
  obtain⟨hq,hl,_⟩:=hT q (by simp)
  obtain⟨o,lx,n,ho,hc,hd,hi⟩:=zgD I hq
  have lF:=hi.length
  obtain⟨m,ms,e⟩:∃ m ms,q.2=m :: ms:=by
   cases e:q.2 with
   | nil=>rw [e] at hl; simp at hl; lia
   | cons m ms=>exact⟨m,ms,rfl⟩
  rw [e] at hi
  cases e2:lx.toList with
  | nil=>rw [e2] at hi; cases hi
  | cons f fr =>
   rw [e2] at hi
   cases hi with
   | cons _ t hi =>
    refine⟨.int m t :: fs,lh (kk _ _ ho) hc hd ?_ h1,by simp [h2],fun v hv=>?_⟩
    ·rw [← bt,e2]
     rfl
    ·rcases (aI.mp hv) with rfl | hv
     ·exact⟨m,t,rfl⟩
     ·exact h3 v hv
theorem zf3:∀ ms:List Int,zhP ms ms=false
 | []=>rfl
 | m :: ms=>by rw [zcM,if_pos rfl,zf3 ms]
theorem zl0 (I:Inv X lj σ H s) (hT:ziM H k B ps) (hB:1≤B) {s':Shared} {A':Around} (kk:∀ b o,s.heap.get? b=some o→s'.heap.get? b=some o) :
  Cmp X.prog X.w A' s' (tuples' true) (fun p=>num B (zc4 H p.1)) (pairsOf (ps.map fun q=>bd q.1)):=by
 intro x y hx hy Q E hQ
 obtain⟨qx,mx,ex⟩:=aB.mp (zdN hx).1
 obtain⟨qy,my,ey⟩:=aB.mp (zdN hy).1
 obtain⟨AA,ur,hx3⟩:=hT qx mx
 obtain⟨hy1,hy2,hy3⟩:=hT qy my
 obtain⟨ox,ix,nx,gx,cx,dx,ax⟩:=zgD I AA
 obtain⟨oy,iy,ny,gy,cy,dy,ay⟩:=zgD I hy1
 have ev:decide ((fun p:Keyed=>num B (zc4 H p.1)) x < (fun p:Keyed=>num B (zc4 H p.1)) y)=zhP qx.2 qy.2:=by
  rw [zjA hB (ur.trans hy2.symm) hx3 hy3,← ze0 AA,← ze0 hy1]
  simp only [ex,ey]
 rw [ev] at hQ
 rw [← ex,← ey]
 refine PySem.W.kat_lt (kk _ _ gx) dx (kk _ _ gy) dy (zjB 0 ax ay (ur.trans hy2.symm) ?_)
 have hsz:decide (ix.size < iy.size)=false:=by
  have e1:=ax.length
  have e2:=ay.length
  rw [bF] at e1 e2
  exact decide_eq_false (by lia)
 rw [hsz]
 by_cases e:qx.2=qy.2
 ·rw [if_pos e]
  rw [e,zf3] at hQ
  exact hQ
 ·rw [if_neg e]
  exact hQ
theorem zhS (hT:ziM H k B ps) {out:Array Value} (hp:out.toList.Perm (ps.map fun q=>bd q.1)) (hs:out.toList.Pairwise fun x y=>num B (zc4 H x)≤num B (zc4 H y)) :
  ∃ m7:List (Addr×List Int),m7.Perm ps∧(m7.Pairwise fun a b=>num B a.2≤num B b.2)∧out.toList=m7.map fun q=>bd q.1:=by
 let g:Value→Addr×List Int:=fun v=>match v with
  | .ref a=>(a,zc4 H (.ref a))
  | _=>(0,[])
 have hg:∀ q∈ps,g (.ref q.1)=q:=fun q hq=>kj rfl (ze0 (hT q hq).1)
 have hv:∀ v∈out.toList,∃ q∈ps,v = .ref q.1:=fun v hv=>by
  obtain⟨q,hq,e⟩:=aB.mp (hp.mem_iff.mp hv)
  exact⟨q,hq,e.symm⟩
 refine⟨out.toList.map g,?_,?_,?_⟩
 ·refine (hp.map g).trans ?_
  rw [bq]
  have:ps.map (g ∘ fun q=>bd q.1)=ps:=by
   conv=>rhs; rw [← ji ps]
   exact ci fun q hq=>hg q hq
  rw [this]
 ·rw [cu]
  refine fV (fun {x y} hx hy h=>?_) hs
  obtain⟨q,hq,rfl⟩:=hv x hx
  obtain⟨q',oJ,rfl⟩:=hv y hy
  exact h
 ·rw [bq]
  conv=>lhs; rw [← ji out.toList]
  refine ci fun v hv'=>?_
  obtain⟨q,hq,rfl⟩:=hv v hv'
  rfl
end
theorem zf4 {M:Model} {h:Heap} {n:Int} {t:Tok}:PySem.W.Looks M h (typeOf (.int n t)) (.type "int"):=PySem.W.Looks.of_pure rfl
theorem znA {X:Cx} {lj:List (Addr×Obj)} {σ:St} {H:Hp} {s:Shared} {d:Addr} {lB:List (List Key×V)} {nL:List (List Int)} (I:Inv X lj σ H s) (hd:H d=some (.dT lB)) (hk:lB.map (·.1)=nL.map (·.map cY)) :
  (d == sysModules)=false∧lB.length≤sizeLine∧∃ (ps:List (Addr×List Int)) (es:Array DictEntry) (ep:Nat),zd6 s.heap d es ep∧es.toList.map (·.key)=(ps.map fun q=>bd q.1)∧ps.map (·.2)=nL∧∀ q∈ps,H q.1=some (.tup (q.2.map V.int)):=by
 obtain⟨hz,hs,xs,hp,o,es,ep,ho,hx,he,vz,nV⟩:=I.hok d _ hd
 refine⟨hs,hz,?_⟩
 have key:∀ {lB:List (List Key×V)} {xs:List (List Key×Addr×Value)} {nL:List (List Int)},Paired (fun (p:List Key×V) (q:List Key×Addr×Value)=>p.1=q.1∧H q.2.1=some (.tup (p.1.map kV))∧RelV p.2 q.2.2) lB xs→lB.map (·.1)=nL.map (·.map cY) →
   ∃ ps:List (Addr×List Int),xs.map (fun x=>bd x.2.1)=(ps.map fun q=>bd q.1)∧ps.map (·.2)=nL∧∀ q∈ps,H q.1=some (.tup (q.2.map V.int)):=by
  intro lB xs nL hp
  induction hp generalizing nL with
  | nil =>
   intro e
   cases nL with
   | nil=>exact⟨[],rfl,rfl,fun q hq=>by cases hq⟩
   | cons m nL=>simp at e
  | @cons x y l1 l2 h1 h2 ih =>
   intro e
   cases nL with
   | nil=>simp at e
   | cons m nL =>
    rw [aZ,aZ] at e
    obtain⟨e1,e2⟩:=jE e
    obtain⟨ps,a1,a2,a3⟩:=ih e2
    obtain⟨_,h12,_⟩:=h1
    refine⟨(y.2.1,m) :: ps,by rw [aZ,aZ,a1],by rw [aZ,a2],fun q hq=>?_⟩
    rcases (aI.mp hq) with rfl | hq
    ·rw [h12,e1,bq]
     rfl
    ·exact a3 q hq
 obtain⟨ps,a1,a2,a3⟩:=key hp hk
 refine⟨ps,es,ep,⟨o,ho,hx,he⟩,?_,a2,a3⟩
 rw [vz,bq,← a1]
 rfl
theorem zgE {X:Cx} (hc:X.calm=true):zbU X (.builtin "sorted") (fun xs H Q=>∃ (d:Addr) (k:Nat) (B:Int) (lB:List (List Key×V)) (nL:List (List Int)),xs = [.ref d]∧H d=some (.dT lB)∧lB.map (·.1)=nL.map (·.map cY)∧(∀ ms∈nL,ms.length=k∧∀ n∈ms,0≤n∧n < B)∧1≤k∧1≤B ∧
  ∀ (l:Addr) (m7:List (Addr×List Int)),H l=none→(m7.map (·.2)).Perm nL→(m7.Pairwise fun a b=>num B a.2≤num B b.2)→(∀ q∈m7,H q.1=some (.tup (q.2.map V.int)))→Q (.ref l) (lu H l (.lst (m7.map fun q=>V.ref q.1)))):=by
 intro lj s σ H xs us Q I r h
 obtain⟨d,k,B,lB,nL,rfl,hd,yN,tR,hk,hB,q⟩:=h
 obtain⟨u,rfl,rx⟩:=vals1 r
 cases rx
 obtain⟨hs,hz,ps,es,ep,vI,hek,lI,hH⟩:=znA I hd yN
 have hT:ziM H k B ps:=fun q' oJ=>⟨hH q' oJ,tR q'.2 (by rw [← lI]; exact dN oJ)⟩
 have hlp:ps.length=lB.length:=by
  have e1:=congrArg fe lI
  have e2:=congrArg fe yN
  rw [ab] at e1
  rw [ab,ab] at e2
  lia
 have vz:es.size=ps.length:=by
  have:=congrArg fe hek
  rw [ab,ab,bF] at this
  exact this
 refine zf1 (vs:=ps.map fun q=>bd q.1) (κ:=tuples' true) (val:=fun p=>num B (zc4 H p.1)) (by rw [ab]; lia) (fun R hR=>?_) (fun s' kk h2 A' Q' E' oJ=>?_) (fun s' A' kk=>zl0 I hT hB kk) fun h' tk out e D kk hD yO hp hs=>?_
 ·refine PySem.W.kdu_collect (znz (es:=es) (ep:=ep) hs) (by simp [I.ok.hd hc]) vI (by lia) fun h' tk acc kk vC=>?_
  have:acc.toList=ps.map fun q=>bd q.1:=by
   rw [← hek]
   refine gd fun j=>?_
   by_cases hj:j < es.size
   ·have hja:j < acc.size:=by rw [vC.1]; exact hj
    obtain⟨e',h1,h2⟩:=vC.2 j acc[j] (getElem?_pos acc j hja)
    rw [bt,getElem?_pos acc j hja,ah,bt,h1,h2]
    rfl
   ·rw [cw (by rw [bF,vC.1]; lia),cw (by rw [ab,bF]; lia)]
  rw [this]
  exact hR h' tk kk
 ·obtain⟨fs,k1,k2,k3⟩:=zlZ I hT hk kk
  exact kz (T:=.type "int") k1 (by rw [ab] at h2; lia) (fun v hv=>by obtain⟨n,t,rfl⟩:=k3 v hv; exact zf4) rfl oJ
 ·obtain⟨m7,p1,p2,p3⟩:=zhS hT hp hs
  have hl:=p1.length_eq
  obtain⟨hn,I2⟩:=I.above (tk:=tk) (D:=D) (o:=.lst (m7.map fun q=>V.ref q.1)) kk hD ⟨by rw [ab]; lia,m7.map fun q=>bd q.1,e,zcq m7,by rw [← p3]; exact yO⟩
  exact⟨.ref D,_,I2,rfl,q D m7 hn (by rw [← lI]; exact p1.map _) p2 fun q' oJ=>(hT q' (p1.mem_iff.mp oJ)).1⟩
theorem zdw {X:Cx}:zbU X (.builtin "sorted") (fun xs H Q=>∃ (p:Addr) (k:Nat) (B:Int) (ps:List (Addr×List Int)),xs = [.ref p]∧lr X.K H p (ps.map fun q=>V.ref q.1)∧ziM H k B ps∧1≤k∧1≤B ∧
  ∀ (l:Addr) (m7:List (Addr×List Int)),H l=none→m7.Perm ps→(m7.Pairwise fun a b=>num B a.2≤num B b.2)→Q (.ref l) (lu H l (.lst (m7.map fun q=>V.ref q.1)))):=by
 intro lj s σ H xs us Q I r h
 obtain⟨p,k,B,ps,rfl,hq,hT,hk,hB,q⟩:=h
 obtain⟨u,rfl,rx⟩:=vals1 r
 cases rx
 obtain⟨lx,rv,pl,hz⟩:=I.list hq
 have ev:=zf2 rv
 subst ev
 rw [ab] at hz
 refine zf1 (vs:=ps.map fun q=>bd q.1) (κ:=tuples' true) (val:=fun p=>num B (zc4 H p.1)) (by rw [ab]; exact hz) (fun R hR=>?_) (fun s' kk h2 A' Q' E' oJ=>?_) (fun s' A' kk=>zl0 I hT hB kk) fun h' tk out e D kk hD yO hp hs=>?_
 ·exact collect_list pl.isList (hR _ _ fun b o e=>(jL _ _ _ _ (bz (aK e))).trans (aj _ e)) (by rw [ab]; exact hz)
 ·obtain⟨fs,k1,k2,k3⟩:=zlZ I hT hk kk
  exact kz (T:=.type "int") k1 (by rw [ab] at h2; lia) (fun v hv=>by obtain⟨n,t,rfl⟩:=k3 v hv; exact zf4) rfl oJ
 ·obtain⟨m7,p1,p2,p3⟩:=zhS hT hp hs
  have hl:=p1.length_eq
  obtain⟨hn,I2⟩:=I.above (tk:=tk) (D:=D) (o:=.lst (m7.map fun q=>V.ref q.1)) kk hD ⟨by rw [ab]; lia,m7.map fun q=>bd q.1,e,zcq m7,by rw [← p3]; exact yO⟩
  exact⟨.ref D,_,I2,rfl,q D m7 hn p1 p2⟩
end L2
end
section
namespace L2
open PySem PySem.Spec PyProof.Rows
section
variable {X:Cx} {elt t1 i1 t2 i2:Expr} {f1 f2:List Expr} {scope:Scope} {pos:Pos} {N':List Str} {ix:List (Option Nat)} {AD xh:List Nat} {g1 g2:TG} {DN AE:TT} {te:TE} {DO AF:TI}
theorem zl1 (hc:X.calm=true) (BS:GS xh g2) (BU:∀ s₃ H₃ ex lj,PI (zM X N' scope s₃ H₃ ex lj) t2 i2 AF)
  (w8:∀ s₃ H₃ ex lj,PG (zM X N' scope s₃ H₃ ex lj) t2 g2) (vJ:∀ s₃ H₃ ex lj,zdn (zM X N' scope s₃ H₃ ex lj) f2 AE) (he:∀ s₃ H₃ ex lj,PE (zM X N' scope s₃ H₃ ex lj) elt te)
  (oE:∀ s₃ H₃ ex lj x,foldedSetIterable i2 (zM X N' scope s₃ H₃ ex lj).env x=pure x) :
  ∀ s₃ H₃ ex lj D,PM (zM X N' scope s₃ H₃ ex lj) D xh ((fun D env=>zji (.ListComp elt [⟨t1,i1,f1,0⟩,⟨t2,i2,f2,0⟩] scope pos) i2 1 (.ref D) env) D (zM X N' scope s₃ H₃ ex lj).env) (zjk AF g2 AE (zjj te)):=by
 intro s₃ H₃ ex lj D
 have h:=zo4 (Y:=zM X N' scope s₃ H₃ ex lj) (D:=D) (js:=xh) (js':=[]) (elt:=elt) (gens:=[⟨t1,i1,f1,0⟩,⟨t2,i2,f2,0⟩]) (scope:=scope) (pos:=pos) (d:=1) (p:=i2.pos) hc rfl BS (fun _ _ z=>by cases z) (BU s₃ H₃ ex lj) (w8 s₃ H₃ ex lj) (vJ s₃ H₃ ex lj) (ziA rfl (he s₃ H₃ ex lj)) rfl (fun it=>zo5 it D _) (oE s₃ H₃ ex lj)
 rw [bH] at h
 exact h
theorem zjD (SC:CompSc X N' ix scope) (hc:X.calm=true) (FI:GS AD g1) (BS:GS xh g2) (pA:∀ j∈AD,j∉xh) (tH:∀ j∈AD++xh,ix[j]? = some none) (FJ:PI X t1 i1 DO)
  (AG:∀ s₃ H₃ ex lj,PG (zM X N' scope s₃ H₃ ex lj) t1 g1) (yP:∀ s₃ H₃ ex lj,zdn (zM X N' scope s₃ H₃ ex lj) f1 DN) (BU:∀ s₃ H₃ ex lj,PI (zM X N' scope s₃ H₃ ex lj) t2 i2 AF)
  (w8:∀ s₃ H₃ ex lj,PG (zM X N' scope s₃ H₃ ex lj) t2 g2) (vJ:∀ s₃ H₃ ex lj,zdn (zM X N' scope s₃ H₃ ex lj) f2 AE) (he:∀ s₃ H₃ ex lj,PE (zM X N' scope s₃ H₃ ex lj) elt te)
  (hs:∀ x,foldedSetIterable i1 X.env x=pure x:=by intro _; rfl) (oE:∀ s₃ H₃ ex lj x,foldedSetIterable i2 (zM X N' scope s₃ H₃ ex lj).env x=pure x:=by intros; rfl) :
  PE X (.ListComp elt [⟨t1,i1,f1,0⟩,⟨t2,i2,f2,0⟩] scope pos) (zgo ix DO g1 DN (zjk AF g2 AE (zjj te))) :=
 zhp SC hc FI pA tH FJ AG yP (zl1 hc BS BU w8 vJ he oE) (fun it D env=>zlk it D env) hs
theorem ziN {i:Nat} {x:Str} {pos' qj:Pos} (hN:X.N.Nodup) (wU:X.N[i]? = some x) (hx:Loc X.env.scope x) (SC:CompSc X N' ix scope) (hc:X.calm=true) (FI:GS AD g1) (BS:GS xh g2) (pA:∀ j∈AD,j∉xh) (tH:∀ j∈AD++xh,ix[j]? = some none) (FJ:PI X t1 i1 DO)
  (AG:∀ s₃ H₃ ex lj,PG (zM X N' scope s₃ H₃ ex lj) t1 g1) (yP:∀ s₃ H₃ ex lj,zdn (zM X N' scope s₃ H₃ ex lj) f1 DN) (BU:∀ s₃ H₃ ex lj,PI (zM X N' scope s₃ H₃ ex lj) t2 i2 AF)
  (w8:∀ s₃ H₃ ex lj,PG (zM X N' scope s₃ H₃ ex lj) t2 g2) (vJ:∀ s₃ H₃ ex lj,zdn (zM X N' scope s₃ H₃ ex lj) f2 AE) (he:∀ s₃ H₃ ex lj,PE (zM X N' scope s₃ H₃ ex lj) elt te)
  (Bt:swapsWith (.ListComp elt [⟨t1,i1,f1,0⟩,⟨t2,i2,f2,0⟩] scope pos) (some (.Name x pos')) qj.line X.env=pure true:=by rfl)
  (hs:∀ x,foldedSetIterable i1 X.env x=pure x:=by intro _; rfl) (oE:∀ s₃ H₃ ex lj x,foldedSetIterable i2 (zM X N' scope s₃ H₃ ex lj).env x=pure x:=by intros; rfl) (hf:X.fn x=true∨X.env.scope.names.lookup x=some .local:=by first | exact .inl rfl | exact .inr rfl | assumption) :
  PS X (.Assign [.Name x pos'] (.ListComp elt [⟨t1,i1,f1,0⟩,⟨t2,i2,f2,0⟩] scope pos) qj) (ziq (zgo ix DO g1 DN (zjk AF g2 AE (zjj te))) (zaX i)) :=
 zd0 hN wU hx SC hc FI pA tH FJ AG yP (zl1 hc BS BU w8 vJ he oE) (fun it D env=>zlk it D env) Bt hs hf
end
theorem zf5 {J:It} {n:Nat} {g:TG} {ts:TT} {tm:TM} {σ0:St} {Q:List V→Hp→Prop} {ys:List V} {H:Hp} (Pv:Nat→List V→Hp→Prop) (h0:Pv 0 ys H) (Bl:∀ i ys H,i < n→Pv i ys H→J.go i H) (sW:∀ ys H,Pv n ys H→J.stop n H)
  (hs:∀ i x ys H H',i < n→Pv i ys H→J.yld i H x H'→g x σ0 H' fun σ2 H2=>ts σ2 H2 fun b H3=>if b=true then tm ys σ2 H3 (Pv (i+1)) else Pv (i+1) ys H3)
  (hd:∀ ys H,Pv n ys H→Q ys H):cIn g ts tm σ0 J Q ys H:=by
 refine⟨fun i m ys H=>m=n - i∧i≤n∧Pv i ys H,⟨n,by simp,bj _,h0⟩,?_⟩
 rintro i m ys H ⟨rfl,hi,p⟩
 by_cases lT:i < n
 ·exact .inr ⟨Bl i ys H lT p,Pv (i+1),fun sx H' p'=>⟨n - (i+1),by lia,rfl,lT,p'⟩,fun x H' y=>hs i x ys H H' lT p y⟩
 ·have e:i=n:=by lia
  subst e
  exact .inl ⟨sW ys H p,hd ys H p⟩
end L2
end
section
namespace L2
open PySem PySem.Spec PyProof.Rows
end L2
end
section
namespace L2
open PySem PySem.Spec PyProof.Rows
def zpo (sc:Scope) (x:Str):Bool:=match sc.names.lookup x with
 | some .local=>true
 | some .cell=>true
 | some .free=>true
 | _=>false
theorem znB {sc:Scope} {x:Str} (h:zpo sc x=true):Vis sc x:=by
 unfold zpo at h
 unfold Vis
 cases e:sc.names.lookup x with
 | none=>rw [e] at h; cases h
 | some k=>cases k <;> simp_all
def pvB (N:List Str) (sc:Scope) (i:Nat) (x:Str):Bool:=decide (N[i]? = some x) && zpo sc x && !(x == ("__debug__" : Str)) && !(x == ("__classdict__" : Str))
theorem pvx {X:Cx} (i:Nat) {x:Str} {pos:Pos} (h:pvB X.N X.env.scope i x=true):PE X (.Name x pos) (zpM i):=by
 unfold pvB at h
 simp only [fz,Bool.not_eq_true',decide_eq_true_eq] at h
 exact zoK h.1.1.1 (znB h.1.1.2) h.1.2 h.2
end L2
end
section
namespace My
open PySem L2 PyProof.Rows
def nxt {α:Type} (xs:List α) (c:Nat×List α):List (Nat×List α):=(aJ (xs.length - c.1)).map fun j=>(c.1+j+1,c.2++xs[c.1+j]?.toList)
def chs {α:Type} (xs:List α):Nat→List (Nat×List α)
 | 0=>[(0,[])]
 | m+1=>(chs xs m).flatMap (nxt xs)
theorem zgF {α:Type} (xs:List α) (c:Nat×List α):(nxt xs c).length=xs.length - c.1:=by unfold nxt; rw [ab,aY]
theorem znC {α:Type} {xs:List α} {c:Nat×List α} {j:Nat} {x:α} (h:xs[c.1+j]? = some x):(nxt xs c)[j]? = some (c.1+j+1,c.2++[x]):=by
 have hj:j < xs.length - c.1:=by
  have:=(aD.mp h).1
  lia
 unfold nxt
 rw [ah,cj hj]
 simp [h]
theorem zjE:∀ r:Nat,((aJ r).map fun j=>2 ^ (r - j - 1)).sum+1=2 ^ r
 | 0=>rfl
 | r+1=>by
  rw [jd,aZ,df,bq]
  have e:((aJ r).map ((fun j=>2 ^ (r+1 - j - 1)) ∘ Nat.succ))=(aJ r).map fun j=>2 ^ (r - j - 1):=ci fun j _=>by
   show 2 ^ (r+1 - (j+1) - 1)=2 ^ (r - j - 1)
   congr 1
   lia
  rw [e]
  have:=zjE r
  rw [Nat.pow_succ]
  show 2 ^ (r+1 - 0 - 1)+_+1=_
  rw [show r+1 - 0 - 1=r from by lia]
  lia
def pot {α:Type} (n:Nat) (cs:List (Nat×List α)):Nat:=(cs.map fun c=>2 ^ (n - c.1)).sum
theorem znD {α:Type} (xs:List α) (c:Nat×List α):pot xs.length (nxt xs c)≤2 ^ (xs.length - c.1):=by
 unfold pot nxt
 rw [bq]
 have e:((aJ (xs.length - c.1)).map ((fun c:Nat×List α=>2 ^ (xs.length - c.1)) ∘ fun j=>(c.1+j+1,c.2++xs[c.1+j]?.toList)))=(aJ (xs.length - c.1)).map fun j=>2 ^ (xs.length - c.1 - j - 1):=ci fun j _=>by
  show 2 ^ (xs.length - (c.1+j+1))=_
  congr 1
  lia
 rw [e]
 have:=zjE (xs.length - c.1)
 lia
theorem zhT {α:Type} (xs:List α):∀ cs:List (Nat×List α),pot xs.length (cs.flatMap (nxt xs))≤pot xs.length cs
 | []=>af _
 | c :: cs=>by
  have h1:=znD xs c
  have h2:=zhT xs cs
  rw [dJ]
  unfold pot at h1 h2 ⊢
  rw [ao,kM,aZ,df]
  lia
theorem zjF {α:Type} (n:Nat):∀ cs:List (Nat×List α),cs.length≤pot n cs
 | []=>af _
 | c :: cs=>by
  have h:=zjF n cs
  have:0 < 2 ^ (n - c.1):=Nat.pos_of_ne_zero (by simp)
  unfold pot at h ⊢
  rw [aZ,df,bn]
  lia
theorem zjG {α:Type} (xs:List α):∀ m,pot xs.length (chs xs m)≤2 ^ xs.length
 | 0=>by
  unfold chs pot
  simp
 | m+1=>a8 (zhT xs (chs xs m)) (zjG xs m)
theorem znE {α:Type} (xs:List α) (m:Nat):(chs xs m).length≤2 ^ xs.length:=a8 (zjF _ _) (zjG xs m)
theorem zcN {α:Type} {xs:List α} (m:Nat) (h:xs.length≤16):(chs xs m).length≤65536:=a8 (znE xs m) (a8 (Nat.pow_le_pow_right (by decide) h) (by decide))
theorem zkJ {α β:Type} {f:α→List β} {l:List α} {i j:Nat} {c:α} (hc:l[i]? = some c) (hj:j < (f c).length):((l.take i).flatMap f).length+j < (l.flatMap f).length:=by
 have e:l.flatMap f=(l.take i).flatMap f++(f c++(l.drop (i+1)).flatMap f):=by
  conv=>lhs; rw [zeP hc]
  rw [cq,dJ]
 rw [e,aq,aq]
 lia
theorem zkK {α β:Type} {f:α→List β} {l:List α} {i:Nat} {c:α} (hc:l[i]? = some c):(l.take (i+1)).flatMap f=(l.take i).flatMap f++f c:=by
 rw [take_snoc hc,cq,dJ,gr,bH]
theorem zpp {α:Type} {xs:List α}:∀ {m:Nat} {c:Nat×List α},c∈chs xs m→c.1≤xs.length
 | 0,c,h=>by
  unfold chs at h
  rw [be] at h
  subst h
  exact bj _
 | m+1,c,h=>by
  unfold chs at h
  obtain⟨c',_,hc⟩:=b9.mp h
  unfold nxt at hc
  obtain⟨j,hj,rfl⟩:=aB.mp hc
  have:=bv.mp hj
  show c'.1+j+1≤xs.length
  lia
theorem zhU {α:Type} {xs:List α}:∀ {m:Nat} {c:Nat×List α},c∈chs xs m→c.2.length≤m
 | 0,c,h=>by
  unfold chs at h
  rw [be] at h
  subst h
  exact af _
 | m+1,c,h=>by
  unfold chs at h
  obtain⟨c',hm,hc⟩:=b9.mp h
  have:=zhU hm
  unfold nxt at hc
  obtain⟨j,hj,rfl⟩:=aB.mp hc
  show (c'.2++xs[c'.1+j]?.toList).length≤m+1
  rw [aq]
  have:xs[c'.1+j]?.toList.length≤1:=by cases xs[c'.1+j]? <;> simp
  lia
theorem Paired.get {α β:Type} {F:α→β→Prop}:∀ {l₁:List α} {l₂:List β},Paired F l₁ l₂→∀ {i:Nat} {a:α},l₁[i]? = some a→∃ b,l₂[i]? = some b∧F a b
 | _,_,.nil,i,a,h=>by simp at h
 | _,_,.cons r t,0,a,h=>by
  (simp only [ga,iu] at h)
  subst h
  exact⟨_,rfl,r⟩
 | _,_,.cons r t,i+1,a,h=>by
  rw [cE] at h
  obtain⟨b,hb,f⟩:=Paired.get t h
  exact⟨b,by rw [cE]; exact hb,f⟩
def znF (H:Hp) (t:Addr) (c:Nat×List V):Prop:=∃ L,H t=some (.tup [.int (c.1:Int),.ref L])∧H L=some (.lst c.2)
theorem znF.same {H H':Hp} (s:zt H H') {t:Addr} {c:Nat×List V} (h:znF H t c):znF H' t c:=let ⟨L,h1,h2⟩:=h; ⟨L,s _ _ h1,s _ _ h2⟩
def ze1 (H:Hp):List Addr→List (Nat×List V)→Prop:=Paired (znF H)
theorem ze1.same {H H':Hp} (s:zt H H') {ts:List Addr} {cs:List (Nat×List V)} (h:ze1 H ts cs):ze1 H' ts cs:=cJ (fun _ _ z=>z.same s) h
def zhV (H:Hp):List Addr→List (List V)→Prop:=Paired fun l pk=>H l=some (.lst pk)
theorem zhV.same {H H':Hp} (s:zt H H') {ts:List Addr} {cs:List (List V)} (h:zhV H ts cs):zhV H' ts cs:=cJ (fun _ _ z=>s _ _ z) h
def ziO (K:ag):Sp:=fun vs H Q _=>∃ (a:Addr) (m:Nat) (xs:List V),vs = [.ref a,.int (m:Int)]∧lr K H a xs∧xs.length≤16∧m≤1000 ∧
 ∀ (l:Addr) (ls:List Addr) (H':Hp),H l=none→zt H H'→H' l=some (.lst (ls.map V.ref))→zhV H' ls ((chs xs m).map (·.2))→Q (.ref l) H'
end My
end
section
namespace My
open PySem L2 PyProof.Rows
def quo (p r:Int):List Int→List Int
 | []=>[]
 | [_]=>[]
 | _ :: d :: cs=>zj p r (d :: cs) :: quo p r (d :: cs)
theorem zjH (p r:Int):∀ (c:Int) (cs:List Int),(quo p r (c :: cs)).length=cs.length
 | _,[]=>rfl
 | _,d :: cs=>by
  show (quo p r (d :: cs)).length+1=cs.length+1
  rw [zjH p r d cs]
theorem zl2 {p r x:Int}:∀ d:List Int,Cg p (zj p x d - zj p r d) ((x - r)*zj p x (quo p r d))
 | []=>Cg.of_eq (by show (0:Int) - 0=(x - r)*0; lia)
 | [c]=>by
  have h1:Cg p (zj p x [c]) (c+x*0):=zH p x c []
  have h2:Cg p (zj p r [c]) (c+r*0):=zH p r c []
  refine (h1.sub h2).trans (Cg.of_eq ?_)
  show c+x*0 - (c+r*0)=(x - r)*0
  lia
 | c :: d :: cs=>by
  have h1:=zH p x c (d :: cs)
  have h2:=zH p r c (d :: cs)
  have ih:=zl2 (p:=p) (r:=r) (x:=x) (d :: cs)
  have h3:Cg p (zj p x (quo p r (c :: d :: cs))) (zj p r (d :: cs)+x*zj p x (quo p r (d :: cs))):=zH p x _ _
  have h4:=(Cg.refl p (x - r)).mul h3
  have h5:=(Cg.refl p x).mul ih
  refine (h1.sub h2).trans (Cg.symm (h4.trans ?_))
  refine (Cg.of_eq (show _=(x - r)*zj p r (d :: cs)+x*((x - r)*zj p x (quo p r (d :: cs))) by grind)).trans ?_
  refine ((Cg.refl p ((x - r)*zj p r (d :: cs))).add h5.symm).trans (Cg.of_eq (by grind))
theorem zhW {p r:Int}:∀ d:List Int,Cg p (zj p r d) 0→(∀ c∈quo p r d,Cg p c 0)→∀ c∈d,Cg p c 0
 | [],_,_,c,hc=>by cases hc
 | [a],h,_,c,hc=>by
  obtain rfl:c=a:=by simpa using hc
  have h1:Cg p (zj p r [c]) (c+r*0):=zH p r c []
  exact ((Cg.of_eq (by lia)).trans h1.symm).trans h
 | a :: d :: cs,h,hq,c,hc=>by
  have h0:Cg p (zj p r (d :: cs)) 0:=hq _ aH
  rcases (aI.mp hc) with rfl | hc
  ·have h1:=zH p r c (d :: cs)
   have h2:=(Cg.refl p r).mul h0
   have h3:=(h1.symm.trans h).sub h2
   exact (Cg.of_eq (by lia)).trans (h3.trans (Cg.of_eq (by lia)))
  ·exact zhW (d :: cs) h0 (fun c hc=>hq c (au _ hc)) c hc
theorem zdO {p a y:Int} (hp:p∈zm) (ha0:a % p≠0) (h:Cg p (a*y) 0):Cg p y 0:=by
 have rp:=zp hp
 have g0:=aG a (show p≠0 by lia)
 have g1:=az a (show 0 < p by lia)
 have hi:=zeJ hp (h:=a % p) (by lia) g1
 have h1:Cg p (inv p (a % p)*(a % p)*y) (1*y):=hi.mul (Cg.refl p y)
 have h2:Cg p (inv p (a % p)*(a % p)*y) (inv p (a % p)*(a*y)):=by
  have:=((Cg.refl p (inv p (a % p))).mul (Cg.emod p a)).mul (Cg.refl p y)
  exact this.trans (Cg.of_eq (by grind))
 have h3:=(Cg.refl p (inv p (a % p))).mul h
 exact (Cg.of_eq (by lia)).trans (h1.symm.trans (h2.trans (h3.trans (Cg.of_eq (by lia)))))
theorem zcr {p:Int} (hp:p∈zm):∀ (n:Nat) (d xs:List Int),d.length=n→n≤xs.length→xs.Nodup→(∀ x∈xs,0≤x∧x < p)→(∀ x∈xs,Cg p (zj p x d) 0)→∀ c∈d,Cg p c 0
 | 0,d,xs,hd,_,_,_,_,c,hc=>by
  rw [iT] at hd
  subst hd
  cases hc
 | n+1,d,[],hd,hx,_,_,_,c,hc=>by simp at hx
 | n+1,[],r :: xs,hd,hx,_,_,_,c,hc=>by cases hc
 | n+1,a :: cs,r :: xs,hd,hx,nV,tR,hz,c,hc=>by
  have rp:=zp hp
  obtain⟨r0,r1⟩:=tR r aH
  have hr:=hz r aH
  refine zhW (a :: cs) hr (zcr hp n (quo p r (a :: cs)) xs (by rw [zjH]; simpa using hd) (by simpa using hx) (d8.mp nV).2 (fun x h=>tR x (au _ h)) fun x h=>?_) c hc
  obtain⟨x0,x1⟩:=tR x (au _ h)
  have me:x≠r:=fun e=>(d8.mp nV).1 (e ▸ h)
  have he:=zl2 (p:=p) (r:=r) (x:=x) (a :: cs)
  have h0:=(hz x (au _ h)).sub hr
  refine zdO hp (a:=x - r) (fun e=>?_) (he.symm.trans (h0.trans (Cg.of_eq (by lia))))
  have:Cg p x r:=by
   have h1:Cg p (x - r) 0:=Cg.of_mod (by rw [e]; simp)
   have h2:=h1.add (Cg.refl p r)
   exact (Cg.of_eq (by lia)).trans (h2.trans (Cg.of_eq (by lia)))
  exact me (this.eq x0 x1 r0 r1)
theorem zdx {p x:Int}:∀ {a b:List Int},a.length=b.length→Cg p (zj p x (a7 (· - ·) a b)) (zj p x a - zj p x b)
 | [],[],_=>Cg.of_eq rfl
 | c :: a,d :: b,h=>by
  have ih:=zdx (p:=p) (x:=x) (a:=a) (b:=b) (by simpa using h)
  have h1:=zH p x c a
  have h2:=zH p x d b
  have h3:Cg p (zj p x (a7 (· - ·) (c :: a) (d :: b))) (c - d+x*zj p x (a7 (· - ·) a b)):=zH p x (c - d) _
  refine h3.trans (((Cg.refl p (c - d)).add ((Cg.refl p x).mul ih)).trans (Cg.symm ((h1.sub h2).trans (Cg.of_eq (by grind)))))
 | [],_ :: _,h=>by simp at h
 | _ :: _,[],h=>by simp at h
theorem zhX {p:Int}:∀ {a b:List Int},a.length=b.length→(∀ c∈a,0≤c∧c < p)→(∀ c∈b,0≤c∧c < p)→(∀ c∈a7 (· - ·) a b,Cg p c 0)→a=b
 | [],[],_,_,_,_=>rfl
 | c :: a,d :: b,h,ha,hb,hz=>by
  obtain⟨c0,c1⟩:=ha c aH
  obtain⟨d0,d1⟩:=hb d aH
  have h1:Cg p (c - d) 0:=hz _ aH
  have h2:Cg p c d:=(Cg.of_eq (by lia)).trans ((h1.add (Cg.refl p d)).trans (Cg.of_eq (by lia)))
  rw [h2.eq c0 c1 d0 d1,zhX (by simpa using h) (fun c hc=>ha c (au _ hc)) (fun c hc=>hb c (au _ hc)) (fun c hc=>hz c (au _ hc))]
 | [],_ :: _,h,_,_,_=>by simp at h
 | _ :: _,[],h,_,_,_=>by simp at h
theorem zhY {p:Int} (hp:p∈zm) {a b xs:List Int} (hl:a.length=b.length) (hx:a.length≤xs.length) (nV:xs.Nodup) (tR:∀ x∈xs,0≤x∧x < p) (ha:∀ c∈a,0≤c∧c < p) (hb:∀ c∈b,0≤c∧c < p)
  (he:∀ x∈xs,zj p x a=zj p x b):a=b:=by
 refine zhX hl ha hb (zcr hp a.length _ xs (by rw [cK]; lia) hx nV tR fun x h=>?_)
 refine (zdx hl).trans (Cg.of_eq ?_)
 rw [he x h]
 lia
theorem zgG {p:Int} (hp:p∈zm) {pk:List (Int×Int)} (hP:Pts p pk) {q:List Int} (hl:q.length=pk.length) (hq:∀ c∈q,0≤c∧c < p) (hh:∀ a∈pk,zj p a.1 q=a.2):q=thr p pk:=by
 obtain⟨h1,h2,h3⟩:=zc9 hp hP
 refine zhY hp (xs:=pk.map (·.1)) (by lia) (by rw [ab]; lia) hP.nd (fun x hx=>?_) hq h2 fun x hx=>?_
 ·obtain⟨a,ha,rfl⟩:=aB.mp hx
  exact⟨(hP.rg a ha).1,(hP.rg a ha).2.1⟩
 ·obtain⟨a,ha,rfl⟩:=aB.mp hx
  rw [hh a ha,h3 a ha]
theorem Pts.sub {p:Int} {pk lq:List (Int×Int)} (h:Pts p lq) (hs:pk.Sublist lq):Pts p pk:=⟨(hs.map _).nodup h.nd,fun q hq=>h.rg q (hs.subset hq)⟩
theorem zjI {α:Type} {xs:List α}:∀ {m:Nat} {c:Nat×List α},c∈chs xs m→c.2.Sublist (xs.take c.1)∧c.2.length=m∧c.1≤xs.length
 | 0,c,h=>by
  unfold chs at h
  rw [be] at h
  subst h
  exact⟨iM _,rfl,bj _⟩
 | m+1,c,h=>by
  unfold chs at h
  obtain⟨c',hm,hc⟩:=b9.mp h
  obtain⟨h1,h2,h3⟩:=zjI hm
  unfold nxt at hc
  obtain⟨j,hj,rfl⟩:=aB.mp hc
  (have pV:=bv.mp hj)
  have lT:c'.1+j < xs.length:=by lia
  have e:xs[c'.1+j]? = some xs[c'.1+j]:=ai lT
  dsimp only
  rw [e]
  refine⟨?_,by rw [aq,h2]; rfl,by lia⟩
  rw [take_snoc e]
  refine List.Sublist.append (h1.trans ?_) (List.Sublist.refl _)
  have:xs.take c'.1=(xs.take (c'.1+j)).take c'.1:=by rw [kT]; congr 1; lia
  rw [this]
  exact bU _ _
theorem sub_one {α:Type} {l:List α} {x:α} (h:l.Sublist [x]):l = []∨l = [x]:=by
 cases h with
 | cons _ h=>exact .inl (iN.mp h)
 | cons_cons _ h=>exact .inr (by rw [iN.mp h])
theorem zep {α:Type} {xs:List α}:∀ {m n:Nat} {pk:List α},pk.Sublist (xs.take n)→pk.length=m→∃ s,s≤n∧(s,pk)∈chs xs m
 | 0,n,pk,h,hl=>by
  rw [iT] at hl
  subst hl
  exact⟨0,bj _,by unfold chs; exact be.mpr rfl⟩
 | m+1,0,pk,h,hl=>by
  rw [dO] at h
  rw [iN.mp h] at hl
  simp at hl
 | m+1,n+1,pk,h,hl=>by
  cases e:xs[n]? with
  | none =>
   have:xs.take (n+1)=xs.take n:=by
    have:=List.getElem?_eq_none_iff.mp e
    rw [aP (by lia),aP this]
   rw [this] at h
   obtain⟨s,h1,h2⟩:=zep (m:=m+1) (n:=n) h hl
   exact⟨s,by lia,h2⟩
  | some x =>
   rw [take_snoc e] at h
   obtain⟨l1,l2,rfl,h1,h2⟩:=List.sublist_append_iff.mp h
   rcases (sub_one h2) with rfl | rfl
   ·rw [bH] at hl ⊢
    obtain⟨s,a1,a2⟩:=zep (m:=m+1) (n:=n) h1 hl
    exact⟨s,by lia,a2⟩
   ·obtain⟨s,a1,a2⟩:=zep (m:=m) (n:=n) h1 (by simpa using hl)
    refine⟨n+1,af _,?_⟩
    unfold chs
    refine b9.mpr ⟨(s,l1),a2,?_⟩
    have lT:=(aD.mp e).1
    unfold nxt
    refine aB.mpr ⟨n - s,bv.mpr (by show n - s < xs.length - s; lia),?_⟩
    have es:s+(n - s)=n:=by lia
    dsimp only
    rw [es,e]
    rfl
theorem zdy {α:Type} {xs pk:List α} {m:Nat}:pk∈(chs xs m).map (·.2)↔pk.Sublist xs∧pk.length=m:=by
 constructor
 ·intro h
  obtain⟨c,hc,rfl⟩:=aB.mp h
  obtain⟨h1,h2,h3⟩:=zjI hc
  exact⟨h1.trans (bU _ _),h2⟩
 ·rintro⟨h1,h2⟩
  obtain⟨s,_,hs⟩:=zep (xs:=xs) (n:=xs.length) (by rw [ba]; exact h1) h2
  exact aB.mpr ⟨_,hs,rfl⟩
def hit (p:Int) (q:List Int) (a:Int×Int):Bool:=decide (zj p a.1 q=a.2)
def hits (p:Int) (q:List Int) (lq:List (Int×Int)):Nat:=(lq.filter (hit p q)).length
def IsP (p:Int) (k:Nat) (q:List Int):Prop:=q.length=k∧∀ c∈q,0≤c∧c < p
theorem zdd {p:Int} (hp:p∈zm) {lq:List (Int×Int)} (hP:Pts p lq) {q:List Int} {k t n:Nat} (hq:IsP p k q) (hk:k≤t) (hn:lq.length≤n+(t - k)) (ht:t≤hits p q lq) :
  ∃ pk,pk∈(chs (lq.take n) k).map (·.2)∧q=thr p pk:=by
 have FK:hits p q lq=((lq.take n).filter (hit p q)).length+((lq.drop n).filter (hit p q)).length:=by
  unfold hits
  conv=>lhs; rw [← ck n lq]
  rw [cS,aq]
 have hd:=dm (hit p q) (lq.drop n)
 rw [b8] at hd
 have uF:k≤((lq.take n).filter (hit p q)).length:=by lia
 have hs:(((lq.take n).filter (hit p q)).take k).Sublist (lq.take n):=(bU _ _).trans (c6)
 have hl:(((lq.take n).filter (hit p q)).take k).length=k:=by rw [av]; lia
 refine⟨_,zdy.mpr ⟨hs,hl⟩,zgG hp (hP.sub (hs.trans (bU _ _))) (by rw [hl]; exact hq.1) hq.2 fun a ha=>?_⟩
 have:=(bE.mp ((bU _ _).subset ha)).2
 simpa [hit] using this
theorem zjJ {p:Int} (hp:p∈zm) {lq pk:List (Int×Int)} (hP:Pts p lq) {k:Nat} (h:pk∈(chs lq k).map (·.2)):IsP p k (thr p pk):=by
 obtain⟨h1,h2⟩:=zdy.mp h
 obtain⟨a,b,_⟩:=zc9 hp (hP.sub h1)
 exact⟨a.trans h2,b⟩
def lI:List Int→List (Option Int)→List (Int×Int)
 | x :: pl,some y :: rw=>(x,y) :: lI pl rw
 | _ :: pl,none :: rw=>lI pl rw
 | _,_=>[]
theorem ze2:∀ {pl:List Int} {rw:List (Option Int)} {i:Nat} {x:Int} {o:Option Int},pl[i]? = some x→rw[i]? = some o→lI (pl.take (i+1)) (rw.take (i+1))=lI (pl.take i) (rw.take i)++(match o with | some y=>[(x,y)] | none=>[])
 | [],_,i,x,o,h,_=>by simp at h
 | _ :: _,[],i,x,o,_,h=>by simp at h
 | a :: pl,b :: rw,0,x,o,h1,h2=>by
  simp only [ga,iu] at h1 h2
  subst h1 h2
  cases b <;> rfl
 | a :: pl,b :: rw,i+1,x,o,h1,h2=>by
  rw [cE] at h1 h2
  have ih:=ze2 h1 h2
  cases b with
  | none=>exact ih
  | some y =>
   show (a,y) :: lI (pl.take (i+1)) (rw.take (i+1))=(a,y) :: lI (pl.take i) (rw.take i)++_
   rw [ih]
   rfl
theorem zbv:∀ (pl:List Int) (rw:List (Option Int)),(lI pl rw).length≤pl.length
 | [],rw=>by unfold lI; simp
 | a :: pl,[]=>by unfold lI; simp
 | a :: pl,none :: rw=>by
  have:=zbv pl rw
  show (lI pl rw).length≤pl.length+1
  lia
 | a :: pl,some y :: rw=>by
  have:=zbv pl rw
  show (lI pl rw).length+1≤pl.length+1
  lia
theorem zcs:∀ {pl:List Int} {rw:List (Option Int)} {a:Int×Int},a∈lI pl rw→a.1∈pl∧some a.2∈rw
 | [],_,a,h=>by unfold lI at h; cases h
 | _ :: _,[],a,h=>by unfold lI at h; cases h
 | x :: pl,none :: rw,a,h=>by
  obtain⟨h1,h2⟩:=zcs (pl:=pl) (rw:=rw) h
  exact⟨au _ h1,au _ h2⟩
 | x :: pl,some y :: rw,a,h=>by
  rcases (aI.mp h) with rfl | h
  ·exact⟨aH,aH⟩
  ·obtain⟨h1,h2⟩:=zcs (pl:=pl) (rw:=rw) h
   exact⟨au _ h1,au _ h2⟩
theorem zgH:∀ (pl:List Int) (rw:List (Option Int)),((lI pl rw).map (·.1)).Sublist pl
 | [],_=>by unfold lI; exact iM _
 | _ :: _,[]=>by unfold lI; exact iM _
 | x :: pl,none :: rw=>(zgH pl rw).cons _
 | x :: pl,some y :: rw=>(zgH pl rw).cons_cons _
theorem zcO {p:Int} {pl:List Int} {rw:List (Option Int)} (h1:pl.Nodup) (h2:∀ x∈pl,0≤x∧x < p) (h3:∀ z,some z∈rw→0≤z∧z < p):Pts p (lI pl rw) :=
 ⟨(zgH pl rw).nodup h1,fun q hq=>⟨(h2 _ (zcs hq).1).1,(h2 _ (zcs hq).1).2,(h3 _ (zcs hq).2).1,(h3 _ (zcs hq).2).2⟩⟩
theorem zhZ {p:Int} {pl:List Int} {rw:List (Option Int)} {q:List Int} (hl:rw.length=pl.length):∀ n,n≤pl.length→(zcZ p pl rw q n).length=hits p q (lI (pl.take n) (rw.take n))
 | 0,_=>by simp [zcZ,hits,lI]
 | n+1,hn=>by
  have ih:=zhZ (p:=p) (q:=q) hl n (by lia)
  have e1:pl[n]? = some pl[n]:=ai (by lia)
  have e2:rw[n]? = some rw[n]:=ai (by lia)
  rw [zfZ,aq,ih,ze2 e1 e2]
  unfold hits
  rw [cS,aq]
  congr 1
  unfold zeS
  rw [e1,e2]
  cases rw[n] with
  | none=>rfl
  | some y =>
   show (if decide (y=zj p pl[n] q)=true then [(n:Int)] else []).length=([(pl[n],y)].filter (hit p q)).length
   by_cases e:y=zj p pl[n] q
   ·rw [bQ (by simp [hit,e])]
    simp [e]
   ·rw [bR (by simp [hit]; exact fun z=>e z.symm)]
    simp [e]
theorem zgI {p:Int} {pl:List Int} {rw:List (Option Int)} {q:List Int} (hl:rw.length=pl.length):(zcZ p pl rw q pl.length).length=hits p q (lI pl rw):=by
 have:=zhZ (p:=p) (q:=q) hl pl.length (af _)
 rw [ba,aP (by lia)] at this
 exact this
def zde (p:Int) (k:Nat) (qs:List (List Int)):Prop:=(∀ q∈qs,IsP p k q)∧qs.Pairwise fun a b=>Srt.num p a < Srt.num p b
theorem zjK {B:Int} (hB:1≤B):∀ {a b:List Int},a.length=b.length→(∀ n∈a,0≤n∧n < B)→(∀ n∈b,0≤n∧n < B)→Srt.num B a=Srt.num B b→a=b
 | [],[],_,_,_,_=>rfl
 | c :: a,d :: b,h,ha,hb,e=>by
  have h':a.length=b.length:=by simpa using h
  have ra:=Srt.num_rng hB (ns:=a) fun n hn=>ha n (au _ hn)
  have rb:=Srt.num_rng hB (ns:=b) fun n hn=>hb n (au _ hn)
  have e':c*B ^ a.length+Srt.num B a=d*B ^ b.length+Srt.num B b:=e
  rw [← h'] at e' rb
  generalize B ^ a.length=M at e' ra rb
  have hM:0 < M:=by lia
  have uB:c=d:=by
   have e2:(c - d)*M=Srt.num B b - Srt.num B a:=by
    rw [Int.sub_mul]
    lia
   rcases (j8 c d) with lT | heq | hgt
   ·have:(c - d)*M≤(-1)*M:=dF (by lia) (by lia)
    lia
   ·exact heq
   ·have:1*M≤(c - d)*M:=dF (by lia) (by lia)
    lia
  subst uB
  rw [zjK hB h' (fun n hn=>ha n (au _ hn)) (fun n hn=>hb n (au _ hn)) (by lia)]
 | [],_ :: _,h,_,_,_=>by simp at h
 | _ :: _,[],h,_,_,_=>by simp at h
theorem zjL {p:Int} (hp:1≤p) {k:Nat} {qs:List (List Int)} (h1:∀ q∈qs,IsP p k q) (h2:qs.Nodup) (h3:qs.Pairwise fun a b=>Srt.num p a≤Srt.num p b):zde p k qs:=by
 refine⟨h1,?_⟩
 have h4:=h3.and h2
 refine fV (fun {a b} ha hb h=>?_) h4
 have me:Srt.num p a≠Srt.num p b:=fun e=>h.2 (zjK hp ((h1 a ha).1.trans (h1 b hb).1.symm) (h1 a ha).2 (h1 b hb).2 e)
 have:=h.1
 lia
theorem zde.tail {p:Int} {k:Nat} {q:List Int} {qs:List (List Int)} (h:zde p k (q :: qs)):zde p k qs:=⟨fun x hx=>h.1 x (au _ hx),(gW.mp h.2).2⟩
theorem zjM {p:Int} {k:Nat}:∀ {as bs:List (List Int)},zde p k as→zde p k bs→(∀ q,q∈as↔q∈bs)→as=bs
 | [],[],_,_,_=>rfl
 | [],b :: bs,_,_,h=>by
  have:=(h b).mpr aH
  cases this
 | a :: as,[],_,_,h=>by
  have:=(h a).mp aH
  cases this
 | a :: as,b :: bs,ha,hb,h=>by
  have pa:=(gW.mp ha.2).1
  have pb:=(gW.mp hb.2).1
  have e:a=b:=by
   rcases (aI.mp ((h a).mp aH)) with e | ma
   ·exact e
   ·rcases (aI.mp ((h b).mpr aH)) with e | mb
    ·exact e.symm
    ·have:=pb a ma
     have:=pa b mb
     lia
  subst e
  rw [zjM ha.tail hb.tail fun q=>?_]
  have hq:=h q
  rw [aI,aI] at hq
  constructor
  ·intro m
   rcases (hq.mp (.inr m)) with rfl | z
   ·exact absurd (pa q m) (by lia)
   ·exact z
  ·intro m
   rcases (hq.mpr (.inr m)) with rfl | z
   ·exact absurd (pb q m) (by lia)
   ·exact z
theorem zde.filter {p:Int} {k:Nat} {qs:List (List Int)} (f:List Int→Bool) (h:zde p k qs):zde p k (qs.filter f):=⟨fun q hq=>h.1 q (bE.mp hq).1,h.2.filter f⟩
end My
end
section
namespace My
open PySem L2 PyProof.Rows
def sm:Nat→(Nat→Int)→Int
 | 0,_=>0
 | n+1,f=>sm n f+f n
theorem zY {f g:Nat→Int}:∀ {n:Nat},(∀ i,i < n→f i=g i)→sm n f=sm n g
 | 0,_=>rfl
 | n+1,h=>by
  show sm n f+f n=sm n g+g n
  rw [zY (n:=n) fun i hi=>h i (by lia),h n (by lia)]
theorem zf6 {p:Int} {f g:Nat→Int}:∀ {n:Nat},(∀ i,i < n→Cg p (f i) (g i))→Cg p (sm n f) (sm n g)
 | 0,_=>Cg.refl _ _
 | n+1,h=>(zf6 (n:=n) fun i hi=>h i (by lia)).add (h n (by lia))
theorem zgJ {f g:Nat→Int}:∀ n:Nat,sm n (fun i=>f i+g i)=sm n f+sm n g
 | 0=>rfl
 | n+1=>by
  show sm n (fun i=>f i+g i)+(f n+g n)=sm n f+f n+(sm n g+g n)
  rw [zgJ n]
  lia
theorem zbg {c:Int} {f:Nat→Int}:∀ n:Nat,sm n (fun i=>c*f i)=c*sm n f
 | 0=>by show (0:Int)=c*0; lia
 | n+1=>by
  show sm n (fun i=>c*f i)+c*f n=c*(sm n f+f n)
  rw [zbg n,Int.mul_add]
theorem zbh {f:Nat→Int}:∀ {n:Nat},(∀ i,i < n→f i=0)→sm n f=0
 | 0,_=>rfl
 | n+1,h=>by
  show sm n f+f n=0
  rw [zbh (n:=n) fun i hi=>h i (by lia),h n (by lia)]
  rfl
theorem ziP {f:Nat→Int} {j:Nat}:∀ {n:Nat},j < n→(∀ i,i < n→i≠j→f i=0)→sm n f=f j
 | 0,hj,_=>by lia
 | n+1,hj,h=>by
  show sm n f+f n=f j
  by_cases e:j=n
  ·subst e
   rw [zbh fun i hi=>h i (by lia) (by lia)]
   lia
  ·rw [ziP (n:=n) (by lia) fun i hi me=>h i (by lia) me,h n (by lia) (by lia)]
   lia
theorem zcP {f:Nat→Int}:∀ n:Nat,sm (n+1) f=f 0+sm n (fun i=>f (i+1))
 | 0=>by show (0:Int)+f 0=f 0+0; lia
 | n+1=>by
  show sm (n+1) f+f (n+1)=f 0+(sm n (fun i=>f (i+1))+f (n+1))
  rw [zcP n]
  lia
theorem zgK {f:Nat→Nat→Int} (m:Nat):∀ n:Nat,sm n (fun i=>sm m (fun j=>f i j))=sm m (fun j=>sm n fun i=>f i j)
 | 0=>(zbh fun _ _=>rfl).symm
 | n+1=>by
  show sm n (fun i=>sm m (fun j=>f i j))+sm m (fun j=>f n j)=sm m (fun j=>sm n (fun i=>f i j)+f n j)
  rw [zgK m n,← zgJ]
theorem zeq {f:Nat→Int} {m:Nat}:∀ {n:Nat},m≤n→(∀ i,m≤i→i < n→f i=0)→sm n f=sm m f
 | 0,h,_=>by rw [show m=0 by lia]
 | n+1,h,hz=>by
  by_cases e:m=n+1
  ·rw [e]
  ·show sm n f+f n=_
   rw [zeq (n:=n) (by lia) fun i h1 h2=>hz i h1 (by lia),hz n (by lia) (by lia)]
   lia
def gl (w:List Int) (y:Nat):Int:=w.getD y 0
theorem zbW {w:List Int} {y:Nat} {c:Int} (h:w[y]? = some c):gl w y=c:=by
 unfold gl
 rw [aQ,h]
 rfl
theorem zaZ {w:List Int} {y:Nat} (h:w.length≤y):gl w y=0:=by
 unfold gl
 rw [aQ,cw h]
 rfl
theorem zbp {w:List Int} {y:Nat} (h:y < w.length):w[y]? = some (gl w y):=by
 rw [ai h,zbW (ai h)]
theorem ze3 {w:List Int} {p:Int} (hp:0 < p) (h:∀ c∈w,0≤c∧c < p) (y:Nat):0≤gl w y∧gl w y < p:=by
 by_cases hy:y < w.length
 ·exact h _ (aF (zbp hy))
 ·rw [zaZ (by lia)]
  lia
theorem zpq {f:Int→Int} {w:List Int} {y:Nat} (h:y < w.length):gl (w.map f) y=f (gl w y):=zbW (by rw [ah,zbp h]; rfl)
theorem zl3 {f:Int→Int→Int} {v w:List Int} {y:Nat} (h:y < v.length) (h':y < w.length):gl (a7 f v w) y=f (gl v y) (gl w y):=zbW (by rw [dk,zbp h,zbp h'])
theorem zl4 {v w:List Int} (hl:v.length=w.length) (h:∀ y,y < v.length→gl v y=gl w y):v=w:=by
 refine gd fun y=>?_
 by_cases hy:y < v.length
 ·rw [zbp hy,zbp (by lia),h y hy]
 ·rw [cw (by lia),cw (by lia)]
theorem zjN {p x:Int}:∀ q:List Int,Cg p (zj p x q) (sm q.length fun i=>gl q i*x ^ i)
 | []=>Cg.refl _ _
 | c :: q=>by
  refine (zH p x c q).trans ?_
  rw [bn,zcP]
  have e:sm q.length (fun i=>gl (c :: q) (i+1)*x ^ (i+1))=x*sm q.length (fun i=>gl q i*x ^ i):=by
   rw [← zbg]
   refine zY fun i _=>?_
   show gl q i*x ^ (i+1)=_
   rw [dE]
   grind
  rw [e]
  refine Cg.add (Cg.of_eq ?_) ((Cg.refl p x).mul (zjN q))
  show c=c*x ^ 0
  rw [gF,kb]
theorem za1 {p x:Int} {q:List Int} {n:Nat} (h:q.length≤n):Cg p (zj p x q) (sm n fun i=>gl q i*x ^ i):=by
 rw [zeq h fun i h1 _=>by rw [zaZ h1,cI]]
 exact zjN q
def vx (vs:List (List Int)) (i x:Nat):Int:=gl (vs.getD i []) x
def Rel (p:Int) (L N:Nat) (vs:List (List Int)) (u:Nat→Int):Prop:=∀ x,x < L→Cg p (u x) (sm N fun i=>u (L+i)*vx vs i x)
theorem Rel.sub {p:Int} {L N:Nat} {vs:List (List Int)} {u w r:Nat→Int} (hu:Rel p L N vs u) (hw:Rel p L N vs w) (t:Int) (hr:∀ y,y < L+N→Cg p (r y) (u y - t*w y)):Rel p L N vs r:=fun x hx=>by
 refine (hr x (by lia)).trans (((hu x hx).sub ((Cg.refl p t).mul (hw x hx))).trans ?_)
 have e:sm N (fun i=>u (L+i)*vx vs i x) - t*sm N (fun i=>w (L+i)*vx vs i x)=sm N (fun i=>(u (L+i) - t*w (L+i))*vx vs i x):=by
  rw [show ∀ a b:Int,a - t*b=a+(-t)*b by intros; grind,← zbg,← zgJ]
  exact zY fun i _=>by grind
 rw [e]
 exact zf6 fun i hi=>(hr (L+i) (by lia)).symm.mul (Cg.refl _ _)
structure Ech (p:Int) (L N m:Nat) (vs:List (List Int)) (cl:List (Nat×List Int)):Prop where
 ln:cl.length=m
 one:∀ (j:Nat) (a:Nat×List Int),cl[j]? = some a→a.1 < L∧a.2.length=L+N∧(∀ c∈a.2,0≤c∧c < p)∧Rel p L N vs (gl a.2)∧gl a.2 a.1=1∧∀ i,j < i→i < N→gl a.2 (L+i)=0
 up:∀ (j j':Nat) (a a':Nat×List Int),cl[j]? = some a→cl[j']? = some a'→j < j'→gl a'.2 a.1=0
 ii:∀ u:Nat→Int,Rel p L N vs u→(∀ i,m≤i→i < N→Cg p (u (L+i)) 0)→(∀ a∈cl,Cg p (u a.1) 0)→∀ i,i < N→Cg p (u (L+i)) 0
theorem Ech.start (p:Int) (L N:Nat) (vs:List (List Int)):Ech p L N 0 vs [] where
 ln:=rfl
 one:=fun _ _ h=>by simp at h
 up:=fun _ _ _ _ h=>by simp at h
 ii:=fun u _ h _ i hi=>h i (bj _) hi
structure Wh (p:Int) (L N m:Nat) (vs:List (List Int)) (cl:List (Nat×List Int)) (w:List Int):Prop where
 ln:w.length=L+N
 rg:∀ c∈w,0≤c∧c < p
 rel:Rel p L N vs (gl w)
 top:gl w (L+m)=1
 up:∀ j,m < j→j < N→gl w (L+j)=0
 z:∀ a∈cl,gl w a.1=0
theorem zh0 {p:Int} (hp:p∈zm) {L N m:Nat} {vs:List (List Int)} {v:List Int} (hm:m < N) (hv:vs[m]? = some v) (hl:v.length=L) (hr:∀ c∈v,0≤c∧c < p):Wh p L N m vs [] ((v++ap N 0).set (L+m) 1):=by
 have rp:=zp hp
 have FN:∀ y,y < L→gl ((v++ap N 0).set (L+m) 1) y=gl v y:=fun y hy=>zbW (by
  rw [et (by lia),bo (by lia),zbp (by lia)])
 have pg:gl ((v++ap N 0).set (L+m) 1) (L+m)=1:=zbW (by
  rw [gg (by rw [aq,aU]; lia)])
 have hz:∀ j,j < N→j≠m→gl ((v++ap N 0).set (L+m) 1) (L+j)=0:=fun j hj me=>zbW (by
  rw [et (by lia),bN (by lia),cX]
  rw [if_pos (by lia)])
 refine⟨by rw [iX,aq,aU,hl],fun c hc=>?_,fun x hx=>?_,pg,fun j h1 h2=>hz j h2 (by lia),fun a ha=>by cases ha⟩
 ·rcases List.mem_or_eq_of_mem_set hc with h | rfl
  ·rcases (bf.mp h) with h | h
   ·exact hr c h
   ·rw [eQ h]; lia
  ·lia
 ·rw [FN x hx,ziP (j:=m) hm fun i hi me=>by rw [hz i hi me,cI],pg,gk]
  unfold vx
  rw [aQ,hv]
  exact Cg.refl _ _
theorem zjO {p:Int} (hp:p∈zm) {L N m i:Nat} {vs:List (List Int)} {cl:List (Nat×List Int)} {w:List Int} {a:Nat×List Int} (E:Ech p L N m vs cl) (hm:m < N) (ha:cl[i]? = some a) (W:Wh p L N m vs (cl.take i) w) :
  Wh p L N m vs (cl.take (i+1)) (a7 (fun x y=>(x - gl w a.1*y) % p) w a.2):=by
 have rp:=zp hp
 obtain⟨a1,a2,a3,a4,a5,a6⟩:=E.one i a ha
 have BV:i < m:=by rw [← E.ln]; exact (aD.mp ha).1
 have hg:∀ y,y < L+N→gl (a7 (fun x y=>(x - gl w a.1*y) % p) w a.2) y=(gl w y - gl w a.1*gl a.2 y) % p:=fun y hy=>zl3 (by rw [W.ln]; exact hy) (by lia)
 refine⟨by rw [cK,W.ln,a2,Nat.min_self],fun c hc=>?_,W.rel.sub a4 (gl w a.1) fun y hy=>by rw [hg y hy]; exact Cg.emod _ _,?_,fun j h1 h2=>?_,fun b hb=>?_⟩
 ·obtain⟨x,y,rfl⟩:=zeK hc
  exact⟨aG _ (by lia),az _ (by lia)⟩
 ·rw [hg _ (by lia),W.top,a6 m BV hm,cH,j2]
  exact cr (by lia) (by lia)
 ·rw [hg _ (by lia),W.up j h1 h2,a6 j (by lia) h2,cH]
  rfl
 ·rw [take_snoc ha] at hb
  rcases (bf.mp hb) with hb | hb
  ·obtain⟨j,hj⟩:=cW hb
   have BW:j < i:=by
    have:=(aD.mp hj).1
    rw [av] at this
    lia
   have pV:cl[j]? = some b:=by rw [bL BW] at hj; exact hj
   have tB:=(E.one j b pV).1
   rw [hg _ (by lia),W.z b hb,E.up j i b a pV ha BW,cH]
   rfl
  ·obtain rfl:b=a:=by simpa using hb
   rw [hg _ (by lia),a5,kb,Int.sub_self]
   rfl
theorem zh1 {p:Int} (hp:p∈zm) {L N m:Nat} {vs:List (List Int)} {cl:List (Nat×List Int)} {w:List Int} {ld:Nat} (E:Ech p L N m vs cl) (hm:m < N) (W:Wh p L N m vs cl w) (DP:ld < L) (h0:gl w ld≠0) :
  Ech p L N (m+1) vs (cl++[(ld,w.map fun x=>x*inv p (gl w ld) % p)]):=by
 have rp:=zp hp
 obtain⟨g0,g1⟩:=ze3 (show 0 < p by lia) W.rg ld
 have hi:=zeJ hp (h:=gl w ld) (by lia) g1
 have hg:∀ y,y < L+N→gl (w.map fun x=>x*inv p (gl w ld) % p) y=gl w y*inv p (gl w ld) % p:=fun y hy=>zpq (f:=fun x=>x*inv p (gl w ld) % p) (by rw [W.ln]; exact hy)
 have mU:∀ j a,(cl++[(ld,w.map fun x=>x*inv p (gl w ld) % p)])[j]? = some a→(j < m∧cl[j]? = some a)∨(j=m∧a=(ld,w.map fun x=>x*inv p (gl w ld) % p)):=fun j a h=>by
  by_cases hj:j < m
  ·rw [bo (by rw [E.ln]; exact hj)] at h
   exact .inl ⟨hj,h⟩
  ·rw [bN (by rw [E.ln]; lia),E.ln] at h
   have tQ:j - m=0:=by
    have:=(aD.mp h).1
    simp at this
    lia
   rw [tQ] at h
   exact .inr ⟨by lia,(by simpa using h.symm)⟩
 refine⟨by rw [aq,E.ln]; rfl,fun j a h=>?_,fun j j' a a' h h' lT=>?_,fun u hu hup hz i oC=>?_⟩
 ·rcases mU j a h with ⟨_,h⟩ | ⟨rfl,rfl⟩
  ·exact E.one j a h
  ·refine⟨DP,by rw [ab,W.ln],fun c hc=>?_,?_,?_,fun i h1 h2=>?_⟩
   ·obtain⟨x,_,rfl⟩:=aB.mp hc
    exact⟨aG _ (by lia),az _ (by lia)⟩
   ·refine Rel.sub (u:=fun _=>0) (fun x _=>Cg.of_eq (zbh fun i _=>cI _).symm) W.rel (-inv p (gl w ld)) fun y hy=>?_
    rw [hg y hy]
    exact (Cg.emod _ _).trans (Cg.of_eq (by grind))
   ·rw [hg ld (by lia)]
    have h2:Cg p (gl w ld*inv p (gl w ld)) 1:=(Cg.of_eq (dG _ _)).trans hi
    rw [h2.mod_eq]
    exact cr (by lia) (by lia)
   ·rw [hg _ (by lia),W.up i h1 h2,cI]
    rfl
 ·rcases mU j' a' h' with ⟨pV,h'⟩ | ⟨rfl,rfl⟩
  ·rcases mU j a h with ⟨_,h⟩ | ⟨rfl,_⟩
   ·exact E.up j j' a a' h h' lT
   ·lia
  ·rcases mU j a h with ⟨_,h⟩ | ⟨rfl,_⟩
   ·have:=(E.one j a h).1
    rw [hg _ (by lia),W.z a (aF h),cI]
    rfl
   ·lia
 ·have hru:Rel p L N vs (fun y=>u y - u (L+m)*gl w y):=hu.sub W.rel (u (L+m)) fun y _=>Cg.refl _ _
  have nE:=E.ii (fun y=>u y - u (L+m)*gl w y) hru (fun i h1 h2=>by
   by_cases e:i=m
   ·subst e
    show Cg p (u (L+i) - u (L+i)*gl w (L+i)) 0
    rw [W.top]
    exact Cg.of_eq (by lia)
   ·show Cg p (u (L+i) - u (L+m)*gl w (L+i)) 0
    rw [W.up i (by lia) h2,cH,j2]
    exact hup i (by lia) h2) (fun a ha=>by
   show Cg p (u a.1 - u (L+m)*gl w a.1) 0
   rw [W.z a ha,cH,j2]
   exact hz a (aW _ ha))
  have BX:Cg p (u ld - u (L+m)*gl w ld) 0:=(hru ld DP).trans ((zf6 (g:=fun _=>0) fun i hi=>((nE i hi).mul (Cg.refl _ _)).trans (Cg.of_eq (cI _))).trans (Cg.of_eq (zbh fun _ _=>rfl)))
  have qg:=hz (ld,_) (aL _ (be.mpr rfl))
  have hc:Cg p (gl w ld*u (L+m)) 0:=by
   have:=qg.sub BX
   exact (Cg.of_eq (by show gl w ld*u (L+m)=u ld - (u ld - u (L+m)*gl w ld); grind)).trans (this.trans (Cg.of_eq (by lia)))
  have vK:Cg p (u (L+m)) 0:=zdO hp (by rw [cr g0 g1]; exact h0) hc
  have:=nE i oC
  have h3:=this.add (vK.mul (Cg.refl p (gl w (L+i))))
  exact (Cg.of_eq (by show u (L+i)=u (L+i) - u (L+m)*gl w (L+i)+u (L+m)*gl w (L+i); lia)).trans (h3.trans (Cg.of_eq (by lia)))
def Indep (p:Int) (L:Nat) (vs:List (List Int)):Prop:=∀ u:Nat→Int,(∀ x,x < L→Cg p (sm vs.length fun i=>u i*vx vs i x) 0)→∀ i,i < vs.length→Cg p (u i) 0
def Dep (p:Int) (L:Nat) (vs:List (List Int)) (c:List Int):Prop:=∀ x,x < L→Cg p (sm vs.length fun i=>gl c i*vx vs i x) 0
theorem zl5 {p:Int} {L:Nat} {vs:List (List Int)} {cl:List (Nat×List Int)} (E:Ech p L vs.length vs.length vs cl):Indep p L vs:=fun u hu i hi=>by
 have h:=E.ii (fun y=>if y < L then sm vs.length (fun i=>u i*vx vs i y) else u (y - L)) (fun x hx=>?_) (fun i h1 h2=>by lia) (fun a ha=>?_) i hi
 ·rw [if_neg (by lia),dM] at h
  exact h
 ·dsimp only
  rw [if_pos hx]
  refine Cg.of_eq (zY fun i _=>?_)
  rw [if_neg (by lia),dM]
 ·obtain⟨j,hj⟩:=cW ha
  have:=(E.one j a hj).1
  rw [if_pos this]
  exact hu _ this
theorem zl6 {p:Int} {L m:Nat} {vs:List (List Int)} {cl:List (Nat×List Int)} {w:List Int} (W:Wh p L vs.length m vs cl w) (hm:m < vs.length) (hz:∀ x,x < L→gl w x=0) :
  IsP p (m+1) ((w.drop L).take (m+1))∧gl ((w.drop L).take (m+1)) m=1∧Dep p L vs ((w.drop L).take (m+1)):=by
 have hg:∀ i,i≤m→gl ((w.drop L).take (m+1)) i=gl w (L+i):=fun i hi=>zbW (by
  rw [bL (by lia),eZ]
  exact zbp (by rw [W.ln]; lia))
 have hl:((w.drop L).take (m+1)).length=m+1:=by
  rw [av,b8,W.ln]
  lia
 refine⟨⟨hl,fun c hc=>W.rg c (gC (dH hc))⟩,by rw [hg m (af _)]; exact W.top,fun x hx=>?_⟩
 have h:=W.rel x hx
 rw [hz x hx] at h
 refine Cg.trans (Cg.of_eq (zY fun i hi=>?_)) h.symm
 by_cases e:i≤m
 ·rw [hg i e]
 ·rw [W.up i (by lia) hi,zaZ (by lia)]
end My
end
section
namespace My
open PySem L2 PyProof.Rows
theorem znG {α β:Type} (f:α→β) (xs:List α) (c:Nat×List α):nxt (xs.map f) (c.1,c.2.map f)=(nxt xs c).map fun d=>(d.1,d.2.map f):=by
 unfold nxt
 rw [bq,ab]
 refine ci fun j _=>?_
 show (c.1+j+1,c.2.map f++(xs.map f)[c.1+j]?.toList)=(c.1+j+1,(c.2++xs[c.1+j]?.toList).map f)
 rw [ah,ao]
 cases xs[c.1+j]? <;> rfl
theorem zjP {α β:Type} (f:α→β) (xs:List α):∀ m,chs (xs.map f) m=(chs xs m).map fun d=>(d.1,d.2.map f)
 | 0=>rfl
 | m+1=>by
  show (chs (xs.map f) m).flatMap (nxt (xs.map f))=((chs xs m).flatMap (nxt xs)).map _
  rw [zjP f xs m,kA,List.flatMap_map]
  congr 1
  funext c
  exact znG f xs c
theorem zf7 {α β:Type} (f:α→β) (xs:List α) (m:Nat):(chs (xs.map f) m).map (·.2)=((chs xs m).map (·.2)).map (·.map f):=by
 rw [zjP,bq,bq]
 rfl
def PtB (H:Hp):List Addr→List (Int×Int)→Prop:=Paired fun b q=>H b=some (.tup [.int q.1,.int q.2])
theorem PtB.same {H H':Hp} (s:zt H H') {bs:List Addr} {lq:List (Int×Int)} (h:PtB H bs lq):PtB H' bs lq:=cJ (fun _ _ z=>s _ _ z) h
theorem PtB.zs {H:Hp}:∀ {bs:List Addr} {lq:List (Int×Int)},PtB H bs lq→∃ zs:List (Addr×Int×Int),bs=zs.map (·.1)∧lq=zs.map (·.2)∧∀ z∈zs,H z.1=some (.tup [.int z.2.1,.int z.2.2])
 | _,_,.nil=>⟨[],rfl,rfl,by simp⟩
 | _,_,.cons (a:=b) (b:=q) r t=>by
  obtain⟨zs,h1,h2,h3⟩:=PtB.zs t
  refine⟨(b,q) :: zs,by rw [h1]; rfl,by rw [h2]; rfl,fun z hz=>?_⟩
  rcases (aI.mp hz) with rfl | hz
  ·exact r
  ·exact h3 z hz
theorem PtB.take {H:Hp} {bs:List Addr} {lq:List (Int×Int)} (h:PtB H bs lq) (n:Nat):PtB H (bs.take n) (lq.take n):=by
 induction h generalizing n with
 | nil=>rw [ie,ie]; exact .nil
 | cons r t ih =>
  cases n with
  | zero=>exact .nil
  | succ n=>exact .cons r (ih n)
def zbi (H:Hp):List Addr→List (List Int)→Prop:=Paired fun r q=>H r=some (.tup (q.map V.int))
theorem zbi.same {H H':Hp} (s:zt H H') {rs:List Addr} {qs:List (List Int)} (h:zbi H rs qs):zbi H' rs qs:=cJ (fun _ _ z=>s _ _ z) h
theorem zbi.of {H:Hp}:∀ {ps:List (Addr×List Int)},(∀ q∈ps,H q.1=some (.tup (q.2.map V.int)))→zbi H (ps.map (·.1)) (ps.map (·.2))
 | [],_=>.nil
 | a :: ps,h=>.cons (h a aH) (zbi.of fun q hq=>h q (au _ hq))
theorem zl7 {κ:Type} [DecidableEq κ] (lB:List (κ×V)) (k:κ) (v:V):(putK lB k v).map (·.1)=if k∈lB.map (·.1) then lB.map (·.1) else lB.map (·.1)++[k]:=by
 unfold putK
 by_cases h:(lB.any fun kv=>decide (kv.1=k))=true
 ·rw [if_pos h]
  obtain⟨kv,h1,h2⟩:=kB.mp h
  have h2:kv.1=k:=by simpa using h2
  rw [if_pos (by rw [← h2]; exact dN h1),bq]
  refine ci fun a _=>?_
  show (if a.1=k then (a.1,v) else a).1=a.1
  split <;> rfl
 ·rw [if_neg h]
  rw [if_neg (fun hm=>h ?_),ao]
  ·rfl
  ·obtain⟨kv,h1,h2⟩:=aB.mp hm
   exact kB.mpr ⟨kv,h1,by simpa using h2⟩
theorem znH {a b:List Int} (h:(a.map cY:List Key)=b.map cY):a=b:=by
 induction a generalizing b with
 | nil=>cases b with
  | nil=>rfl
  | cons _ _=>simp at h
 | cons x a ih=>cases b with
  | nil=>simp at h
  | cons y b =>
   rw [aZ,aZ] at h
   obtain⟨h1,h2⟩:=jE h
   rw [i7 h1,ih h2]
def KeysAre (lB:List (List Key×V)) (nL:List (List Int)):Prop:=lB.map (·.1)=nL.map (·.map cY)
theorem zl8 {lB:List (List Key×V)} {nL:List (List Int)} (h:KeysAre lB nL) (hn:nL.Nodup) (q:List Int) (v:V):∃ uP,KeysAre (putK lB (q.map cY) v) uP∧uP.Nodup∧uP.length≤nL.length+1∧∀ x,x∈uP↔x∈nL∨x=q:=by
 unfold KeysAre at h ⊢
 rw [zl7,h]
 have hm:(q.map cY:List Key)∈nL.map (·.map cY)↔q∈nL:=by
  constructor
  ·intro hm
   obtain⟨x,hx,e⟩:=aB.mp hm
   rw [← znH e]
   exact hx
  ·intro hm
   exact dN hm
 by_cases hq:q∈nL
 ·refine⟨nL,by rw [if_pos (hm.mpr hq)],hn,by lia,fun x=>⟨.inl,fun z=>z.elim id fun e=>e ▸ hq⟩⟩
 ·refine⟨nL++[q],by rw [if_neg fun z=>hq (hm.mp z),ao]; rfl,?_,by rw [aq]; exact af _,fun x=>by rw [bf,be]⟩
  rw [er]
  exact⟨hn,by simp,fun a ha b hb e=>hq (by rw [← be.mp hb,← e]; exact ha)⟩
def znI (K:ag):Sp:=fun vs H Q _=>∃ (c tt r:Addr) (p k:Int) (pl:List Int) (rw:List (Option Int)),vs = [.ref c,.ref r]∧zbf H c tt p k pl∧RowAt K H r pl.length rw∧pl.length≤1000 ∧
 ∀ (l:Addr) (bs:List Addr) (H':Hp),H l=none→zt H H'→H' l=some (.lst (bs.map V.ref))→PtB H' bs (lI pl rw)→Q (.ref l) H'
def ze4 (K:ag):Sp:=fun vs H Q _=>∃ (c tt a:Addr) (p:Int) (k:Nat) (pl:List Int) (bs:List Addr) (lq:List (Int×Int)),vs = [.ref c,.ref a]∧zbf H c tt p k pl∧lr K H a (bs.map V.ref)∧PtB H bs lq∧lq.length≤16∧p∈zm∧Pts p lq∧1≤k∧k≤100 ∧
 ∀ (l:Addr) (rs:List Addr) (qs:List (List Int)) (H':Hp),H l=none→zt H H'→H' l=some (.lst (rs.map V.ref))→zbi H' rs qs→qs.length≤65536→zde p k qs→(∀ q,q∈qs↔∃ pk∈(chs lq k).map (·.2),q=thr p pk)→Q (.ref l) H'
end My
end
section
namespace My
open PySem L2 PyProof.Rows
end My
end
section
namespace L2
open PySem PySem.Spec PyProof.Rows
def Itd (d:Addr) (o:Obj) (lB:List (List Key×V)):It :=
 ⟨fun i H=>H d=some (.frz o (.dT lB))∧i < lB.length,fun i H x H'=>H'=H∧∃ a k,x = .ref a∧(lB.map (·.1))[i]? = some k∧H a=some (.tup (k.map kV)),fun i H=>H d=some (.frz o (.dT lB))∧lB.length≤i⟩
theorem zl9 {P:Program} {w:World} {H:Hp} {h:Heap} {d:Addr} {o:Obj} {lB:List (List Key×V)} {es:Array DictEntry} {ep:Nat} (hd:o.data = .dict es ep) (x:zax P w H h d (.frz o (.dT lB))) :
  zd6 h d es ep∧es.size=lB.length∧∀ (i:Nat) (e:DictEntry),es[i]? = some e→∃ a k,e.key = .ref a∧(lB.map (·.1))[i]? = some k∧H a=some (.tup (k.map kV)):=by
 obtain⟨ho,_,_,xs,hp,o',vf,Dl,uA,hx,he,vz,nV⟩:=x
 have e1:o'=o:=by rw [ho] at uA; exact (aT uA).symm
 subst e1
 rw [he] at hd
 cases hd
 have hl:es.toList.length=lB.length:=by rw [vz,ab]; exact (bm hp).symm
 refine⟨⟨o',ho,hx,he⟩,by simpa using hl,fun i e h=>?_⟩
 have h':es.toList[i]? = some e:=by rw [bt]; exact h
 rw [vz,ah] at h'
 cases wU:xs[i]? with
 | none=>rw [wU] at h'; cases h'
 | some x =>
  rw [wU] at h'
  have wy:e=entryOfKey (tupleKind (zau P w)) x:=(aT h').symm
  have key:∀ {lB:List (List Key×V)} {xs:List (List Key×Addr×Value)},Paired (fun (p:List Key×V) (q:List Key×Addr×Value)=>p.1=q.1∧H q.2.1=some (.tup (p.1.map kV))∧RelV p.2 q.2.2) lB xs→∀ (i:Nat) x,xs[i]? = some x→∃ p,lB[i]? = some p∧H x.2.1=some (.tup (p.1.map kV)):=by
   intro lB xs hp
   induction hp with
   | nil=>intro i x h; simp at h
   | cons h1 _ ih =>
    intro i x h
    cases i with
    | zero =>
     (simp only [ga,iu] at h)
     subst h
     exact⟨_,rfl,h1.2.1⟩
    | succ i =>
     rw [cE] at h
     obtain⟨p,hp,hh⟩:=ih i x h
     exact⟨p,by rw [cE]; exact hp,hh⟩
  obtain⟨p,qL,hh⟩:=key hp i x wU
  exact⟨x.2.1,p.1,by rw [wy]; rfl,by rw [ah,qL]; rfl,hh⟩
theorem znJ {P:Program} {w:World} {K:ag} {tg:Expr} (d it:Addr) (o:Obj) (lB:List (List Key×V)) (es:Array DictEntry) (ep:Nat) (hd:o.data = .dict es ep):Turn P w K tg (Itd d o lB) [it] it (fun i h=>h.IsKeyIter it d i es.size ep) where
 mem:=by simp
 obj:=fun i h st b hb=>by
  have e:b=it:=by simpa using hb
  subst e
  obtain⟨o,e,c,d⟩:=st
  exact⟨o,e,fun v z=>by rw [d] at z; cases z⟩
 keep:=fun i h h' st k=>st.at fun o e=>k it (by simp) o e
 item:=by
  intro X hP hw hK hc i lj s σ H E I hf st hg
  subst hP hw hK
  obtain⟨hq,hi⟩:=hg
  obtain⟨vI,hsz,qk⟩:=zl9 hd (I.hok d _ hq)
  have oC:i < es.size:=by lia
  obtain⟨a,k,he,hk,ha⟩:=qk i es[i] (getElem?_pos es i oC)
  obtain⟨f0,f1,f2,f3,f4,f5⟩:=hf it (by simp)
  refine zhR st vI (getElem?_pos es i oC) fun h' ly sb=>?_
  have I1:Inv X lj σ H { s with heap:=h' }:=I.turned (t':=s.toks) (fun b o hb e=>(sb.2 b hb).trans e) f0 f1 f3 f4 f5
  obtain⟨o,e,c,d⟩:=id ly
  exact⟨_,rfl,zfI (s:={ s with heap:=h' }) e c d (by decide) ⟨.ref a,H,I1,by rw [he]; rfl,⟨rfl,a,k,rfl,hk,ha⟩,ly,fun b hb=>(hf b hb).1⟩⟩
 done:=by
  intro X hP hw hK hc i lj s σ H E I hf st hg
  subst hP hw hK
  obtain⟨hq,hi⟩:=hg
  obtain⟨vI,hsz,qk⟩:=zl9 hd (I.hok d _ hq)
  obtain⟨f0,f1,f2,f3,f4,f5⟩:=hf it (by simp)
  exact zjC (I.ok.hd hc) st vI (by lia) fun h' eb=>⟨rfl,I.turned (t':=s.toks) (fun b o hb e=>eb b o hb e) f0 f1 f3 f4 f5⟩
 self:=fun _ _ _ _ _ st h=>jy st h
theorem Inv.frzT {X:Cx} {lj:List (Addr×Obj)} {σ:St} {H:Hp} {s:Shared} {d:Addr} {o:Obj} {lB:List (List Key×V)} (I:Inv X lj σ H s) (hd:H d=some (.dT lB)) (ho:s.heap.get? d=some o):Inv X lj σ (lu H d (.frz o (.dT lB))) s:=by
 have ne:∀ b u,H b=some u→(∀ k,u≠.dT k)→b≠d:=fun b u e n z=>by subst z; rw [hd] at e; exact n lB (aT e).symm
 have nn:∀ b,H b=none→b≠d:=fun b e z=>by subst z; rw [hd] at e; cases e
 have up:∀ b,H b=none→lu H d (.frz o (.dT lB)) b=none:=fun b e=>by rw [zr (nn b e)]; exact e
 refine⟨I.ok,I.os,I.bare,⟨I.base.keep,I.base.slot,fun b u e n hx=>up b (I.base.free b u e n hx),I.base.there,fun b xs e=>?_,fun b u xs e=>?_,fun b ps e=>?_⟩,I.loc,I.cell,up _ I.free,fun x c e=>up _ (I.freeC x c e),fun p qL=>?_,fun b u e=>?_,I.len⟩
 ·have:=I.base.tups b xs e
  rw [zr (ne b _ this fun k z=>by cases z)]
  exact this
 ·have:=I.base.frzs b u xs e
  rw [zr (ne b _ this fun k z=>by cases z)]
  exact this
 ·obtain⟨more,q⟩:=I.base.tbls b ps e
  exact⟨more,by rw [zr (ne b _ q fun k z=>by cases z)]; exact q⟩
 ·obtain⟨a1,a2,a3⟩:=I.pin p qL
  exact⟨a1,up _ a2,a3⟩
 ·have stay:∀ {u:HO} {b:Addr},zax X.prog X.w H s.heap b u→zax X.prog X.w (lu H d (.frz o (.dT lB))) s.heap b u:=fun {u b} x=>x.stay (fun c v _ q=>q) (fun c q=>by rw [zr (ne c _ q fun k z=>by cases z)]; exact q) fun c xs q=>by rw [zr (ne c _ q fun k z=>by cases z)]; exact q
  by_cases hb:b=d
  ·subst hb
   rw [zc] at e
   cases e
   exact⟨ho,stay (I.hok b _ hd)⟩
  ·rw [zr hb] at e
   exact stay (I.hok b u e)
def iDT (tl:TE):TI:=fun σ H R=>tl σ H fun x H1=>∃ d lB,x = .ref d∧H1 d=some (.dT lB)∧∀ o,R (Itd d o lB) (lu H1 d (.frz o (.dT lB)))
theorem zqg {X:Cx} {tg l:Expr} {tl:TE} (hl:PE X l tl):PI X tg l (iDT tl):=by
 intro lj s σ H R I h
 refine thn (hl lj s σ H _ I h) fun v s1 ⟨x,H1,I1,r1,q1⟩=>?_
 obtain⟨d,lB,e,hd,q⟩:=q1
 subst e
 cases r1
 obtain⟨hz,hs,xs,hp,o,es,ep,ho,hx,he,vz,nV⟩:=I1.hok d _ hd
 have I2:=I1.frzT hd ho
 refine zhQ (es:=es) (ep:=ep) hs ⟨o,ho,hx,he⟩ ?_
 refine⟨s1.heap.objs.size,[s1.heap.objs.size],_,_,_,rfl,I2.kept (t':=s1.toks) fun b o e=>aj _ e,znJ d _ o lB es ep he,⟨_,aO _ rfl,rfl,rfl⟩,fun b hb=>?_,q o⟩
 have e:b=s1.heap.objs.size:=by simpa using hb
 subst e
 exact I2.fpOk (af _) (I2.hok.fresh (af _))
def zpr (K:ag):R2:=fun x y H Q=>∃ a b xs ys,x = .ref a∧y = .ref b∧lE K H a xs∧lE K H b ys∧ys≠[]∧xs.length+ys.length≤sizeLine ∧
 (xs = []→Q (.ref b) H)∧(xs≠[]→∀ p,H p=none→Q (.ref p) (lu H p (.tup (xs++ys))))
theorem zf8 {X:Cx} {K:ag} (hK:X.K=K):OpR X (binaryOp .Add) (zpr K):=by
 subst hK
 intro lj s σ H x y v u Q I rx ry h
 obtain⟨a,b,xs,ys,rfl,rfl,ha,hb,hy,hz,q1,q2⟩:=h
 by_cases hx:xs = []
 ·cases rx
  cases ry
  obtain⟨lx,r1,p1,_⟩:=I.tuple ha
  obtain⟨lZ,r2,p2,_⟩:=I.tuple hb
  obtain⟨⟨cls,dd,data,sl⟩,ho,hc,n,hd⟩:=id p1
  obtain⟨⟨Ey,Dp,data2,Dq⟩,uh,yk,n2,hd2⟩:=id p2
  simp only at hc hd yk hd2
  subst hc hd yk hd2
  exact jS ⟨_,ho,rfl⟩ ⟨_,uh,rfl⟩ iE jA gh f' (fR _ _)
   (tuple_addW0 a b lx.toArray lZ.toArray n n2 dd Dp sl Dq (by simp [r1.nil_iff.mpr hx])) ⟨ho,uh,⟨.ref b,H,I,rfl,q1 hx⟩⟩
 ·exact zne lj s σ H _ _ v u Q I rx ry ⟨a,b,xs,ys,rfl,rfl,ha,hb,hx,hz,fun z=>absurd z hy,fun _=>q2 hx⟩
end L2
end
section
namespace My
open PySem L2 PyProof.Rows
theorem zgL {X:Cx} {st:Stmt} {ts:TS} (h:PS X st ts):PS X st (fun D σ H=>∃ Pv:L2.St→Hp→Prop,ts { D with nx:=Pv } σ H∧∀ σ' H',Pv σ' H'→D.nx σ' H'):=by
 intro lj s σ H D I hq
 obtain⟨Pv,h1,h2⟩:=hq
 refine thn (h lj s σ H _ I h1) fun f s1 q=>?_
 cases f with
 | next =>
  obtain⟨σ',H',I',p⟩:=q
  exact⟨σ',H',I',h2 _ _ p⟩
 | ret v=>exact q
 | brk=>exact q
 | cont=>exact q
theorem PtB.pts {K:ag} {H:Hp} {a:Addr} {bs:List Addr} {lq:List (Int×Int)} (ha:H a=some (.lst (bs.map V.ref))) (h:PtB H bs lq):zlx K H a lq:=by
 refine⟨bs,lr.of ha,h.length,fun i b q h1 h2=>?_⟩
 obtain⟨q',h3,h4⟩:=Paired.get h h1
 rw [h2] at h3
 cases h3
 exact h4
end My
end
section
namespace L2
open PySem PySem.Spec PyProof.Rows
theorem zdP:fillsNumberSlot (.type "tuple") "mul" = pure false :=
 PySem.fillsNumberSlot_seq (id:="tuple.__mul__") (r:=some (.builtin "tuple.__rmul__")) PySem.F.slot_tuple_mul.lookup (by decide +kernel) PySem.F.slot_tuple_rmul.lookup (by decide +kernel)
theorem zgM:seqRepeat? (.type "tuple")=pure (some (.builtin "tuple.__mul__")):=by
 unfold seqRepeat?
 rw [kC (T:="tuple") (name:="__mul__") (id:="tuple.__mul__") PySem.F.slot_tuple_mul.lookup (by decide +kernel),kC (T:="tuple") (name:="__rmul__") (id:="tuple.__rmul__") PySem.F.slot_tuple_rmul.lookup (by decide +kernel)]
 rfl
theorem ze5 (a:Int) (t:Tok) (l:Addr) (items:Array Value) (n:Nat) (dd:Option Addr) (sl:Array (Option Value)) :
  Meets (Builtin.«int.__rmul__» ⟨[.int a t,.ref l],[]⟩) (fun _ R s=>s.heap.get? l=some { cls:=.type "tuple",dict:=dd,data:=.seq items n,slots:=sl }∧R (.ok (.ret Value.notImplemented)) s) :=
 .of_wp fun prog w A R s h=>by (obtain⟨hp,g,d,tk,os⟩:=s; obtain⟨hl,h⟩:=h; wp_walk using cN hl; exact⟨_,rfl,h⟩)
theorem zma (l:Addr) (items:Array Value) (n:Nat) (dd:Option Addr) (sl:Array (Option Value)) (u:Tok) :
  Meets (Builtin.«tuple.__mul__» ⟨[.ref l,.int 1 u],[]⟩) (fun _ R s=>s.heap.get? l=some { cls:=.type "tuple",dict:=dd,data:=.seq items n,slots:=sl }∧R (.ok (.ret (.ref l))) s) :=
 .of_wp fun prog w A R s h=>by
  (obtain⟨hp,g,d,tk,os⟩:=s)
  obtain⟨hl,h⟩:=h
  have f1:=iO
  have f2:=fW
  wp_walk using cN hl; exact⟨_,rfl,h⟩
theorem zmb (l:Addr) (items:Array Value) (n:Nat) (dd:Option Addr) (sl:Array (Option Value)) (k:Int) (u:Tok) (vK:(decide (k < -(2 ^ 63)) || decide (k≥2 ^ 63))=false) (vL:(items.isEmpty || k == 1)=false) (yk:(decide (k≤0) || items.isEmpty)=true) :
  Meets (Builtin.«tuple.__mul__» ⟨[.ref l,.int k u],[]⟩) (fun _ R s=>s.heap.get? l=some { cls:=.type "tuple",dict:=dd,data:=.seq items n,slots:=sl }∧R (.ok (.ret (bd s.heap.objs.size))) { s with heap:=s.heap.push { cls:=jq "tuple",data:=lb #[] },toks:=s.toks }) :=
 .of_wp fun prog w A R s h=>by
  (obtain⟨hp,g,d,tk,os⟩:=s)
  obtain⟨hl,h⟩:=h
  have f1:=iO
  have f2:=fW
  wp_walk using cN hl; refine i6 (by rw [vK]; rfl) ?_
  wp_walk using cN hl; exact⟨_,rfl,h⟩
theorem zmc (l:Addr) (items:Array Value) (n:Nat) (dd:Option Addr) (sl:Array (Option Value)) (k:Int) (u:Tok) (vK:(decide (k < -(2 ^ 63)) || decide (k≥2 ^ 63))=false) (vL:(items.isEmpty || k == 1)=false) (yk:(decide (k≤0) || items.isEmpty)=false)
  (hc3:¬(items.size:Int)*k > (2 ^ 63 - 1) / 8) (hc4:ig (items.size*k)=false) (hsz:(gz (fun x1 x2=>x1++x2) #[] (ap k.toNat items)).size≤sizeLine) :
  Meets (Builtin.«tuple.__mul__» ⟨[.ref l,.int k u],[]⟩) (fun _ R s=>s.heap.get? l=some { cls:=.type "tuple",dict:=dd,data:=.seq items n,slots:=sl }∧R (.ok (.ret (bd s.heap.objs.size))) { s with heap:=s.heap.push { cls:=jq "tuple",data:=lb (gz (fun x1 x2=>x1++x2) #[] (ap k.toNat items)) },toks:=s.toks }) :=
 .of_wp fun prog w A R s h=>by
  (obtain⟨hp,g,d,tk,os⟩:=s)
  obtain⟨hl,h⟩:=h
  have f1:=iO
  have f2:=fW
  wp_walk using cN hl; refine i6 (by rw [vK]; rfl) ?_
  wp_walk using cN hl; refine i6 (decide_eq_false hc3) ?_
  wp_walk using cN hl; exact⟨_,rfl,h⟩
def zqh (K:ag):R2:=fun x y H Q=>∃ a k xs,x = .ref a∧y = .int k∧lE K H a xs∧xs≠[]∧-(2 ^ 63)≤k∧k < 2 ^ 63∧xs.length*k.toNat≤sizeLine ∧
 (k=1→Q (.ref a) H)∧(k≠1→∀ p,H p=none→Q (.ref p) (lu H p (.tup (ap k.toNat xs).flatten)))
theorem zjQ {X:Cx}:OpR X (binaryOp .Mult) (zqh X.K):=by
 intro lj s σ H x y v u Q I rx ry h
 obtain⟨a,k,xs,rfl,rfl,hx,me,h1,h2,hz,q,q2⟩:=h
 cases rx
 obtain⟨t,rfl⟩:=ry
 obtain⟨lx,r,p1,_⟩:=I.tuple hx
 obtain⟨⟨cls,dd,data,sl⟩,ho,hc,n,hd⟩:=id p1
 simp only at hc hd
 subst hc hd
 have hl:xs.length=lx.length:=r.length
 have FO:lx≠[]:=fun e=>me (r.nil_iff.mp e)
 have he:lx.toArray.isEmpty=false:=by simpa using FO
 have vK:(decide (k < -(2 ^ 63)) || decide (k≥2 ^ 63))=false:=by
  rw [decide_eq_false (by lia),decide_eq_false (by lia)]; rfl
 refine iB (T:="tuple") (U:="int") (by decide) ⟨_,ho,rfl⟩ (fun s'=>iA s' k t) zdP F.fills_int_mul gA zgM F.slot_int_index.lookup
  (dR gA (iA s k t) kq (j6 _ _) (ze5 k t a lx.toArray n dd sl) ⟨ho,rfl,⟨_,ho,rfl⟩,?_⟩)
 by_cases e1:k=1
 ·subst e1
  refine dR iP ⟨_,ho,rfl⟩ iw (gX _ _) (zma a lx.toArray n dd sl t) ⟨ho,?_⟩
  exact⟨.ref a,H,I,rfl,q rfl⟩
 have vL:(lx.toArray.isEmpty || k == 1)=false:=by rw [he]; simpa using e1
 by_cases e0:k≤0
 ·refine dR iP ⟨_,ho,rfl⟩ iw (gX _ _) (zmb a lx.toArray n dd sl k t vK vL (by rw [decide_eq_true e0]; rfl)) ⟨ho,?_⟩
  have hf:=I.hok.fresh (af _)
  have e:(ap k.toNat xs).flatten = []:=by rw [show k.toNat=0 by lia]; rfl
  refine⟨.ref s.heap.objs.size,_,I.laid (t':=s.toks) (o:=.tup []) (fun b ob q=>aj _ q) (af _) ?_,rfl,by rw [← e]; exact q2 e1 _ hf⟩
  exact⟨bj _,[],.nil,iW _ _⟩
 ·have hm:(lx.toArray.size:Int)*k=((xs.length*k.toNat:Nat):Int):=by
   rw [ar,← hl,fL,Int.toNat_of_nonneg (by lia)]
  have o8:(sizeLine:Nat)≤16777216:=by decide
  have wN:gz (fun x1 x2=>x1++x2) #[] (ap k.toNat lx.toArray)=(ap k.toNat lx).flatten.toArray:=by
   have:=foldl_rep lx k.toNat []
   rw [iZ] at this
   exact this
  refine dR iP ⟨_,ho,rfl⟩ iw (gX _ _) (zmc a lx.toArray n dd sl k t vK vL (by rw [decide_eq_false e0,he]; rfl) (by rw [hm]; lia) (by rw [hm]; unfold ig; exact decide_eq_false (by lia)) (by rw [wN,ar,len_rep,fj,← hl]; exact hz)) ⟨ho,?_⟩
  have hf:=I.hok.fresh (af _)
  rw [wN]
  refine⟨.ref s.heap.objs.size,_,I.laid (t':=s.toks) (o:=.tup (ap k.toNat xs).flatten) (fun b ob q=>aj _ q) (af _) ?_,rfl,q2 e1 _ hf⟩
  exact⟨by rw [len_rep,fj]; exact hz,_,r.rep k.toNat,iW _ _⟩
def zqi (K:ag):R2:=fun x y H Q=>∃ a k xs,x = .ref a∧y = .int k∧lE K H a xs∧xs≠[]∧-(2 ^ 63)≤k∧k < 2 ^ 63∧xs.length*k.toNat≤sizeLine ∧
 ∀ p H',zt H H'→lE K H' p (ap k.toNat xs).flatten→Q (.ref p) H'
theorem znK {X:Cx}:OpR X (binaryOp .Mult) (zqi X.K):=by
 intro lj s σ H x y v u Q I rx ry h
 obtain⟨a,k,xs,rfl,rfl,hx,me,h1,h2,hz,q⟩:=h
 exact zjQ lj s σ H _ _ v u Q I rx ry ⟨a,k,xs,rfl,rfl,hx,me,h1,h2,hz,fun e=>q a H (fun _ _ e=>e) (by rw [e]; simpa using hx),fun _ p hp=>q p _ (fun b o z=>by rw [zr (fun e=>by rw [e,hp] at z; cases z)]; exact z) (lE.of zc)⟩
theorem znL {X:Cx} {K:ag} {tg l:Expr} {tl:TE} (hK:X.K=K) (hl:PE X l tl):PI X tg l (zpS K tl):=by subst hK; exact zoQ hl
end L2
end
section
namespace HT
open PySem PySem.Spec PyProof.Rows
section
variable {prog:Program} {w:World} {A:Around} {E:Value→Shared→Prop} {s:Shared}
theorem getItem_tuple_whole {t sl:Addr} {items:Array Value} {vl vu:Value} {lo hi:Option Int} {Q:Value→Shared→Prop} (ht:IsTup s.heap t items) (hs:s.heap.IsSliceOf sl vl vu .none) (pl:IsPart vl lo) (pu:IsPart vu hi)
  (hw:sIx items.size 0 lo=0∧sIx items.size items.size hi=items.size) (h:Q (.ref t) s):wpAny (model prog w) A (getItem (.ref t) (.ref sl)) Q E s:=by
 obtain⟨os,vq,uC,Bg⟩:=id hs
 have Ez:s.TypeIs (.ref sl) "slice":=⟨os,vq,uC⟩
 unfold getItem
 try with_reducible refine bY ?_
 first | refine ae (ak ?_) | skip
 refine ae (wpAny_sequenceKey ht.typeIs (by decide) ?_)
 refine ae (br (name:=bW "__getitem__") ht.typeIs dv
  (bD dv ht.typeIs jH ?_ (jU _ _)))
 show wpAny _ _ (g9 (.ref t) >>= _) _ _ s
 refine ae (tupleItemsOf_ ht ?_)
 refine ae (fS Ez ?_)
 rw [if_pos (by decide)]
 refine ae (zcb hs pl pu ?_)
 have FP:(((sIx items.size 0 lo:Nat):Int) == 0 && (1:Int) == 1 && (sIx items.size items.size hi - sIx items.size 0 lo) == items.size)=true:=by
  rw [hw.1,hw.2]
  simp
 show wpAny _ _ (if (((sIx items.size 0 lo:Nat):Int) == 0 && (1:Int) == 1 && (sIx items.size items.size hi - sIx items.size 0 lo) == items.size)=true then _ else _) _ _ s
 rw [if_pos FP]
 refine ae (m:=Builtin.Tuple.tupleIsExact _) (ae (fS ht.typeIs (ak ?_)))
 rw [if_pos (by decide)]
 first
  | exact ae (cn (ak ⟨_,rfl,ak h⟩))
  | exact ae (ae (cn (ak ⟨_,rfl,ak h⟩)))
end
end HT
namespace L2
open PySem PySem.Spec PyProof.Rows
def zqj (K:ag):V→Option Int→Option Int→Hp→VK→Prop:=fun x lo hi H Q=>∃ a xs,x = .ref a∧lE K H a xs∧∀ p H',zt H H'→lE K H' p (za8 xs lo hi)→Q (.ref p) H'
theorem znM {X:Cx}:SlR X (zqj X.K):=by
 intro lj s σ H x v vl vu lo hi sl Q I rx hs pl pu h
 obtain⟨a,xs,rfl,hx,q⟩:=h
 by_cases hw:HT.sIx xs.length 0 lo=0∧HT.sIx xs.length xs.length hi=xs.length
 ·have rx':=rx
  cases rx
  obtain⟨lx,r,ht,hz⟩:=I.tuple hx
  have lF:lx.toArray.size=xs.length:=by rw [ar]; exact r.length.symm
  refine⟨"tuple",_,PyProof.Rows.slot_tuple_getitem.lookup,ht.typeIs,?_⟩
  refine HT.getItem_tuple_whole ht hs pl pu (by rw [lF]; exact hw) ⟨.ref a,H,I,rfl,q a H (fun _ _ e=>e) ?_⟩
  have e:za8 xs lo hi=xs:=by
   unfold za8
   rw [hw.1,hw.2,dn,dX,ba]
  rw [e]
  exact hx
 ·exact zle lj s σ H (.ref a) v vl vu lo hi sl Q I rx hs pl pu ⟨a,xs,rfl,hx,hw,fun p hp=>q p _ (fun b o z=>by rw [zr (fun e=>by rw [e,hp] at z; cases z)]; exact z) (lE.of zc)⟩
theorem zmd {X:Cx} {K:ag} (hK:X.K=K):SlR X (zqj K):=by subst hK; exact znM
def zqL:V→Option Int→Option Int→Hp→VK→Prop:=fun x lo hi H Q=>∃ a xs,x = .ref a∧H a=some (.tup xs)∧∀ p H',zt H H'→H' p=some (.tup (za8 xs lo hi))→Q (.ref p) H'
theorem znN {X:Cx}:SlR X zqL:=by
 intro lj s σ H x v vl vu lo hi sl Q I rx hs pl pu h
 obtain⟨a,xs,rfl,hx,q⟩:=h
 have hX:lE X.K H a xs:=lE.of hx
 by_cases hw:HT.sIx xs.length 0 lo=0∧HT.sIx xs.length xs.length hi=xs.length
 ·cases rx
  obtain⟨lx,r,ht,hz⟩:=I.tuple hX
  have lF:lx.toArray.size=xs.length:=by rw [ar]; exact r.length.symm
  refine⟨"tuple",_,PyProof.Rows.slot_tuple_getitem.lookup,ht.typeIs,?_⟩
  refine HT.getItem_tuple_whole ht hs pl pu (by rw [lF]; exact hw) ⟨.ref a,H,I,rfl,q a H (fun _ _ e=>e) ?_⟩
  have e:za8 xs lo hi=xs:=by
   unfold za8
   rw [hw.1,hw.2,dn,dX,ba]
  rw [e]
  exact hx
 ·exact zle lj s σ H (.ref a) v vl vu lo hi sl Q I rx hs pl pu ⟨a,xs,rfl,hX,hw,fun p hp=>q p _ (fun b o z=>by rw [zr (fun e=>by rw [e,hp] at z; cases z)]; exact z) zc⟩
def zqk:R2:=fun x y H Q=>∃ a b xs ys,x = .ref a∧y = .ref b∧H a=some (.tup xs)∧H b=some (.tup ys)∧xs.length+ys.length≤sizeLine∧ys≠[]∧∀ p H',zt H H'→H' p=some (.tup (xs++ys))→Q (.ref p) H'
theorem znO {X:Cx}:OpR X (binaryOp .Add) zqk:=by
 intro lj s σ H x y v u Q I rx ry h
 obtain⟨a,b,xs,ys,rfl,rfl,ha,hb,hz,hy,q⟩:=h
 refine zf8 rfl lj s σ H _ _ v u Q I rx ry ⟨a,b,xs,ys,rfl,rfl,lE.of ha,lE.of hb,hy,hz,fun e=>?_,fun _ p hp=>q p _ (fun b o z=>by rw [zr (fun e=>by rw [e,hp] at z; cases z)]; exact z) zc⟩
 subst e
 exact q b H (fun _ _ e=>e) hb
def zql:R2:=fun x y H Q=>∃ a k xs,x = .ref a∧y = .int k∧H a=some (.tup xs)∧xs≠[]∧-(2 ^ 63)≤k∧k < 2 ^ 63∧xs.length*k.toNat≤sizeLine∧∀ p H',zt H H'→H' p=some (.tup (ap k.toNat xs).flatten)→Q (.ref p) H'
theorem znP {X:Cx}:OpR X (binaryOp .Mult) zql:=by
 intro lj s σ H x y v u Q I rx ry h
 obtain⟨a,k,xs,rfl,rfl,hx,me,h1,h2,hz,q⟩:=h
 refine zjQ lj s σ H _ _ v u Q I rx ry ⟨a,k,xs,rfl,rfl,lE.of hx,me,h1,h2,hz,fun e=>q a H (fun _ _ e=>e) (by rw [e]; simpa using hx),fun _ p hp=>q p _ (fun b o z=>by rw [zr (fun e=>by rw [e,hp] at z; cases z)]; exact z) zc⟩
end L2
end
section
namespace My
open PySem L2 PyProof.Rows
def md (p:Int) (q:Int×Int):Int×Int:=(q.1,q.2 % p)
theorem zh2 (p:Int) (s:List Int×List Int) (q:Int×Int):zcA p s (md p q)=zcA p s q:=by
 unfold zcA md
 have:(q.2 % p - zj p q.1 s.1)*inv p (zj p q.1 s.2) % p=(q.2 - zj p q.1 s.1)*inv p (zj p q.1 s.2) % p:=(((Cg.emod p q.2).sub (Cg.refl p _)).mul (Cg.refl p _)).mod_eq
 dsimp only
 rw [this]
theorem zjR (p:Int):∀ (lq:List (Int×Int)) (s:List Int×List Int),(lq.map (md p)).foldl (zcA p) s=lq.foldl (zcA p) s
 | [],s=>rfl
 | q :: lq,s=>by
  rw [aZ,iY,iY,zh2,zjR p lq]
theorem zps (p:Int) (lq:List (Int×Int)):thr p (lq.map (md p))=thr p lq:=by
 unfold thr zp8
 rw [zjR,ab]
def zh3 (K:ag):Sp:=fun vs H Q _=>∃ (p:Int) (a:Addr) (lq:List (Int×Int)),vs = [.int p,.ref a]∧zlx K H a lq∧lq.length≤100∧p∈zm∧Pts p (lq.map (md p))∧(∀ q∈lq,0≤q.2∧q.2 < 10000) ∧
 ∀ (l:Addr) (H':Hp),H l=none→zt H H'→H' l=some (.tup ((thr p (lq.map (md p))).map V.int))→Q (.ref l) H'
def ziQ (K:ag):Sp:=fun vs H Q _=>∃ (p tm:Int) (a b:Addr) (as bs:List Int),vs = [.int p,.ref a,.int tm,.ref b]∧H a=some (.lst (as.map V.int))∧H b=some (.lst (bs.map V.int))∧as.length=bs.length∧as.length≤1000∧0 < p∧0≤tm∧tm < 1000 ∧
 ∀ (l:Addr) (H':Hp),H l=none→zt H H'→H' l=some (.lst ((a7 (fun x y=>(x - tm*y) % p) as bs).map V.int))→Q (.ref l) H'
def LsA (H:Hp):List Addr→List (List Int)→Prop:=Paired fun b v=>H b=some (.lst (v.map V.int))
theorem LsA.same {H H':Hp} (s:zt H H') {bs:List Addr} {vv:List (List Int)} (h:LsA H bs vv):LsA H' bs vv:=cJ (fun _ _ z=>s _ _ z) h
def ClA (ca:Addr) (H:Hp):List Addr→List (Nat×List Int)→Prop:=Paired fun b a=>∃ wa,H b=some (.tup [.int (a.1:Int),.ref wa])∧H wa=some (.lst (a.2.map V.int))∧wa≠ca
theorem ClA.same {ca:Addr} {H H':Hp} (s:zt H H') {bs:List Addr} {cl:List (Nat×List Int)} (h:ClA ca H bs cl):ClA ca H' bs cl:=cJ (fun _ _ ⟨wa,z1,z2,z3⟩=>⟨wa,s _ _ z1,s _ _ z2,z3⟩) h
theorem ClA.put {ca:Addr} {H:Hp} {bs:List Addr} {cl:List (Nat×List Int)} {xs:List V} {o:HO} (h:ClA ca H bs cl) (hf:H ca=some (.lst xs)):ClA ca (lu H ca o) bs cl:=cJ (fun b _ ⟨wa,z1,z2,z3⟩=>⟨wa,by
 rw [zr (fun e=>by rw [e,hf] at z1; cases z1)]; exact z1,by rw [zr z3]; exact z2,z3⟩) h
theorem znQ {xs:List V} {a b:Nat} (h:b≤xs.length):za8 xs (some (a:Int)) (some (b:Int))=(xs.drop a).take (b - a):=by
 unfold za8
 rw [HT.sIx_nat,HT.sIx_nat]
 by_cases ha:a≤xs.length
 ·rw [cD ha,cD h]
 ·rw [show min a xs.length=xs.length by lia,cD h,ff (af _),ff (show xs.length≤a by lia),ie,ie]
theorem zpt {K:ag} {H H':Hp} {a:Addr} {xs:List V} (e:zt H H') (h:lE K H a xs):lE K H' a xs:=by
 rcases h with (h | ⟨o,h⟩) | h
 ·exact .inl (.inl (e _ _ h))
 ·exact .inl (.inr ⟨o,e _ _ h⟩)
 ·exact .inr h
def tmP (p:Int) (l:List Int) (lq:List (Int×Int)):List (Int×Int):=lq.map fun a=>(a.1,zj p a.1 l*a.2 % p)
theorem zcQ {p:Int} (p0:0 < p) {l:List Int} {lq:List (Int×Int)} (hP:Pts p lq):Pts p (tmP p l lq):=by
 refine⟨?_,fun q hq=>?_⟩
 ·unfold tmP
  rw [bq]
  exact hP.nd
 ·obtain⟨a,ha,rfl⟩:=aB.mp hq
  obtain⟨h1,h2,_⟩:=hP.rg a ha
  exact⟨h1,h2,aG _ (by lia),az _ p0⟩
theorem zme (p:Int) (l:List Int) (lq:List (Int×Int)):(lq.map fun a=>(a.1,zj p a.1 l*a.2)).map (md p)=tmP p l lq:=by
 rw [bq]
 rfl
def zdQ (K:ag):Sp:=fun vs H Q _=>∃ (p:Int) (la a:Addr) (l:List Int) (bs:List Addr) (lq:List (Int×Int)),vs = [.int p,.ref la,.ref a]∧lE K H la (l.map V.int)∧lr K H a (bs.map V.ref)∧PtB H bs lq∧lq.length≤100∧p∈zm∧Pts p lq ∧
 ∀ (z:Addr) (H':Hp),H z=none→zt H H'→H' z=some (.tup ((thr p (tmP p l lq)).map V.int))→Q (.ref z) H'
def bey (m:Nat) (rs:List (List Int)):List Int:=rs.flatMap fun r=>r.drop m
theorem zh4 (m:Nat) {rs:List (List Int)} {i:Nat} {r:List Int} (h:rs[i]? = some r):bey m (rs.take (i+1))=bey m (rs.take i)++r.drop m:=by
 unfold bey
 rw [take_snoc h,cq]
 simp
def zkL (K:ag):Sp:=fun vs H Q _=>∃ (a:Addr) (m:Nat) (bs:List Addr) (rs:List (List Int)),vs = [.ref a,.int (m:Int)]∧lr K H a (bs.map V.ref)∧zbi H bs rs∧(∀ i,(bey m (rs.take i)).length≤10000) ∧
 ∀ (z:Addr) (H':Hp),H z=none→zt H H'→H' z=some (.lst ((bey m rs).map V.int))→Q (.ref z) H'
def szd (q:List Int) (m:Nat):List Int:=(q++ap m 0).take m
def zmf (K:ag):Sp:=fun vs H Q _=>∃ (a:Addr) (m:Nat) (q:List Int),vs = [.ref a,.int (m:Int)]∧H a=some (.tup (q.map V.int))∧1≤m∧q.length+m≤10000 ∧
 ∀ (z:Addr) (H':Hp),zt H H'→H' z=some (.tup ((szd q m).map V.int))→Q (.ref z) H'
def unit (i:Nat):List Int:=ap i 0++[1]
theorem zjS (i j:Nat):gl (unit i) j=if j=i then 1 else 0:=by
 unfold unit
 by_cases h:j < i
 ·rw [if_neg (by lia)]
  exact zbW (by rw [bo (by rw [aU]; exact h),cX,if_pos h])
 ·by_cases e:j=i
  ·rw [if_pos e]
   exact zbW (by rw [bN (by rw [aU]; lia),aU,e,fX]; rfl)
  ·rw [if_neg e]
   exact zaZ (by rw [aq,aU]; show i+1≤j; lia)
theorem zkM {p x:Int} (i:Nat):Cg p (zj p x (unit i)) (x ^ i):=by
 refine (za1 (n:=i+1) (by unfold unit; rw [aq,aU]; exact af _)).trans ?_
 rw [ziP (j:=i) (by lia) fun j _ me=>by rw [zjS,if_neg me,cI],zjS,if_pos rfl,gk]
 exact Cg.refl _ _
def Tp (p:Int) (lq:List (Int×Int)) (i:Nat):List Int:=thr p (tmP p (unit i) lq)
theorem zdf {p:Int} (hp:p∈zm) {lq:List (Int×Int)} (hP:Pts p lq) (l:List Int):(thr p (tmP p l lq)).length=lq.length:=by
 have rp:=zp hp
 rw [(zc9 hp (zcQ (l:=l) (by lia) hP)).1]
 unfold tmP
 rw [ab]
theorem zmg {p:Int} (hp:p∈zm) {lq:List (Int×Int)} (hP:Pts p lq) (l:List Int):∀ c∈thr p (tmP p l lq),0≤c∧c < p:=by
 have rp:=zp hp
 exact (zc9 hp (zcQ (l:=l) (by lia) hP)).2.1
theorem zoA {p:Int} (hp:p∈zm) {lq:List (Int×Int)} (hP:Pts p lq) (l:List Int) {a:Int×Int} (ha:a∈lq):zj p a.1 (thr p (tmP p l lq))=zj p a.1 l*a.2 % p:=by
 have rp:=zp hp
 exact (zc9 hp (zcQ (l:=l) (by lia) hP)).2.2 _ (aB.mpr ⟨a,ha,rfl⟩)
theorem zjT {p:Int} (hp:p∈zm) {lq:List (Int×Int)} (hP:Pts p lq) {l:List Int} {N:Nat} (hl:l.length≤N) (x:Nat):Cg p (gl (thr p (tmP p l lq)) x) (sm N fun i=>gl l i*gl (Tp p lq i) x):=by
 have rp:=zp hp
 have p0:0 < p:=by lia
 obtain⟨C,hC⟩:∃ C,C=(aJ lq.length).map fun x=>(sm N fun i=>gl l i*gl (Tp p lq i) x) % p:=⟨_,rfl⟩
 have DQ:C.length=lq.length:=by rw [hC,ab,aY]
 have hCg:∀ x,x < lq.length→gl C x=(sm N fun i=>gl l i*gl (Tp p lq i) x) % p:=fun x hx=>zbW (by rw [hC,ah,cj hx]; rfl)
 have FQ:∀ c∈C,0≤c∧c < p:=fun c hc=>by
  rw [hC] at hc
  obtain⟨x,_,rfl⟩:=aB.mp hc
  exact⟨aG _ (by lia),az _ p0⟩
 have wF:∀ a∈lq,zj p a.1 C=zj p a.1 l*a.2 % p:=fun a ha=>by
  refine Cg.eq ?_ (zai p0 _) (zaj p0 _) (aG _ (by lia)) (az _ p0)
  refine (za1 (n:=lq.length) (by lia)).trans ?_
  have h1:Cg p (sm lq.length fun x=>gl C x*a.1 ^ x) (sm lq.length fun x=>sm N fun i=>gl l i*(gl (Tp p lq i) x*a.1 ^ x)):=zf6 fun x hx=>by
   rw [hCg x hx]
   refine ((Cg.emod _ _).mul (Cg.refl p _)).trans (Cg.of_eq ?_)
   rw [dG,← zbg]
   exact zY fun i _=>by grind
  refine h1.trans ?_
  rw [zgK]
  have h2:Cg p (sm N fun i=>sm lq.length fun x=>gl l i*(gl (Tp p lq i) x*a.1 ^ x)) (sm N fun i=>a.2*(gl l i*a.1 ^ i)):=zf6 fun i _=>by
   rw [zbg]
   have e1:Cg p (sm lq.length fun x=>gl (Tp p lq i) x*a.1 ^ x) (zj p a.1 (Tp p lq i)):=(za1 (by unfold Tp; rw [zdf hp hP]; exact af _)).symm
   have e2:Cg p (zj p a.1 (Tp p lq i)) (a.1 ^ i*a.2):=by
    unfold Tp
    rw [zoA hp hP (unit i) ha]
    exact (Cg.emod _ _).trans ((zkM i).mul (Cg.refl p _))
   exact ((Cg.refl p (gl l i)).mul (e1.trans e2)).trans (Cg.of_eq (by grind))
  refine h2.trans ?_
  rw [zbg]
  refine ((Cg.refl p a.2).mul (za1 hl).symm).trans ((Cg.of_eq (dG _ _)).trans (Cg.emod _ _).symm)
 have FR:C=thr p (tmP p l lq):=zgG hp (zcQ p0 hP) (by unfold tmP; rw [ab]; exact DQ) FQ fun a ha=>by
  obtain⟨b,hb,rfl⟩:=aB.mp ha
  exact wF b hb
 rw [← FR]
 by_cases hx:x < lq.length
 ·rw [hCg x hx]
  exact Cg.emod _ _
 ·rw [zaZ (by lia)]
  refine Cg.of_eq (zbh fun i _=>?_).symm
  rw [zaZ (w:=Tp p lq i) (by unfold Tp; rw [zdf hp hP]; lia),cH]
theorem ziR {a b:List Int} (x:Nat):gl (a++b) x=if x < a.length then gl a x else gl b (x - a.length):=by
 unfold gl
 rw [aQ,aQ,aQ]
 by_cases h:x < a.length
 ·rw [if_pos h,bo h]
 ·rw [if_neg h,bN (by lia)]
theorem znR {a:List Int} (m x:Nat):gl (a.drop m) x=gl a (m+x):=by
 unfold gl
 rw [aQ,aQ,eZ]
theorem zjU {p:Int} (hp:p∈zm) {c:Nat→Int} {N m:Nat}:∀ {lA:List (List (Int×Int))},(∀ lq∈lA,Pts p lq) →
  ((∀ x,Cg p (sm N fun i=>c i*gl (bey m (lA.map fun lq=>Tp p lq i)) x) 0)↔∀ lq∈lA,∀ y,m≤y→Cg p (sm N fun i=>c i*gl (Tp p lq i) y) 0)
 | [],_=>by
  refine⟨fun _ lq h=>by (cases h),fun _ x=>Cg.of_eq (zbh fun i _=>?_)⟩
  show c i*gl [] x=0
  rw [zaZ (bj _),cH]
 | lq :: lA,hP=>by
  have ih:=zjU hp (c:=c) (N:=N) (m:=m) (lA:=lA) fun q hq=>hP q (au _ hq)
  have hl:∀ i,((Tp p lq i).drop m).length=lq.length - m:=fun i=>by
   rw [b8]
   unfold Tp
   rw [zdf hp (hP lq aH)]
  have hb:∀ i x,gl (bey m ((lq :: lA).map fun lq=>Tp p lq i)) x=if x < lq.length - m then gl (Tp p lq i) (m+x) else gl (bey m (lA.map fun lq=>Tp p lq i)) (x - (lq.length - m)):=fun i x=>by
   have:bey m ((lq :: lA).map fun lq=>Tp p lq i)=(Tp p lq i).drop m++bey m (lA.map fun lq=>Tp p lq i):=rfl
   rw [this,ziR,hl,znR]
  constructor
  ·intro h q hq y hy
   rcases (aI.mp hq) with rfl | hq
   ·by_cases hyl:y < q.length
    ·have:=h (y - m)
     refine Cg.trans (Cg.of_eq (zY fun i _=>?_)) this
     rw [hb,if_pos (by lia),show m+(y - m)=y by lia]
    ·refine Cg.of_eq (zbh fun i _=>?_)
     rw [zaZ (by unfold Tp; rw [zdf hp (hP q aH)]; lia),cH]
   ·refine ih.mp (fun x=>?_) q hq y hy
    have:=h (lq.length - m+x)
    refine Cg.trans (Cg.of_eq (zY fun i _=>?_)) this
    rw [hb,if_neg (by lia),show lq.length - m+x - (lq.length - m)=x by lia]
  ·intro h x
   by_cases hx:x < lq.length - m
   ·have:=h lq aH (m+x) (by lia)
    refine Cg.trans (Cg.of_eq (zY fun i _=>?_)) this
    rw [hb,if_pos hx]
   ·have:=ih.mpr (fun q hq=>h q (au _ hq)) (x - (lq.length - m))
    refine Cg.trans (Cg.of_eq (zY fun i _=>?_)) this
    rw [hb,if_neg hx]
def Good (p:Int) (k e:Nat) (lA:List (List (Int×Int))) (l:List Int):Prop:=∀ lq∈lA,∃ right,IsP p (k+e) right∧∀ a∈lq,zj p a.1 right=zj p a.1 l*a.2 % p
theorem zmh (q:List Int) (m x:Nat):gl (szd q m) x=if x < m then gl q x else 0:=by
 unfold szd
 by_cases h:x < m
 ·rw [if_pos h]
  unfold gl
  rw [aQ,bL h,← aQ]
  show gl (q++ap m 0) x=_
  rw [ziR]
  split
  ·rfl
  ·show gl (ap m 0) _=q.getD x 0
   rw [show q.getD x 0=gl q x from rfl,zaZ (w:=q) (by lia)]
   unfold gl
   rw [aQ,cX]
   split <;> rfl
 ·rw [if_neg h]
  exact zaZ (by rw [av]; lia)
theorem zjV {p:Int} (p0:0 < p) {q:List Int} (hq:∀ c∈q,0≤c∧c < p) (m:Nat):IsP p m (szd q m):=by
 unfold szd
 refine⟨by rw [av,aq,aU]; lia,fun c hc=>?_⟩
 rcases bf.mp (dH hc) with h | h
 ·exact hq c h
 ·rw [eQ h]; lia
theorem zh5 {p:Int} (p0:0 < p) {q:List Int} {m:Nat} (hz:∀ y,m≤y→gl q y=0) (x:Int):zj p x (szd q m)=zj p x q:=by
 refine Cg.eq ?_ (zai p0 _) (zaj p0 _) (zai p0 _) (zaj p0 _)
 refine (za1 (n:=q.length+m) (by unfold szd; rw [av,aq,aU]; lia)).trans (Cg.trans (Cg.of_eq (zY fun i _=>?_)) (za1 (n:=q.length+m) (by lia)).symm)
 rw [zmh]
 by_cases h:i < m
 ·rw [if_pos h]
 ·rw [if_neg h,hz i (by lia)]
theorem zmi {p:Int} (hp:p∈zm) {k e:Nat} {lq:List (Int×Int)} (hP:Pts p lq) {l:List Int} (hz:∀ y,k+e≤y→gl (thr p (tmP p l lq)) y=0) :
  IsP p (k+e) (szd (thr p (tmP p l lq)) (k+e))∧∀ a∈lq,zj p a.1 (szd (thr p (tmP p l lq)) (k+e))=zj p a.1 l*a.2 % p:=by
 have rp:=zp hp
 refine⟨zjV (by lia) (zmg hp hP l) _,fun a ha=>?_⟩
 rw [zh5 (by lia) hz]
 exact zoA hp hP l ha
theorem zkN {p:Int} (hp:p∈zm) {k e:Nat} {lq:List (Int×Int)} (hP:Pts p lq) {l right:List Int} (hr:IsP p (k+e) right) (wF:∀ a∈lq,zj p a.1 right=zj p a.1 l*a.2 % p) (y:Nat) (hy:k+e≤y):gl (thr p (tmP p l lq)) y=0:=by
 have rp:=zp hp
 by_cases hyl:y < lq.length
 ·have e1:right++ap (lq.length - (k+e)) 0=thr p (tmP p l lq):=zgG hp (zcQ (by lia) hP) (by unfold tmP; rw [ab,aq,aU,hr.1]; lia) (fun c hc=>by
   rcases bf.mp hc with h | h
   ·exact hr.2 c h
   ·rw [eQ h]; lia) fun a ha=>by
    obtain⟨b,hb,rfl⟩:=aB.mp ha
    rw [zhw]
    exact wF b hb
  rw [← e1,ziR,hr.1,if_neg (by lia)]
  unfold gl
  rw [aQ,cX]
  split <;> rfl
 ·exact zaZ (by rw [zdf hp hP]; lia)
def zbj (p:Int) (k e:Nat) (lA:List (List (Int×Int))):List (List Int):=(aJ (e+1)).map fun i=>bey (k+e) (lA.map fun lq=>Tp p lq i)
theorem znS {p:Int} {k e:Nat} {lA:List (List (Int×Int))} {i:Nat} (hi:i < e+1) (x:Nat):vx (zbj p k e lA) i x=gl (bey (k+e) (lA.map fun lq=>Tp p lq i)) x:=by
 unfold vx zbj
 rw [aQ,ah,cj hi]
 rfl
theorem zer {p:Int} (hp:p∈zm) {m i:Nat}:∀ {lA:List (List (Int×Int))},(∀ lq∈lA,Pts p lq)→(bey m (lA.map fun lq=>Tp p lq i)).length=(lA.map fun lq=>lq.length - m).sum
 | [],_=>rfl
 | lq :: lA,hP=>by
  have:bey m ((lq :: lA).map fun lq=>Tp p lq i)=(Tp p lq i).drop m++bey m (lA.map fun lq=>Tp p lq i):=rfl
  rw [this,aq,zer hp fun q hq=>hP q (au _ hq),b8,aZ,df]
  unfold Tp
  rw [zdf hp (hP lq aH)]
def zcD (k e:Nat) (lA:List (List (Int×Int))):Nat:=(lA.map fun lq=>lq.length - (k+e)).sum
theorem znT {p:Int} (hp:p∈zm) {k e:Nat} {lA:List (List (Int×Int))} (hP:∀ lq∈lA,Pts p lq):∀ v∈zbj p k e lA,v.length=zcD k e lA∧∀ c∈v,0≤c∧c < p:=fun v hv=>by
 obtain⟨i,_,rfl⟩:=aB.mp hv
 refine⟨zer hp hP,fun c hc=>?_⟩
 obtain⟨r,hr,hcr⟩:=b9.mp hc
 obtain⟨lq,mR,rfl⟩:=aB.mp hr
 exact zmg hp (hP lq mR) _ c (gC hcr)
theorem zoB {p:Int} (hp:p∈zm) {k e:Nat} {lA:List (List (Int×Int))} (hP:∀ lq∈lA,Pts p lq) {c:Nat→Int} :
  (∀ x,x < zcD k e lA→Cg p (sm (zbj p k e lA).length fun i=>c i*vx (zbj p k e lA) i x) 0)↔∀ lq∈lA,∀ y,k+e≤y→Cg p (sm (e+1) fun i=>c i*gl (Tp p lq i) y) 0:=by
 have hn:(zbj p k e lA).length=e+1:=by unfold zbj; rw [ab,aY]
 rw [hn,← zjU hp hP]
 have hs:∀ x,sm (e+1) (fun i=>c i*vx (zbj p k e lA) i x)=sm (e+1) fun i=>c i*gl (bey (k+e) (lA.map fun lq=>Tp p lq i)) x:=fun x=>zY fun i hi=>by rw [znS hi]
 constructor
 ·intro h x
  by_cases hx:x < zcD k e lA
  ·rw [← hs]; exact h x hx
  ·refine Cg.of_eq (zbh fun i _=>?_)
   rw [zaZ (by rw [zer hp hP]; exact fA hx),cH]
 ·intro h x _
  rw [hs]
  exact h x
theorem zmj {p:Int} (hp:p∈zm) {k e:Nat} {lA:List (List (Int×Int))} (hP:∀ lq∈lA,Pts p lq) (hI:Indep p (zcD k e lA) (zbj p k e lA)) {l:List Int} (hl:IsP p (e+1) l) (hg:Good p k e lA l):∀ i,gl l i=0:=by
 have rp:=zp hp
 have hn:(zbj p k e lA).length=e+1:=by unfold zbj; rw [ab,aY]
 intro i
 by_cases hi:i < e+1
 ·have h:=hI (gl l) ((zoB hp hP).mpr fun lq mR y hy=>?_) i (by lia)
  ·obtain⟨g0,g1⟩:=ze3 (show 0 < p by lia) hl.2 i
   exact h.eq g0 g1 (bP _) (by lia)
  ·obtain⟨right,h1,h2⟩:=hg lq mR
   refine (zjT hp (hP lq mR) (by rw [hl.1]; exact af _) y).symm.trans (Cg.of_eq ?_)
   exact zkN hp (hP lq mR) h1 h2 y hy
 ·exact zaZ (by rw [hl.1]; lia)
theorem zmk {p:Int} (hp:p∈zm) {k e:Nat} {lA:List (List (Int×Int))} (hP:∀ lq∈lA,Pts p lq) {c:List Int} (hc:c.length≤e+1) (hD:Dep p (zcD k e lA) (zbj p k e lA) c):∀ lq∈lA,∀ y,k+e≤y→gl (thr p (tmP p c lq)) y=0:=fun lq mR y hy=>by
 have rp:=zp hp
 have h:=(zoB hp hP).mp hD lq mR y hy
 obtain⟨g0,g1⟩:=ze3 (show 0 < p by lia) (zmg hp (hP lq mR) c) y
 exact ((zjT hp (hP lq mR) hc y).trans h).eq g0 g1 (bP _) (by lia)
theorem zml {p:Int} (hp:p∈zm) {k e n:Nat} {lA:List (List (Int×Int))} (hn:∀ lq∈lA,lq.length≤n) (hI:Indep p (zcD k e lA) (zbj p k e lA)):k+e < n:=by
 have rp:=zp hp
 refine Nat.lt_of_not_le fun h=>?_
 have h0:zcD k e lA=0:=by
  unfold zcD
  refine List.sum_eq_zero_iff_forall_eq_nat.mpr fun x hx=>?_
  obtain⟨lq,mR,rfl⟩:=aB.mp hx
  have:=hn lq mR
  lia
 have hl:(zbj p k e lA).length=e+1:=by unfold zbj; rw [ab,aY]
 have:=hI (fun _=>1) (fun x hx=>by lia) 0 (by lia)
 have:=this.eq (by lia) (by lia) (bP _) (by lia)
 lia
structure LocOk (p:Int) (k:Nat) (lA:List (List (Int×Int))) (e:Nat) (left:List Int) (oV:List (List Int)):Prop where
 lf:IsP p (e+1) left
 nz:∃ i,gl left i≠0
 rt:oV=lA.map fun lq=>szd (thr p (tmP p left lq)) (k+e)
 ok:∀ lq∈lA,IsP p (k+e) (szd (thr p (tmP p left lq)) (k+e))∧∀ a∈lq,zj p a.1 (szd (thr p (tmP p left lq)) (k+e))=zj p a.1 left*a.2 % p
 mn:∀ e',e' < e→∀ l,IsP p (e'+1) l→Good p k e' lA l→∀ i,gl l i=0
theorem znU {p:Int} (p0:0 < p) {c:List Int} {m:Nat} (hc:c.length≤m) (lq:List (Int×Int)):tmP p (szd c m) lq=tmP p c lq:=by
 unfold tmP
 refine ci fun a _=>?_
 rw [zh5 p0 fun y hy=>zaZ (by lia)]
theorem zpu {p:Int} (hp:p∈zm) {k e:Nat} {lA:List (List (Int×Int))} (hP:∀ lq∈lA,Pts p lq) {c:List Int} {m:Nat} (hc:IsP p (m+1) c) (hm:m < e+1) (h1:gl c m=1) (hD:Dep p (zcD k e lA) (zbj p k e lA) c)
  (yu:∀ e',e' < e→Indep p (zcD k e' lA) (zbj p k e' lA)):LocOk p k lA e (szd c (e+1)) (lA.map fun lq=>szd (thr p (tmP p (szd c (e+1)) lq)) (k+e)):=by
 have rp:=zp hp
 have rn:c.length≤e+1:=by rw [hc.1]; lia
 refine⟨zjV (by lia) hc.2 _,⟨m,by rw [zmh,if_pos hm,h1]; decide⟩,rfl,fun lq mR=>?_,fun e' wy l hl hg=>zmj hp hP (yu e' wy) hl hg⟩
 refine zmi hp (hP lq mR) fun y hy=>?_
 rw [znU (by lia) rn]
 exact zmk hp hP rn hD lq mR y hy
theorem zbi.put {H:Hp} {rs:List Addr} {qs:List (List Int)} {f:Addr} {xs:List V} {o:HO} (h:zbi H rs qs) (hf:H f=some (.lst xs)):zbi (lu H f o) rs qs:=cJ (fun a q z=>by
 have:a≠f:=fun e=>by rw [e,hf] at z; cases z
 show lu H f o a=_
 rw [zr this]
 exact z) h
def zqM (n:Nat) (H:Hp):List Addr→List (List (Option Int))→Prop:=Paired fun b rw=>H b=some (.lst (rw.map o9))∧rw.length=n
def zgN (H:Hp):List Addr→List (List (Int×Int))→Prop:=Paired fun b lq=>∃ bs,H b=some (.lst (bs.map V.ref))∧PtB H bs lq
theorem zgN.same {H H':Hp} (s:zt H H') {bs:List Addr} {lA:List (List (Int×Int))} (h:zgN H bs lA):zgN H' bs lA:=cJ (fun _ _ ⟨bs,z,z'⟩=>⟨bs,s _ _ z,z'.same s⟩) h
def NdA (p:Int) (lA:List (List (Int×Int))) (na:Addr) (H:Hp):List Addr→List Nat→Prop:=Paired fun b i=>∃ us,H b=some (.lst (us.map V.ref))∧b≠na∧zbi H us (lA.map fun lq=>Tp p lq i)
theorem NdA.same {p:Int} {lA:List (List (Int×Int))} {na:Addr} {H H':Hp} (s:zt H H') {bs:List Addr} {is:List Nat} (h:NdA p lA na H bs is):NdA p lA na H' bs is:=cJ (fun _ _ ⟨us,z,z',z2⟩=>⟨us,s _ _ z,z',z2.same s⟩) h
theorem NdA.put {p:Int} {lA:List (List (Int×Int))} {na:Addr} {H:Hp} {bs:List Addr} {is:List Nat} {xs:List V} {o:HO} (h:NdA p lA na H bs is) (hf:H na=some (.lst xs)):NdA p lA na (lu H na o) bs is:=cJ (fun _ _ ⟨us,z,z',z2⟩=>⟨us,by rw [zr z']; exact z,z',z2.put hf⟩) h
theorem ziS {α:Type} {f:α→Nat} {b:Nat}:∀ {l:List α},(∀ x∈l,f x≤b)→(l.map f).sum≤l.length*b
 | [],_=>by simp
 | x :: l,h=>by
  have ih:=ziS (f:=f) (b:=b) (l:=l) fun y hy=>h y (au _ hy)
  have:=h x aH
  rw [aZ,df,bn,Nat.succ_mul]
  lia
def zdR (K:ag):Sp:=fun vs H Q _=>∃ (c tt ra:Addr) (p:Int) (k:Nat) (pl:List Int) (AH:List Addr) (rws:List (List (Option Int))),vs = [.ref c,.ref ra]∧zbf H c tt p k pl∧lr K H ra (AH.map V.ref)∧zqM pl.length H AH rws∧rws.length≤10∧pl.length≤16∧p∈zm∧pl.Nodup∧(∀ x∈pl,0≤x∧x < p)∧(∀ rw∈rws,∀ z,some z∈rw→0≤z∧z < p)∧1≤k∧k≤100 ∧
 ∀ (z la l3:Addr) (us:List Addr) (e:Nat) (left:List Int) (oV:List (List Int)) (H':Hp),zt H H'→H' z=some (.tup [.int (e:Int),.ref la,.ref l3])→H' la=some (.tup (left.map V.int))→H' l3=some (.lst (us.map V.ref))→zbi H' us oV→e≤16→LocOk p k (rws.map (lI pl)) e left oV→Q (.ref z) H'
def zfA (K:ag):Sp:=fun vs H Q _=>∃ (c tt r:Addr) (p:Int) (k:Nat) (pl:List Int) (rw:List (Option Int)),vs = [.ref c,.ref r]∧zbf H c tt p k pl∧H r=some (.lst (rw.map o9))∧rw.length=pl.length∧pl.length≤16∧p∈zm∧pl.Nodup∧(∀ x∈pl,0≤x∧x < p)∧(∀ z,some z∈rw→0≤z∧z < p)∧1≤k∧k≤100 ∧
 ∀ (z la rb:Addr) (e:Nat) (left right:List Int) (H':Hp),zt H H'→H' z=some (.tup [.int (e:Int),.ref la,.ref rb])→H' la=some (.tup (left.map V.int))→H' rb=some (.tup (right.map V.int))→e≤16→LocOk p k [lI pl rw] e left [right]→Q (.ref z) H'
end My
end
section
namespace L2
open PySem PySem.Spec PyProof.Rows
theorem zcR {X:Cx} (hc:X.calm=true):zbU X (.builtin "max") (fun xs H Q=>∃ (p:Addr) (ns:List Int),xs = [.ref p]∧lr X.K H p (ns.map V.int)∧ns≠[]∧∀ M:Int,M∈ns→(∀ a∈ns,a≤M)→Q (.int M) H):=by
 intro lj s σ H xs us Q I r h
 obtain⟨p,ns,rfl,hq,hn,q⟩:=h
 obtain⟨u,rfl,rx⟩:=vals1 r
 cases rx
 obtain⟨lx,rv,pl,hz⟩:=I.list hq
 have hi:IntsAre lx ns:=by simpa using intsAre_of rv
 (obtain⟨xs,e⟩:=hi.allInts.items)
 have Ar:ns=xs.toList.map (·.1):=by rw [← hi.numsOf,← nums_intItems,← e]
 have hsz:0 < xs.size:=by
  have h3:=gI.mpr hn
  rw [Ar,ab,bF] at h3
  exact h3
 have hl:=pl.isList
 rw [e] at hl
 refine max_intList (I.ok.hd hc) hl hsz fun v h' tk hv hk=>?_
 (obtain⟨t,rfl⟩:=intItems_at hv)
 (obtain⟨h1,h2⟩:=argBest_gt (numAt xs) (xs.size - 1))
 refine⟨.int _,H,I.kept hk,⟨_,rfl⟩,q _ ?_ fun a ha=>?_⟩
 ·(rw [Ar,numAt_eq]; exact getD_mem (by rw [ab,bF]; lia))
 ·rw [Ar] at ha
  (obtain⟨j,hj,rfl⟩:=mem_getD ha)
  (rw [ab,bF] at hj)
  (rw [← numAt_eq]; exact h2 j (by lia))
end L2
end
section
namespace My
open PySem L2 PyProof.Rows
theorem ziT {S:List Nat}:∀ {l:List Nat},l.Nodup→l.length≤(l.filter fun i=>decide (i∉S)).length+S.length:=by
 induction S with
 | nil =>
  intro l _
  rw [jM.mpr (by simp)]
  exact af _
 | cons a S ih =>
  intro l hl
  have h1:=ih hl
  have h2:l.filter (fun i=>decide (i∉a :: S))=(l.filter fun i=>decide (i∉S)).filter (fun i=>i != a):=by
   rw [List.filter_filter]
   refine gf fun i _=>?_
   by_cases e:i=a <;> by_cases e2:i∈S <;> simp [e,e2]
  have h3:=List.Nodup.erase_eq_filter (hl.filter fun i=>decide (i∉S)) a
  have h4:(l.filter fun i=>decide (i∉S)).length≤((l.filter fun i=>decide (i∉S)).erase a).length+1:=by
   rw [List.length_erase]
   split <;> lia
  rw [h2,← h3,bn]
  lia
end My
end
section
namespace My
open PySem L2 PyProof.Rows
theorem ze6 {p z:Int} (f:List Int):∀ i,Cg p (zj p z (ap i 0++f)) (z ^ i*zj p z f)
 | 0=>Cg.of_eq (by rw [gF,gk]; rfl)
 | i+1=>by
  have h:Cg p (zj p z (ap (i+1) 0++f)) (0+z*zj p z (ap i 0++f)):=zH p z 0 _
  refine h.trans (((Cg.refl p 0).add ((Cg.refl p z).mul (ze6 f i))).trans (Cg.of_eq ?_))
  rw [dE]
  grind
def zdg (f left:List Int) (n N:Nat):List Int:=(aJ n).map fun t=>sm N fun i=>gl left i*gl (ap i 0++f) t
theorem ziU {p z:Int} {f left:List Int} {k e:Nat} (hf:f.length≤k) (hl:left.length≤e+1):Cg p (zj p z (zdg f left (k+e) (e+1))) (zj p z left*zj p z f):=by
 have hC:(zdg f left (k+e) (e+1)).length=k+e:=by unfold zdg; rw [ab,aY]
 have hg:∀ t,t < k+e→gl (zdg f left (k+e) (e+1)) t=sm (e+1) fun i=>gl left i*gl (ap i 0++f) t:=fun t ht=>zbW (by unfold zdg; rw [ah,cj ht]; rfl)
 refine (za1 (n:=k+e) (by lia)).trans ?_
 have h1:sm (k+e) (fun t=>gl (zdg f left (k+e) (e+1)) t*z ^ t)=sm (k+e) fun t=>sm (e+1) fun i=>gl left i*(gl (ap i 0++f) t*z ^ t):=zY fun t ht=>by
  rw [hg t ht,dG,← zbg]
  exact zY fun i _=>by grind
 rw [h1,zgK]
 have h2:Cg p (sm (e+1) fun i=>sm (k+e) fun t=>gl left i*(gl (ap i 0++f) t*z ^ t)) (sm (e+1) fun i=>zj p z f*(gl left i*z ^ i)):=zf6 fun i hi=>by
  rw [zbg]
  have e1:Cg p (sm (k+e) fun t=>gl (ap i 0++f) t*z ^ t) (zj p z (ap i 0++f)):=(za1 (by rw [aq,aU]; lia)).symm
  exact ((Cg.refl p (gl left i)).mul (e1.trans (ze6 f i))).trans (Cg.of_eq (by grind))
 refine h2.trans ?_
 rw [zbg]
 exact ((Cg.refl p _).mul (za1 hl).symm).trans (Cg.of_eq (dG _ _))
theorem zdS {p z:Int}:∀ q:List Int,Cg p (zj p z (q.map (· % p))) (zj p z q)
 | []=>Cg.refl _ _
 | c :: q=>(zH p z (c % p) _).trans (((Cg.emod p c).add ((Cg.refl p z).mul (zdS q))).trans (zH p z c q).symm)
theorem ze7 {p z:Int}:∀ {q:List Int},(∀ c∈q,Cg p c 0)→Cg p (zj p z q) 0
 | [],_=>Cg.refl _ _
 | c :: q,h=>(zH p z c q).trans (((h c aH).add ((Cg.refl p z).mul (ze7 fun d hd=>h d (au _ hd)))).trans (Cg.of_eq (by lia)))
def zh6 (z:Int):List Int→Int
 | []=>1
 | x :: xs=>(z - x)*zh6 z xs
theorem ze8 {z:Int}:∀ {xs:List Int},z∈xs→zh6 z xs=0
 | [],h=>by cases h
 | x :: xs,h=>by
  show (z - x)*zh6 z xs=0
  rcases (aI.mp h) with rfl | h
  ·rw [Int.sub_self,cI]
  ·rw [ze8 h,cH]
theorem zh7 {p z:Int} (hp:p∈zm) (hz:0≤z∧z < p):∀ {xs:List Int},(∀ x∈xs,0≤x∧x < p∧x≠z)→¬ Cg p (zh6 z xs) 0
 | [],_,h=>by
  have rp:=zp hp
  have:=Cg.eq (a:=1) (b:=0) h (by lia) (by lia) (by lia) (by lia)
  lia
 | x :: xs,hx,h=>by
  have rp:=zp hp
  obtain⟨x0,x1,xz⟩:=hx x aH
  rcases zd1 hp h with h | h
  ·have h2:Cg p z x:=by
    have:=h.add (Cg.refl p x)
    exact (Cg.of_eq (by lia)).trans (this.trans (Cg.of_eq (by lia)))
   exact xz (h2.eq hz.1 hz.2 x0 x1).symm
  ·exact zh7 hp hz (fun y hy=>hx y (au _ hy)) h
def zc5 (p:Int):List Int→List Int
 | []=>[1]
 | x :: xs=>zbH p x (zc5 p xs)
theorem zgO {p z:Int}:∀ xs:List Int,Cg p (zj p z (zc5 p xs)) (zh6 z xs)
 | []=>by
  have h:Cg p (zj p z [1]) (1+z*0):=zH p z 1 []
  exact h.trans (Cg.of_eq (by show 1+z*0=1; lia))
 | x :: xs=>(zjn _).trans ((Cg.refl p _).mul (zgO xs))
theorem ze9 {p:Int} (hp:p∈zm):∀ xs:List Int,IsP p (xs.length+1) (zc5 p xs)
 | []=>⟨rfl,fun c hc=>by
  have rp:=zp hp
  obtain rfl:c=1:=by simpa [zc5] using hc
  lia⟩
 | x :: xs=>by
  have rp:=zp hp
  exact⟨by show (zbH p x (zc5 p xs)).length=_; rw [zbM,(ze9 hp xs).1]; rfl,zls (by lia) _⟩
end My
end
section
namespace PySem
open PyProof.Rows
end PySem
namespace L2
open PySem PySem.Spec PyProof.Rows
end L2
end
section
namespace L2
open PySem PySem.Spec PyProof.Rows
theorem zfa {X:Cx} {K:ag} (hK:X.K=K):zbU X (.type "tuple") (fun xs H Q=>∃ p ys,xs = [.ref p]∧((lr K H p ys∧∀ l,H l=none→Q (.ref l) (lu H l (.tup ys)))∨(lE K H p ys∧Q (.ref p) H))):=by subst hK; exact zao
end L2
end
section
namespace PySem
theorem zd7:typeLookup (.type "zip") "__getattr__" = pure none:=by rw [ed,cQ]; kernel_rfl
theorem zgP:typeLookup (.type "zip") "keys" = pure none:=by rw [ed,cQ]; kernel_rfl
theorem zmm:entryFor table "zip.__getattribute__" = some Builtin.«object.__getattribute__»:=entryFor_alias (id':="object.__getattribute__") (by kernel_rfl) (by decide +kernel) (by decide +kernel) (by kernel_rfl)
theorem zmn (a:Addr) (xs:Array Value) (u:Tok) :
  Meets (Builtin.«object.__getattribute__» ⟨[.ref a,.str "keys" u],[]⟩) (fun A R s=>s.heap.get? a=some { cls:=.type "zip",dict:=none,data:=.fields xs,slots:=#[] }∧raisesAttr (.ref a) "keys" A R s) :=
 Meets.of_wp fun prog w A R s tq=>by
  (obtain⟨hp,g,d,tk,os⟩:=s)
  obtain⟨hx,hs⟩:=tq
  have hT:(⟨hp,g,d,tk,os⟩:Shared).TypeIs (.ref a) "zip":=⟨_,hx,rfl⟩
  have hmiss:=zgP
  (unfold Builtin.«object.__getattribute__»); repeat (any_goals (first | assumption | wp_step))
  exact wpAny_raiseAttrError hs.1 hs.2 (attrMsg_fits (by decide +kernel) (by rw [aX]; decide))
theorem znV {prog:Program} {w:World} {A:Around} {E:Value→Shared→Prop} {s:Shared} {a:Addr} {xs:Array Value} {Q:Option Value→Shared→Prop}
  (hx:s.heap.get? a=some { cls:=.type "zip",dict:=none,data:=.fields xs,slots:=#[] }) (hA:A.handled=none)
  (h:∀ h' tk,(∀ b o,s.heap.get? b=some o→h'.get? b=some o)→Q none { s with heap:=h',toks:=tk }) :
  wpAny (model prog w) A (getAttr? (.ref a) "keys") Q E s:=by
 (obtain⟨hp,g,d,tk,os⟩:=s)
 have hT:∀ tk',(⟨hp,g,d,tk',os⟩:Shared).TypeIs (.ref a) "zip":=fun _=>⟨_,hx,rfl⟩
 have f1:=sub_AttributeError
 have f3:=F.slot_zip_getattribute.lookup
 have f4:=F.slot_zip_getattribute.bind (.ref a)
 have f5:=zd7
 (unfold getAttr? getAttrBy? getAttrBy)
 repeat (any_goals (first | assumption | exact hT _ | ((with_reducible show wpAny _ _ (call (Value.builtin "zip.__getattribute__") _ _) _ _ _); refine dR F.slot_zip_getattribute (hT _) zmm (F.args_zip_getattribute_2 _ _) (zmn a xs _) ⟨hx,hA,fun h' tk' e um=>?_⟩) | wp_step))
 (obtain⟨t',u',he⟩:=um.there)
 (show wpAny _ _ (getattributeRaised _ _ _ _ _ _ _) _ _ _)
 unfold getattributeRaised; repeat (any_goals (first | assumption | wp_step))
 exact h _ _ um.keeps
end PySem
end
section
namespace PySem
theorem zh8:entryFor table "dict.update.loop" = some Builtin.«dict.update.loop»:=entryFor_of_tree (by kernel_rfl)
theorem zdz:plainId "dict.update.loop" = true:=by decide +kernel
end PySem
namespace L2
open PySem PySem.Spec PyProof.Rows
abbrev zqN (n a b:Nat) (i:Nat) (h:Heap):Prop:=(∃ f0 f1,IsZ h (n+4) (n+2) (n+3) f0 f1∧ZF f0 f1)∧IsPair h (n+2) (.ref n) (.ref (n+1))∧(∃ u v,IsPair h (n+3) u v)∧h.IsListIter n a i∧h.IsListIter (n+1) b i
theorem zkO {κ:Type} [DecidableEq κ] {lB:List (κ×V)} {k:κ} (h:k∉lB.map (·.1)):zda lB k=none:=by
 unfold zda
 rw [Option.map_eq_none_iff,List.find?_eq_none]
 intro kv hkv e
 have e:kv.1=k:=of_decide_eq_true e
 exact h (aB.mpr ⟨kv,hkv,e⟩)
theorem zmo {κ:Type} {ks:List κ} {ys:List V} {i:Nat} {k:κ} {y:V} (hk:ks[i]? = some k) (hy:ys[i]? = some y):(ks.zip ys).take (i+1)=(ks.zip ys).take i++[(k,y)]:=by
 have:(ks.zip ys)[i]? = some (k,y):=by rw [fM]; exact⟨hk,hy⟩
 rw [iq,this,jC]
theorem znW {κ:Type} {ks:List κ} {ys:List V} {i:Nat} {k:κ} (nV:ks.Nodup) (hk:ks[i]? = some k):k∉((ks.zip ys).take i).map (·.1):=by
 intro h
 obtain⟨q,hq,e⟩:=aB.mp h
 obtain⟨j,hj⟩:=cA.mp hq
 have BW:j < i:=by
  have:=(aD.mp hj).1
  rw [av] at this
  lia
 rw [bL BW] at hj
 have hkj:ks[j]? = some k:=by
  have pV:(ks.zip ys)[j]? = some (q.1,q.2):=hj
  rw [fM] at pV
  rw [pV.1,e]
 have h1:=(aD.mp hkj).1
 have h2:=(aD.mp hk).1
 exact cP.mp nV j i h1 h2 BW (by rw [(aD.mp hkj).2,(aD.mp hk).2])
theorem znX {α β:Type} {R:α→β→Prop} {as:List α} {bs:List β} (h:Paired R as bs):∀ {i:Nat} {x:α},as[i]? = some x→∃ y,bs[i]? = some y∧R x y:=by
 induction h with
 | nil=>intro i x e; simp at e
 | cons h1 _ ih =>
  intro i x e
  cases i with
  | zero=>cases e; exact⟨_,rfl,h1⟩
  | succ i=>exact ih (by simpa using e)
theorem zch {n c:Nat} (h:c∈[n+4,n+3,n,n+1]):c∈zb7 n:=by
 simp only [zb7,aI,aV,or_false] at h ⊢
 rcases h with z | z | z | z <;> subst z <;> simp
theorem zqm {X:Cx} {lj:List (Addr×Obj)} {σ:St} {H:Hp} {s:Shared} {h':Heap} {tk n:Nat} (I:Inv X lj σ H s) (hf:∀ c∈zb7 n,zb3 X lj H c) (k1:∀ c o,c∉[n+4,n+3,n,n+1]→s.heap.get? c=some o→h'.get? c=some o):Inv X lj σ H { s with heap:=h',toks:=tk }:=by
 have su:∀ d u',H d=some u'→d∉[n+4,n+3,n,n+1]:=fun d u' e' hd=>by rw [(hf d (zch hd)).1] at e'; cases e'
 refine I.step (g':=s.gens) (d':=s.drawn) (t':=tk) (ch:=[n+4,n+3,n,n+1]) (fun c lH=>?_) (fun c o _ _ mQ e _=>k1 c o mQ e) (fun c o _ _ mQ e _=>⟨o.slots,k1 c o mQ e⟩) (fun _ _ _ _ n=>n)
  (fun c o mQ e=>⟨o,k1 c o mQ e⟩) (fun _ _ e=>e) (fun _ _ _ e=>e) (fun c ps e=>⟨#[],by rw [e]; simp⟩) (fun m hm=>?_) (fun c u e=>?_) I.bare
 ·obtain⟨_,a1,_,a3,a4,a5⟩:=hf c (zch lH)
  exact⟨a3,a1,a4,a5⟩
 ·obtain⟨o,vf,ep,ho,r⟩:=hm
  exact⟨o,vf,ep,k1 _ o (fun z=>(hf _ (zch z)).2.1 rfl) ho,r⟩
 ·refine (I.hok c u e).stay (fun d v' hd q=>k1 d v' ?_ q) (fun _ q=>q) fun _ _ q=>q
  rcases hd with z | z
  ·rw [z]; exact su c u e
  ·exact su d _ z
theorem zkP {X:Cx} {lj:List (Addr×Obj)} {σ:St} {H:Hp} {s:Shared} {a b:Addr} {lB:List (List Key×V)} {k:List Key} {v:V} {r:Value} {A:Around} {E:Value→Shared→Prop} {Q:Unit→Shared→Prop} (hu:A.units+1 < cLine) (I:Inv X lj σ H s) (e:H a=some (.dT lB)) (eb:H b=some (.tup (k.map kV))) (l:lB.length < sizeLine) (rv:RelV v r)
  (h:∀ s',(∀ c o,c≠a→s.heap.get? c=some o→s'.heap.get? c=some o)→Inv X lj σ (lu H a (.dT (putK lB k v))) s'→Q () s'):wpAny (model X.prog X.w) A.in1 (dictSet a (.ref b) r) Q E s:=by
 obtain⟨z,hd,xs,rel,dd⟩:=zoy I.hok e
 have hz:xs.length≤sizeLine:=by rw [← bm rel]; exact z
 have hl:(putK lB k v).length≤sizeLine:=by have:=zcC lB k v; lia
 refine wpAny_dictSet_heap (hsz:=hz) (gU hu) (zgy I.hok eb) dd fun h' Ax hs=>h _ (fun c o hc eo=>hs.extBut c o hc eo) ?_
 obtain⟨q,es,ep,hq,h2,h3,h4,_,h5⟩:=Ax
 refine zgz I (by rw [e]; exact iC) hs ⟨q,hq⟩ ⟨hl,hd,_,(rel.put k eb rv).keeps fun c ys ec=>?_,q,es,ep,hq,h2,h3,h4,h5⟩
 rw [zr (zor ec e (fun z=>nomatch z))]
 exact ec
def KyA (H:Hp):List V→List (List Key)→Prop:=Paired fun x k=>∃ c,x = .ref c∧H c=some (.tup (k.map kV))
theorem znY {X:Cx} {lj:List (Addr×Obj)} {σ:St} {A:Around} {R:Result→Shared→Prop} {H0:Hp} {a b n D:Nat} {xs ys:List V} {ks:List (List Key)} (hh:A.handled=none) (hu:A.units+1 < cLine) (ha:a < n) (hb:b < n)
  (hD:H0 D=none) (hfD:D∉zb7 n) (o7:lr X.K H0 a xs) (nZ:lr X.K H0 b ys) (hk:KyA H0 xs ks) (nV:ks.Nodup) (hf:∀ c∈zb7 n,zb3 X lj H0 c)
  (hR:∀ s' H',Inv X lj σ H' s'→zt H0 H'→H' D=some (.dT (ks.zip ys))→R (.ok (.ret .none)) s') :
  ∀ (m i:Nat) (t:Tok) (s:Shared) (H:Hp),i+m=min xs.length ys.length→Inv X lj σ H s→zt H0 H→(∀ c∈zb7 n,H c=none)→zqN n a b i s.heap→H D=some (.dT ((ks.zip ys).take i)) →
   codeAny (model X.prog X.w) A (.builtin "dict.update.loop" ⟨[.ref D,.ref (n+4),.int i t,.none],[]⟩) R s:=by
 intro m
 induction m with
 | zero =>
  intro i t s H hi I hs hn st FT
  obtain⟨⟨f0,f1,h1,uK⟩,h2,⟨u0,v0,h3⟩,h4,h5⟩:=st
  obtain⟨mE,rB,p1,rL⟩:=I.list (hs.seq o7)
  obtain⟨lZ,rM,p2,uH⟩:=I.list (hs.seq nZ)
  have tj:=rB.length
  have qf:=rM.length
  refine codeAny_builtin zh8 ?_
  rw [jz zdz _]
  show wpAny _ A.in1 (pyNext (.ref (n+4)) >>= _) _ _ s
  have BY:A.in1.in1.handled=none:=by simp [hh]
  refine ae (zlE (f8 BY n a (nq (by lia)) mE.toArray) (f8 BY (n+1) b (nq (by lia)) lZ.toArray) (zcK ha hb) h1 uK h2 h3 ⟨h4,p1.isList⟩ ⟨h5,p2.isList⟩ (by rw [ar,ar]; lia) fun h' tk kk=>?_)
  show wpAny _ A.in1 (Builtin.Dict.addKeywords D [] >>= _) _ _ _
  (refine ae (ak (ak ?_)))
  have I1:Inv X lj σ H { s with heap:=h',toks:=tk }:=zqm I (fun c hc=>⟨hn c hc,(hf c hc).2⟩) fun c o lH e=>by
   simp only [aI,aV,or_false,not_or] at lH
   exact kk c o lH.1 lH.2.1 lH.2.2.1 lH.2.2.2 e
  refine hR _ _ I1 hs ?_
  rw [FT,aP]
  rw [kN,← bm hk]
  lia
 | succ m ih =>
  intro i t s H hi I hs hn st FT
  obtain⟨⟨f0,f1,h1,uK⟩,h2,⟨u0,v0,h3⟩,h4,h5⟩:=st
  obtain⟨mE,rB,p1,rL⟩:=I.list (hs.seq o7)
  obtain⟨lZ,rM,p2,uH⟩:=I.list (hs.seq nZ)
  have tj:=rB.length
  have qf:=rM.length
  have hx:xs[i]? = some (xs[i]'(by lia)):=ai _
  have hy:ys[i]? = some (ys[i]'(by lia)):=ai _
  generalize xs[i]'(by lia)=x at hx
  generalize ys[i]'(by lia)=y at hy
  obtain⟨u,huu,ru⟩:=rB.get hx
  obtain⟨v,hv,rv⟩:=rM.get hy
  refine codeAny_builtin zh8 ?_
  rw [jz zdz _]
  show wpAny _ A.in1 (pyNext (.ref (n+4)) >>= _) _ _ s
  have BY:A.in1.in1.handled=none:=by simp [hh]
  refine ae (zjs (f8 BY n a (nq (by lia)) mE.toArray) (f8 BY (n+1) b (nq (by lia)) lZ.toArray) (zcK ha hb) h1 uK h2 h3 ⟨h4,p1.isList⟩ ⟨h5,p2.isList⟩ (by rw [ar]; lia) (by rw [ar]; lia)
   fun x' y' h' tk g0 g1 a' b' px py ez BA e2 e3 t4 t5 pp hsz kk=>?_)
  have eu:x'=u:=by
   have e1:mE[i]? = some x':=by simpa using px
   rw [huu] at e1; exact (aT e1).symm
  have ev:y'=v:=by
   have e1:lZ[i]? = some y':=by simpa using py
   rw [hv] at e1; exact (aT e1).symm
  subst eu ev
  obtain⟨k,hki,kc,rfl,EI⟩:=znX hk hx
  cases ru
  have hff:∀ c∈zb7 n,zb3 X lj H c:=fun c hc=>⟨hn c hc,(hf c hc).2⟩
  have vz:n+4 < s.heap.objs.size:=aK h1
  have k1:∀ c o,c∉[n+4,n+3,n,n+1]→s.heap.get? c=some o→h'.get? c=some o:=fun c o lH eo=>by
   simp only [aI,aV,or_false,not_or] at lH
   exact kk c o lH.1 lH.2.1 lH.2.2.1 lH.2.2.2 eo
  have I1:Inv X lj σ H { s with heap:=h',toks:=tk }:=zqm I hff k1
  show wpAny _ A.in1 (holding [.ref s.heap.objs.size] _ >>= _) _ _ _
  (refine ae (bY ?_))
  (refine ae (wpAny_tryCatch ?_))
  unfold Builtin.Dict.pairItems
  have hT:({ s with heap:=h',toks:=tk }:Shared).TypeIs (.ref s.heap.objs.size) "tuple":=⟨_,pp,rfl⟩
  (refine ae (fS hT ?_))
  rw [if_pos (by decide)]
  refine ae (dj pp rfl (ak ?_))
  show wpAny _ A.in1 (holding [.ref kc,y'] (dictSet D (.ref kc) y')) _ _ _
  have lT:((ks.zip ys).take i).length < sizeLine:=by
   rw [av]
   lia
  refine bY (zkP (A:=A) hu I1 FT (hs _ _ EI) lT rv fun s2 k2 I2=>?_)
  rw [zlH _ (zkO (znW nV hki)),← zmo hki hy] at I2
  have nD:∀ c,c∈zb7 n→c≠D:=fun c hc z=>hfD (by rw [← z]; exact hc)
  refine ak ⟨plainId_quiet zdz _,?_⟩
  show codeAny _ A (.builtin "dict.update.loop" ⟨[.ref D,.ref (n+4),.int ((i+1:Nat):Int) _,.none],[]⟩) R s2
  refine ih (i+1) _ s2 _ (by lia) I2 (fun c o e=>?_) (fun c hc=>?_) ?_ zc
  ·rw [zr (zB e hD)]
   exact hs c o e
  ·rw [zr (nD c hc)]
   exact hn c hc
  ·exact⟨⟨g0,g1,k2 _ _ (nD _ (by simp)) ez,BA⟩,k2 _ _ (nD _ (by simp)) e2,⟨_,_,k2 _ _ (nD _ (by simp)) e3⟩,t4.1.at fun o e=>k2 _ o (nD _ (by simp)) e,t5.1.at fun o e=>k2 _ o (nD _ (by simp)) e⟩
def tDZ (K:ag) (ta:TA):TE:=fun σ H Q=>ta σ H fun vs H1=>∃ a b xs ys ks,vs = [.ref a,.ref b]∧lr K H1 a xs∧lr K H1 b ys∧KyA H1 xs ks∧ks.Nodup∧∀ D H',H1 D=none→zt H1 H'→H' D=some (.dT (ks.zip ys))→Q (.ref D) H'
theorem ziV {X:Cx} {p p2 pos oG:Pos} {a b:Expr} {ta:TA} (hu:X.A.units+2 < cLine) (hc:X.calm=true) (hg:Gl X "dict") (hm:X.mg "dict" = none) (w8:Gl X "zip") (rD:X.mg "zip" = none) (ha:PA X [a,b] ta) (hs:starEach [a,b] X.env = [(false,eval a X.env),(false,eval b X.env)]:=by rfl) (oE:starEach [b] X.env = [(false,eval b X.env)]:=by rfl)
  (tu:starEach [.Call (.Name "zip" p2) [a,b] [] oG] X.env = [(false,eval (.Call (.Name "zip" p2) [a,b] [] oG) X.env)]:=by rfl) :
  PE X (.Call (.Name "dict" p) [.Call (.Name "zip" p2) [a,b] [] oG] [] pos) (tDZ X.K ta):=by
 intro lj s σ H Q I h
 refine Call_ (zbE I hg hm boot_dict (bA ?_ tu rfl))
 rw [tu]
 show wpAny _ _ (spliced ((false,eval (.Call (.Name "zip" p2) [a,b] [] oG) X.env) :: [])) _ _ s
 refine eU ?_
 refine Call_ (zbE I w8 rD kt (bA (thn (ha oG lj s σ H _ I h) fun us s1 ⟨vs,H1,I1,r1,q1⟩=>?_) (by rw [hs,oE]) (by rw [oE]; rfl)))
 obtain⟨l1,l2,xs,ys,ks,e,o7,nZ,DR,nV,q⟩:=q1
 subst e
 cases r1 with
 | cons r rr =>
  cases rr with
  | cons r' rr =>
   cases rr
   cases r
   cases r'
   obtain⟨mE,rB,vB,rL⟩:=I1.list o7
   obtain⟨lZ,rM,wx,uH⟩:=I1.list nZ
   have pZ:l1 < s1.heap.objs.size:=by obtain⟨_,_,e,_⟩:=vB; exact aK e
   have p4:l2 < s1.heap.objs.size:=by obtain⟨_,_,e,_⟩:=wx; exact aK e
   refine call_zip_2 vB.isList wx.isList fun h' b1 b2 b3 b4 b5 b6 kk=>?_
   refine gb ?_
   have I2:Inv X lj σ H1 { s1 with heap:=h' }:=I1.kept (t':=s1.toks) kk
   have FU:∀ c∈zb7 s1.heap.objs.size,zb3 X lj H1 c:=fun c hc=>by
    have hle:s1.heap.objs.size≤c:=by
     simp only [zb7,aI,aV,or_false] at hc
     rcases hc with z | z | z | z | z <;> subst z
     all_goals first | exact gq _ _ | exact af _
    exact I1.fpOk hle (I1.hok.fresh hle)
   generalize hn:s1.heap.objs.size=n at b1 b2 b3 b4 b5 b6 pZ p4 FU ⊢
   refine callType_codes (Q₁:=fun obj s₁=>obj = .ref h'.objs.size∧s₁ = { s1 with heap:=h'.push { cls:=.type "dict",data:=.dict #[] } }) F.kt_called_dict (F.kt_typeCall_dict_1 _) F.entry_dict_init (kt_code_dict_new _ ⟨rfl,rfl⟩) ?_
   rintro obj s₁ ⟨rfl,rfl⟩
   have FV:∀ c o,h'.get? c=some o→(h'.push { cls:=.type "dict",data:=.dict #[] }).get? c=some o:=fun c o e=>aj _ e
   have I3:Inv X lj σ (lu H1 h'.objs.size (.dT [])) { s1 with heap:=h'.push { cls:=.type "dict",data:=.dict #[] } } :=
    I2.laid (a:=h'.objs.size) (o:=.dT []) (t':=s1.toks) FV (af _) (zhI h' I2.big)
   have hT:({ s1 with heap:=h'.push { cls:=.type "dict",data:=.dict #[] } }:Shared).TypeIs (.ref h'.objs.size) "dict":=⟨_,aO _ rfl,rfl⟩
   refine⟨hT,F.args_dict_init_2 _ _,?_⟩
   (unfold Builtin.«dict.__init__»; refine ae ?_; unfold Builtin.Dict.selfAndRest)
   (refine ae (jm hT ?_))
   show wpAny _ _ (pure (h'.objs.size,[bd (n+4)])) _ _ _
   refine (ak ?_)
   show wpAny _ _ (iU "dict.__init__" h'.objs.size (.ref (n+4)) [] .none) _ _ _
   (unfold iU)
   have DS:=FV _ _ b1
   have uL:({ s1 with heap:=h'.push { cls:=.type "dict",data:=.dict #[] } }:Shared).TypeIs (.ref (n+4)) "zip":=⟨_,DS,rfl⟩
   refine ae (fS uL ?_)
   rw [if_pos (by decide)]
   have hh:X.A.handled=none:=I.ok.hd hc
   refine ae (znV DS (by simp [hh]) fun h2 tk wA=>?_)
   rw [if_pos (by rfl)]
   refine ae (cn ?_)
   have I4:Inv X lj σ (lu H1 h'.objs.size (.dT [])) { s1 with heap:=h2,toks:=tk }:=Inv.kept (s:={ s1 with heap:=h'.push { cls:=.type "dict",data:=.dict #[] } }) (t':=tk) I3 wA
   refine ae (zgx (wA _ _ DS) (ak ⟨plainId_quiet zdz _,?_⟩))
   have D0:H1 h'.objs.size=none:=I2.hok.fresh (af _)
   have up:∀ c o,h'.get? c=some o→h2.get? c=some o:=fun c o e=>wA c o (FV c o e)
   refine znY (X:=X) (lj:=lj) (σ:=σ) (A:=X.A.in1) (H0:=H1) (a:=l1) (b:=l2) (n:=n) (D:=h'.objs.size) (xs:=xs) (ys:=ys) (ks:=ks) (by simp [hh]) (by simp only [eL]; lia) pZ p4 D0 ?_ o7 nZ DR nV FU (fun s' H' I' e1 e2=>?_) (min xs.length ys.length) 0 _ _ _ (by lia) I4 (fun c o e=>?_) (fun c hc=>?_) ?_ ?_
   ·rw [b6]
    simp
   ·exact⟨rfl,.ref h'.objs.size,_,I',rfl,q _ _ D0 e1 e2⟩
   ·rw [zr (zB e D0)]
    exact e
   ·rw [zr]
    ·exact (FU c hc).1
    ·rw [b6]
     simp only [zb7,aI,aV,or_false] at hc
     rcases hc with z | z | z | z | z <;> subst z <;> exact nq (by lia)
   ·exact⟨⟨_,_,up _ _ b1,.inl rfl,_,rfl⟩,up _ _ b2,⟨_,_,up _ _ b3⟩,b4.at fun o e=>up _ o e,b5.at fun o e=>up _ o e⟩
   ·rw [dO]
    exact zc
end L2
end
section
namespace PySem
theorem zdA:typeLookup (.type "list") (dunderI "add")=pure (some (.builtin "list.__iadd__")):=by rw [ed,cQ]; kernel_rfl
theorem zfB:seqSlot? (.type "list") (dunderI "add")=pure (some (.builtin "list.__iadd__")):=by
 unfold seqSlot?
 rw [zdA]
 kernel_rfl
theorem zgQ:fillsInplaceSlot (.type "list") "add" (Operator.Add == .Add)=pure false:=by
 unfold fillsInplaceSlot
 show (typeLookup (.type "list") (dunderI "add") >>= fun fi=>pure (fi.isSome && !isSeqSlot fi))=pure false
 rw [zdA]
 kernel_rfl
theorem zkQ {M:Model} {A:Around} {E:Value→Shared→Prop} {s:Shared} {a b:Value} {Q:Value→Shared→Prop} (ha:s.TypeIs a "list") (hb:s.TypeIs b "list")
  (hc:wpAny M A (call (.builtin "list.__iadd__") [a,b]) Q E s):wpAny M A (inplaceOp .Add a b) Q E s:=by
 (unfold inplaceOp; refine bY ?_)
 refine ae (fS ha (ae (dS zgQ ?_)))
 (show wpAny M A (if false=true then _ else _) Q E s)
 rw [if_neg aR]
 refine ae (wpAny_binaryOp1_none (nm:="add") ha hb noFill_list_add ?_)
 refine ae (dS zfB ?_)
 exact (ae (cn hc))
end PySem
namespace L2
open PySem PySem.Spec PyProof.Rows
def zpv:R2:=fun x y H Q=>∃ l b xs zs,x = .ref l∧y = .ref b∧H l=some (.lst xs)∧H b=some (.lst zs)∧xs.length+zs.length≤sizeLine∧Q (.ref l) (lu H l (.lst (xs++zs)))
theorem zmp {X:Cx}:OpR X (inplaceOp .Add) zpv:=by
 intro lj s σ H x y v u Q I rx ry h
 obtain⟨l,b,xs,zs,rfl,rfl,hH,hB,hz,q⟩:=h
 cases rx
 cases ry
 obtain⟨z,lx,n,r,hl,e⟩:=I.lstM hH
 obtain⟨z2,lZ,n2,r2,qf,e2⟩:=I.lstM hB
 have hsz:lx.toArray.size+lZ.toArray.size≤sizeLine:=by rw [ar,ar]; lia
 have vy:¬ (!lx.toArray.isEmpty && eK (lx.toArray.size+lZ.toArray.size))=true:=by
  rw [zhm hsz,kS]
  exact aR
 refine zkQ ⟨_,e,rfl⟩ ⟨_,e2,rfl⟩ (dR F.slot_list_iadd ⟨_,e,rfl⟩ F.entry_list_iadd (F.args_list_iadd_2 _ _)
  (AutoSeq1.list___iadd___list_list_0 l lx.toArray n b lZ.toArray n2 vy (by rw [ar]; lia) (by lia)) ⟨e,e2,?_⟩)
 refine⟨.ref l,_,I.lset (its':=lx++lZ) hH e (by simp) (r.append r2) ?_,rfl,q⟩
 rw [aq]
 lia
end L2
end
section
namespace My
open PySem L2 PyProof.Rows
def sh (b:Int):Nat→(Nat→Int)→Nat→Int
 | 0,_,_=>0
 | n+1,l,0=>l 0+b*sh b n (fun t=>l (t+1)) 0
 | n+1,l,j+1=>sh b n (fun t=>l (t+1)) j+b*sh b n (fun t=>l (t+1)) (j+1)
theorem zgR {b:Int}:∀ {n:Nat} {u v:Nat→Int} {j:Nat},sh b n (fun t=>u t+v t) j=sh b n u j+sh b n v j
 | 0,_,_,_=>by simp [sh]
 | n+1,u,v,0=>by
  have h:=zgR (b:=b) (n:=n) (u:=fun t=>u (t+1)) (v:=fun t=>v (t+1)) (j:=0)
  simp only [sh,h]; grind
 | n+1,u,v,j+1=>by
  have h:=zgR (b:=b) (n:=n) (u:=fun t=>u (t+1)) (v:=fun t=>v (t+1)) (j:=j)
  have h':=zgR (b:=b) (n:=n) (u:=fun t=>u (t+1)) (v:=fun t=>v (t+1)) (j:=j+1)
  simp only [sh,h,h']; grind
theorem zfb {b c:Int}:∀ {n:Nat} {u:Nat→Int} {j:Nat},sh b n (fun t=>c*u t) j=c*sh b n u j
 | 0,_,_=>by simp [sh]
 | n+1,u,0=>by
  have h:=zfb (b:=b) (c:=c) (n:=n) (u:=fun t=>u (t+1)) (j:=0)
  simp only [sh,h]; grind
 | n+1,u,j+1=>by
  have h:=zfb (b:=b) (c:=c) (n:=n) (u:=fun t=>u (t+1)) (j:=j)
  have h':=zfb (b:=b) (c:=c) (n:=n) (u:=fun t=>u (t+1)) (j:=j+1)
  simp only [sh,h,h']; grind
theorem zjW {p b b':Int} (hb:Cg p b b'):∀ {n:Nat} {u v:Nat→Int} {j:Nat},(∀ t,t < n→Cg p (u t) (v t))→Cg p (sh b n u j) (sh b' n v j)
 | 0,_,_,_,_=>by simp only [sh]; exact Cg.refl _ _
 | n+1,u,v,0,h=>by
  simp only [sh]
  exact (h 0 (by lia)).add (hb.mul (zjW hb fun t ht=>h (t+1) (by lia)))
 | n+1,u,v,j+1,h=>by
  simp only [sh]
  exact (zjW hb fun t ht=>h (t+1) (by lia)).add (hb.mul (zjW hb fun t ht=>h (t+1) (by lia)))
theorem ziW {b:Int}:∀ {n:Nat} {f:Nat→Int} {j:Nat},f n=0→sh b (n+1) f j=sh b n f j
 | 0,f,0,h=>by simp [sh,h]
 | 0,f,j+1,h=>by simp [sh]
 | n+1,f,0,h=>by
  rw [sh,ziW (n:=n) (f:=fun t=>f (t+1)) h]; simp only [sh]
 | n+1,f,j+1,h=>by
  have e:=fun i=>ziW (b:=b) (n:=n) (f:=fun t=>f (t+1)) (j:=i) h
  rw [sh,e j,e (j+1)]; simp only [sh]
theorem znZ {b:Int} {n:Nat} {f:Nat→Int} {j:Nat}:∀ {m:Nat},n≤m→(∀ t,n≤t→t < m→f t=0)→sh b m f j=sh b n f j
 | m,h,z=>by
  induction m with
  | zero =>
   obtain rfl:n=0:=by lia
   rfl
  | succ m ih =>
   by_cases e:n=m+1
   ·rw [e]
   ·rw [ziW (z m (by lia) (by lia))]
    exact ih (by lia) fun t h1 h2=>z t h1 (by lia)
def vl:Nat→(Nat→Int)→Int→Int
 | 0,_,_=>0
 | n+1,l,y=>l 0+y*vl n (fun t=>l (t+1)) y
theorem zoC {y:Int}:∀ {n:Nat} {u v:Nat→Int},(∀ t,t < n→u t=v t)→vl n u y=vl n v y
 | 0,_,_,_=>rfl
 | n+1,u,v,h=>by rw [vl,vl,h 0 (by lia),zoC (v:=fun t=>v (t+1)) fun t ht=>h (t+1) (by lia)]
theorem zmq {c y:Int}:∀ {n:Nat} {u:Nat→Int},vl n (fun t=>c*u t) y=c*vl n u y
 | 0,_=>by simp [vl]
 | n+1,u=>by
  have h:=zmq (c:=c) (y:=y) (n:=n) (u:=fun t=>u (t+1))
  simp only [vl,h]; grind
def ch:Nat→Nat→Int
 | _,0=>1
 | 0,_+1=>0
 | t+1,j+1=>ch t j+ch t (j+1)
theorem zdB:∀ {t j:Nat},t < j→ch t j=0
 | _,0,h=>by lia
 | 0,j+1,_=>rfl
 | t+1,j+1,h=>by rw [ch,zdB (by lia),zdB (by lia)]; rfl
theorem zdC {b:Int}:∀ {n:Nat} {l:Nat→Int} {j:Nat},sh b n l j=sm n fun t=>ch t j*b ^ (t - j)*l t
 | 0,_,_=>rfl
 | n+1,l,0=>by
  rw [sh,zdC,zcP,← zbg]
  congr 1
  ·simp [ch]
  ·exact zY fun i _=>by simp only [ch,dX]; grind
 | n+1,l,j+1=>by
  rw [sh,zdC,zdC,zcP,← zbg,← zgJ]
  have e0:ch 0 (j+1)*b ^ (0 - (j+1))*l 0=0:=by simp [ch]
  rw [e0,dI]
  refine zY fun i _=>?_
  have e1:i+1 - (j+1)=i - j:=by lia
  rw [ch,e1]
  by_cases h:j+1≤i
  ·have e2:i - j=(i - (j+1))+1:=by lia
   rw [e2,dE]; grind
  ·rw [zdB (t:=i) (j:=j+1) (by lia)]; simp
theorem zoD {y:Int}:∀ {n:Nat} {l:Nat→Int},vl n l y=sm n fun t=>l t*y ^ t
 | 0,_=>rfl
 | n+1,l=>by
  rw [vl,zoD,zcP,← zbg]
  congr 1
  ·simp
  ·exact zY fun t _=>by rw [dE]; grind
end My
end
section
namespace My
open PySem L2 PyProof.Rows
theorem zmr {l:List Nat} {d:Nat} (h:l.Nodup) (hl:∀ x∈l,x < d):l.length≤d:=by
 have h1:=ziT (S:=aJ d) h
 rw [jj.mpr (fun x hx=>by have:=hl x hx; simpa using this),aY] at h1
 simpa using h1
theorem zjX {p:Int} (hp:p∈zm) {L N m:Nat} {vs:List (List Int)} {cl:List (Nat×List Int)} (E:Ech p L N m vs cl) (hm:m < N) {w0:List Int} (W0:Wh p L N m vs [] w0):∀ i,i≤cl.length→∃ w,Wh p L N m vs (cl.take i) w
 | 0,_=>⟨w0,by rw [dO]; exact W0⟩
 | i+1,hi=>by
  obtain⟨w,W⟩:=zjX hp E hm W0 i (by lia)
  exact⟨_,zjO hp E hm (ai (by lia)) W⟩
theorem zms {p:Int} (hp:p∈zm) {L:Nat} {vs:List (List Int)} (hv:∀ v∈vs,v.length=L∧∀ c∈v,0≤c∧c < p) (hI:Indep p L vs):∀ m,m≤vs.length→∃ cl,Ech p L vs.length m vs cl
 | 0,_=>⟨[],Ech.start p L vs.length vs⟩
 | m+1,hm=>by
  have rp:=zp hp
  obtain⟨cl,E⟩:=zms hp hv hI m (by lia)
  have hvm:vs[m]? = some (vs[m]'(by lia)):=ai (by lia)
  obtain⟨h1,h2⟩:=hv _ (aF hvm)
  obtain⟨w,W⟩:=zjX hp E (by lia) (zh0 hp (N:=vs.length) (by lia) hvm h1 h2) cl.length (af _)
  rw [ba] at W
  by_cases hz:∀ x,x < L→gl w x=0
  ·exfalso
   obtain⟨_,d2,d3⟩:=zl6 W (by lia) hz
   have:=hI _ d3 m (by lia)
   rw [d2] at this
   have:=this.eq (by lia) (by lia) (bP _) (by lia)
   lia
  ·obtain⟨x,hx⟩:=Classical.not_forall.mp hz
   obtain⟨AA,ur⟩:=Classical.not_imp.mp hx
   exact⟨_,zh1 hp E (by lia) W AA ur⟩
theorem zmt {p:Int} (hp:p∈zm) {L:Nat} {vs:List (List Int)} (hv:∀ v∈vs,v.length=L∧∀ c∈v,0≤c∧c < p) (hI:Indep p L vs):vs.length≤L:=by
 obtain⟨cl,E⟩:=zms hp hv hI vs.length (af _)
 have hn:(cl.map (·.1)).Nodup:=by
  rw [db,cu,cP]
  intro i j hi hj p7 e
  have h1:=E.up i j _ _ (ai hi) (ai hj) p7
  have h2:=(E.one j _ (ai hj)).2.2.2.2.1
  rw [e,h2] at h1
  cases h1
 have:=zmr hn fun x hx=>by
  obtain⟨a,ha,rfl⟩:=aB.mp hx
  obtain⟨j,hj⟩:=cW ha
  exact (E.one j a hj).1
 rw [ab,E.ln] at this
 exact this
end My
end
section
namespace My
open PySem L2 PyProof.Rows
abbrev Tm:=Nat×Nat
def cf (x:Int) (n u:Nat):Int:=ch n u*x ^ (n - u)
theorem zgS (x:Int) (n:Nat):cf x n 0=x ^ n:=by
 unfold cf
 cases n <;> simp [ch]
theorem zn0 (x:Int) (n u:Nat):cf x (n+1) (u+1)=cf x n u+x*cf x n (u+1):=by
 unfold cf
 by_cases h:u < n
 ·rw [show n+1 - (u+1)=n - u by lia,show n - u=(n - (u+1))+1 by lia,dE]
  show (ch n u+ch n (u+1))*_=_
  grind
 ·have h1:ch n (u+1)=0:=zdB (by lia)
  rw [show n+1 - (u+1)=n - u by lia]
  show (ch n u+ch n (u+1))*_=_
  rw [h1]
  simp
structure Co where
 x:Int
 y:Int
 u:Nat
 v:Nat
def cv (t:Tm) (c:Co):Int:=cf c.x t.1 c.u*cf c.y t.2 c.v
def pco (q:Int×Int×Nat):List Co:=(aJ q.2.2).flatMap fun u=>(aJ (q.2.2 - u)).map fun v=>⟨q.1,q.2.1,u,v⟩
def cos (lq:List (Int×Int×Nat)):List Co:=lq.flatMap pco
def zaM (p:Int) (lq:List (Int×Int×Nat)) (t:Tm):List Int:=(cos lq).map fun c=>cv t c % p
def tz (k:Nat) (t:Tm):Nat:=t.1+(k - 1)*t.2
def tms (k s:Nat):List Tm:=(aJ (s / (k - 1)+1)).map fun j=>(s - (k - 1)*j,j)
def zU (k s:Nat):List Tm:=(aJ s).flatMap (tms k)
theorem zaN (k s:Nat):zU k (s+1)=zU k s++tms k s:=by
 unfold zU
 rw [cp,cq]
 simp
theorem zcS {k s:Nat} (hk:2≤k) {t:Tm}:t∈tms k s↔tz k t=s:=by
 unfold tms tz
 have k1:0 < k - 1:=by lia
 constructor
 ·intro h
  obtain⟨j,hj,rfl⟩:=aB.mp h
  have hj:=bv.mp hj
  have:(k - 1)*j≤s:=by
   have:=(fw k1).mp (show j≤s / (k - 1) by lia)
   rw [fj]; exact this
  show s - (k - 1)*j+(k - 1)*j=s
  lia
 ·intro h
  refine aB.mpr ⟨t.2,bv.mpr ?_,?_⟩
  ·have:t.2≤s / (k - 1):=(fw k1).mpr (by rw [fj]; lia)
   lia
  ·have:s - (k - 1)*t.2=t.1:=by lia
   rw [this]
theorem zaV {k s:Nat} (hk:2≤k) {t:Tm}:t∈zU k s↔tz k t < s:=by
 unfold zU
 rw [b9]
 constructor
 ·rintro⟨z,hz,h⟩
  rw [(zcS hk).mp h]
  exact bv.mp hz
 ·intro h
  exact⟨tz k t,bv.mpr h,(zcS hk).mpr rfl⟩
theorem zkR (k s:Nat):(tms k s).Nodup:=by
 unfold tms
 rw [db,cu]
 refine j9 ?_ iK
 intro a b h e
 exact h (congrArg Prod.snd e)
theorem zbb {k:Nat} (hk:2≤k):∀ s,(zU k s).Nodup
 | 0=>by simp [zU]
 | s+1=>by
  rw [zaN,er]
  refine⟨zbb hk s,zkR k s,fun a ha b hb e=>?_⟩
  subst e
  have h1:=(zaV hk).mp ha
  have h2:=(zcS hk).mp hb
  lia
theorem zct {k:Nat} (hk:2≤k):∀ s,(zU k s).Pairwise fun a b=>tz k a≤tz k b
 | 0=>by simp [zU]
 | s+1=>by
  rw [zaN,jx]
  refine⟨zct hk s,?_,fun a ha b hb=>?_⟩
  ·refine fV (R:=fun _ _=>True) ?_ (List.pairwise_of_forall fun _ _=>trivial)
   intro a b ha hb _
   rw [(zcS hk).mp ha,(zcS hk).mp hb]
   exact af _
  ·have h1:=(zaV hk).mp ha
   have h2:=(zcS hk).mp hb
   lia
theorem zf9 (k:Nat):∀ s,s≤(zU k s).length
 | 0=>bj _
 | s+1=>by
  rw [zaN,aq]
  have:=zf9 k s
  have h:1≤(tms k s).length:=by unfold tms; rw [ab,aY]; exact Nat.le_add_left _ _
  lia
theorem zga (k:Nat) {a:Nat}:∀ {b},a≤b→zU k a <+: zU k b
 | 0,h=>by
  obtain rfl:a=0:=by lia
  exact kD _
 | b+1,h=>by
  by_cases e:a=b+1
  ·rw [e]
   exact kD _
  ·exact (zga k (show a≤b by lia)).trans (by rw [zaN]; exact List.prefix_append _ _)
def lsum (l:List Tm) (f:Tm→Int):Int:=(l.map f).sum
theorem zmu (f:Tm→Int):lsum [] f=0:=rfl
theorem zbc (a:Tm) (l:List Tm) (f:Tm→Int):lsum (a :: l) f=f a+lsum l f:=by simp [lsum]
theorem zcE (l m:List Tm) (f:Tm→Int):lsum (l++m) f=lsum l f+lsum m f:=by simp [lsum]
theorem zgT {p:Int} {f g:Tm→Int}:∀ {l:List Tm},(∀ t∈l,Cg p (f t) (g t))→Cg p (lsum l f) (lsum l g)
 | [],_=>Cg.refl p _
 | a :: l,h=>by
  rw [zbc,zbc]
  exact (h a aH).add (zgT fun t ht=>h t (au _ ht))
theorem zgb {f:Tm→Int}:∀ {l:List Tm},(∀ t∈l,f t=0)→lsum l f=0
 | [],_=>rfl
 | a :: l,h=>by rw [zbc,h a aH,zgb fun t ht=>h t (au _ ht)]; rfl
theorem zmv {l m:List Int} (h:l.Perm m):l.sum=m.sum:=by
 induction h with
 | nil=>rfl
 | cons a _ ih=>simp [ih]
 | swap a b l=>simp only [df]; lia
 | trans _ _ h1 h2=>rw [h1,h2]
theorem zkS {l m:List Tm} {f:Tm→Int} (h:l.Perm m):lsum l f=lsum m f:=zmv (h.map f)
theorem zgc {l m:List Tm} {f:Tm→Int} (hl:l.Nodup) (hm:m.Nodup) (h:∀ t,t∈l↔t∈m):lsum l f=lsum m f:=zkS ((List.perm_ext_iff_of_nodup hl hm).mpr h)
theorem zgU {f:Tm→Int} {g:Nat→Int}:∀ {l:List Tm} {n:Nat},n=l.length→(∀ i t,l[i]? = some t→g i=f t)→sm n g=lsum l f
 | [],_,rfl,_=>rfl
 | a :: l,_,rfl,h=>by
  rw [zbc,bn,zcP,h 0 a rfl,zgU rfl fun i t e=>h (i+1) t (by simpa using e)]
def zn1 (p:Int) (L m:Nat) (vs:List (List Int)):Prop:=∀ u:Nat→Int,(∀ x,x < L→Cg p (sm m fun i=>u i*vx vs i x) 0)→∀ i,i < m→Cg p (u i) 0
theorem zn2 {p:Int} {L N m:Nat} {vs:List (List Int)} {cl:List (Nat×List Int)} (hm:m≤N) (E:Ech p L N m vs cl):zn1 p L m vs:=fun u hu i hi=>by
 have key:∀ y,sm N (fun i=>(if i < m then u i else 0)*vx vs i y)=sm m (fun i=>u i*vx vs i y):=fun y=>by
  rw [zeq hm (f:=fun i=>(if i < m then u i else 0)*vx vs i y) (fun i h1 _=>by rw [if_neg (by lia)]; simp)]
  exact zY fun i hi=>by rw [if_pos hi]
 have h:=E.ii (fun y=>if y < L then sm m (fun i=>u i*vx vs i y) else if y - L < m then u (y - L) else 0) (fun x hx=>?_) (fun i h1 h2=>?_) (fun a ha=>?_) i (by lia)
 ·rw [if_neg (by lia),dM,if_pos hi] at h
  exact h
 ·dsimp only
  rw [if_pos hx,← key]
  refine Cg.of_eq (zY fun i _=>?_)
  have e:(if L+i < L then sm m (fun i_1=>u i_1*vx vs i_1 (L+i)) else if L+i - L < m then u (L+i - L) else 0)=if i < m then u i else 0:=by rw [if_neg (by lia),dM]
  rw [e]
 ·rw [if_neg (by lia),dM,if_neg (by lia)]
  exact Cg.refl p 0
 ·obtain⟨j,hj⟩:=cW ha
  have:=(E.one j a hj).1
  rw [if_pos this]
  exact hu _ this
theorem zpw {p:Int} {lq:List (Int×Int×Nat)} {t:Tm} {x:Nat} {c:Co} (h:(cos lq)[x]? = some c):gl (zaM p lq t) x=cv t c % p:=zbW (by unfold zaM; rw [ah,h]; rfl)
theorem zjY (p:Int) (lq:List (Int×Int×Nat)) (t:Tm):(zaM p lq t).length=(cos lq).length:=by unfold zaM; rw [ab]
theorem zn3 {p:Int} (p0:0 < p) {lq:List (Int×Int×Nat)} {t:Tm}:∀ c∈zaM p lq t,0≤c∧c < p:=fun c hc=>by
 unfold zaM at hc
 obtain⟨d,_,rfl⟩:=aB.mp hc
 exact⟨aG _ (by lia),az _ p0⟩
theorem zmw {p:Int} {lq:List (Int×Int×Nat)} {ts:List Tm} {i x:Nat} {t:Tm} {c:Co} (ht:ts[i]? = some t) (h:(cos lq)[x]? = some c):vx (ts.map (zaM p lq)) i x=cv t c % p:=by
 unfold vx
 rw [aQ,ah,ht]
 exact zpw h
structure Lst (p:Int) (k:Nat) (lq:List (Int×Int×Nat)) (size:Nat) (g:Tm→Int):Prop where
 rg:∀ t,0≤g t∧g t < p
 top:∃ t,tz k t=size∧g t≠0
 out:∀ t,size < tz k t→g t=0
 ok:∀ c∈cos lq,Cg p (lsum (zU k (size+1)) fun t=>g t*cv t c) 0
 least:∀ h:Tm→Int,(∀ c∈cos lq,Cg p (lsum (zU k size) fun t=>h t*cv t c) 0)→∀ t,tz k t < size→Cg p (h t) 0
 few:(zU k size).length≤(cos lq).length
def gof (ts:List Tm) (c:List Int) (t:Tm):Int:=(jc t (ts.zip c)).getD 0
theorem ziX:∀ {ts:List Tm} {c:List Int} {i:Nat} {t:Tm},ts.Nodup→ts[i]? = some t→gof ts c t=gl c i
 | [],_,_,_,_,h=>(by simp at h)
 | a :: ts,[],i,t,_,_=>by
  show (jc t ([]:List (Tm×Int))).getD 0=_
  rw [zaZ (by simp)]
  rfl
 | a :: ts,b :: c,0,t,_,h=>by
  cases h
  unfold gof
  rw [dY,bh,beq_self_eq_true]
  rfl
 | a :: ts,b :: c,i+1,t,hn,h=>by
  (have wL:=d8.mp hn)
  have h':ts[i]? = some t:=by simpa using h
  have ne:t≠a:=fun e=>wL.1 (by rw [← e]; exact aF h')
  have:=ziX (c:=c) wL.2 h'
  unfold gof at this ⊢
  rw [dY,bh,show (t == a)=false by simpa using ne,this]
  unfold gl
  simp
theorem zjZ:∀ {ts:List Tm} {c:List Int} {t:Tm},gof ts c t≠0→∃ i,i < c.length∧ts[i]? = some t
 | [],_,_,h=>absurd rfl h
 | a :: ts,[],t,h=>absurd rfl h
 | a :: ts,b :: c,t,h=>by
  by_cases e:t=a
  ·exact⟨0,by simp,by rw [e]; rfl⟩
  ·unfold gof at h
   rw [dY,bh,show (t == a)=false by simpa using e] at h
   obtain⟨i,h1,h2⟩:=zjZ (ts:=ts) (c:=c) (t:=t) h
   exact⟨i+1,by simpa using h1,by simpa using h2⟩
theorem zn4 {p:Int} (p0:0 < p) {ts:List Tm} {c:List Int} (hc:∀ z∈c,0≤z∧z < p) (t:Tm):0≤gof ts c t∧gof ts c t < p:=by
 unfold gof
 cases h:jc t (ts.zip c) with
 | none=>exact⟨bP _,p0⟩
 | some z =>
  have:(t,z)∈ts.zip c:=by
   clear hc
   induction ts generalizing c with
   | nil=>simp at h
   | cons a ts ih =>
    cases c with
    | nil=>simp at h
    | cons b c =>
     rw [dY,bh] at h
     cases e:(t == a) with
     | true =>
      rw [e] at h
      cases h
      rw [show t=a by simpa using e]
      exact aH
     | false =>
      rw [e] at h
      exact au _ (ih h)
  exact hc z (gw this).2
theorem zbX {f:Tm→Int} {q:Tm→Bool}:∀ {l:List Tm},(∀ t∈l,q t=false→f t=0)→lsum l f=lsum (l.filter q) f
 | [],_=>rfl
 | a :: l,h=>by
  have ih:=zbX (l:=l) (f:=f) (q:=q) fun t ht=>h t (au _ ht)
  cases e:q a with
  | true=>rw [bQ e,zbc,zbc,ih]
  | false=>rw [bR (by rw [e]; simp),zbc,h a aH e,ih]; lia
theorem zdT {k:Nat} {l:List Tm} (h:l.Pairwise fun a b=>tz k a≤tz k b) {i j:Nat} {a b:Tm} (ha:l[i]? = some a) (hb:l[j]? = some b) (p7:i≤j):tz k a≤tz k b:=by
 by_cases e:i=j
 ·subst e
  rw [ha] at hb
  cases hb
  exact af _
 ·obtain⟨h1,e1⟩:=aD.mp ha
  obtain⟨h2,e2⟩:=aD.mp hb
  have:=cP.mp h i j h1 h2 (by lia)
  rw [e1,e2] at this
  exact this
theorem zpx {p:Int} (p0:0 < p) {k:Nat} (hk:2≤k) {lq:List (Int×Int×Nat)} {S:Nat} {ts:List Tm} (xi:ts=(zU k S).take ((cos lq).length+1)) {c:List Int} {m:Nat} (hc:IsP p (m+1) c) {top:Tm} (pg:ts[m]? = some top) (h1:gl c m=1)
  (hD:Dep p (cos lq).length (ts.map (zaM p lq)) c) (hI:zn1 p (cos lq).length m (ts.map (zaM p lq))):Lst p k lq (tz k top) (gof ts c):=by
 have qR:ts <+: zU k S:=by rw [xi]; exact List.take_prefix _ _
 have nV:ts.Nodup:=fY qR.sublist (zbb hk S)
 have DT:ts.Pairwise fun a b=>tz k a≤tz k b:=ft qR.sublist (zct hk S)
 have hmt:m < ts.length:=(aD.mp pg).1
 have pq:m < (cos lq).length+1:=by
  rw [xi,av] at hmt
  lia
 have qT:∀ t,gof ts c t≠0→∃ i,i≤m∧ts[i]? = some t:=fun t ht=>by
  obtain⟨i,h1,h2⟩:=zjZ ht
  exact⟨i,by rw [hc.1] at h1; lia,h2⟩
 have FW:tz k top < S:=(zaV hk).mp (qR.sublist.subset (aF pg))
 have yQ:∀ F:Tm→Int,lsum (zU k (tz k top+1)) (fun t=>gof ts c t*F t)=lsum ts (fun t=>gof ts c t*F t):=fun F=>by
  rw [zbX (l:=zU k (tz k top+1)) (q:=fun t=>decide (gof ts c t≠0)) fun t _ e=>by
    rw [show gof ts c t=0 by simpa using e]; simp,
   zbX (l:=ts) (q:=fun t=>decide (gof ts c t≠0)) fun t _ e=>by
    rw [show gof ts c t=0 by simpa using e]; simp]
  refine zgc (fY c6 (zbb hk _)) (fY c6 nV) fun t=>?_
  rw [bE,bE,zaV hk]
  constructor
  ·rintro⟨_,h⟩
   obtain⟨i,_,hi⟩:=qT t (by simpa using h)
   exact⟨aF hi,h⟩
  ·rintro⟨_,h⟩
   obtain⟨i,BV,hi⟩:=qT t (by simpa using h)
   exact⟨iz (zdT DT hi pg BV),h⟩
 have BZ:zU k (tz k top) <+: zU k S:=zga k (fO FW)
 have hM:(zU k (tz k top)).length≤m:=by
  refine fA fun lT=>?_
  have hS:(zU k S)[m]? = some top:=by
   obtain⟨r,hr⟩:=qR
   rw [← hr,bo hmt]
   exact pg
  obtain⟨r,hr⟩:=BZ
  rw [← hr,bo lT] at hS
  have:=(zaV hk).mp (aF hS)
  lia
 have FX:∀ i t,(zU k (tz k top))[i]? = some t→ts[i]? = some t:=fun i t e=>by
  have hi:=(aD.mp e).1
  obtain⟨r,hr⟩:=BZ
  have hS:(zU k S)[i]? = some t:=by rw [← hr,bo hi]; exact e
  obtain⟨r2,AI⟩:=qR
  rw [← AI,bo (by lia)] at hS
  exact hS
 refine⟨zn4 p0 hc.2,⟨top,rfl,by rw [ziX nV pg,h1]; decide⟩,fun t ht=>?_,fun d hd=>?_,fun h hh t ht=>?_,by lia⟩
 ·refine du fun me=>?_
  obtain⟨i,BV,hi⟩:=qT t me
  have:=zdT DT hi pg BV
  lia
 ·rw [yQ]
  obtain⟨x,hx⟩:=cA.mp hd
  have um:=(aD.mp hx).1
  have:=hD x um
  rw [ab,zgU (l:=ts) (f:=fun t=>gof ts c t*(cv t d % p)) rfl fun i t e=>by rw [ziX nV e,zmw e hx]] at this
  exact (zgT fun t _=>(Cg.refl p _).mul (Cg.emod p _).symm).trans this
 ·have hu:=hI (fun i=>if i < (zU k (tz k top)).length then h (ts.getD i (0,0)) else 0) (fun x hx=>?_)
  ·obtain⟨i,hi⟩:=cA.mp ((zaV hk).mpr ht)
   have B0:=(aD.mp hi).1
   have:=hu i (by lia)
   rw [if_pos B0,aQ,FX i t hi] at this
   exact this
  ·have ur:(cos lq)[x]? = some ((cos lq)[x]'hx):=ai hx
   rw [zeq hM fun i h2 _=>by rw [if_neg (by lia)]; simp]
   rw [zgU (l:=zU k (tz k top)) (f:=fun t=>h t*(cv t ((cos lq)[x]'hx) % p)) rfl fun i t e=>by
    rw [if_pos (aD.mp e).1,zmw (FX i t e) ur,aQ,FX i t e]
    rfl]
   exact (zgT fun t _=>(Cg.refl p _).mul (Cg.emod p _)).trans (hh _ (eP hx))
end My
end
section
namespace My
open PySem L2 PyProof.Rows
def tri (w:Nat):Nat:=w*(w+1) / 2
theorem zmx (w:Nat):tri (w+1)=tri w+(w+1):=by
 unfold tri
 rw [show (w+1)*(w+1+1)=w*(w+1)+2*(w+1) by grind,Nat.add_mul_div_left _ _ (by decide)]
theorem zh9 (n:Nat):∀ m,m≤n→((aJ m).map fun u=>n - u).sum+tri (n - m)=tri n
 | 0,_=>by simp
 | m+1,h=>by
  have ih:=zh9 n m (by lia)
  rw [cp,ao,kM]
  have:tri (n - m)=tri (n - (m+1))+(n - m):=by
   rw [show n - m=(n - (m+1))+1 by lia,zmx]
  (simp only [aZ,fT,df,List.sum_nil])
  lia
theorem zn5 (q:Int×Int×Nat):(pco q).length=tri q.2.2:=by
 unfold pco
 rw [List.length_flatMap]
 have:=zh9 q.2.2 q.2.2 (af _)
 have e:(aJ q.2.2).map (fun u=>((aJ (q.2.2 - u)).map fun v=>(⟨q.1,q.2.1,u,v⟩:Co)).length)=(aJ q.2.2).map fun u=>q.2.2 - u:=ci fun u _=>by rw [ab,aY]
 rw [e]
 have t0:tri (q.2.2 - q.2.2)=0:=by rw [fX]; rfl
 lia
def zcF (lq:List (Int×Int×Nat)):Nat:=(lq.map fun q=>tri q.2.2).sum
theorem zgV:∀ lq,(cos lq).length=zcF lq
 | []=>rfl
 | q :: lq=>by
  have ih:=zgV lq
  unfold cos zcF at ih ⊢
  rw [dJ,aq,zn5,ih]
  simp
theorem zn6 {lq:List (Int×Int×Nat)} {x y:Int} {w u v:Nat} (h:(x,y,w)∈lq) (hu:u < w) (hv:v < w - u):(⟨x,y,u,v⟩:Co)∈cos lq:=by
 unfold cos
 refine b9.mpr ⟨_,h,?_⟩
 unfold pco
 exact b9.mpr ⟨u,bv.mpr hu,aB.mpr ⟨v,bv.mpr hv,rfl⟩⟩
def zgW (k s:Nat) (g:Tm→Int):List (List Int):=(aJ (s / (k - 1)+1)).map fun j=>(aJ (s - (k - 1)*j+1)).map fun i=>g (i,j)
theorem zia (k s:Nat) (g:Tm→Int):(zgW k s g).length=s / (k - 1)+1:=by unfold zgW; rw [ab,aY]
theorem zmy {k s j:Nat} {g:Tm→Int} (h:j < s / (k - 1)+1):(zgW k s g)[j]? = some ((aJ (s - (k - 1)*j+1)).map fun i=>g (i,j)):=by
 unfold zgW
 rw [ah,cj h]
 rfl
theorem zkT {f:Tm→Int} {n:Nat} {w:Nat→Nat}:lsum ((aJ n).flatMap fun j=>(aJ (w j)).map fun i=>(i,j)) f=sm n fun j=>sm (w j) fun i=>f (i,j):=by
 induction n with
 | zero=>rfl
 | succ n ih =>
  rw [cp,cq,zcE,ih]
  show _=sm n (fun j=>sm (w j) fun i=>f (i,j))+sm (w n) (fun i=>f (i,n))
  congr 1
  have:∀ m,lsum ((aJ m).map fun i=>(i,n)) f=sm m fun i=>f (i,n):=by
   intro m
   induction m with
   | zero=>rfl
   | succ m ih2 =>
    rw [cp,ao,zcE,ih2]
    show _+lsum [(m,n)] f=sm m (fun i=>f (i,n))+f (m,n)
    rw [zbc,zmu]
    lia
  simp only [dJ,gr,bH]
  exact this _
end My
end
section
namespace My
open PySem L2 PyProof.Rows
section
variable {K:ag}
theorem LsA.off {H:Hp} {l:Addr} {ls:List Addr} {vv:List (List Int)} (h:LsA H ls vv) (hl:H l=some (.lst (ls.map V.ref))):∀ (i:Nat) (b:Addr),ls[i]? = some b→b≠l:=by
 rintro i b hb rfl
 obtain⟨v,_,hv⟩:=Paired.get h hb
 rw [hl] at hv
 cases ls with
 | nil=>simp at hb
 | cons x r =>
  cases v with
  | nil=>simp at hv
  | cons y z=>simp at hv
theorem zoE {many:Nat} {base:Int} {ds:List Int} (h:zgt many base ds) {i:Int} (h0:0≤i) (h1:i < many):∃ d,atI (ds.map V.int) i=some (.int d)∧0≤d∧d < base:=by
 obtain⟨n,rfl⟩:∃ n:Nat,i=n:=⟨i.toNat,by lia⟩
 have hn:n < ds.length:=by rw [h.1]; lia
 refine⟨ds[n]'hn,zaT (by rw [ah,ai hn]; rfl),h.2 _ (eP hn)⟩
theorem zpy {H H':Hp} {ls:List Addr} {vv:List (List Int)} {D:Addr} (hD:D∉ls) (k:∀ b o,b≠D→H b=some o→H' b=some o) (h:LsA H ls vv):LsA H' ls vv:=by
 induction h with
 | nil=>exact .nil
 | cons h1 _ ih=>exact .cons (k _ _ (fun e=>hD (by rw [← e]; exact aH)) h1) (ih fun z=>hD (au _ z))
theorem zd3 {α β:Type} {R:α→β→Prop}:∀ {as:List α} {bs:List β} {x:α} {y:β},Paired R (as++[x]) (bs++[y])→Paired R as bs∧R x y
 | [],[],_,_,h=>by cases h with | cons h1 _=>exact⟨.nil,h1⟩
 | [],b :: bs,_,_,h=>by have:=bm h; simp at this
 | a :: as,[],_,_,h=>by have:=bm h; simp at this
 | a :: as,b :: bs,_,_,h=>by
  cases h with
  | cons h1 h2 =>
   obtain⟨p1,p2⟩:=zd3 h2
   exact⟨.cons h1 p1,p2⟩
theorem zib {H:Hp} {d:Nat} {x:V} (hx:zfQ x=true):EqD K H d x x true:=by
 have h:=EqD.flat (K:=K) (H:=H) (d:=d) (x:=x) (y:=x) hx hx
 have e:eqV x x=true:=by
  cases x <;> simp_all [eqV,zfQ]
 rw [e] at h
 exact h
theorem zn7 {H:Hp} {a b:Addr} {ms:List Int} (ha:H a=some (.tup (ms.map V.int))) (hb:H b=some (.tup (ms.map V.int))):EqD K H 8 (.ref a) (.ref b) true:=by
 by_cases me:a=b
 ·subst me
  exact .same
 ·have h:=EqD.tups (K:=K) (H:=H) (d:=7) (e:=fun _=>true) me (lE.of ha) (lE.of hb) fun j x y h1 h2=>by
   rw [h1] at h2
   cases h2
   obtain⟨z,rfl,_⟩:=zab h1
   exact zib rfl
  have e:((aJ (min (ms.map V.int).length (ms.map V.int).length)).all (fun _=>true) && (ms.map V.int).length == (ms.map V.int).length)=true:=by simp
  rw [e] at h
  exact h
theorem zn8 {H:Hp} {rs AJ:List Addr} {qs:List (List Int)} (h1:zbi H rs qs) (h2:zbi H AJ qs):∀ (j:Nat) x y,(rs.map V.ref)[j]? = some x→(AJ.map V.ref)[j]? = some y→EqD K H 8 x y true:=fun j x y e1 e2=>by
 obtain⟨a,rfl,ha⟩:=zS e1
 obtain⟨b,rfl,hb⟩:=zS e2
 obtain⟨q,g1,g2⟩:=Paired.get h1 ha
 obtain⟨q',g3,g4⟩:=Paired.get h2 hb
 rw [g1] at g3
 cases g3
 exact zn7 g2 g4
theorem zn9 {xs:List V} {v:V}:atI (xs++[v]) (-1)=some v:=by
 unfold atI ixN
 rw [if_neg (by decide),if_pos (by rw [aq]; show -((xs.length+1:Nat):Int)≤-1; lia)]
 show (xs++[v])[(-1+((xs++[v]).length:Int)).toNat]? = some v
 rw [aq,show (-1+((xs.length + [v].length:Nat):Int)).toNat=xs.length by show (-1+((xs.length+1:Nat):Int)).toNat=_; lia,bN (af _),fX]
 rfl
end
end My
end
section
namespace My
open PySem L2 PyProof.Rows
def top (i:Nat):Stmt:=PySem.Challenge.pw_slipcurve_k12_whole_rows_moved.main.body.getD i (.Pass ⟨0,0,0,0⟩)
abbrev zcu:Stmt:=top 1
abbrev zcT:Stmt:=top 2
abbrev zbk:Stmt:=top 3
abbrev zfc:Stmt:=top 4
abbrev zcU:Stmt:=top 5
abbrev zaO:Stmt:=top 11
abbrev zfd:Stmt:=top 12
abbrev zbN:Stmt:=top 14
abbrev za2:Stmt:=top 15
abbrev zbS:Stmt:=top 16
abbrev zbq:Stmt:=top 17
abbrev zbl:Stmt:=top 19
abbrev zaE:Stmt:=top 20
abbrev zaW:Stmt:=top 21
abbrev zcf:Stmt:=top 22
abbrev zar:Stmt:=top 23
abbrev zbC:Stmt:=top 24
abbrev za3:Stmt:=top 26
abbrev zap:Stmt:=top 27
abbrev zbm:Stmt:=top 28
abbrev zbD:Stmt:=top 29
abbrev zaH:Stmt:=top 31
abbrev s_beyond:Stmt:=top 32
abbrev zes:Stmt:=top 33
abbrev zac:Stmt:=top 34
abbrev zbJ:Stmt:=top 36
abbrev zfe:Stmt:=top 37
abbrev zdD:Stmt:=top 39
abbrev zcV:Stmt:=top 40
abbrev zcG:Stmt:=top 41
abbrev zcW:Stmt:=top 42
abbrev zaP:Stmt:=top 43
abbrev zdE:Stmt:=top 44
abbrev za4:Stmt:=top 45
abbrev zbY:Stmt:=top 46
structure Adr where
 SlipError:Addr
 TooFew:Addr
 NoCurve:Addr
 value_at:Addr
 inverse:Addr
 times_root:Addr
 bent:Addr
 through:Addr
 heard_points:Addr
 fits:Addr
 choices:Addr
 all_through:Addr
 all_near:Addr
 nearest:Addr
 moved_powers:Addr
 numbers_at:Addr
 vectors_of:Addr
 without:Addr
 first_relation:Addr
 first_sum:Addr
 first_terms:Addr
 least_curve:Addr
 check_curves:Addr
 curve_for:Addr
 times_entries:Addr
 beyond:Addr
 sized:Addr
 joint_locator:Addr
 locator_of:Addr
 half:Addr
 l_cell:Addr
 l_draws:Addr
 l_code:Addr
 l_value:Addr
 l_polynomial:Addr
 l_row:Addr
 l_moved_one:Addr
 law:Addr
structure Txt (K:ag) (mg:Str→Option Value) (t:Adr):Prop where
 len_:mg "len" = none
 range_:mg "range" = none
 list_:mg "list" = none
 tuple_:mg "tuple" = none
 min_:mg "min" = none
 max_:mg "max" = none
 int_:mg "int" = none
 zip_:mg "zip" = none
 enumerate_:mg "enumerate" = none
 sum_:mg "sum" = none
 dict_:mg "dict" = none
 reversed_:mg "reversed" = none
 sorted_:mg "sorted" = none
 ValueError_:mg "ValueError" = none
 x_SlipError:mg "SlipError" = some (.ref t.SlipError)
 x_TooFew:mg "TooFew" = some (.ref t.TooFew)
 x_NoCurve:mg "NoCurve" = some (.ref t.NoCurve)
 sb:k7 K t.SlipError (.type "BaseException")=some true
 m_value_at:mg "value_at" = some (.ref t.value_at)
 m_inverse:mg "inverse" = some (.ref t.inverse)
 m_times_root:mg "times_root" = some (.ref t.times_root)
 m_bent:mg "bent" = some (.ref t.bent)
 m_through:mg "through" = some (.ref t.through)
 m_heard_points:mg "heard_points" = some (.ref t.heard_points)
 m_fits:mg "fits" = some (.ref t.fits)
 m_choices:mg "choices" = some (.ref t.choices)
 m_all_through:mg "all_through" = some (.ref t.all_through)
 m_all_near:mg "all_near" = some (.ref t.all_near)
 m_nearest:mg "nearest" = some (.ref t.nearest)
 m_moved_powers:mg "moved_powers" = some (.ref t.moved_powers)
 m_numbers_at:mg "numbers_at" = some (.ref t.numbers_at)
 m_vectors_of:mg "vectors_of" = some (.ref t.vectors_of)
 m_without:mg "without" = some (.ref t.without)
 m_first_relation:mg "first_relation" = some (.ref t.first_relation)
 m_first_sum:mg "first_sum" = some (.ref t.first_sum)
 m_first_terms:mg "first_terms" = some (.ref t.first_terms)
 m_least_curve:mg "least_curve" = some (.ref t.least_curve)
 m_check_curves:mg "check_curves" = some (.ref t.check_curves)
 m_curve_for:mg "curve_for" = some (.ref t.curve_for)
 m_times_entries:mg "times_entries" = some (.ref t.times_entries)
 m_beyond:mg "beyond" = some (.ref t.beyond)
 m_sized:mg "sized" = some (.ref t.sized)
 m_joint_locator:mg "joint_locator" = some (.ref t.joint_locator)
 m_locator_of:mg "locator_of" = some (.ref t.locator_of)
 m_half:mg "half" = some (.ref t.half)
 m_l_cell:mg "_law_cell" = some (.ref t.l_cell)
 m_l_draws:mg "_law_draws" = some (.ref t.l_draws)
 m_l_code:mg "_law_code" = some (.ref t.l_code)
 m_l_value:mg "_law_value" = some (.ref t.l_value)
 m_l_polynomial:mg "_law_polynomial" = some (.ref t.l_polynomial)
 m_l_row:mg "_law_row" = some (.ref t.l_row)
 m_l_moved_one:mg "_law_moved_one" = some (.ref t.l_moved_one)
 f_value_at:∃ fd,Fun K "value_at" "value_at" zcu t.value_at fd∧Binds K fd ["p","polynomial","x"] []
 f_inverse:∃ fd,Fun K "inverse" "inverse" zcT t.inverse fd∧Binds K fd ["p","number"] []
 f_times_root:∃ fd,Fun K "times_root" "times_root" zbk t.times_root fd∧Binds K fd ["p","polynomial","root"] []
 f_bent:∃ fd,Fun K "bent" "bent" zfc t.bent fd∧Binds K fd ["p","polynomial","vanishing","point"] []
 f_through:∃ fd,Fun K "through" "through" zcU t.through fd∧Binds K fd ["p","points"] []
 f_heard_points:∃ fd,Fun K "heard_points" "heard_points" zaO t.heard_points fd∧Binds K fd ["code","row"] []
 f_fits:∃ fd,Fun K "fits" "fits" zfd t.fits fd∧Binds K fd ["code","row","polynomial"] []
 f_choices:∃ fd,Fun K "choices" "choices" zbN t.choices fd∧Binds K fd ["things","many"] []
 f_all_through:∃ fd,Fun K "all_through" "all_through" za2 t.all_through fd∧Binds K fd ["code","points"] []
 f_all_near:∃ fd,Fun K "all_near" "all_near" zbS t.all_near fd∧Binds K fd ["code","row","t"] []
 f_nearest:∃ fd,Fun K "nearest" "nearest" zbq t.nearest fd∧Binds K fd ["code","row"] []
 f_moved_powers:∃ fd,Fun K "moved_powers" "moved_powers" zbl t.moved_powers fd∧Binds K fd ["p","by","most","kept"] []
 f_numbers_at:∃ fd,Fun K "numbers_at" "numbers_at" zaE t.numbers_at fd∧Binds K fd ["p","terms","point"] []
 f_vectors_of:∃ fd,Fun K "vectors_of" "vectors_of" zaW t.vectors_of fd∧Binds K fd ["p","terms","points"] []
 f_without:∃ fd,Fun K "without" "without" zcf t.without fd∧Binds K fd ["p","vector","times","other"] []
 f_first_relation:∃ fd,Fun K "first_relation" "first_relation" zar t.first_relation fd∧Binds K fd ["p","vectors"] []
 f_first_sum:∃ fd,Fun K "first_sum" "first_sum" zbC t.first_sum fd∧Binds K fd ["p","terms","points"] []
 f_first_terms:∃ fd,Fun K "first_terms" "first_terms" za3 t.first_terms fd∧Binds K fd ["k","many"] []
 f_least_curve:∃ fd,Fun K "least_curve" "least_curve" zap t.least_curve fd∧Binds K fd ["p","k","points"] []
 f_check_curves:∃ fd,Fun K "check_curves" "check_curves" zbm t.check_curves fd∧Binds K fd ["k"] []
 f_curve_for:∃ fd,Fun K "curve_for" "curve_for" zbD t.curve_for fd∧Binds K fd ["code","row","m"] []
 f_times_entries:∃ fd,Fun K "times_entries" "times_entries" zaH t.times_entries fd∧Binds K fd ["p","left","points"] []
 f_beyond:∃ fd,Fun K "beyond" "beyond" s_beyond t.beyond fd∧Binds K fd ["rights","many"] []
 f_sized:∃ fd,Fun K "sized" "sized" zes t.sized fd∧Binds K fd ["polynomial","many"] []
 f_joint_locator:∃ fd,Fun K "joint_locator" "joint_locator" zac t.joint_locator fd∧Binds K fd ["code","rows"] []
 f_locator_of:∃ fd,Fun K "locator_of" "locator_of" zbJ t.locator_of fd∧Binds K fd ["code","row"] []
 f_half:∃ fd,Fun K "half" "half" zfe t.half fd∧Binds K fd ["code","row"] []
 f_l_cell:∃ fd,Fun K "_law_cell" "_law_cell" zdD t.l_cell fd∧Binds K fd ["script","k"] []
 f_l_draws:∃ fd,Fun K "_law_draws" "_law_draws" zcV t.l_draws fd∧Binds K fd ["script","k","many","base"] []
 f_l_code:∃ fd,Fun K "_law_code" "_law_code" zcG t.l_code fd∧Binds K fd ["script","at","most_k","most_n"] []
 f_l_value:∃ fd,Fun K "_law_value" "_law_value" zcW t.l_value fd∧Binds K fd ["p","polynomial","x"] []
 f_l_polynomial:∃ fd,Fun K "_law_polynomial" "_law_polynomial" zaP t.l_polynomial fd∧Binds K fd ["draws","p","k"] []
 f_l_row:∃ fd,Fun K "_law_row" "_law_row" zdE t.l_row fd∧Binds K fd ["script","at","code"] []
 f_l_moved_one:∃ fd,Fun K "_law_moved_one" "_law_moved_one" za4 t.l_moved_one fd∧Binds K fd ["p","one","by","more"] []
section
variable {P:Program} {w:World} {K:ag} {mg:Str→Option Value} {base:Heap} {t:Adr}
theorem zkU:FnScope ["script","k"] ["script","k"] (zh zdD):=⟨rfl,rfl,rfl,by decide +kernel,rfl,by decide +kernel,by decide +kernel⟩
theorem zkV {fd:FuncData} (T:Txt K mg t) (F:Fun K "_law_cell" "_law_cell" zdD t.l_cell fd):FnOk P w K mg base CX0 1 t.l_cell fd ["script","k"] (zku K):=by
 refine F.ok zkU (fun vs H Q E h=>?_) (fun mh A outer s H vs Q E hr h=>?_)
 ·obtain⟨a,ns,k,rfl,_⟩:=h; rfl
 ·obtain⟨a,ns,k,rfl,hS,lF,k0,k1,q⟩:=h
  refine⟨_,#[zd,#[za0,#[zL,#[zeC],#[pvx,1],#[zC,#[zE],T.len_,cB,#[ya,#[pvx,0]]],(zX _)],#[zn,#[zF,#[zQ,#[zG],#[pvx,0],#[pvx,1]]]],#[zag]],#[zd,#[za0,#[zL,#[zeB],#[zC,#[zE],T.len_,cB,#[ya,#[pvx,0]]],#[zg],(zX _)],#[zn,#[zF,#[zl,#[zO],#[zl,#[zW],#[zg],#[pvx,1]],#[zg]]]],#[zag]],#[zn,#[zF,#[zl,#[zO],#[zl,#[zK],#[zQ,#[zG],#[pvx,0],#[zl,#[zK],#[pvx,1],#[zC,#[zE],T.len_,cB,#[ya,#[pvx,0]]]]],#[zg]],#[zl,#[zW],#[zg],#[pvx,1]]]]]]],?_⟩
  refine (lp rfl (lp rfl ⟨a,(lp rfl ⟨.inl hS,(lD rfl rfl (lp rfl ?_))⟩)⟩)); rw [ab]
  refine zaU (fun h=>?_) (fun h=>?_)
  ·have h:k < (ns.length:Int):=by simpa using h
   obtain⟨c,hc⟩:=zeg k0 h
   exact (lp rfl (lp rfl (ex4 a _ k _ ⟨rfl,rfl,hS,hc,q c⟩)))
  ·have h:¬ k < (ns.length:Int):=by simpa using h
   refine (lp rfl ⟨a,(lp rfl ⟨.inl hS,rfl,(lp rfl ?_)⟩)⟩)
   rw [ab]
   refine zaU (fun h2=>?_) (fun h2=>?_)
   ·exact (lp rfl (lD rfl rfl ⟨.inl ⟨by decide,by decide⟩,(lD rfl rfl (q _))⟩))
   ·have h2:¬ V.int (ns.length:Int)=V.int 0:=by simpa using h2
    have xj:0 < (ns.length:Int):=by
     have:(ns.length:Int)≠0:=fun z=>h2 (by rw [z])
     lia
    have m0:=aG k (show (ns.length:Int)≠0 by lia)
    have m1:=az k xj
    obtain⟨c,hc⟩:=zeg m0 m1
    refine (lp rfl (lp rfl (lp rfl ⟨a,(lp rfl ⟨.inl hS,(lD rfl rfl ⟨by rw [ab]; exact xj,a,_,_,_,rfl,rfl,hS,by rw [ab]; exact hc,(lD rfl rfl ⟨(by show (0:Int) < 1000003; decide),?_⟩)⟩)⟩)⟩)))
    exact (lp rfl (lD rfl rfl ⟨.inl ⟨by decide,by decide⟩,(lD rfl rfl (q _))⟩))
theorem zaf:FnScope ["script","k","many","base","primes","cell","rest","row","j","mash"] ["script","k","many","base"] (zh zcV):=⟨rfl,rfl,rfl,by decide +kernel,rfl,by decide +kernel,by decide +kernel⟩
theorem zdh {fd:FuncData} (T:Txt K mg t) (F:Fun K "_law_draws" "_law_draws" zcV t.l_draws fd):FnOk P w K mg base CX0 2 t.l_draws fd ["script","k","many","base"] (ziE K):=by
 obtain⟨uQ,sE,qm⟩:=T.f_l_cell
 have vM:=zkV (P:=P) (w:=w) (base:=base) T sE
 refine F.ok zaf (fun vs H Q E h=>?_) (fun mh A outer s H vs Q E hr h=>?_)
 ·obtain⟨a,ns,k,many,base,rfl,_⟩:=h
  rfl
 ·obtain⟨a,ns,k,many,bs,rfl,hS,lF,k0,k1,m0,m1,b0,b1,q⟩:=h
  refine⟨_,#[zd,#[zq,4,zaf.nd,(am rfl),#[zaw,#[zc2,#[zc2,#[zc2,#[zc2,#[zc2,#[za,#[zg],#[za,#[zg],#[ya,#[zg]]]]]]]]]]],#[zd,#[zq,5,zaf.nd,(am rfl),#[zo,vM,(hr.mono (by decide)),T.m_l_cell,sE.kp,qm,#[zy],#[za,#[pvx,0],#[ya,#[pvx,1]]]]],#[zd,#[zq,6,zaf.nd,(am rfl),#[zg]],#[zd,#[za0,#[zL,#[zlb],#[pvx,5],#[zl,(@zoV _),#[zg],#[zg]],(zX _)],#[zn,#[zq,6,zaf.nd,(am rfl),#[pvx,5]]],#[zag]],#[zd,#[zq,7,zaf.nd,(am rfl),#[z9,#[ze]]],#[zd,#[za7,bI,#[zaq,T.range_,#[ya,#[pvx,2]]],#[zf,8,zaf.nd,(am rfl)],#[zd,#[zq,9,zaf.nd,(am rfl),#[zl,#[zW],#[zl,#[zK],#[pvx,5],#[zQ,#[zb4],#[pvx,4],#[zl,#[zK],#[pvx,8],#[zg]]]],#[zl,#[zO],#[zg],#[zl,#[zW],#[zl,#[zW],#[zg],#[pvx,8]],#[pvx,8]]]]],#[zd,#[zq,9,zaf.nd,(am rfl),#[zl,#[zO],#[zl,#[zO],#[pvx,9],#[zl,#[zW],#[zl,#[zW],#[zg],#[zl,#[zO],#[pvx,8],#[zg]]],#[zl,#[zO],#[pvx,8],#[zg]]]],#[zl,#[zW],#[zg],#[pvx,1]]]],#[zd,#[zq,9,zaf.nd,(am rfl),#[zl,#[zK],#[pvx,9],#[zQ,#[zb4],#[pvx,4],#[zl,#[zK],#[zl,#[zO],#[zl,#[zW],#[zg],#[pvx,8]],#[pvx,1]],#[zg]]]]],#[zd,#[zq,9,zaf.nd,(am rfl),#[zl,#[zK],#[zl,#[zW],#[zl,#[zW],#[pvx,9],#[pvx,9]],#[pvx,9]],#[zQ,#[zb4],#[pvx,4],#[zl,#[zK],#[zl,#[zO],#[pvx,8],#[zg]],#[zg]]]]],#[zd,#[za0,#[zL,#[zhk],#[pvx,6],#[zg],(zX _)],#[zn,#[zq,9,zaf.nd,(am rfl),#[pvx,6]]],#[zag]],#[zd,#[zci,#[zeG,cF,cU,cV,#[zbL],#[pvx,7],#[ya,#[zl,#[zK],#[pvx,9],#[pvx,3]]]]],#[zn,#[zq,6,zaf.nd,(am rfl),#[zl,#[zck],#[pvx,6],#[pvx,3]]]]]]]]]]],#[zn,#[zF,#[pvx,7]]]]]]]]],?_⟩
  refine⟨by show 8≤sizeLine; rw [aX]; decide,fun tp ht=>?_⟩
  have s1:zt H (lu H tp (.tup znk)):=zb ht
  refine (lp rfl (lp rfl (ex3 a ns k ⟨rfl,s1.seq hS,lF,k0,k1,fun c=>?_⟩)))
  refine (lp rfl (lD rfl rfl ⟨⟨by decide,by decide,by decide⟩,(lD rfl rfl (lp rfl ?_))⟩))
  refine zaU (fun _=>(lp rfl ?_)) (fun _=>?_)
  all_goals
   refine⟨bj _,fun l hl=>?_⟩
   have B1:H l=none:=zt.free s1 hl
   have pv:tp≠l:=zB zc hl
   refine⟨_,rfl,many,rfl,by lia,by lia,zca (lo:=0) (n:=many.toNat) (fun i σ H'=>∃ (r:Int) (v8 v9:Option V) (ds:List Int),σ = [some (.ref a),some (.int k),some (.int many),some (.int bs),some (.ref tp),some (.int c),some (.int r),some (.ref l),v8,v9]∧zgt i bs ds∧zt H H'∧H' tp=some (.tup znk)∧H' l=some (.lst (ds.map V.int)))
    ⟨_,none,none,[],rfl,⟨rfl,by simp⟩,zae s1 B1,by rw [zr pv]; exact zc,zc⟩ ?_ ?_⟩
   ·rintro i σ H2 hi ⟨r,v8,v9,ds,rfl,hd,s2,B2,xk⟩
    obtain⟨q1,e1,q1p,q1l⟩:=zeN (0+(i:Int))
    obtain⟨q2,e2,q2p,q2l⟩:=zeN (3*(0+(i:Int))+k)
    obtain⟨q3,e3,q3p,q3l⟩:=zeN (0+(i:Int)+5)
    have c1:=aG c (show q1≠0 by lia)
    have c2:=az c q1p
    have oC:(i:Int) < 1000:=by lia
    refine (lp rfl (lp rfl (lp rfl (lD rfl rfl ⟨(by show (0:Int) < 8; decide),tp,_,_,_,rfl,rfl,lE.of B2,e1,(lD rfl rfl ⟨q1p,(lp rfl (lD rfl rfl ⟨.inl ⟨by decide,by decide⟩,(lp rfl (lD rfl rfl ⟨.inl ⟨by lia,by lia⟩,(lD rfl rfl (lD rfl rfl ⟨.inl ⟨by lia,by lia⟩,?_⟩))⟩))⟩))⟩)⟩))))
    refine (lp rfl (lp rfl (lD rfl rfl (lD rfl rfl ⟨.inl ⟨by decide,by decide⟩,(lp rfl (lD rfl rfl (lD rfl rfl ⟨.inl ⟨by lia,by lia⟩,(lD rfl rfl (lp rfl (lD rfl rfl ⟨.inl ⟨by decide,by decide⟩,(lD rfl rfl ?_)⟩)))⟩)))⟩))))
    refine (lp rfl (lp rfl (lp rfl (lD rfl rfl ⟨.inl ⟨by decide,by decide⟩,(lp rfl (lD rfl rfl (lD rfl rfl ⟨(by show (0:Int) < 8; decide),tp,_,_,_,rfl,rfl,lE.of B2,e2,(lD rfl rfl ⟨q2p,?_⟩)⟩)))⟩))))
    generalize c % q1*(48271+2*(0+(i:Int))*(0+(i:Int)))+7919*(0+(i:Int)+1)*(0+(i:Int)+1)+104729*k=ms
    have d1:=aG ms (show q2≠0 by lia)
    have d2:=az ms q2p
    refine (lp rfl (lp rfl (lD rfl rfl ⟨.inl ⟨by lia,by lia⟩,(lp rfl (lD rfl rfl ⟨.inr ⟨by lia,by lia⟩,(lp rfl (lp rfl (lD rfl rfl (lD rfl rfl ⟨(by show (0:Int) < 8; decide),tp,_,_,_,rfl,rfl,lE.of B2,e3,(lD rfl rfl ⟨q3p,?_⟩)⟩))))⟩))⟩)))
    refine (lp rfl (lD rfl rfl (lp rfl ?_)))
    have DU:=hd.1
    refine zaU (fun _=>(lp rfl ?_)) (fun _=>?_)
    all_goals
     refine⟨_,rfl,.inl ⟨rfl,_,lr.of xk⟩,_,rfl,_,rfl,_,_,rfl,rfl,b0,l,_,_,rfl,rfl,xk,zaa (by rw [ab]; lia),?_⟩
     refine (lp rfl (lp rfl (lD rfl rfl ⟨⟨b0,b1⟩,?_⟩)))
     refine (ex4 _ _ _ (ds++[_]) ⟨rfl,⟨by rw [aq,DU]; rfl,fun d hm=>?_⟩,zae s2 B1,by rw [zr pv]; exact B2,by rw [zc,ao]; rfl⟩); rcases bf.mp hm with hm | hm
     ·exact hd.2 d hm
     ·have e:=be.mp hm
      rw [e]
      exact⟨aG _ (by lia),az _ b0⟩
   ·rintro σ H2 ⟨r,v8,v9,ds,rfl,hd,s2,B2,xk⟩
    exact (lp rfl (q l ds H2 B1 s2 hd xk))
theorem zbr:FnScope ["script","at","most_k","most_n","plan","primes","p","k","many","left"] ["script","at","most_k","most_n"] (zh zcG):=⟨rfl,rfl,rfl,by decide +kernel,rfl,by decide +kernel,by decide +kernel⟩
theorem zkW {fd:FuncData} (T:Txt K mg t) (F:Fun K "_law_code" "_law_code" zcG t.l_code fd):FnOk P w K mg base CX0 3 t.l_code fd ["script","at","most_k","most_n"] (zkv K):=by
 obtain⟨oW,lW,mi⟩:=T.f_l_draws
 have mT:=zdh (P:=P) (w:=w) (base:=base) T lW
 refine F.ok zbr (fun vs H Q E h=>?_) (fun mh A outer s H vs Q E hr h=>?_)
 ·obtain⟨a,ns,at',mk,mn,rfl,_⟩:=h
  rfl
 ·obtain⟨a,ns,at',mk,mn,rfl,hS,lF,a0,a1,k1,k5,kn,n16,q⟩:=h
  refine⟨_,#[zd,#[zq,4,zbr.nd,(cb rfl),#[zo,mT,(hr.mono (by decide)),T.m_l_draws,lW.kp,mi,#[zy],#[za,#[pvx,0],by exact #[za,#[pvx,1],#[za,#[zg],#[ya,#[zg]]]]]]],(by exact (@zlp _ 5 _ _ _ _ _ _ _ [5,7,11,13,17,19,23,29,31,37,41,43,47,53,59,61,67,71,73,79,83,89,97] (by decide +kernel) zbr.nd rfl (am rfl) (by first | exact .inl rfl | exact .inr rfl) (by exact #[zd,#[zq,6,zbr.nd,(am rfl),#[zQ,#[zG],#[z9,#[za,#[zQ,#[zG],#[pvx,5],#[zl,#[zK],#[zQ,#[zG],#[pvx,4],#[zg]],#[zg]]],#[ya,#[zQ,#[zG],#[pvx,5],#[zl,#[zK],#[zQ,#[zG],#[pvx,4],#[zg]],#[zg]]]]]],#[zl,#[zK],#[zQ,#[zG],#[pvx,4],#[zg]],#[zg]]]],#[zd,#[zq,7,zbr.nd,(am rfl),#[zl,#[zO],#[zg],#[zl,#[zK],#[zQ,#[zG],#[pvx,4],#[zg]],#[zC,#[zfL],T.min_,boot_min,#[za,#[pvx,2],#[ya,#[pvx,6]]]]]]],#[zd,#[zq,8,zbr.nd,(am rfl),#[zl,#[zO],#[pvx,7],#[zl,#[zK],#[zQ,#[zG],#[pvx,4],#[zg]],#[zl,#[zO],#[zl,#[zaY],#[zC,#[zfL],T.min_,boot_min,#[za,#[pvx,3],#[ya,#[pvx,6]]]],#[pvx,7]],#[zg]]]]],#[zd,#[zq,9,zbr.nd,(cb rfl),#[zaA,(@zfz _ rfl),T.list_,boot_list,#[ya,#[zaA,(@zhv _),T.range_,kG,#[ya,#[pvx,6]]]]]],#[zn,#[zF,#[zaw,#[za,#[pvx,6],#[za,#[pvx,7],#[ya,#[zaA,#[zao],T.tuple_,fE,#[ya,#[zV,(CompSc.of (N':=["j","left","plan"]) (ix:=[none,some 9,some 4]) (zh zcG) ["script","at","most_k","most_n","plan","primes","p","k","many","left"] rfl rfl (by decide +kernel)),#[zam],#[zaq,T.range_,#[ya,#[pvx,8]]],(fun _ _ _ _=>#[zf,0,(show (["j","left","plan"]:List Str).Nodup by decide +kernel),(am rfl)]),(fun _ _ _ _=>#[zw]),(fun _ _ _ _=>(@zo9 _ (K) _ _ _ _ _ _ _ _ _ _ _ rfl cF PySem.F.slot_list_pop PySem.F.type_list_pop (@zlf _) #[pvx,1] #[ya,#[zl,#[zK],#[zQ,#[zbR,(K)],#[pvx,2],#[zl,#[zO],#[zg],#[pvx,0]]],#[zC,#[zbu,(K)],T.len_,cB,#[ya,#[pvx,1]]]]] (by rfl) (by rfl) (by rfl) (by rfl) (by rfl)))]]]]]]]]]]]]])))],?_⟩
  refine (lp rfl (lp rfl (ex5 a ns at' 20 27720 ⟨rfl,hS,lF,a0,a1,by decide,by decide,by decide,by decide,fun l ds H1 hl s1 hd m8=>?_⟩)))
  have DU:ds.length=20:=hd.1
  have dat:∀ m:Int,0≤m→m < 20→∃ c:Int,atI (ds.map V.int) m=some (.int c):=fun m h0 h1=>zeg h0 (by lia)
  refine⟨by show 23≤sizeLine; rw [aX]; decide,fun pr hpr=>?_⟩
  have FY:l≠pr:=zB m8 hpr
  obtain⟨d0,ed0⟩:=dat 0 (by decide) (by decide)
  obtain⟨d1,ed1⟩:=dat 1 (by decide) (by decide)
  obtain⟨d2,ed2⟩:=dat 2 (by decide) (by decide)
  obtain⟨d3,ed3⟩:=dat 3 (by decide) (by decide)
  have oO:(lu H1 pr (.lst (zm.map V.int))) l=some (.lst (ds.map V.int)):=by rw [zr FY]; exact m8
  obtain⟨p1,mp1,ep1⟩:=zlw (ns:=zm) (k:=d0 % 23) (aG _ (by decide)) (az _ (by decide))
  obtain⟨p2,mp2,ep2⟩:=zlw (ns:=zm) (k:=d0 % 3) (aG _ (by decide)) (by have:=az d0 (show (0:Int) < 3 by decide); have e:(zm.length:Int)=23:=rfl; lia)
  obtain⟨p,ep,yR⟩:=zpa (x:=p1) (y:=p2) (m:=d1 % 2) (aG _ (by decide)) (az _ (by decide))
  have mp:p∈zm:=by rcases yR with e | e <;> rw [e] <;> assumption
  have rp:=zp mp
  refine⟨_,rfl,_,rfl,l,_,_,_,rfl,rfl,lr.of oO,ed0,_,_,rfl,rfl,(by show (0:Int) < 23; decide),pr,_,_,_,rfl,rfl,lr.of zc,ep1,
   _,rfl,_,rfl,l,_,_,_,rfl,rfl,lr.of oO,ed0,_,_,rfl,rfl,(by show (0:Int) < 3; decide),pr,_,_,_,rfl,rfl,lr.of zc,ep2,zaL,fun l2 qf=>?_⟩
  have FZ:l≠l2:=zB oO qf
  have vn:(lu (lu H1 pr (.lst (zm.map V.int))) l2 (.lst [.int p1,.int p2])) l=some (.lst (ds.map V.int)):=by rw [zr FZ]; exact oO
  refine (lp rfl (ex4 l _ _ _ ⟨rfl,rfl,lr.of vn,ed1,(lD rfl rfl ⟨(by show (0:Int) < 2; decide),l2,_,_,_,rfl,rfl,lr.of zc,ep,?_⟩)⟩))
  have sC:(0:Int) < (if p < mk then p else mk):=by split <;> lia
  have rD:(if p < mk then p else mk)≤mk:=by split <;> lia
  have FA:(if p < mk then p else mk)≤p:=by split <;> lia
  refine⟨_,rfl,l,_,_,_,rfl,rfl,lr.of vn,ed2,_,rfl,_,rfl,_,_,rfl,_,_,rfl,rfl,sC,_,_,rfl,rfl,?_⟩
  generalize (if p < mk then p else mk)=mm at sC rD FA ⊢
  have vi:=aG d2 (show mm≠0 by lia)
  have BG:=az d2 sC
  have xQ:(if p < mn then p else mn)≤mn:=by split <;> lia
  have uE:(if p < mn then p else mn)≤p:=by split <;> lia
  have hn3:mm≤(if p < mn then p else mn):=by split <;> lia
  refine (lp rfl (lp rfl (ex4 l _ _ _ ⟨rfl,rfl,lr.of vn,ed3,(lp rfl (lp rfl ⟨_,_,rfl,(lp rfl (lD rfl rfl (lD rfl rfl (lD rfl rfl ⟨(by lia),(lD rfl rfl ?_)⟩))))⟩))⟩)))
  generalize (if p < mn then p else mn)=nn at xQ uE hn3 ⊢
  have DV:=aG d3 (show nn - (1+d2 % mm)+1≠0 by lia)
  have o7:=az d3 (show 0 < nn - (1+d2 % mm)+1 by lia)
  refine (lp rfl ⟨p,rfl,fun r AI=>⟨r,p,rfl,zc,by lia,by lia,fun lf F0=>?_⟩⟩)
  have Ay:l≠r:=zB vn AI
  have B3:l≠lf:=by
   refine zB (H:=lu (lu (lu H1 pr (.lst (zm.map V.int))) l2 (.lst [.int p1,.int p2])) r (.rng 0 p)) (o:=.lst (ds.map V.int)) ?_ F0
   rw [zr Ay]; exact vn
  have sA:zt H (lu (lu H1 pr (.lst (zm.map V.int))) l2 (.lst [.int p1,.int p2])):=(s1.trans (zb hpr)).trans (zb qf)
  have sB:=(sA.trans (zb (o:=.rng 0 p) AI)).trans (zb (o:=.lst ((zb6 0 p.toNat).map V.int)) F0)
  have F1:H lf=none:=(sA.trans (zb (o:=.rng 0 p) AI)).free F0
  obtain⟨nd0,rg0⟩:=zkw p
  refine⟨_,rfl,_,rfl,_,rfl,_,rfl,by lia,by lia,zR (n:=(1+d2 % mm+d3 % (nn - (1+d2 % mm)+1)).toNat) (fun i ys H'=>∃ xs ls:List Int,ys=xs.map V.int∧xs.length=i∧zt H H'∧H' l=some (.lst (ds.map V.int))∧H' lf=some (.lst (ls.map V.int))∧ls.length+i=p.toNat∧(xs++ls).Nodup∧∀ y∈xs++ls,0≤y∧y < p)
   ⟨[],zb6 0 p.toNat,rfl,rfl,sB,by rw [zr B3,zr Ay]; exact vn,zc,by rw [zc1]; rfl,by simpa using nd0,by simpa using rg0⟩ (fun i ys H' hi _=>hi) (fun ys H' _=>af _) ?_ ?_⟩
  ·rintro i x ys H4 H5 hi ⟨xs,ls,rfl,FE,s4,yS,xl,yT,nd,rg⟩ ⟨rfl,rfl⟩
   refine gY ?_
   obtain⟨c,ec⟩:=dat (4+(0+(i:Int))) (by lia) (by lia)
   have lpos:0 < ls.length:=by lia
   have lm:((ls.map V.int).length:Int)=(ls.length:Int):=by rw [ab]
   have c0:=aG c (show (ls.length:Int)≠0 by lia)
   have c1:=az c (show (0:Int) < ls.length by lia)
   have o8:=aX
   obtain⟨y,ey⟩:∃ y,ls[(c % (ls.length:Int)).toNat]? = some y:=⟨ls[(c % (ls.length:Int)).toNat]'(by lia),by simp⟩
   refine (lp rfl ⟨.inl ⟨rfl,_,lr.of xl⟩,(lp rfl (lp rfl (lD rfl rfl (ex4 l _ _ _ ⟨rfl,rfl,lr.of yS,ec,(lp rfl ⟨lf,(lp rfl ⟨.inl (lr.of xl),(lD rfl rfl ⟨(by rw [lm]; lia),lf,_,_,(c % (ls.length:Int)).toNat,.int y,rfl,rfl,xl,?_⟩)⟩)⟩)⟩))))⟩)
   rw [lm]
   refine⟨by lia,by lia,by rw [ab]; exact gQ c0 c1,by rw [ah,ey]; rfl,zaa (by rw [ab]; lia),xs++[y],ls.eraseIdx (c % (ls.length:Int)).toNat,by rw [ao]; rfl,by rw [aq,FE]; rfl,zae s4 F1,by rw [zr B3]; exact yS,by rw [zc,zfW],?_,znm ey nd rg⟩
   rw [List.length_eraseIdx]
   split <;> lia
  ·rintro ys H4 D ⟨xs,ls,rfl,FE,s4,yS,xl,yT,nd,rg⟩ hD
   refine⟨D,(lp rfl (.inl ⟨lr.of zc,fun tt AK=>⟨by show 3≤sizeLine; rw [aX]; decide,fun c hc=>?_⟩⟩))⟩
   have s5:=(s4.trans (zb (o:=.lst (xs.map V.int)) hD)).trans (zb (o:=.tup (xs.map V.int)) AK)
   refine q c tt p _ xs _ (s5.free hc) (s5.trans (zb hc)) ⟨mp,by lia,by lia,by lia,by lia,(er.mp nd).1,fun y hy=>rg y (aW _ hy)⟩ zc ?_
   rw [zr (zB zc hc)]
   exact zc
theorem zbs:FnScope ["p","polynomial","x","total","power","number"] ["p","polynomial","x"] (zh zcW):=⟨rfl,rfl,rfl,by decide +kernel,rfl,by decide +kernel,by decide +kernel⟩
theorem zff {fd:FuncData} (T:Txt K mg t) (F:Fun K "_law_value" "_law_value" zcW t.l_value fd):FnOk P w K mg base CX0 1 t.l_value fd ["p","polynomial","x"] (ziF K):=by
 refine F.ok zbs (fun vs H Q E h=>?_) (fun mh A outer s H vs Q E hr h=>?_)
 ·obtain⟨p,x,a,cs,rfl,_⟩:=h
  rfl
 ·obtain⟨p,x,a,cs,rfl,hS,p0,p1,x0,x1,q⟩:=h
  refine⟨_,#[zd,#[zq,3,zbs.nd,(am rfl),#[zg]],#[zd,#[zq,4,zbs.nd,(am rfl),#[zg]],#[zd,#[za7,bI,(@zo8 _ _ _ _ #[pvx,1]),#[zf,5,zbs.nd,(am rfl)],#[zd,#[zq,3,zbs.nd,(am rfl),#[zl,#[zK],#[zl,#[zO],#[pvx,3],#[zl,#[zW],#[pvx,5],#[pvx,4]]],#[pvx,0]]],#[zn,#[zq,4,zbs.nd,(am rfl),#[zl,#[zK],#[zl,#[zW],#[pvx,4],#[pvx,2]],#[pvx,0]]]]]],#[zn,#[zF,#[pvx,3]]]]]],?_⟩
  refine (lp rfl ⟨a,rfl,?_⟩)
  rcases hS with hS | hS
  ·refine .inl ⟨⟨_,hS⟩,zbO (K:=K) (a:=a) (xs:=cs.map V.int) (fun i σ H'=>H'=H∧∃ (lK power:Int) (nb:Option V),σ = [some (.int p),some (.ref a),some (.int x),some (.int lK),some (.int power),nb]∧0≤power∧power≤97∧lv p x lK power (cs.drop i)=lv p x 0 1 cs)
    ⟨rfl,0,1,none,rfl,by decide,by decide,rfl⟩ (fun i σ H' _ ⟨e,_⟩=>by rw [e]; exact hS) ?_ ?_⟩
   ·rintro i y σ H1 hy ⟨rfl,lK,power,nb,rfl,w0,w1,hl⟩
    obtain⟨c,rfl,hc⟩:=zab hy
    have m0:=aG (power*x) (show p≠0 by lia)
    have m1:=az (power*x) p0
    refine (lp rfl (lp rfl (lp rfl (lD rfl rfl ⟨.inr ⟨by lia,by lia⟩,(lD rfl rfl (lp rfl (lD rfl rfl ⟨p0,?_⟩)))⟩))))
    refine (lp rfl (lp rfl (lD rfl rfl ⟨.inl ⟨by lia,by lia⟩,(lp rfl (lD rfl rfl ⟨p0,?_⟩))⟩)))
    exact⟨rfl,_,_,_,rfl,m0,by lia,(zjq hc).symm.trans hl⟩
   ·rintro σ H1 ⟨rfl,lK,power,nb,rfl,w0,w1,hl⟩
    rw [ab,gt] at hl
    have hl:lK=lv p x 0 1 cs:=hl
    rw [zjm p0] at hl
    rw [← hl] at q
    exact (lp rfl q)
  ·refine .inr ⟨⟨_,hS⟩,zna (K:=K) (a:=a) (xs:=cs.map V.int) (fun i σ H'=>H'=H∧∃ (lK power:Int) (nb:Option V),σ = [some (.int p),some (.ref a),some (.int x),some (.int lK),some (.int power),nb]∧0≤power∧power≤97∧lv p x lK power (cs.drop i)=lv p x 0 1 cs)
    ⟨rfl,0,1,none,rfl,by decide,by decide,rfl⟩ (fun i σ H' _ ⟨e,_⟩=>by rw [e]; exact hS) ?_ ?_⟩
   ·rintro i y σ H1 hy ⟨rfl,lK,power,nb,rfl,w0,w1,hl⟩
    obtain⟨c,rfl,hc⟩:=zab hy
    have m0:=aG (power*x) (show p≠0 by lia)
    have m1:=az (power*x) p0
    refine (lp rfl (lp rfl (lp rfl (lD rfl rfl ⟨.inr ⟨by lia,by lia⟩,(lD rfl rfl (lp rfl (lD rfl rfl ⟨p0,?_⟩)))⟩))))
    refine (lp rfl (lp rfl (lD rfl rfl ⟨.inl ⟨by lia,by lia⟩,(lp rfl (lD rfl rfl ⟨p0,?_⟩))⟩)))
    exact⟨rfl,_,_,_,rfl,m0,by lia,(zjq hc).symm.trans hl⟩
   ·rintro σ H1 ⟨rfl,lK,power,nb,rfl,w0,w1,hl⟩
    rw [ab,gt] at hl
    have hl:lK=lv p x 0 1 cs:=hl
    rw [zjm p0] at hl
    rw [← hl] at q
    exact (lp rfl q)
theorem zgX (xs:List V) (j:Nat):za8 xs none (some (j:Int))=xs.take j:=by
 unfold za8
 rw [HT.sIx_nat,HT.sIx_none,dX,dn]
 by_cases h:j≤xs.length
 ·rw [cD h]
 ·rw [show min j xs.length=xs.length by lia,aP (af _),aP (show xs.length≤j by lia)]
def zkX (K:ag):Sp:=fun vs H Q _=>∃ (a:Addr) (ds:List Int) (p k:Int),vs = [.ref a,.int p,.int k]∧lr K H a (ds.map V.int)∧ds.length≤1000∧0 < p ∧
 ∀ (l:Addr) (mF:List Int) (H':Hp),H l=none→zt H H'→(mF.length≤ds.length∧∀ x∈mF,0≤x∧x < p)→H' l=some (.tup (mF.map V.int))→(∀ n:Nat,k=(n:Int)→n≤ds.length→mF.length=n)→Q (.ref l) H'
theorem zd8:FnScope ["draws","p","k"] ["draws","p","k"] (zh zaP):=⟨rfl,rfl,rfl,by decide +kernel,rfl,by decide +kernel,by decide +kernel⟩
theorem zd9 {fd:FuncData} (T:Txt K mg t) (F:Fun K "_law_polynomial" "_law_polynomial" zaP t.l_polynomial fd):FnOk P w K mg base CX0 1 t.l_polynomial fd ["draws","p","k"] (zkX K):=by
 refine F.ok zd8 (fun vs H Q E h=>?_) (fun mh A outer s H vs Q E hr h=>?_)
 ·obtain⟨a,ds,p,k,rfl,_⟩:=h
  rfl
 ·obtain⟨a,ds,p,k,rfl,ha,hn,p0,q⟩:=h
  refine⟨_,#[zn,#[zF,#[zaA,#[zao],T.tuple_,fE,#[ya,#[zV,(CompSc.of (N':=["draw","p"]) (ix:=[none,some 1]) (zh zaP) ["draws","p","k"] rfl rfl (by decide +kernel)),#[zam],#[zN,#[zaG,zbt,#[pvx,0],#[zbe],#[zaS,#[pvx,2]]]],(fun _ _ _ _=>#[zf,0,(show (["draw","p"]:List Str).Nodup by decide +kernel),(am rfl)]),(fun _ _ _ _=>#[zw]),(fun _ _ _ _=>#[zl,#[zK],#[pvx,0],#[pvx,1]])]]]]],?_⟩
  obtain⟨ms,DW,lms⟩:=zhB ds none (some k)
  refine (lp rfl (lp rfl (lp rfl ⟨a,(lp rfl ⟨ha,fun z hz=>?_⟩)⟩)))
  rw [DW]
  have s4:=zb (o:=.lst (ms.map V.int)) hz
  refine⟨z,rfl,⟨_,lr.of zc⟩,zcd (K:=K) (xs:=ms.map V.int) (fs:=ms.map fun d=>V.int (d % p)) (lr.of zc) (by rw [ab,ab]) (by rw [ab]; lia) ?_ ?_⟩
  ·intro j x y R B hx hy hR
   obtain⟨c,_,rfl,rfl⟩:=zhC hx hy
   refine gY ?_
   exact (lp rfl (lp rfl (lD rfl rfl ⟨p0,hR⟩)))
  intro D hD
  have F2:(ms.map fun d=>V.int (d % p))=(ms.map (· % p)).map V.int:=by rw [bq]; rfl
  rw [F2]
  refine⟨D,(lp rfl (.inl ⟨lr.of zc,fun po B4=>?_⟩))⟩
  have s5:=s4.trans (zb (o:=.lst ((ms.map (· % p)).map V.int)) hD)
  refine q po _ _ (s5.free B4) (s5.trans (zb B4)) ⟨by rw [ab]; exact lms,fun x hx=>?_⟩ zc (fun n DJ hle=>?_)
  ·obtain⟨d,_,rfl⟩:=aB.mp hx
   exact⟨aG _ (by lia),az _ p0⟩
  ·have h1:=congrArg fe DW
   rw [DJ,zgX,av,ab,ab] at h1
   rw [ab]
   lia
def zmz (K:ag):Sp:=fun vs H Q _=>∃ (a c tt:Addr) (ns:List Int) (at' p k:Int) (pl:List Int),vs = [.ref a,.int at',.ref c]∧lr K H a (ns.map V.int)∧ns.length≤63∧0≤at'∧at'≤900∧zbf H c tt p k pl∧0 < p∧p≤97∧(∀ x∈pl,0≤x∧x < p)∧pl.length≤16 ∧
 ∀ (l:Addr) (rw:List (Option Int)) (H':Hp),H l=none→zt H H'→rw.length=pl.length→(∀ z,some z∈rw→0≤z∧z < p)→H' l=some (.lst (rw.map o9))→Q (.ref l) H'
theorem zpz {a b m:Int} (h0:0≤m) (h1:m < 6) (a0:0≤a) (a1:a < 3) (b0:0≤b) (b1:b < 3):∃ z:Int,atI [V.int 0,.int 0,.int a,.int b,.int 0,.int 0] m=some (.int z)∧0≤z∧z < 3:=by
 have:m=0∨m=1∨m=2∨m=3∨m=4∨m=5:=by lia
 rcases this with e | e | e | e | e | e <;> subst e
 ·exact⟨0,rfl,by decide,by decide⟩
 ·exact⟨0,rfl,by decide,by decide⟩
 ·exact⟨a,rfl,a0,a1⟩
 ·exact⟨b,rfl,b0,b1⟩
 ·exact⟨0,rfl,by decide,by decide⟩
 ·exact⟨0,rfl,by decide,by decide⟩
theorem zoa {m:Int} (h0:0≤m) (h1:m < 6):∃ z:Int,atI [V.int 4,.int 9,.int 9,.int 9,.int 2,.int 1] m=some (.int z)∧0 < z:=by
 have:m=0∨m=1∨m=2∨m=3∨m=4∨m=5:=by lia
 rcases this with e | e | e | e | e | e <;> subst e <;> exact⟨_,rfl,by decide⟩
theorem zob {m:Int} (h0:0≤m) (h1:m < 2):∃ z:Int,atI [V.int 9,.int 3] m=some (.int z)∧0 < z:=by
 have:m=0∨m=1:=by lia
 rcases this with e | e <;> subst e <;> exact⟨_,rfl,by decide⟩
theorem zqn (n:Nat):(ap n [V.non]).flatten=(ap n (none:Option Int)).map o9:=by
 induction n with
 | zero=>rfl
 | succ n ih=>rw [cg,eg,ih,cg]; rfl
def zgY (H:Hp) (on:Addr):Prop:=∃ os:List Addr,os.length=3∧H on=some (.lst (os.map V.ref))∧∀ o∈os,∃ ms:List Int,H o=some (.tup (ms.map V.int))
theorem zgY.same {H H':Hp} {on:Addr} (s:zt H H') (h:zgY H on):zgY H' on:=by
 obtain⟨os,h1,h2,h3⟩:=h
 exact⟨os,h1,s _ _ h2,fun o ho=>let ⟨ms,e⟩:=h3 o ho; ⟨ms,s _ _ e⟩⟩
theorem zmA {p:Int} {rw:List (Option Int)} (h:∀ z,some z∈rw→0≤z∧z < p):∀ z,some z∈rw++[none]→0≤z∧z < p:=by
 intro z hz
 rcases bf.mp hz with m | m
 ·exact h z m
 ·cases be.mp m
theorem zic {p i:Int} {rw:List (Option Int)} (h:∀ z,some z∈rw→0≤z∧z < p) (hi:0≤i∧i < p):∀ z,some z∈rw++[some i]→0≤z∧z < p:=by
 intro z hz
 rcases bf.mp hz with m | m
 ·exact h z m
 ·cases be.mp m
  exact hi
theorem zid {p x:Int} {cs:List Int} (hp:0 < p):0≤zj p x cs∧zj p x cs < p:=⟨zai hp cs,zaj hp cs⟩
theorem zav:FnScope ["script","at","code","p","k","places","plan","ones","slips","way","row","number","which","entry"] ["script","at","code"] (zh zdE):=⟨rfl,rfl,rfl,by decide +kernel,rfl,by decide +kernel,by decide +kernel⟩
theorem zmB {fd:FuncData} (T:Txt K mg t) (F:Fun K "_law_row" "_law_row" zdE t.l_row fd):FnOk P w K mg base CX0 3 t.l_row fd ["script","at","code"] (zmz K):=by
 obtain⟨oW,lW,mi⟩:=T.f_l_draws
 have mT:=zdh (P:=P) (w:=w) (base:=base) T lW
 obtain⟨p8,og,mV⟩:=T.f_l_polynomial
 have qo:=zd9 (P:=P) (w:=w) (base:=base) T og
 obtain⟨qp,nG,nH⟩:=T.f_l_value
 have pD:=zff (P:=P) (w:=w) (base:=base) T nG
 refine F.ok zav (fun vs H Q E h=>?_) (fun mh A outer s H vs Q E hr h=>?_)
 ·obtain⟨a,c,tt,ns,at',p,k,pl,rfl,_⟩:=h
  rfl
 ·obtain⟨a,c,tt,ns,at',p,k,pl,rfl,hS,lF,a0,a1,hc,p0,p1,m8,hn,q⟩:=h
  refine⟨_,#[zd,#[zbd,#[pvx,2],#[zaK,#[zi,#[zf,3,zav.nd,(cb rfl)],#[zi,#[zf,4,zav.nd,(cb rfl)],#[zi,#[zf,5,zav.nd,(am rfl)],#[zD]]]]]],#[zd,#[zq,6,zav.nd,(cb rfl),#[zo,mT,(hr.mono (by decide)),T.m_l_draws,lW.kp,mi,#[zy],#[za,#[pvx,0],by exact #[za,#[pvx,1],#[za,#[zg],#[ya,#[zg]]]]]]],#[zd,#[zaD,7,zav.nd,(am rfl),(CompSc.of (N':=["j","plan","p","k"]) (ix:=[none,some 6,some 3,some 4]) (zh zdE) ["script","at","code","p","k","places","plan","ones","slips","way","row","number","which","entry"] rfl rfl (by decide +kernel)),#[zam],#[zaq,T.range_,#[ya,#[zg]]],(fun _ _ _ _=>#[zf,0,(show (["j","plan","p","k"]:List Str).Nodup by decide +kernel),(am rfl)]),(fun _ _ _ _=>#[zw]),(fun _ _ _ _=>#[zo,qo,(hr.mono (by decide)),T.m_l_polynomial,og.kp,mV,#[zy],#[za,#[zaG,(zlq (K:=K) rfl),#[pvx,1],#[zaS,#[zl,#[zW],#[zg],#[pvx,0]]],#[zbe]],#[za,#[pvx,2],#[ya,#[pvx,3]]]]])],#[zd,#[zq,8,zav.nd,(am rfl),#[zo,mT,(hr.mono (by decide)),T.m_l_draws,lW.kp,mi,#[zy],#[za,#[pvx,0],by exact #[za,#[zl,#[zO],#[pvx,1],#[zg]],#[za,#[zg],#[ya,#[zg]]]]]]],#[zd,#[zq,9,zav.nd,(am rfl),#[zl,#[zK],#[zQ,#[zG],#[pvx,8],#[zg]],#[zg]]],#[zd,#[zq,10,zav.nd,(am rfl),#[z9,#[ze]]],#[zd,#[za7,bI,#[zaq,T.range_,#[ya,#[zC,#[zE],T.len_,cB,#[ya,#[pvx,5]]]]],#[zf,11,zav.nd,(am rfl)],#[zd,#[zq,12,zav.nd,(am rfl),#[zQ,#[zG],#[z9,#[zc2,#[zc2,#[za,#[zl,#[zK],#[zQ,#[zG],#[pvx,8],#[pvx,11]],#[zg]],by exact #[za,#[zl,#[zK],#[zQ,#[zG],#[pvx,8],#[pvx,11]],#[zg]],#[za,#[zg],#[ya,#[zg]]]]]]]],#[pvx,9]]],#[zd,#[zq,13,zav.nd,(am rfl),#[zo,pD,(hr.mono (by decide)),T.m_l_value,nG.kp,nH,#[zy],#[za,#[pvx,3],#[za,#[zQ,#[zG],#[pvx,7],#[pvx,12]],#[ya,#[zQ,#[zb4],#[pvx,5],#[pvx,11]]]]]]],#[zd,#[za0,#[zL,#[zeB],#[zl,#[zK],#[zl,#[zck],#[zQ,#[zG],#[pvx,8],#[pvx,11]],#[zg]],#[zQ,#[zG],#[z9,#[zc2,#[zc2,#[zc2,#[za,#[zg],#[za,#[zg],#[ya,#[zg]]]]]]]],#[pvx,9]]],#[zg],(zX _)],#[zn,#[zq,13,zav.nd,(am rfl),#[zl,#[zK],#[zl,#[zck],#[zQ,#[zG],#[pvx,8],#[pvx,11]],#[zg]],#[pvx,3]]]],#[zag]],#[zd,#[za0,(@PW.pt _ _ _ (@zoL _ _ _ _ _ _ _ #[zL,#[zeB],#[zl,#[zK],#[zl,#[zck],#[zQ,#[zG],#[pvx,8],#[pvx,11]],#[zg]],#[zQ,#[zG],#[z9,#[za,#[zg],#[ya,#[zg]]]],#[zl,#[zK],#[zQ,#[zG],#[pvx,8],#[zg]],#[zg]]]],#[zg],(zX _)] (@zm9 _ _ _ _ #[zL,#[zhk],#[zl,#[zK],#[zQ,#[zG],#[pvx,8],#[zg]],#[zg]],#[zg],(zX _)]))),#[zn,#[zq,13,zav.nd,(am rfl),#[zbo]]],#[zag]],#[zn,#[zci,#[zeG,cF,cU,cV,#[zbL],#[pvx,10],#[ya,#[pvx,13]]]]]]]]]],#[zn,#[zF,#[zey,#[zL,#[zeB],#[zl,#[zK],#[zQ,#[zG],#[pvx,8],#[zg]],#[zg]],#[zg],(zX _)],#[zl,#[zgj],#[z9,#[ya,#[zbo]]],#[zC,#[zE],T.len_,cB,#[ya,#[pvx,10]]]],#[pvx,10]]]]]]]]]]],?_⟩
  have o8:=aX
  refine⟨_,rfl,c,_,rfl,lE.of hc.1,rfl,_,_,rfl,_,_,rfl,_,_,rfl,rfl,?_⟩
  refine (lp rfl (lp rfl (ex5 a ns at' 16 27720 ⟨rfl,hS,lF,a0,by lia,by decide,by decide,by decide,by decide,fun l ds H1 hl s1 hd sg=>?_⟩)))
  have DU:ds.length=16:=hd.1
  refine⟨3,rfl,by decide,by decide,zR (n:=3) (fun i ys H'=>zt H1 H'∧∃ os:List Addr,os.length=i∧ys=os.map V.ref∧∀ o∈os,∃ ms:List Int,H' o=some (.tup (ms.map V.int))) ⟨fun _ _ e=>e,[],rfl,rfl,by simp⟩ (fun i ys H' hi _=>hi) (fun ys H' _=>af _) ?_ ?_⟩
  ·rintro i xx ys H4 H5 hi ⟨s4,os,ho,rfl,vq⟩ ⟨rfl,rfl⟩
   refine gY ?_
   refine (lp rfl (lp rfl (lD rfl rfl ⟨.inl ⟨by decide,by decide⟩,(lp rfl ⟨l,(lp rfl ⟨lr.of (s4 _ _ sg),fun z hz=>?_⟩)⟩)⟩)))
   obtain⟨ms,DW,lms⟩:=zhB ds (some (3*(0+(i:Int)))) none
   rw [DW]
   refine (lp rfl (lp rfl (ex4 z ms p k ⟨rfl,lr.of zc,by lia,p0,fun po mF H6 B4 s6 _ h6 _=>?_⟩)))
   have s5:=(zb (o:=.lst (ms.map V.int)) hz).trans s6
   refine⟨zaa (by rw [ab]; lia),s4.trans s5,os++[po],by rw [aq,ho]; rfl,by rw [ao]; rfl,fun o hm=>?_⟩
   rcases (bf.mp hm) with hm | hm
   ·obtain⟨m2,e⟩:=vq o hm
    exact⟨m2,s5 _ _ e⟩
   ·rw [be.mp hm]; exact⟨mF,h6⟩
  ·rintro ys H4 on ⟨s4,os,ho,rfl,vq⟩ hon
   have s5:=s1.trans (s4.trans (zb (o:=.lst (os.map V.ref)) hon))
   have xU:zgY (lu H4 on (.lst (os.map V.ref))) on:=⟨os,ho,zc,fun o hm=>let ⟨ms,e⟩:=vq o hm; ⟨ms,(zb hon) _ _ e⟩⟩
   generalize lu H4 on (.lst (os.map V.ref))=H5 at s5 xU ⊢
   refine (lp rfl (lp rfl (lD rfl rfl (ex5 a ns (at'+1) 20 27720 ⟨rfl,s5.seq hS,lF,by lia,by lia,by decide,by decide,by decide,by decide,fun sl es H6 hsl6 s6 he F3=>?_⟩))))
   have hel:es.length=20:=he.1
   have her:=he.2
   have B5:∀ m:Int,0≤m→m < 20→∃ c:Int,atI (es.map V.int) m=some (.int c):=fun m h0 h1=>zeg h0 (by lia)
   obtain⟨F4,uR⟩:=B5 16 (by decide) (by decide)
   obtain⟨d17,xm⟩:=B5 17 (by decide) (by decide)
   obtain⟨d18,tS⟩:=B5 18 (by decide) (by decide)
   obtain⟨d19,e19⟩:=B5 19 (by decide) (by decide)
   have w0:=aG F4 (show (6:Int)≠0 by decide)
   have w1:=az F4 (show (0:Int) < 6 by decide)
   refine (lp rfl (ex4 sl _ _ _ ⟨rfl,rfl,lr.of F3,uR,(lD rfl rfl ⟨(by show (0:Int) < 6; decide),?_⟩)⟩))
   obtain⟨way,B6⟩:∃ way,F4 % 6=way:=⟨_,rfl⟩
   rw [B6] at w0 w1
   refine⟨bj _,fun ro B7=>?_⟩
   have uu:sl≠ro:=zB F3 B7
   have F5:H ro=none:=(s5.trans s6).free B7
   have yU:H5 ro=none:=s6.free B7
   refine (lp rfl ⟨tt,(lp rfl ⟨.inr (lE.of ((((s5.trans s6).trans (zb B7))) _ _ hc.2)),(lp rfl ⟨by rw [ab]; lia,by rw [ab]; lia,?_⟩)⟩)⟩)
   rw [ab,bG]
   refine zca (lo:=0) (n:=pl.length) (fun i σ H'=>∃ (rw:List (Option Int)) (v11 AL xn:Option V),σ = [some (.ref a),some (.int at'),some (.ref c),some (.int p),some (.int k),some (.ref tt),some (.ref l),some (.ref on),some (.ref sl),some (.int way),some (.ref ro),v11,AL,xn] ∧
    rw.length=i∧zt H5 H'∧H' ro=some (.lst (rw.map o9))∧H' sl=some (.lst (es.map V.int))∧∀ z,some z∈rw→0≤z∧z < p)
    ⟨[],none,none,none,by subst B6; rfl,rfl,s6.trans (zb B7),zc,by rw [zr uu]; exact F3,fun z hz=>by simp at hz⟩ ?_ ?_
   ·rintro i σ H7 hi ⟨rw,v11,AL,xn,rfl,nY,s7,DX,B8,tR⟩
    obtain⟨di,ei⟩:=B5 (0+(i:Int)) (by lia) (by lia)
    obtain⟨x,hx⟩:∃ x,pl[i]? = some x:=⟨pl[i]'hi,by simp⟩
    obtain⟨x0,x1⟩:=m8 x (aF hx)
    have F6:atI (pl.map V.int) (0+(i:Int))=some (.int x):=by rw [dI]; exact zaT (by rw [ah,hx]; rfl)
    have m20:=aG di (show (2:Int)≠0 by decide)
    have m21:=az di (show (0:Int) < 2 by decide)
    have m30:=aG di (show (3:Int)≠0 by decide)
    have m31:=az di (show (0:Int) < 3 by decide)
    obtain⟨wh,ewh,wh0,wh1⟩:=zpz w0 w1 m20 (by lia) m30 m31
    refine (lp rfl (lp rfl (ex4 sl _ _ _ ⟨rfl,rfl,lr.of B8,ei,(lD rfl rfl ⟨(by show (0:Int) < 2; decide),(lp rfl (lp rfl (ex4 sl _ _ _ ⟨rfl,rfl,lr.of B8,ei,(lD rfl rfl ⟨(by show (0:Int) < 3; decide),by show 6≤sizeLine; lia,fun l6 F7=>?_⟩)⟩)))⟩)⟩)))
    refine (lp rfl (ex4 l6 _ _ _ ⟨rfl,rfl,lr.of zc,ewh,?_⟩))
    have s8:=s7.trans (zb (o:=.lst [.int 0,.int 0,.int (di % 2),.int (di % 3),.int 0,.int 0]) F7)
    have DY:=(zb (o:=.lst [.int 0,.int 0,.int (di % 2),.int (di % 3),.int 0,.int 0]) F7) _ _ DX
    have F8:=(zb (o:=.lst [.int 0,.int 0,.int (di % 2),.int (di % 3),.int 0,.int 0]) F7) _ _ B8
    obtain⟨H8,hH8⟩:∃ H8,H8=lu H7 l6 (.lst [.int 0,.int 0,.int (di % 2),.int (di % 3),.int 0,.int 0]):=⟨_,rfl⟩
    rw [← hH8] at s8 DY F8 ⊢
    have F9:=hc.same (s5.trans s8)
    obtain⟨F',o1,o2,o3⟩:=xU.same s8
    obtain⟨ow,how⟩:∃ ow,F'[wh.toNat]? = some ow:=⟨F'[wh.toNat]'(by lia),by simp⟩
    obtain⟨mw,hmw⟩:=o3 ow (aF how)
    have Ga:atI (F'.map V.ref) wh=some (.ref ow):=by
     have e:((wh.toNat:Nat):Int)=wh:=by lia
     rw [← e]
     exact zaT (by rw [ah,how]; rfl)
    refine (lp rfl (lp rfl (lp rfl (ex4 on _ _ _ ⟨rfl,rfl,lr.of o2,Ga,(lp rfl (lp rfl (ex4 tt _ _ _ ⟨rfl,rfl,lE.of F9.2,F6,p,x,ow,mw,rfl,.inr (lE.of hmw),p0,p1,x0,x1,?_⟩)))⟩))))
    obtain⟨z6,ez6,z60⟩:=zoa w0 w1
    refine (lp rfl (lp rfl (ex4 sl _ _ _ ⟨rfl,rfl,lr.of F8,ei,(lD rfl rfl ⟨⟨by decide,by decide⟩,by show 6≤sizeLine; lia,fun l7 hl7=>?_⟩)⟩)))
    have u7:=zb (o:=.lst [.int 4,.int 9,.int 9,.int 9,.int 2,.int 1]) hl7
    refine (lp rfl (ex4 l7 _ _ _ ⟨rfl,rfl,lr.of zc,ez6,(lD rfl rfl ⟨z60,rfl,(lp rfl ?_)⟩)⟩))
    have s9:=s8.trans u7
    have h9r:=u7 _ _ DY
    have DZ:=u7 _ _ F8
    generalize lu H8 l7 (.lst [.int 4,.int 9,.int 9,.int 9,.int 2,.int 1])=H9 at s9 h9r DZ ⊢
    have t0:=aG d17 (show (2:Int)≠0 by decide)
    have t1:=az d17 (show (0:Int) < 2 by decide)
    obtain⟨z2,ez2,z20⟩:=zob t0 t1
    refine zaU (fun _=>(lp rfl (lp rfl (ex4 sl _ _ _ ⟨rfl,rfl,lr.of DZ,ei,(lD rfl rfl ⟨⟨by decide,by decide⟩,(lp rfl (lD rfl rfl ⟨p0,?_⟩))⟩)⟩)))) (fun _=>?_)
    all_goals
     refine (lp rfl (lp rfl (ex4 sl _ _ _ ⟨rfl,rfl,lr.of DZ,ei,(lD rfl rfl ⟨⟨by decide,by decide⟩,zaL,fun l8 hl8=>?_⟩)⟩)))
     have u8:=zb (o:=.lst [.int 9,.int 3]) hl8
     have sX:=s9.trans u8
     have AM:=u8 _ _ h9r
     have B9:=u8 _ _ DZ
     refine (lp rfl (ex4 sl _ _ _ ⟨rfl,rfl,lr.of B9,xm,(lD rfl rfl ⟨(by show (0:Int) < 2; decide),l8,_,_,_,rfl,rfl,lr.of zc,ez2,(lD rfl rfl ⟨z20,rfl,(lp rfl ?_)⟩)⟩)⟩)); refine zaU (fun _=>?_) (fun _=>?_)
     ·refine (lp rfl (ex4 sl _ _ _ ⟨rfl,rfl,lr.of B9,tS,(lD rfl rfl ⟨(by show (0:Int) < 3; decide),(lD rfl rfl (lp rfl ?_))⟩)⟩)); refine zaU (fun _=>?_) (fun _=>?_)
      ·exact (lp rfl ⟨.inl ⟨rfl,_,lr.of AM⟩,(lp rfl (ex3 ro _ _ ⟨rfl,rfl,AM,zaa (by rw [ab]; lia),rw++[none],_,_,_,rfl,by rw [aq,nY]; rfl,zae sX yU,by rw [zc,ao]; rfl,by rw [zr uu]; exact B9,zmA tR⟩))⟩)
      ·exact (lp rfl ⟨.inl ⟨rfl,_,lr.of AM⟩,(lp rfl (ex3 ro _ _ ⟨rfl,rfl,AM,zaa (by rw [ab]; lia),rw++[some _],_,_,_,rfl,by rw [aq,nY]; rfl,zae sX yU,by rw [zc,ao]; rfl,by rw [zr uu]; exact B9,zic tR (by first | exact⟨aG _ (by lia),az _ p0⟩ | exact zid p0)⟩))⟩)
     ·refine zhn ?_
      exact (lp rfl ⟨.inl ⟨rfl,_,lr.of AM⟩,(lp rfl (ex3 ro _ _ ⟨rfl,rfl,AM,zaa (by rw [ab]; lia),rw++[some _],_,_,_,rfl,by rw [aq,nY]; rfl,zae sX yU,by rw [zc,ao]; rfl,by rw [zr uu]; exact B9,zic tR (by first | exact⟨aG _ (by lia),az _ p0⟩ | exact zid p0)⟩))⟩)
   ·rintro σ H7 ⟨rw,v11,AL,xn,rfl,nY,s7,DX,B8,tR⟩
    refine (lp rfl (ex4 sl _ _ _ ⟨rfl,rfl,lr.of B8,e19,(lD rfl rfl ⟨(by show (0:Int) < 30; decide),rfl,(lp rfl ?_)⟩)⟩))
    refine zaU (fun _=>?_) (fun _=>(lp rfl (q ro rw H7 F5 (s5.trans s7) nY tR DX)))
    refine⟨by show 1≤sizeLine; lia,fun z hz=>(lp rfl ⟨ro,(lp rfl ⟨.inl (lr.of ((zb hz) _ _ DX)),z,_,[.non],rfl,rfl,zc,by rw [ab]; lia,by rw [ab]; lia,by rw [ab]; show 1*_≤sizeLine; lia,fun y hy=>?_⟩)⟩)⟩
    have s8:=(s5.trans s7).trans (zb (o:=.lst [.non]) hz)
    refine q y (ap pl.length none) _ (s8.free hy) (s8.trans (zb hy)) (by rw [aU]) (fun z hz=>by cases eQ hz) ?_
    rw [zc,ab,zqn,nY,bG]
theorem zbZ:FnScope ["p","polynomial","x","value","number"] ["p","polynomial","x"] (zh zcu):=⟨rfl,rfl,rfl,by decide +kernel,rfl,by decide +kernel,by decide +kernel⟩
theorem zb0 {fd:FuncData} (T:Txt K mg t) (F:Fun K "value_at" "value_at" zcu t.value_at fd):FnOk P w K mg base CX0 1 t.value_at fd ["p","polynomial","x"] (zd2 K):=by
 refine F.ok zbZ (fun vs H Q E h=>?_) (fun mh A outer s H vs Q E hr h=>?_)
 ·obtain⟨p,x,a,cs,rfl,_⟩:=h
  rfl
 ·obtain⟨p,x,a,cs,rfl,hS,p0,p1,x0,x1,q⟩:=h
  refine⟨_,#[zd,#[zq,3,zbZ.nd,(am rfl),#[zg]],#[zd,#[za7,bI,(@zo7 _ _ _ _ _ _ rfl T.reversed_ #[ya,#[pvx,1]] (by rfl)),#[zf,4,zbZ.nd,(am rfl)],#[zn,#[zq,3,zbZ.nd,(am rfl),#[zl,#[zK],#[zl,#[zO],#[zl,#[zW],#[pvx,3],#[pvx,2]],#[pvx,4]],#[pvx,0]]]]],#[zn,#[zF,#[pvx,3]]]]],?_⟩
  refine (lp rfl ⟨a,cs.map V.int,rfl,?_⟩)
  rcases hS with hS | hS
  ·refine .inl ⟨hS,?_⟩
   rw [ab]
   refine zgm (n:=cs.length) (fun i σ H'=>H'=H∧∃ nb,σ = [some (.int p),some (.ref a),some (.int x),some (.int (zj p x (cs.drop (cs.length - i)))),nb]) ⟨rfl,none,by rw [dX,gt]; rfl⟩
    (fun i σ H' hi ⟨e,_⟩=>⟨hi,cs.map V.int,by rw [e]; exact hS,by rw [ab]⟩) (fun σ H' _=>af _) ?_ ?_
   ·rintro i y σ H1 H2 hi ⟨rfl,nb,rfl⟩ ⟨rfl,hy⟩
    obtain⟨c,rfl,hc⟩:=zab (hy _ hS)
    have v0:=zai (x:=x) p0 (cs.drop (cs.length - i))
    have v1:=zaj (x:=x) p0 (cs.drop (cs.length - i))
    refine (lp rfl (lp rfl (lD rfl rfl ⟨.inl ⟨by lia,by lia⟩,(lp rfl (lD rfl rfl (lp rfl (lD rfl rfl ⟨p0,?_⟩))))⟩)))
    refine⟨rfl,some (.int c),?_⟩
    rw [zfX hi hc]
    show _ = [some (V.int p),_,_,some (V.int ((c+x*zj p x (cs.drop (cs.length - i))) % p)),_]
    rw [Int.add_comm c,dG x]
    rfl
   ·rintro σ H1 ⟨rfl,nb,rfl⟩
    rw [fX,dn]
    exact (lp rfl q)
  ·refine .inr ⟨hS,?_⟩
   rw [ab]
   refine zgm (n:=cs.length) (fun i σ H'=>H'=H∧∃ nb,σ = [some (.int p),some (.ref a),some (.int x),some (.int (zj p x (cs.drop (cs.length - i)))),nb]) ⟨rfl,none,by rw [dX,gt]; rfl⟩
    (fun i σ H' hi ⟨e,_⟩=>⟨hi,cs.map V.int,by rw [e]; exact hS,by rw [ab]⟩) (fun σ H' _=>af _) ?_ ?_
   ·rintro i y σ H1 H2 hi ⟨rfl,nb,rfl⟩ ⟨rfl,hy⟩
    obtain⟨c,rfl,hc⟩:=zab (hy _ hS)
    have v0:=zai (x:=x) p0 (cs.drop (cs.length - i))
    have v1:=zaj (x:=x) p0 (cs.drop (cs.length - i))
    refine (lp rfl (lp rfl (lD rfl rfl ⟨.inl ⟨by lia,by lia⟩,(lp rfl (lD rfl rfl (lp rfl (lD rfl rfl ⟨p0,?_⟩))))⟩)))
    refine⟨rfl,some (.int c),?_⟩
    rw [zfX hi hc]
    show _ = [some (V.int p),_,_,some (V.int ((c+x*zj p x (cs.drop (cs.length - i))) % p)),_]
    rw [Int.add_comm c,dG x]
    rfl
   ·rintro σ H1 ⟨rfl,nb,rfl⟩
    rw [fX,dn]
    exact (lp rfl q)
theorem za9:FnScope ["p","number","product","square","left"] ["p","number"] (zh zcT):=⟨rfl,rfl,rfl,by decide +kernel,rfl,by decide +kernel,by decide +kernel⟩
theorem zfg {fd:FuncData} (T:Txt K mg t) (F:Fun K "inverse" "inverse" zcT t.inverse fd):FnOk P w K mg base CX0 1 t.inverse fd ["p","number"] (ziG K):=by
 refine F.ok za9 (fun vs H Q E h=>?_) (fun mh A outer s H vs Q E hr h=>?_)
 ·obtain⟨p,h,rfl,_⟩:=h
  rfl
 ·obtain⟨p,hh,rfl,mp,h0,h1,q⟩:=h
  refine⟨_,#[zd,#[zq,2,za9.nd,(am rfl),#[zg]],#[zd,#[zq,3,za9.nd,(am rfl),#[zl,#[zK],#[pvx,1],#[pvx,0]]],#[zd,#[zq,4,za9.nd,(am rfl),#[zl,#[zaY],#[pvx,0],#[zg]]],#[zd,#[zez,bI,#[zL,#[zhk],#[pvx,4],#[zg],(zX _)],#[zd,#[za0,#[zL,#[zeB],#[zl,#[zK],#[pvx,4],#[zg]],#[zg],(zX _)],#[zn,#[zq,2,za9.nd,(am rfl),#[zl,#[zK],#[zl,#[zW],#[pvx,2],#[pvx,3]],#[pvx,0]]]],#[zag]],#[zd,#[zq,3,za9.nd,(am rfl),#[zl,#[zK],#[zl,#[zW],#[pvx,3],#[pvx,3]],#[pvx,0]]],#[zn,#[zgh,4,za9.nd,(am rfl),#[zg],zk9]]]]],#[zn,#[zF,#[pvx,2]]]]]]],?_⟩
  have rp:=zp mp
  have e0:=aG hh (show p≠0 by lia)
  have e1:=az hh (show 0 < p by lia)
  refine (lp rfl (lp rfl (lD rfl rfl ⟨(by show 0 < p; lia),(lp rfl (lD rfl rfl ?_))⟩)))
  refine zk7 (fun σ H'=>H'=H∧∃ (prod sq left:Int) (n:Nat),σ = [some (.int p),some (.int hh),some (.int prod),some (.int sq),some (.int left)]∧0≤prod∧prod < p∧0≤sq∧sq < p∧0≤left∧left < 2 ^ n∧zcJ p n prod sq left=inv p hh) (fun σ _=>zpb σ)
   ⟨rfl,1,hh % p,p - 2,7,rfl,by lia,by lia,e0,e1,by lia,by lia,rfl⟩ ?_ ?_
  ·rintro σ H1 ⟨rfl,prod,sq,left,n,rfl,b0,b1,s0,s1,l0,l1,hi⟩
   refine (lp rfl (lD rfl rfl (lp rfl ?_)))
   refine zaU (fun hl=>?_) (fun hl=>?_)
   ·have hl:0 < left:=by simpa using hl
    obtain⟨m,rfl⟩:∃ m,n=m+1:=by
     cases n with
     | zero=>lia
     | succ m=>exact⟨m,rfl⟩
    rw [zgu hl l1] at hi
    have l2:left / 2 < 2 ^ m:=by
     have:(2:Int) ^ (m+1)=2 ^ m*2:=dE ..
     lia
    have m0:=aG (prod*sq) (show p≠0 by lia)
    have m1:=az (prod*sq) (show 0 < p by lia)
    have n0:=aG (sq*sq) (show p≠0 by lia)
    have n1:=az (sq*sq) (show 0 < p by lia)
    refine (lp rfl (lD rfl rfl ⟨(by show (0:Int) < 2; decide),rfl,(lp rfl ?_)⟩)); refine zaU (fun ho=>?_) (fun ho=>?_)
    ·have ho:left % 2=1:=by simpa using ho
     rw [if_pos ho] at hi
     refine (lp rfl (lp rfl (lD rfl rfl ⟨.inl ⟨by lia,by lia⟩,(lp rfl (lD rfl rfl ⟨(by show 0 < p; lia),?_⟩))⟩)))
     refine (lp rfl (lp rfl (lD rfl rfl ⟨.inl ⟨by lia,by lia⟩,(lp rfl (lD rfl rfl ⟨(by show 0 < p; lia),?_⟩))⟩)))
     refine (lp rfl (lD rfl rfl ⟨⟨by decide,by decide⟩,⟨rfl,_,_,_,m,rfl,m0,m1,n0,n1,by lia,l2,hi⟩,?_⟩))
     show (left / 2).toNat < left.toNat
     lia
    ·have ho:¬ left % 2=1:=by simpa using ho
     rw [if_neg ho] at hi
     refine (lp rfl (lp rfl (lD rfl rfl ⟨.inl ⟨by lia,by lia⟩,(lp rfl (lD rfl rfl ⟨(by show 0 < p; lia),?_⟩))⟩)))
     refine (lp rfl (lD rfl rfl ⟨⟨by decide,by decide⟩,⟨rfl,_,_,_,m,rfl,b0,b1,n0,n1,by lia,l2,hi⟩,?_⟩))
     show (left / 2).toNat < left.toNat
     lia
   ·have hl:¬ 0 < left:=by simpa using hl
    have el:left=0:=by lia
    subst el
    rw [zhz] at hi
    rw [← hi] at q
    exact (lp rfl q)
  ·rintro σ H1 Q1 Q2 hq ⟨v,e,i,j,e1,e2,k,e3,q⟩
   exact⟨v,e,i,j,e1,e2,k,e3,hq _ _ q⟩
def zfh (K:ag):Sp:=fun vs H Q _=>∃ (p r:Int) (a:Addr) (cs:List Int),vs = [.int p,.ref a,.int r]∧H a=some (.lst (cs.map V.int))∧cs.length≤1000∧0 < p∧-97≤r∧r≤97 ∧
 ∀ (l:Addr) (H':Hp),H l=none→zt H H'→H' l=some (.lst ((zbH p r cs).map V.int))→Q (.ref l) H'
theorem zb8:FnScope ["p","polynomial","root","raised","kept"] ["p","polynomial","root"] (zh zbk):=⟨rfl,rfl,rfl,by decide +kernel,rfl,by decide +kernel,by decide +kernel⟩
theorem zc6 {fd:FuncData} (T:Txt K mg t) (F:Fun K "times_root" "times_root" zbk t.times_root fd):FnOk P w K mg base CX0 1 t.times_root fd ["p","polynomial","root"] (zfh K):=by
 refine F.ok zb8 (fun vs H Q E h=>?_) (fun mh A outer s H vs Q E hr h=>?_)
 ·obtain⟨p,r,a,cs,rfl,_⟩:=h
  rfl
 ·obtain⟨p,r,a,cs,rfl,ha,lF,p0,r0,r1,q⟩:=h
  refine⟨_,#[zd,#[zq,3,zb8.nd,(am rfl),#[zl,#[zc8],#[z9,#[ya,#[zg]]],#[pvx,1]]],#[zd,#[zq,4,zb8.nd,(am rfl),#[zl,#[zc8],#[pvx,1],#[z9,#[ya,#[zg]]]]],#[zn,#[zF,#[zV,(CompSc.of (N':=["high","low","root","p"]) (ix:=[none,none,some 2,some 0]) (zh zbk) ["p","polynomial","root","raised","kept"] rfl rfl (by decide +kernel)),#[zaC,#[zu,#[zu,#[zan]]]],#[zef,T.zip_,#[za,#[pvx,3],#[ya,#[pvx,4]]]],(fun _ _ _ _=>#[zah,(K),2,#[zi,#[zf,0,(show (["high","low","root","p"]:List Str).Nodup by decide +kernel),(am rfl)],#[zi,#[zf,1,(show (["high","low","root","p"]:List Str).Nodup by decide +kernel),(am rfl)],#[zD]]]]),(fun _ _ _ _=>#[zw]),(fun _ _ _ _=>#[zl,#[zK],#[zl,#[zaY],#[pvx,0],#[zl,#[zW],#[pvx,2],#[pvx,1]]],#[pvx,3]])]]]]],?_⟩
  have o8:=aX
  refine⟨by show 1≤sizeLine; lia,fun z hz=>(lp rfl (ex4 z a ([.int 0]) (cs.map V.int) ⟨rfl,rfl,zc,by rw [zr (zB ha hz)]; exact ha,by rw [ab]; show 1+cs.length≤sizeLine; lia,fun ra p9=>?_⟩))⟩
  have s1:zt H (lu (lu H z (.lst [.int 0])) ra (.lst ([.int 0]++cs.map V.int))):=(zb hz).trans (zb p9)
  refine (lp rfl ⟨by show 1≤sizeLine; lia,fun z2 uH=>(ex4 a z2 (cs.map V.int) ([.int 0]) ⟨rfl,rfl,by rw [zr (zB (s1 _ _ ha) uH)]; exact s1 _ _ ha,zc,by rw [ab]; show cs.length+1≤sizeLine; lia,fun ke hke=>?_⟩)⟩)
  have s2:=s1.trans ((zb (o:=.lst [.int 0]) uH).trans (zb (o:=.lst (cs.map V.int++[.int 0])) hke))
  have vN:lu (lu (lu (lu H z (.lst [.int 0])) ra (.lst ([.int 0]++cs.map V.int))) z2 (.lst [.int 0])) ke (.lst (cs.map V.int++[.int 0])) ra=some (.lst ((0 :: cs).map V.int)) :=
   ((zb (o:=.lst [.int 0]) uH).trans (zb (o:=.lst (cs.map V.int++[.int 0])) hke)) _ _ zc
  have vO:lu (lu (lu (lu H z (.lst [.int 0])) ra (.lst ([.int 0]++cs.map V.int))) z2 (.lst [.int 0])) ke (.lst (cs.map V.int++[.int 0])) ke=some (.lst ((cs++[0]).map V.int)):=by rw [zc,ao]; rfl
  generalize lu (lu (lu (lu H z (.lst [.int 0])) ra (.lst ([.int 0]++cs.map V.int))) z2 (.lst [.int 0])) ke (.lst (cs.map V.int++[.int 0]))=H2 at s2 vN vO ⊢
  refine (lp rfl (lp rfl (ex4 ra ke _ _ ⟨rfl,lr.of vN,lr.of vO,zR (n:=cs.length+1) (fun i ys H'=>ys=((zbH p r cs).take i).map V.int∧zt H2 H') ⟨by simp,fun _ _ e=>e⟩ ?_ ?_ ?_ ?_⟩)))
  ·rintro i ys H3 hi ⟨_,s3⟩
   obtain⟨x,hx⟩:∃ x,(0 :: cs)[i]? = some x:=⟨(0 :: cs)[i]'(by simpa using hi),by simp⟩
   obtain⟨y,hy⟩:∃ y,(cs++[0])[i]? = some y:=⟨(cs++[0])[i]'(by simpa using hi),by simp⟩
   exact⟨_,_,.int x,.int y,lr.of (s3 _ _ vN),lr.of (s3 _ _ vO),by rw [ah,hx]; rfl,by rw [ah,hy]; rfl⟩
  ·rintro ys H3 ⟨_,s3⟩
   exact⟨_,_,lr.of (s3 _ _ vN),lr.of (s3 _ _ vO),.inl (by simp)⟩
  ·rintro i x ys H3 H4 hi ⟨rfl,s3⟩ ⟨T,u,v,hT,rfl,rfl,hu,hv⟩
   obtain⟨x,rfl,hx⟩:=zab (hu _ (lr.of (s3 _ _ vN)))
   obtain⟨y,rfl,hy⟩:=zab (hv _ (lr.of (s3 _ _ vO)))
   refine gY2 (lE.of zc) ?_
   refine (lp rfl (lp rfl (lp rfl (lD rfl rfl ⟨.inl ⟨by lia,by lia⟩,(lD rfl rfl (lp rfl (lD rfl rfl ⟨p0,zaa ?_,?_,s3.trans (zb hT)⟩)))⟩))))
   ·rw [ab]
    exact a8 (fI _ _) (by lia)
   ·show _=(List.take (i+1) (a7 (trF p r) (0 :: cs) (cs++[0]))).map V.int
    rw [zhA hx hy,ao]
    rfl
  ·rintro ys H3 D ⟨rfl,s3⟩ hD
   refine q D _ ((s2.trans s3).free hD) ((s2.trans s3).trans (zb hD)) ?_
   rw [zc,aP (by rw [zbM]; exact af _)]
theorem zmC {p f:Int}:∀ (cs vs:List Int),vs.length≤cs.length→ad p f cs vs=a7 (fun number other=>(number+f*other) % p) cs vs++cs.drop vs.length
 | [],[],_=>rfl
 | _ :: _,[],_=>rfl
 | [],_ :: _,h=>by simp at h
 | c :: cs,v :: vs,h=>by
  show (c+f*v) % p :: ad p f cs vs=(c+f*v) % p :: (a7 _ cs vs++cs.drop vs.length)
  rw [zmC cs vs (by simpa using h)]
theorem zmD {xs:List V} {k:Nat} (h:k≤xs.length):za8 xs (some (k:Int)) none=xs.drop k:=by
 have e1:HT.sIx xs.length 0 (some (k:Int))=k:=by
  unfold HT.sIx
  simp
  split <;> lia
 have e2:HT.sIx xs.length xs.length none=xs.length:=rfl
 unfold za8
 rw [e1,e2]
 exact aP (by rw [b8]; exact af _)
def zoc (K:ag):Sp:=fun vs H Q _=>∃ (p x y:Int) (c v b:Addr) (cs ws:List Int),vs = [.int p,.ref c,.ref v,.ref b]∧H c=some (.lst (cs.map V.int))∧H v=some (.lst (ws.map V.int))∧H b=some (.tup [.int x,.int y])∧p∈zm∧0≤x∧x < p∧0≤y∧y < 10000∧0 < zj p x ws∧zj p x ws < p∧ws.length≤cs.length∧cs.length≤1000 ∧
 ∀ (l:Addr) (H':Hp),H l=none→zt H H'→H' l=some (.lst ((ad p ((y - zj p x cs)*inv p (zj p x ws) % p) cs ws).map V.int))→Q (.ref l) H'
theorem zcX:FnScope ["p","polynomial","vanishing","point","x","y","missing","factor","added"] ["p","polynomial","vanishing","point"] (zh zfc):=⟨rfl,rfl,rfl,by decide +kernel,rfl,by decide +kernel,by decide +kernel⟩
theorem zod {fd:FuncData} (T:Txt K mg t) (F:Fun K "bent" "bent" zfc t.bent fd):FnOk P w K mg base CX0 2 t.bent fd ["p","polynomial","vanishing","point"] (zoc K):=by
 obtain⟨nc,lL,lN⟩:=T.f_value_at
 have lV:=zb0 (P:=P) (w:=w) (base:=base) T lL
 obtain⟨qr,nI,nJ⟩:=T.f_inverse
 have pE:=zfg (P:=P) (w:=w) (base:=base) T nI
 refine F.ok zcX (fun vs H Q E h=>?_) (fun mh A outer s H vs Q E hr h=>?_)
 ·obtain⟨p,x,y,c,v,b,cs,ws,rfl,_⟩:=h
  rfl
 ·obtain⟨p,x,y,c,v,b,cs,ws,rfl,hc,hv,hb,mp,x0,x1,y0,y1,g0,g1,hle,lF,q⟩:=h
  refine⟨_,#[zd,#[zbd,#[pvx,3],#[zaK,#[zi,#[zf,4,zcX.nd,(am rfl)],#[zi,#[zf,5,zcX.nd,(am rfl)],#[zD]]]]],#[zd,#[zq,6,zcX.nd,(am rfl),#[zl,#[zaY],#[pvx,5],#[zo,lV,(hr.mono (by decide)),T.m_value_at,lL.kp,lN,#[zy],#[za,#[pvx,0],#[za,#[pvx,1],#[ya,#[pvx,4]]]]]]],#[zd,#[zq,7,zcX.nd,(cb rfl),#[zl,#[zK],#[zl,#[zW],#[pvx,6],#[zo,pE,(hr.mono (by decide)),T.m_inverse,nI.kp,nJ,#[zy],#[za,#[pvx,0],#[ya,#[zo,lV,(hr.mono (by decide)),T.m_value_at,lL.kp,lN,#[zy],#[za,#[pvx,0],#[za,#[pvx,2],#[ya,#[pvx,4]]]]]]]]],#[pvx,0]]],#[zd,#[zaD,8,zcX.nd,(am rfl),(CompSc.of (N':=["number","other","factor","p"]) (ix:=[none,none,some 7,some 0]) (zh zfc) ["p","polynomial","vanishing","point","x","y","missing","factor","added"] rfl rfl (by decide +kernel)),#[zaC,#[zu,#[zu,#[zan]]]],#[zef,T.zip_,#[za,#[pvx,1],#[ya,#[pvx,2]]]],(fun _ _ _ _=>#[zah,(K),2,#[zi,#[zf,0,(show (["number","other","factor","p"]:List Str).Nodup by decide +kernel),(am rfl)],#[zi,#[zf,1,(show (["number","other","factor","p"]:List Str).Nodup by decide +kernel),(am rfl)],#[zD]]]]),(fun _ _ _ _=>#[zw]),(fun _ _ _ _=>#[zl,#[zK],#[zl,#[zO],#[pvx,0],#[zl,#[zW],#[pvx,2],#[pvx,1]]],#[pvx,3]])],#[zn,#[zF,#[zl,#[zc8],#[pvx,8],#[zaG,zbt,#[pvx,1],#[zaS,#[zC,#[zE],T.len_,cB,#[ya,#[pvx,8]]]],#[zbe]]]]]]]]],?_⟩
  have o8:=aX
  have rp:=zp mp
  have p0:0 < p:=by lia
  have v0:=zai (x:=x) p0 cs
  have v1:=zaj (x:=x) p0 cs
  refine⟨_,rfl,b,_,rfl,lE.of hb,rfl,_,_,rfl,_,_,rfl,rfl,?_⟩
  refine (lp rfl (lp rfl (lp rfl (lp rfl (ex4 p x c cs ⟨rfl,.inl (lr.of hc),p0,by lia,x0,x1,(lD rfl rfl ?_)⟩)))))
  refine (lp rfl (lp rfl (lp rfl (lp rfl (lp rfl (ex4 p x v ws ⟨rfl,.inl (lr.of hv),p0,by lia,x0,x1,p,(lp rfl ⟨mp,by lia,by lia,(lD rfl rfl ⟨.inl ⟨by lia,by lia⟩,(lp rfl (lD rfl rfl ⟨p0,?_⟩))⟩)⟩)⟩))))))
  have f0:=aG ((y - zj p x cs)*inv p (zj p x ws)) (show p≠0 by lia)
  have f1:=az ((y - zj p x cs)*inv p (zj p x ws)) p0
  refine (lp rfl (lp rfl (ex4 c v _ _ ⟨rfl,lr.of hc,lr.of hv,zfY (n:=ws.length) (f:=fun number other=>(number+((y - zj p x cs)*inv p (zj p x ws) % p)*other) % p) hc hv hle (af _) (.inr (af _)) (by lia) ?_ ?_⟩)))
  ·intro j u w H6 T R B hu hv s6 hT hR
   refine gY2 (lE.of zc) ?_
   exact (lp rfl (lp rfl (lp rfl (lD rfl rfl ⟨.inl ⟨by lia,by lia⟩,(lD rfl rfl (lp rfl (lD rfl rfl ⟨p0,hR⟩)))⟩))))
  ·intro D H6 s6 hD
   obtain⟨f,hf⟩:∃ f,(y - zj p x cs)*inv p (zj p x ws) % p=f:=⟨_,rfl⟩
   rw [hf] at q ⊢
   have lz:(a7 (fun number other=>(number+f*other) % p) cs ws).length=ws.length:=by rw [cK]; lia
   have s7:=s6.trans (zb (o:=.lst ((a7 (fun number other=>(number+f*other) % p) cs ws).map V.int)) hD)
   have vo:lu H6 D (.lst ((a7 (fun number other=>(number+f*other) % p) cs ws).map V.int)) D=some (.lst ((a7 (fun number other=>(number+f*other) % p) cs ws).map V.int)):=zc
   generalize lu H6 D (.lst ((a7 (fun number other=>(number+f*other) % p) cs ws).map V.int))=H7 at s7 vo ⊢
   have Ca:=s7 _ _ hc
   refine (lp rfl (lp rfl (lp rfl ⟨D,(lp rfl ⟨.inl (lr.of vo),?_⟩)⟩)))
   refine (lp rfl ⟨c,(lp rfl ⟨lr.of Ca,fun z hz=>?_⟩)⟩)
   have ec:za8 (cs.map V.int) (some ((((a7 (fun number other=>(number+f*other) % p) cs ws).map V.int).length:Nat):Int)) none=(cs.drop ws.length).map V.int:=by
    rw [ab,lz,zmD (by rw [ab]; exact hle),h9]
   rw [ec]
   have s8:=zb (o:=.lst ((cs.drop ws.length).map V.int)) hz
   refine (ex4 D z _ _ ⟨rfl,rfl,s8 _ _ vo,zc,by rw [ab,ab,lz,b8]; lia,fun l hl=>q l _ (((s7.trans s8).free hl)) ((s7.trans s8).trans (zb hl)) ?_⟩)
   rw [zc,zmC cs ws hle,ao]
theorem zba:FnScope ["p","points","polynomial","vanishing","x","y"] ["p","points"] (zh zcU):=⟨rfl,rfl,rfl,by decide +kernel,rfl,by decide +kernel,by decide +kernel⟩
theorem zdi {fd:FuncData} (T:Txt K mg t) (F:Fun K "through" "through" zcU t.through fd):FnOk P w K mg base CX0 3 t.through fd ["p","points"] (zh3 K):=by
 obtain⟨xo,vP,tT⟩:=T.f_bent
 have yV:=zod (P:=P) (w:=w) (base:=base) T vP
 obtain⟨oP,mv,mB⟩:=T.f_times_root
 have nM:=zc6 (P:=P) (w:=w) (base:=base) T mv
 refine F.ok zba (fun vs H Q E h=>?_) (fun mh A outer s H vs Q E hr h=>?_)
 ·obtain⟨p,a,lq,rfl,_⟩:=h
  rfl
 ·obtain⟨p,a,lq,rfl,hP,lF,mp,hp,hyr,q⟩:=h
  refine⟨_,#[zd,#[zq,2,zba.nd,(am rfl),#[zl,#[zgj],#[z9,#[ya,#[zg]]],#[zC,#[zE],T.len_,cB,#[ya,#[pvx,1]]]]],#[zd,#[zq,3,zba.nd,(am rfl),#[z9,#[ya,#[zg]]]],#[zd,#[za7,bI,#[zN,#[pvx,1]],#[zaK,#[zi,#[zf,4,zba.nd,(am rfl)],#[zi,#[zf,5,zba.nd,(am rfl)],#[zD]]]],#[zd,#[zq,2,zba.nd,(am rfl),#[zo,yV,(hr.mono (by decide)),T.m_bent,vP.kp,tT,#[zy],#[za,#[pvx,0],by exact #[za,#[pvx,2],#[za,#[pvx,3],#[ya,#[zaw,#[za,#[pvx,4],#[ya,#[pvx,5]]]]]]]]]],#[zn,#[zq,3,zba.nd,(am rfl),#[zo,nM,(hr.mono (by decide)),T.m_times_root,mv.kp,mB,#[zy],#[za,#[pvx,0],#[za,#[pvx,3],#[ya,#[pvx,4]]]]]]]]],#[zn,#[zF,#[zaA,#[zao],T.tuple_,fE,#[ya,#[pvx,2]]]]]]]],?_⟩
  have o8:=aX
  have rp:=zp mp
  have p0:0 < p:=by lia
  obtain⟨bs,hS,tD,hb⟩:=id hP
  refine⟨by show 1≤sizeLine; lia,fun z hz=>(lp rfl ⟨a,(lp rfl ⟨.inl ((zb hz).seq hS),z,_,[.int 0],rfl,rfl,zc,by rw [ab]; lia,by rw [ab]; lia,by rw [ab]; show 1*_≤sizeLine; lia,fun c hc=>?_⟩)⟩)⟩
  have s0:=zb (o:=.lst [.int 0]) hz
  have hcH:H c=none:=s0.free hc
  refine⟨by show 1≤sizeLine; lia,fun v hv=>?_⟩
  have uS:c≠v:=zB zc hv
  rw [ab,zdp,tD,bG] at hv ⊢
  have s2:zt H (lu (lu (lu H z (.lst [.int 0])) c (.lst ((ap lq.length 0).map V.int))) v (.lst [.int 1])):=(s0.trans (zb hc)).trans (zb hv)
  refine⟨_,rfl,a,rfl,⟨_,s2.seq hS⟩,zbO (K:=K) (a:=a) (xs:=bs.map V.ref) (fun i σ H'=>∃ (c v:Addr) (s:List Int×List Int) (e4 e5:Option V),σ = [some (.int p),some (.ref a),some (.ref c),some (.ref v),e4,e5] ∧
   s=(lq.take i).foldl (zcA p) (ap lq.length 0,[1])∧Nw p lq.length ((lq.take i).map (md p)) s∧zt H H'∧H' c=some (.lst (s.1.map V.int))∧H' v=some (.lst (s.2.map V.int)))
   ⟨c,v,_,none,none,rfl,rfl,by rw [dO]; exact zhy mp _,s2,by rw [zr uS]; exact zc,zc⟩ (fun i σ H' _ ⟨_,_,_,_,_,_,_,_,s3,_⟩=>s3.seq hS) ?_ ?_⟩
  ·rintro i y σ H1 hy ⟨c,v,s,e4,e5,rfl,hs,nw,s1,rO,Gb⟩
   obtain⟨b,rfl,yW⟩:=zS hy
   obtain⟨hi,_⟩:=aD.mp yW
   obtain⟨⟨x,y⟩,hq⟩:∃ q,lq[i]? = some q:=⟨lq[i]'(by lia),by simp⟩
   have hbq:=s1 _ _ (hb i b _ yW hq)
   have wu:=zeP hq
   have qL:=hp
   rw [wu,ao,aZ] at qL
   have D4:=qL.apart
   obtain⟨x0,x1,m0,m1⟩:=hp.rg _ (aB.mpr ⟨_,aF hq,rfl⟩)
   obtain⟨y0,y1⟩:=hyr _ (aF hq)
   dsimp only [md] at x0 x1 m0 m1 y0 y1
   have B0:i < lq.length:=by lia
   have pv:(lq.take i).length=i:=by rw [av]; lia
   have Gc:=zjp mp nw (q:=md p (x,y)) (by rw [ab,pv]; exact B0) x0 x1 m0 m1 D4
   rw [zh2] at Gc
   obtain⟨D6,AG⟩:=zjo mp nw (q:=(x,y)) x0 x1 (fun a ha=>⟨(D4 a ha).1,(D4 a ha).2.1,(D4 a ha).2.2.1⟩)
   dsimp only at D6 AG
   have sW:zcA p s (x,y)=(ad p ((y - zj p x s.1)*inv p (zj p x s.2) % p) s.1 s.2,zbH p x s.2):=rfl
   rw [sW] at Gc
   have l1:=nw.lc
   have l2:=nw.lv
   rw [ab,pv] at l2
   refine⟨b,_,rfl,lE.of hbq,rfl,_,_,rfl,_,_,rfl,rfl,?_⟩
   refine (lp rfl (lp rfl (lp rfl (lp rfl (lp rfl ⟨by show 2≤sizeLine; lia,fun tt ht=>?_⟩)))))
   have t1:=zb (o:=.tup [.int x,.int y]) ht
   refine (ex8 p x y c v tt s.1 s.2 ⟨rfl,t1 _ _ rO,t1 _ _ Gb,zc,mp,x0,x1,y0,y1,D6,AG,by lia,by lia,fun l H3 hl s3 uT=>?_⟩)
   have s4:=t1.trans s3
   refine (lp rfl (lp rfl (lp rfl (ex4 p x v s.2 ⟨rfl,s4 _ _ Gb,by lia,p0,by lia,by lia,fun l2 H4 qf s5 h4l=>?_⟩))))
   refine (ex5 l l2 (zcA p s (x,y)) _ _ ⟨rfl,?_,?_,(s1.trans s4).trans s5,?_,?_⟩)
   ·rw [take_snoc hq,List.foldl_append,← hs]
    rfl
   ·rw [take_snoc hq,sW,ao]
    exact Gc
   ·rw [sW]
    exact s5 _ _ uT
   ·rw [sW]
    exact h4l
  ·rintro σ H1 ⟨c,v,s,e4,e5,rfl,hs,nw,s1,rO,Gb⟩
   rw [ab,tD,ba] at hs
   refine (lp rfl ⟨c,(lp rfl (.inl ⟨lr.of rO,fun l hl=>q l _ (s1.free hl) (s1.trans (zb hl)) ?_⟩))⟩)
   rw [zc,hs,zps]
   rfl
theorem za6:FnScope ["code","row","p","k","places"] ["code","row"] (zh zaO):=⟨rfl,rfl,rfl,by decide +kernel,rfl,by decide +kernel,by decide +kernel⟩
theorem zaI {fd:FuncData} (T:Txt K mg t) (F:Fun K "heard_points" "heard_points" zaO t.heard_points fd):FnOk P w K mg base CX0 1 t.heard_points fd ["code","row"] (znI K):=by
 refine F.ok za6 (fun vs H Q E h=>?_) (fun mh A outer s H vs Q E hr h=>?_)
 ·obtain⟨c,tt,r,p,k,pl,rw,rfl,_⟩:=h
  rfl
 ·obtain⟨c,tt,r,p,k,pl,rw,rfl,hc,uv,hn,q⟩:=h
  refine⟨_,#[zd,#[zbd,#[pvx,0],#[zaK,#[zi,#[zf,2,za6.nd,(am rfl)],#[zi,#[zf,3,za6.nd,(am rfl)],#[zi,#[zf,4,za6.nd,(am rfl)],#[zD]]]]]],#[zn,#[zF,#[zV,(CompSc.of (N':=["place","entry"]) (ix:=[none,none]) (zh zaO) ["code","row","p","k","places"] rfl rfl (by decide +kernel)),#[zaC,#[zu,#[zu,#[zan]]]],#[zhH,T.zip_,#[za,#[pvx,4],#[ya,#[pvx,1]]]],(fun _ _ _ _=>#[zah,(K),2,#[zi,#[zf,0,(show (["place","entry"]:List Str).Nodup by decide +kernel),(am rfl)],#[zi,#[zf,1,(show (["place","entry"]:List Str).Nodup by decide +kernel),(am rfl)],#[zD]]]]),(fun _ _ _ _=>#[zbP,#[zL,#[zjc],#[pvx,1],#[zbo],(zX _)]]),(fun _ _ _ _=>#[zaw,#[za,#[pvx,0],#[ya,#[pvx,1]]]])]]]],?_⟩
  have o8:=aX
  have hl:=uv.len
  refine⟨_,rfl,c,_,rfl,lE.of hc.1,rfl,_,_,rfl,_,_,rfl,_,_,rfl,rfl,?_⟩
  refine (lp rfl (lp rfl (ex4 tt r _ _ ⟨rfl,lE.of hc.2,uv.at',zR (n:=pl.length) (fun i ys H'=>zt H H'∧∃ us:List Addr,ys=us.map V.ref∧PtB H' us (lI (pl.take i) (rw.take i))) ⟨fun _ _ e=>e,[],rfl,.nil⟩ ?_ ?_ ?_ ?_⟩)))
  ·rintro i ys H3 hi ⟨s3,_⟩
   obtain⟨o,ho⟩:∃ o,rw[i]? = some o:=⟨rw[i]'(by lia),by simp⟩
   exact⟨_,_,.int pl[i],o9 o,lE.of (s3 _ _ hc.2),s3.seq uv.at',by rw [ah,ai hi]; rfl,by rw [ah,ho]; rfl⟩
  ·rintro ys H3 ⟨s3,_⟩
   exact⟨_,_,lE.of (s3 _ _ hc.2),s3.seq uv.at',.inl (by rw [ab])⟩
  ·rintro i xx ys H3 H4 hi ⟨s3,us,rfl,lO⟩ ⟨T,u,v,hT,rfl,rfl,hu,hv⟩
   obtain⟨x,rfl,hx⟩:=zab (hu _ (lE.of (s3 _ _ hc.2)))
   obtain⟨o,rfl,ho⟩:=zeh (hv _ (s3.seq uv.at'))
   have v4:=zb (o:=.tup [.int x,o9 o]) hT
   have s4:=s3.trans v4
   have hs:=ze2 hx ho
   have qg:=lO.length
   have hb:=zbv (pl.take i) (rw.take i)
   rw [av] at hb
   refine⟨T,_,rfl,lE.of zc,rfl,_,_,rfl,_,_,rfl,rfl,?_⟩
   refine (lp rfl ⟨rfl,(lp rfl ?_)⟩)
   cases o with
   | none =>
    refine zhn ⟨s4,us,rfl,?_⟩
    rw [hs,bH]
    exact lO.same v4
   | some z =>
    refine zp5 (lp rfl (lp rfl ⟨by show 2≤sizeLine; lia,fun T2 wG=>⟨by rw [ab]; lia,s4.trans (zb wG),us++[T2],by rw [ao]; rfl,?_⟩⟩))
    rw [hs]
    exact bJ (lO.same (v4.trans (zb wG))) zc
  ·rintro ys H3 D ⟨s3,us,rfl,lO⟩ hD
   rw [ba,aP (by lia)] at lO
   exact q D us _ (s3.free hD) (s3.trans (zb hD)) zc (lO.same (zb hD))
end
end My
end
section
namespace My
open PySem L2 PyProof.Rows
section
variable {P:Program} {w:World} {K:ag} {mg:Str→Option Value} {base:Heap} {t:Adr}
theorem ziY:FnScope ["p","vector","times","other"] ["p","vector","times","other"] (zh zcf):=⟨rfl,rfl,rfl,by decide +kernel,rfl,by decide +kernel,by decide +kernel⟩
theorem ziZ {fd:FuncData} (T:Txt K mg t) (F:Fun K "without" "without" zcf t.without fd):FnOk P w K mg base CX0 1 t.without fd ["p","vector","times","other"] (ziQ K):=by
 refine F.ok ziY (fun vs H Q E h=>?_) (fun mh A outer s H vs Q E hr h=>?_)
 ·obtain⟨p,tm,a,b,as,bs,rfl,_⟩:=h
  rfl
 ·obtain⟨p,tm,a,b,as,bs,rfl,ha,hb,hl,hn,p0,t0,t1,q⟩:=h
  refine⟨_,#[zn,#[zF,#[zV,(CompSc.of (N':=["number","less","times","p"]) (ix:=[none,none,some 2,some 0]) (zh zcf) ["p","vector","times","other"] rfl rfl (by decide +kernel)),#[zaC,#[zu,#[zu,#[zan]]]],#[zef,T.zip_,#[za,#[pvx,1],#[ya,#[pvx,3]]]],(fun _ _ _ _=>#[zah,(K),2,#[zi,#[zf,0,(show (["number","less","times","p"]:List Str).Nodup by decide +kernel),(am rfl)],#[zi,#[zf,1,(show (["number","less","times","p"]:List Str).Nodup by decide +kernel),(am rfl)],#[zD]]]]),(fun _ _ _ _=>#[zw]),(fun _ _ _ _=>#[zl,#[zK],#[zl,#[zaY],#[pvx,0],#[zl,#[zW],#[pvx,2],#[pvx,1]]],#[pvx,3]])]]],?_⟩
  have o8:=aX
  refine (lp rfl (lp rfl (ex4 a b _ _ ⟨rfl,lr.of ha,lr.of hb,zfY (n:=as.length) (f:=fun x y=>(x - tm*y) % p) ha hb (af _) (by lia) (.inl (af _)) (by lia) ?_ ?_⟩)))
  ·intro j u w H6 T R B hu hv s6 hT hR
   refine gY2 (lE.of zc) ?_
   exact (lp rfl (lp rfl (lp rfl (lD rfl rfl ⟨.inl ⟨by lia,by lia⟩,(lD rfl rfl (lp rfl (lD rfl rfl ⟨p0,hR⟩)))⟩))))
  ·intro D H6 s6 hD
   exact q D _ (s6.free hD) (s6.trans (zb hD)) zc
def zdj (K:ag):Sp:=fun vs H Q _=>∃ (p:Int) (a:Addr) (ls:List Addr) (vv:List (List Int)) (L:Nat),vs = [.int p,.ref a]∧H a=some (.lst (ls.map V.ref))∧LsA H ls vv∧vv≠[]∧vv.length≤200∧L≤800∧(∀ v∈vv,v.length=L∧∀ c∈v,0≤c∧c < p)∧p∈zm ∧
 (∀ H',zt H H'→Indep p L vv→Q .non H')∧(∀ (l:Addr) (c:List Int) (m:Nat) (H':Hp),H l=none→zt H H'→H' l=some (.lst (c.map V.int))→IsP p (m+1) c→m < vv.length→gl c m=1→Dep p L vv c→zn1 p L m vv→Q (.ref l) H')
theorem zJ:FnScope ["p","vectors","length","cleared","count","vector","whole","lead","other","leads","factor"] ["p","vectors"] (zh zar):=⟨rfl,rfl,rfl,by decide +kernel,rfl,by decide +kernel,by decide +kernel⟩
theorem zb1 {fd:FuncData} (T:Txt K mg t) (F:Fun K "first_relation" "first_relation" zar t.first_relation fd):FnOk P w K mg base CX0 2 t.first_relation fd ["p","vectors"] (zdj K):=by
 obtain⟨tU,rG,pF⟩:=T.f_without
 have uU:=ziZ (P:=P) (w:=w) (base:=base) T rG
 obtain⟨qr,nI,nJ⟩:=T.f_inverse
 have pE:=zfg (P:=P) (w:=w) (base:=base) T nI
 refine F.ok zJ (fun vs H Q E h=>?_) (fun mh A outer s H vs Q E hr h=>?_)
 ·obtain⟨p,a,ls,vv,L,rfl,_⟩:=h
  rfl
 ·obtain⟨p,a,ls,vv,L,rfl,ha,si,me,hN,hL,hvv,hp,qn,qs⟩:=h
  refine⟨_,#[zd,#[zq,2,zJ.nd,(am rfl),#[zC,#[zE],T.len_,cB,#[ya,#[zQ,#[zG],#[pvx,1],#[zg]]]]],#[zd,#[zq,3,zJ.nd,(am rfl),#[z9,#[ze]]],#[zd,#[za7,bI,(@zll _ _ _ _ _ _ _ _ rfl T.enumerate_ #[ya,#[pvx,1]] (by rfl)),#[zaK,#[zi,#[zf,4,zJ.nd,(am rfl)],#[zi,#[zf,5,zJ.nd,(am rfl)],#[zD]]]],#[zd,#[zq,6,zJ.nd,(cb rfl),#[zl,#[zc8],#[pvx,5],#[zl,#[zgj],#[z9,#[ya,#[zg]]],#[zC,#[zE],T.len_,cB,#[ya,#[pvx,1]]]]]],#[zd,#[zbd,#[zg],(@zoP _ _ _ _ _ _ _ #[pvx,6] #[zl,#[zO],#[pvx,2],#[pvx,4]] set_list (by intro _; rfl))],#[zd,#[za7,bI,#[zN,#[pvx,3]],#[zaK,#[zi,#[zf,7,zJ.nd,(am rfl)],#[zi,#[zf,8,zJ.nd,(am rfl)],#[zD]]]],#[zn,#[zq,6,zJ.nd,(cb rfl),#[zo,uU,(hr.mono (by decide)),T.m_without,rG.kp,pF,#[zy],#[za,#[pvx,0],by exact #[za,#[pvx,6],#[za,#[zQ,#[zG],#[pvx,6],#[pvx,7]],#[ya,#[pvx,8]]]]]]]]],#[zd,#[zaD,9,zJ.nd,(am rfl),(CompSc.of (N':=["at","whole"]) (ix:=[none,some 6]) (zh zar) ["p","vectors","length","cleared","count","vector","whole","lead","other","leads","factor"] rfl rfl (by decide +kernel)),#[zam],#[zaq,T.range_,#[ya,#[pvx,2]]],(fun _ _ _ _=>#[zf,0,(show (["at","whole"]:List Str).Nodup by decide +kernel),(am rfl)]),(fun _ _ _ _=>#[zbP,#[zL,#[zhj],#[zQ,#[zbR,(K)],#[pvx,1],#[pvx,0]],#[zg],(zX _)]]),(fun _ _ _ _=>#[pvx,0])],#[zd,#[za0,(@zoM _ _ _ _ (@zlc _ _ _ #[pvx,9] (fun _=>rfl))),#[zn,#[zF,#[zaG,zbt,#[pvx,6],#[zaS,#[pvx,2]],#[zaS,#[zl,#[zO],#[zl,#[zO],#[pvx,2],#[pvx,4]],#[zg]]]]]],#[zag]],#[zd,#[zq,10,zJ.nd,(cb rfl),#[zo,pE,(hr.mono (by decide)),T.m_inverse,nI.kp,nJ,#[zy],#[za,#[pvx,0],#[ya,#[zQ,#[zG],#[pvx,6],#[zQ,#[zG],#[pvx,9],#[zg]]]]]]],#[zn,#[zci,#[zeG,cF,cU,cV,#[zbL],#[pvx,3],#[ya,#[zaw,#[za,#[zQ,#[zG],#[pvx,9],#[zg]],#[ya,#[zV,(CompSc.of (N':=["number","factor","p"]) (ix:=[none,some 10,some 0]) (zh zar) ["p","vectors","length","cleared","count","vector","whole","lead","other","leads","factor"] rfl rfl (by decide +kernel)),#[zam],#[zN,#[pvx,6]],(fun _ _ _ _=>#[zf,0,(show (["number","factor","p"]:List Str).Nodup by decide +kernel),(am rfl)]),(fun _ _ _ _=>#[zw]),(fun _ _ _ _=>#[zl,#[zK],#[zl,#[zW],#[pvx,0],#[pvx,1]],#[pvx,2]])]]]]]]]]]]]]]]],#[zn,#[zF,#[zbo]]]]]],?_⟩
  have o8:=aX
  have rp:=zp hp
  have p0:0 < p:=by lia
  have yT:=si.length
  have hN0:0 < vv.length:=gI.mpr me
  obtain⟨l0,hl0⟩:∃ l0,ls[0]? = some l0:=⟨ls[0]'(by lia),by simp⟩
  obtain⟨v0,hv0,Gd⟩:=Paired.get si hl0
  have Ge:=(hvv v0 (aF hv0)).1
  refine (lp rfl (ex4 a _ _ (.ref l0) ⟨rfl,rfl,lr.of ha,zaT (j:=0) (by rw [ah,hl0]; rfl),l0,(lp rfl ⟨.inl (lr.of Gd),?_⟩)⟩))
  rw [ab,Ge]
  refine⟨by show 0≤sizeLine; lia,fun ca hca=>?_⟩
  have u1:=zb (o:=.lst []) hca
  refine⟨_,rfl,a,_,rfl,lr.of (u1 _ _ ha),zgm (n:=vv.length) (fun i σ H'=>∃ (cs:List Addr) (cl:List (Nat×List Int)) (e4 e5 e6 e7 e8 e9 qP:Option V),σ = [some (.int p),some (.ref a),some (.int (L:Int)),some (.ref ca),e4,e5,e6,e7,e8,e9,qP]∧zt H H'∧H' ca=some (.lst (cs.map V.ref))∧ClA ca H' cs cl∧Ech p L vv.length i vv cl)
   ⟨[],[],none,none,none,none,none,none,none,rfl,u1,zc,.nil,Ech.start p L vv.length vv⟩ ?_ ?_ ?_ ?_⟩
  ·rintro i σ H1 hi ⟨cs,cl,e4,e5,e6,e7,e8,e9,qP,rfl,s1,_⟩
   exact⟨_,.ref (ls[i]'(by lia)),lr.of (s1 _ _ ha),by rw [ah,ai (by lia)]; rfl⟩
  ·rintro σ H1 ⟨cs,cl,e4,e5,e6,e7,e8,e9,qP,rfl,s1,_⟩
   exact⟨_,lr.of (s1 _ _ ha),by rw [ab]; lia⟩
  ·rintro i x σ H1 H2 hi ⟨cs,cl,e4,e5,e6,e7,e8,e9,qP,rfl,s1,rO,rn,E⟩ ⟨T,v,hT,rfl,rfl,hv⟩
   obtain⟨lv,rfl,hlv⟩:=zS (hv _ (lr.of (s1 _ _ ha)))
   obtain⟨vec,Cb,hva⟩:=Paired.get si hlv
   obtain⟨tf,hvr⟩:=hvv vec (aF Cb)
   have t2:=zb (o:=.tup [.int (i:Int),.ref lv]) hT
   refine⟨T,_,rfl,lE.of zc,rfl,_,_,rfl,_,_,rfl,rfl,?_⟩
   have s2:=s1.trans t2
   have Gf:=t2 _ _ rO
   have yX:=rn.same t2
   generalize lu H1 T (.tup [.int (i:Int),.ref lv])=H2 at t2 s2 Gf yX ⊢
   refine (lp rfl ⟨by show 1≤sizeLine; lia,fun z hz=>(lp rfl ⟨a,(lp rfl ⟨.inl (lr.of ((s2.trans (zb hz)) _ _ ha)),z,_,[.int 0],rfl,rfl,zc,by rw [ab]; lia,by rw [ab]; lia,by rw [ab]; show 1*_≤sizeLine; lia,fun y hy=>?_⟩)⟩)⟩)
   rw [ab,zdp,yT,bG]
   have t3:=(zb (o:=.lst [.int 0]) hz).trans (zb (o:=.lst ((ap vv.length (0:Int)).map V.int)) hy)
   have h3y:lu (lu H2 z (.lst [.int 0])) y (.lst ((ap vv.length (0:Int)).map V.int)) y=some (.lst ((ap vv.length (0:Int)).map V.int)):=zc
   generalize lu (lu H2 z (.lst [.int 0])) y (.lst ((ap vv.length (0:Int)).map V.int))=H3 at t3 h3y ⊢
   refine (ex4 lv y _ _ ⟨rfl,rfl,(s2.trans t3) _ _ hva,h3y,by rw [ab,ab,aU]; lia,fun wl uj=>?_⟩)
   rw [← ao]
   have t4:=zb (o:=.lst ((vec++ap vv.length (0:Int)).map V.int)) uj
   refine (lp rfl (lp rfl (lp rfl (lD rfl rfl (ex4 wl _ _ (L+i) ⟨rfl,rfl,zc,?_,?_⟩)))))
   ·rw [← fN]
    exact znn (by rw [ab,aq,aU]; lia)
   have ew:((vec++ap vv.length (0:Int)).map V.int).set (L+i) (.int 1)=((vec++ap vv.length (0:Int)).set (L+i) 1).map V.int:=by rw [List.map_set]
   rw [ew,zm6]
   have t4:=t3.trans (zb (o:=.lst (((vec++ap vv.length (0:Int)).set (L+i) 1).map V.int)) uj)
   have Gg:lu H3 wl (.lst (((vec++ap vv.length (0:Int)).set (L+i) 1).map V.int)) wl=some (.lst (((vec++ap vv.length (0:Int)).set (L+i) 1).map V.int)):=zc
   have W0:=zh0 hp (N:=vv.length) hi Cb tf hvr
   have hwc:wl≠ca:=fun e=>by
    have:=t3 _ _ Gf
    rw [← e,uj] at this
    cases this
   generalize lu H3 wl (.lst (((vec++ap vv.length (0:Int)).set (L+i) 1).map V.int))=H4 at t4 Gg ⊢
   generalize (vec++ap vv.length (0:Int)).set (L+i) 1=w0 at W0 Gg ⊢
   have s4:=s2.trans t4
   have D7:=t4 _ _ Gf
   have yY:=yX.same t4
   have Cc:=yY.length
   refine⟨_,rfl,ca,rfl,⟨_,lr.of D7⟩,zbO (K:=K) (a:=ca) (xs:=cs.map V.ref) (fun j σ H'=>∃ (wa:Addr) (w:List Int) (e7 e8:Option V),σ = [some (.int p),some (.ref a),some (.int (L:Int)),some (.ref ca),some (.int (i:Int)),some (.ref lv),some (.ref wa),e7,e8,e9,qP]∧zt H4 H'∧H' wa=some (.lst (w.map V.int))∧wa≠ca∧Wh p L vv.length i vv (cl.take j) w)
    ⟨wl,w0,_,_,rfl,fun _ _ e=>e,Gg,hwc,W0⟩ (fun j σ H' _ ⟨_,_,_,_,_,s5,_⟩=>lr.of (s5 _ _ D7)) ?_ ?_⟩
   ·rintro j y σ H5 hy ⟨wa,w,e7,e8,rfl,s5,xV,hwa,W⟩
    obtain⟨b,rfl,hb⟩:=zS hy
    obtain⟨aa,haa,oa,tB,uN,Az⟩:=Paired.get yY hb
    obtain⟨o1,o2,o3,_⟩:=E.one j aa haa
    refine⟨b,_,rfl,lE.of (s5 _ _ tB),rfl,_,_,rfl,_,_,rfl,rfl,?_⟩
    have hg:=ze3 p0 W.rg aa.1
    refine (lp rfl (lp rfl (lp rfl (lp rfl (ex4 wa _ _ (.int (gl w aa.1)) ⟨rfl,rfl,lr.of xV,zaT (by rw [ah,zbp (by rw [W.ln]; lia)]; rfl),(lp rfl (ex6 p (gl w aa.1) wa oa w aa.2 ⟨rfl,xV,s5 _ _ uN,by rw [W.ln,o2],by rw [W.ln]; lia,p0,hg.1,by lia,fun l H6 hl s6 h6l=>?_⟩))⟩)))))
    refine (ex4 l _ _ _ ⟨rfl,s5.trans s6,h6l,fun e=>?_,zjO hp E hi haa W⟩)
    have:=s5 _ _ D7
    rw [← e,hl] at this
    cases this
   ·rintro σ H5 ⟨wa,w,e7,e8,rfl,s5,xV,hwa,W⟩
    rw [ab,Cc,ba] at W
    have h5c:=s5 _ _ D7
    have Gh:=yY.same s5
    have AN:=s4.trans s5
    refine (lp rfl (lp rfl ⟨by lia,by lia,?_⟩))
    rw [bG]
    refine zR (n:=L) (fun j ys H'=>H'=H5∧ys=(((aJ j).filter fun m=>decide (gl w m≠0)).map fun m:Nat=>(m:Int)).map V.int) ⟨rfl,rfl⟩ (fun j ys H' hj _=>hj) (fun ys H' _=>af _) ?_ ?_
    ·rintro j xx ys H6 H7 hj ⟨rfl,rfl⟩ ⟨rfl,rfl⟩
     have hgj:(w.map V.int)[j]? = some (.int (gl w j)):=by rw [ah,zbp (by rw [W.ln]; lia)]; rfl
     refine (lp rfl (lp rfl (ex4 wa _ _ (.int (gl w j)) ⟨rfl,rfl,lr.of xV,by rw [dI]; exact zaT hgj,rfl,(lp rfl ?_)⟩)))
     have Cd:=dm (fun m=>decide (gl w m≠0)) (aJ j)
     rw [aY] at Cd
     rw [cp,cS,ao,ao]
     by_cases h0:gl w j=0
     ·refine zaU (fun h=>absurd h (by rw [h0]; simp)) (fun _=>⟨rfl,?_⟩)
      rw [bR (by simpa using h0),fc,fT,fT,bH]
     ·refine zaU (fun _=>(lp rfl ⟨zaa (by rw [ab,ab]; lia),rfl,?_⟩)) (fun h=>absurd (by simpa using h0) h)
      rw [bQ (by simpa using h0),fc,dI]
      rfl
    ·rintro ys H6 D ⟨rfl,rfl⟩ hD
     have t7:=zb (o:=.lst ((((aJ L).filter fun m=>decide (gl w m≠0)).map fun m:Nat=>(m:Int)).map V.int)) hD
     have vo:lu H6 D (.lst ((((aJ L).filter fun m=>decide (gl w m≠0)).map fun m:Nat=>(m:Int)).map V.int)) D=_:=zc
     generalize lu H6 D (.lst ((((aJ L).filter fun m=>decide (gl w m≠0)).map fun m:Nat=>(m:Int)).map V.int))=H7 at t7 vo ⊢
     have s7:=AN.trans t7
     have D8:=t7 _ _ xV
     have Ca:=t7 _ _ h5c
     have Gi:=Gh.same t7
     refine (lp rfl ⟨_,.inl ⟨_,lr.of vo,rfl⟩,?_⟩)
     cases yZ:(aJ L).filter fun m=>decide (gl w m≠0) with
     | nil =>
      refine zaU (fun _=>?_) (fun h=>absurd rfl h)
      have hz:∀ x,x < L→gl w x=0:=fun x hx=>by
       have:=jj.mp yZ x (bv.mpr hx)
       simpa using this
      refine (lp rfl (lp rfl (lp rfl (lp rfl (lp rfl (lD rfl rfl (lD rfl rfl (lp rfl ⟨wa,(lp rfl ⟨lr.of D8,fun l hl=>?_⟩)⟩))))))))
      have ec:za8 (w.map V.int) (some (L:Int)) (some ((L:Int)+(i:Int)+1))=((w.drop L).take (i+1)).map V.int:=by
       rw [show (L:Int)+(i:Int)+1=((L+i+1:Nat):Int) by lia,znQ (by rw [ab,W.ln]; lia),← h9,← de,show L+i+1 - L=i+1 by lia]
      rw [ec]
      obtain⟨d1,d2,d3⟩:=zl6 W hi hz
      exact qs l _ i _ (s7.free hl) (s7.trans (zb hl)) zc d1 hi d2 d3 (zn2 (fO hi) E)
     | cons ld lds =>
      refine zaU (fun h=>absurd h (by simp)) (fun _=>?_)
      have hm:ld∈(aJ L).filter fun m=>decide (gl w m≠0):=by rw [yZ]; exact aH
      (obtain⟨sC,rD⟩:=bE.mp hm)
      have DP:ld < L:=bv.mp sC
      have D6:gl w ld≠0:=by simpa using rD
      obtain⟨g0,g1⟩:=ze3 p0 W.rg ld
      rw [yZ] at vo
      have vQ:atI ((((ld :: lds).map fun m:Nat=>(m:Int))).map V.int) 0=some (.int (ld:Int)):=zaT (j:=0) rfl
      refine (lp rfl (lp rfl (lp rfl (ex4 D _ _ (.int (ld:Int)) ⟨rfl,rfl,lr.of vo,vQ,wa,_,_,.int (gl w ld),rfl,rfl,lr.of D8,zaT (by rw [ah,zbp (by rw [W.ln]; lia)]; rfl),p,gl w ld,rfl,hp,g0,g1,?_⟩))))
      refine (lp rfl ⟨.inl ⟨rfl,_,lr.of Ca⟩,(lp rfl (ex4 D _ _ (.int (ld:Int)) ⟨rfl,rfl,lr.of vo,vQ,(lp rfl ⟨wa,rfl,⟨_,lr.of D8⟩,zcd (fs:=(w.map fun x=>x*inv p (gl w ld) % p).map V.int) (lr.of D8) (by rw [ab,ab,ab]) (by rw [ab,W.ln]; lia) ?_ ?_⟩)⟩))⟩)
      ·intro j x y R B hx hy hR
       obtain⟨n,rfl,hn⟩:=zab hx
       obtain⟨n',rfl,wL⟩:=zab hy
       rw [ah,hn] at wL
       cases wL
       have hnr:=W.rg n (aF hn)
       exact gY (lp rfl (lp rfl (lD rfl rfl ⟨.inl ⟨by lia,by lia⟩,(lp rfl (lD rfl rfl ⟨p0,hR⟩))⟩)))
      ·intro D2 sj
       have t8:=zb (o:=.lst ((w.map fun x=>x*inv p (gl w ld) % p).map V.int)) sj
       have h8D:lu H7 D2 (.lst ((w.map fun x=>x*inv p (gl w ld) % p).map V.int)) D2=some (.lst ((w.map fun x=>x*inv p (gl w ld) % p).map V.int)):=zc
       have hDc:D2≠ca:=fun e=>by rw [e,Ca] at sj; cases sj
       generalize lu H7 D2 (.lst ((w.map fun x=>x*inv p (gl w ld) % p).map V.int))=H8 at t8 h8D ⊢
       refine⟨by show 2≤sizeLine; lia,fun tb htb=>?_⟩
       have t9:=zb (o:=.tup [.int (ld:Int),.ref D2]) htb
       have D9:lu H8 tb (.tup [.int (ld:Int),.ref D2]) tb=some (.tup [.int (ld:Int),.ref D2]):=zc
       have D':=t9 _ _ (t8 _ _ Ca)
       have s9:=(s7.trans t8).trans t9
       have Ce:=(Gi.same t8).same t9
       have Cf:=t9 _ _ h8D
       generalize lu H8 tb (.tup [.int (ld:Int),.ref D2])=H9 at t9 D9 D' s9 Ce Cf ⊢
       have B1:=E.ln
       refine (ex3 ca _ _ ⟨rfl,rfl,D',by rw [ab,Cc,B1]; lia,cs++[tb],_,_,_,_,_,_,_,_,rfl,zae s9 hca,by rw [zc,ao]; rfl,bJ (Ce.put D') ⟨D2,?_,?_,hDc⟩,zh1 hp E hi W DP D6⟩)
       ·rw [zr (fun e=>by rw [e,D'] at D9; cases D9)]
        exact D9
       ·rw [zr hDc]
        exact Cf
  ·rintro σ H1 ⟨cs,cl,e4,e5,e6,e7,e8,e9,qP,rfl,s1,rO,rn,E⟩
   exact qn H1 s1 (zl5 E)
theorem zdU:FnScope ["p","left","points"] ["p","left","points"] (zh zaH):=⟨rfl,rfl,rfl,by decide +kernel,rfl,by decide +kernel,by decide +kernel⟩
theorem zdV {fd:FuncData} (T:Txt K mg t) (F:Fun K "times_entries" "times_entries" zaH t.times_entries fd):FnOk P w K mg base CX0 4 t.times_entries fd ["p","left","points"] (zdQ K):=by
 obtain⟨oX,mj,mH⟩:=T.f_through
 have nK:=zdi (P:=P) (w:=w) (base:=base) T mj
 obtain⟨nc,lL,lN⟩:=T.f_value_at
 have lV:=zb0 (P:=P) (w:=w) (base:=base) T lL
 refine F.ok zdU (fun vs H Q E h=>?_) (fun mh A outer s H vs Q E hr h=>?_)
 ·obtain⟨p,la,a,l,bs,lq,rfl,_⟩:=h
  rfl
 ·obtain⟨p,la,a,l,bs,lq,rfl,hla,ha,hB,hn,hp,hP,q⟩:=h
  refine⟨_,#[zn,#[zF,#[zo,nK,(hr.mono (by decide)),T.m_through,mj.kp,mH,#[zy],#[za,#[pvx,0],#[ya,#[zV,(CompSc.of (N':=["x","y","p","left"]) (ix:=[none,none,some 0,some 1]) (zh zaH) ["p","left","points"] rfl rfl (by decide +kernel)),#[zaC,#[zu,#[zu,#[zan]]]],#[zN,#[pvx,2]],(fun _ _ _ _=>#[zah,(K),2,#[zi,#[zf,0,(show (["x","y","p","left"]:List Str).Nodup by decide +kernel),(am rfl)],#[zi,#[zf,1,(show (["x","y","p","left"]:List Str).Nodup by decide +kernel),(am rfl)],#[zD]]]]),(fun _ _ _ _=>#[zw]),(fun _ _ _ _=>#[zaw,#[za,#[pvx,0],#[ya,#[zl,#[zW],#[zo,lV,(hr.mono (by decide)),T.m_value_at,lL.kp,lN,#[zy],#[za,#[pvx,2],#[za,#[pvx,3],#[ya,#[pvx,0]]]]],#[pvx,1]]]]])]]]]]],?_⟩
  have o8:=aX
  have rp:=zp hp
  have p0:0 < p:=by lia
  have tD:=hB.length
  refine (lp rfl (lp rfl ⟨a,rfl,⟨_,ha⟩,zR (n:=bs.length) (fun i ys H'=>zt H H'∧∃ us:List Addr,ys=us.map V.ref∧PtB H' us ((lq.take i).map fun a=>(a.1,zj p a.1 l*a.2))) ⟨fun _ _ e=>e,[],rfl,.nil⟩ ?_ ?_ ?_ ?_⟩))
  ·rintro i ys H1 hi ⟨s1,_⟩
   exact⟨_,.ref bs[i],s1.seq ha,by rw [ah,ai hi]; rfl⟩
  ·rintro ys H1 ⟨s1,_⟩
   exact⟨_,s1.seq ha,by rw [ab]; exact af _⟩
  ·rintro i y ys H1 H2 hi ⟨s1,us,rfl,lO⟩ ⟨rfl,hy⟩
   obtain⟨b,rfl,hb⟩:=zS (hy _ (s1.seq ha))
   obtain⟨pt,qt,mU⟩:=Paired.get hB hb
   obtain⟨x0,x1,y0,y1⟩:=hP.rg pt (aF qt)
   have qg:=lO.length
   rw [ab,av] at qg
   have v0:=zai (x:=pt.1) p0 l
   have v1:=zaj (x:=pt.1) p0 l
   refine gY2 (lE.of (s1 _ _ mU)) ⟨_,rfl,_,rfl,_,rfl,_,rfl,p,pt.1,la,l,rfl,.inr (zpt s1 hla),p0,by lia,x0,x1,_,rfl,_,_,rfl,rfl,.inl ⟨by lia,by lia⟩,by show 2≤sizeLine; lia,fun z hz=>?_⟩
   refine⟨by rw [ab]; lia,s1.trans (zb hz),us++[z],by rw [ao]; rfl,?_⟩
   rw [take_snoc qt,ao]
   exact bJ (lO.same (zb hz)) zc
  ·rintro ys H1 D ⟨s1,us,rfl,lO⟩ hD
   rw [tD,ba] at lO
   have t2:=zb (o:=.lst (us.map V.ref)) hD
   have AO:lu H1 D (.lst (us.map V.ref)) D=some (.lst (us.map V.ref)):=zc
   have tV:=lO.same t2
   generalize lu H1 D (.lst (us.map V.ref))=H2 at t2 AO tV ⊢
   refine (ex3 p D _ ⟨rfl,tV.pts AO,by rw [ab]; lia,hp,by rw [zme]; exact zcQ p0 hP,fun q hq=>?_,fun z H3 hz s3 h3=>q z H3 ((s1.trans t2).free hz) ((s1.trans t2).trans s3) (by rw [zme] at h3; exact h3)⟩)
   obtain⟨b,hb,rfl⟩:=aB.mp hq
   obtain⟨_,_,y0,y1⟩:=hP.rg b hb
   have v0:=zai (x:=b.1) p0 l
   have v1:=zaj (x:=b.1) p0 l
   dsimp only
   have h1:zj p b.1 l*b.2≤97*97:=Int.mul_le_mul (by lia) (by lia) y0 (by lia)
   have h2:=kU v0 y0
   lia
theorem zkY:FnScope ["rights","many"] ["rights","many"] (zh s_beyond):=⟨rfl,rfl,rfl,by decide +kernel,rfl,by decide +kernel,by decide +kernel⟩
theorem zkZ {fd:FuncData} (T:Txt K mg t) (F:Fun K "beyond" "beyond" s_beyond t.beyond fd):FnOk P w K mg base CX0 1 t.beyond fd ["rights","many"] (zkL K):=by
 refine F.ok zkY (fun vs H Q E h=>?_) (fun mh A outer s H vs Q E hr h=>?_)
 ·obtain⟨a,m,bs,rs,rfl,_⟩:=h
  rfl
 ·obtain⟨a,m,bs,rs,rfl,ha,hT,lF,q⟩:=h
  refine⟨_,#[zn,#[zF,#[zjD,(CompSc.of (N':=["right","number","many"]) (ix:=[none,none,some 1]) (zh s_beyond) ["rights","many"] rfl rfl (by decide +kernel)),(zcI (js:=[0]) (i:=0) (by decide)),(zcI (js:=[1]) (i:=1) (by decide)),#[zN,#[pvx,0]],(fun _ _ _ _=>#[zf,0,(show (["right","number","many"]:List Str).Nodup by decide +kernel),(am rfl)]),(fun _ _ _ _=>#[zw]),(fun _ _ _ _=>(@znL _ (K) _ _ _ rfl #[zaG,(zmd (K:=K) rfl),#[pvx,0],#[zaS,#[pvx,2]],#[zbe]])),(fun _ _ _ _=>#[zf,1,(show (["right","number","many"]:List Str).Nodup by decide +kernel),(am rfl)]),(fun _ _ _ _=>#[zw]),(fun _ _ _ _=>#[pvx,1]),(by intros; rfl)]]],?_⟩
  have o8:=aX
  have tD:=hT.length
  refine (lp rfl ⟨a,rfl,⟨_,ha⟩,zf5 (n:=bs.length) (fun i ys H'=>ys=(bey m (rs.take i)).map V.int∧zt H H') ⟨rfl,fun _ _ e=>e⟩ ?_ ?_ ?_ ?_⟩)
  ·rintro i ys H1 hi ⟨_,s1⟩
   exact⟨_,.ref bs[i],s1.seq ha,by rw [ah,ai hi]; rfl⟩
  ·rintro ys H1 ⟨_,s1⟩
   exact⟨_,s1.seq ha,by rw [ab]; exact af _⟩
  ·rintro i y ys H1 H2 hi ⟨rfl,s1⟩ ⟨rfl,hy⟩
   obtain⟨b,rfl,hb⟩:=zS (hy _ (s1.seq ha))
   obtain⟨r,uv,mU⟩:=Paired.get hT hb
   have Ci:=lF (i+1)
   rw [zh4 m uv,aq] at Ci
   refine gY (lp rfl (lp rfl (lp rfl ⟨b,(lp rfl ⟨lE.of (s1 _ _ mU),fun z H3 t2 xp=>?_⟩)⟩)))
   have ec:za8 (r.map V.int) (some (m:Int)) none=(r.drop m).map V.int:=by
    unfold za8
    rw [HT.sIx_nat,HT.sIx_none,ab,h9,aP (by rw [b8,ab]; exact af _)]
    by_cases h:m≤r.length
    ·rw [cD h]
    ·rw [show min m r.length=r.length by lia,ff (by rw [ab]; exact af _),ff (by rw [ab]; lia)]
   rw [ec] at xp
   refine⟨z,rfl,⟨_,xp⟩,zf5 (n:=(r.drop m).length) (fun j ys H'=>ys=(bey m (rs.take i)++(r.drop m).take j).map V.int∧H'=H3) ⟨by rw [dO,bH],rfl⟩ ?_ ?_ ?_ ?_⟩
   ·rintro j ys H4 hj ⟨_,rfl⟩
    exact⟨_,.int (r.drop m)[j],xp,by rw [ah,ai hj]; rfl⟩
   ·rintro ys H4 ⟨_,rfl⟩
    exact⟨_,xp,by rw [ab]; exact af _⟩
   ·rintro j y ys H4 H5 hj ⟨rfl,rfl⟩ ⟨rfl,hy⟩
    obtain⟨n,rfl,hn⟩:=zab (hy _ (xp))
    refine gY (lp rfl ⟨?_,?_,rfl⟩)
    ·rw [ab,aq,av]
     lia
    ·rw [take_snoc hn,← bg,ao (l₂:=[n])]
     rfl
   ·rintro ys H4 ⟨rfl,rfl⟩
    exact⟨by rw [ba,zh4 m uv],s1.trans t2⟩
  ·rintro ys H1 ⟨rfl,s1⟩ D hD
   rw [tD,ba] at *
   exact q D _ (s1.free hD) (s1.trans (zb hD)) zc
theorem zmE:FnScope ["polynomial","many"] ["polynomial","many"] (zh zes):=⟨rfl,rfl,rfl,by decide +kernel,rfl,by decide +kernel,by decide +kernel⟩
theorem zmF {fd:FuncData} (T:Txt K mg t) (F:Fun K "sized" "sized" zes t.sized fd):FnOk P w K mg base CX0 1 t.sized fd ["polynomial","many"] (zmf K):=by
 refine F.ok zmE (fun vs H Q E h=>?_) (fun mh A outer s H vs Q E hr h=>?_)
 ·obtain⟨a,m,q,rfl,_⟩:=h
  rfl
 ·obtain⟨a,m,cs,rfl,ha,m1,lF,q⟩:=h
  refine⟨_,#[zn,#[zF,#[zaG,znN,#[zl,(@znO _),#[pvx,0],#[zl,(@znP _),#[zaw,#[ya,#[zg]]],#[pvx,1]]],#[zbe],#[zaS,#[pvx,1]]]]],?_⟩
  have o8:=aX
  refine (lp rfl ⟨by show 1≤sizeLine; lia,fun t1 yP=>(lp rfl (ex3 t1 _ ([.int 0]) ⟨rfl,rfl,zc,by simp,by lia,by lia,by show 1*_≤sizeLine; lia,fun z H1 s1 h1z=>?_⟩))⟩)
  rw [bG,zdp] at h1z
  have tW:=(zb (o:=.tup [.int 0]) yP).trans s1
  refine (ex4 a z _ _ ⟨rfl,rfl,tW _ _ ha,h1z,by rw [ab,ab,aU]; lia,fun e=>?_,fun y H2 s2 h2y=>?_⟩)
  ·have:=congrArg fe e
   rw [ab,aU] at this
   exact absurd this (by show ¬ m=0; lia)
  rw [← ao] at h2y
  refine (lp rfl (lp rfl ⟨y,(lp rfl ⟨h2y,fun x H3 s3 h3x=>?_⟩)⟩))
  have ec:za8 ((cs++ap m 0).map V.int) none (some (m:Int))=(szd cs m).map V.int:=by
   unfold za8 szd
   rw [HT.sIx_nat,HT.sIx_none,dn,dX,ab,aq,aU,cD (by lia),de]
  rw [ec] at h3x
  exact q x H3 ((tW.trans s2).trans s3) h3x
theorem zI:FnScope ["code","rows","p","k","places","parts","e","needed","relation","power","left"] ["code","rows"] (zh zac):=⟨rfl,rfl,rfl,by decide +kernel,rfl,by decide +kernel,by decide +kernel⟩
theorem zdW {fd:FuncData} (T:Txt K mg t) (F:Fun K "joint_locator" "joint_locator" zac t.joint_locator fd):FnOk P w K mg base CX0 5 t.joint_locator fd ["code","rows"] (zdR K):=by
 obtain⟨lR,lC,lG⟩:=T.f_heard_points
 have lJ:=zaI (P:=P) (w:=w) (base:=base) T lC
 obtain⟨pG,mL,mf⟩:=T.f_times_entries
 have nW:=zdV (P:=P) (w:=w) (base:=base) T mL
 obtain⟨ng,lP,lQ⟩:=T.f_first_relation
 have mI:=zb1 (P:=P) (w:=w) (base:=base) T lP
 obtain⟨uV,sF,qu⟩:=T.f_beyond
 have vR:=zkZ (P:=P) (w:=w) (base:=base) T sF
 obtain⟨vS,rP,qh⟩:=T.f_sized
 have uw:=zmF (P:=P) (w:=w) (base:=base) T rP
 refine F.ok zI (fun vs H Q E h=>?_) (fun mh A outer s H vs Q E hr h=>?_)
 ·obtain⟨c,tt,ra,p,k,pl,AH,rws,rfl,_⟩:=h
  rfl
 ·obtain⟨c,tt,ra,p,k,pl,AH,rws,rfl,hc,p9,qW,xS,hn,hp,nV,m8,hok,k0,k1,q⟩:=h
  refine⟨_,#[zd,#[zbd,#[pvx,0],#[zaK,#[zi,#[zf,2,zI.nd,(cb rfl)],#[zi,#[zf,3,zI.nd,(cb rfl)],#[zi,#[zf,4,zI.nd,(am rfl)],#[zD]]]]]],#[zd,#[zaD,5,zI.nd,(am rfl),(CompSc.of (N':=["row","code"]) (ix:=[none,some 0]) (zh zac) ["code","rows","p","k","places","parts","e","needed","relation","power","left"] rfl rfl (by decide +kernel)),#[zam],#[zN,#[pvx,1]],(fun _ _ _ _=>#[zf,0,(show (["row","code"]:List Str).Nodup by decide +kernel),(am rfl)]),(fun _ _ _ _=>#[zw]),(fun _ _ _ _=>#[zo,lJ,(hr.mono (by decide)),T.m_heard_points,lC.kp,lG,#[zy],#[za,#[pvx,1],#[ya,#[pvx,0]]]])],#[zd,#[zq,6,zI.nd,(cb rfl),#[zk8,zis,#[zg]]],#[zd,#[zq,7,zI.nd,(am rfl),#[z9,#[ze]]],#[zd,#[zq,8,zI.nd,(am rfl),#[zbo]],#[zd,#[zez,bI,#[zL,#[zit],#[pvx,8],#[zbo],(zX _)],#[zd,#[zgh,6,zI.nd,(cb rfl),#[zg],zi8],#[zd,(zgL #[zq,9,zI.nd,(cb rfl),#[zl,(@zf8 _ (K) rfl),#[zl,(@znK _),#[zaw,#[ya,#[zg]]],#[pvx,6]],#[zaw,#[ya,#[zg]]]]]),#[zd,#[zci,#[zeG,cF,cU,cV,#[zbL],#[pvx,7],#[ya,#[zV,(CompSc.of (N':=["points","p","power"]) (ix:=[none,some 2,some 9]) (zh zac) ["code","rows","p","k","places","parts","e","needed","relation","power","left"] rfl rfl (by decide +kernel)),#[zam],#[zN,#[pvx,5]],(fun _ _ _ _=>#[zf,0,(show (["points","p","power"]:List Str).Nodup by decide +kernel),(am rfl)]),(fun _ _ _ _=>#[zw]),(fun _ _ _ _=>#[zo,nW,(hr.mono (by decide)),T.m_times_entries,mL.kp,mf,#[zy],#[za,#[pvx,1],#[za,#[pvx,2],#[ya,#[pvx,0]]]]])]]]],#[zn,#[zq,8,zI.nd,(am rfl),#[zo,mI,(hr.mono (by decide)),T.m_first_relation,lP.kp,lQ,#[zy],#[za,#[pvx,2],#[ya,#[zV,(CompSc.of (N':=["rights","k","e"]) (ix:=[none,some 3,some 6]) (zh zac) ["code","rows","p","k","places","parts","e","needed","relation","power","left"] rfl rfl (by decide +kernel)),#[zam],#[zN,#[pvx,7]],(fun _ _ _ _=>#[zf,0,(show (["rights","k","e"]:List Str).Nodup by decide +kernel),(am rfl)]),(fun _ _ _ _=>#[zw]),(fun _ _ _ _=>#[zo,vR,(hr.mono (by decide)),T.m_beyond,sF.kp,qu,#[zy],#[za,#[pvx,0],#[ya,#[zl,#[zO],#[pvx,1],#[pvx,2]]]]])]]]]]]]]]],#[zd,#[zq,10,zI.nd,(cb rfl),#[zo,uw,(hr.mono (by decide)),T.m_sized,rP.kp,qh,#[zy],#[za,#[zaA,#[zao],T.tuple_,fE,#[ya,#[pvx,8]]],#[ya,#[zl,#[zO],#[pvx,6],#[zg]]]]]],#[zn,#[zF,#[zaw,#[za,#[pvx,6],#[za,#[pvx,10],#[ya,#[zV,(CompSc.of (N':=["points","p","left","k","e"]) (ix:=[none,some 2,some 10,some 3,some 6]) (zh zac) ["code","rows","p","k","places","parts","e","needed","relation","power","left"] rfl rfl (by decide +kernel)),#[zam],#[zN,#[pvx,5]],(fun _ _ _ _=>#[zf,0,(show (["points","p","left","k","e"]:List Str).Nodup by decide +kernel),(am rfl)]),(fun _ _ _ _=>#[zw]),(fun _ _ _ _=>#[zo,uw,(hr.mono (by decide)),T.m_sized,rP.kp,qh,#[zy],#[za,#[zo,nW,(hr.mono (by decide)),T.m_times_entries,mL.kp,mf,#[zy],#[za,#[pvx,1],#[za,#[pvx,2],#[ya,#[pvx,0]]]]],#[ya,#[zl,#[zO],#[pvx,3],#[pvx,4]]]]])]]]]]]]]]]]]]],?_⟩
  have o8:=aX
  have rp:=zp hp
  have p0:0 < p:=by lia
  have nY:=qW.length
  obtain⟨lA,sG⟩:∃ lA,lA=rws.map (lI pl):=⟨_,rfl⟩
  have hP:∀ lq∈lA,Pts p lq:=fun lq h=>by
   rw [sG] at h
   obtain⟨rw,h1,rfl⟩:=aB.mp h
   exact zcO nV m8 (hok rw h1)
  have Cj:∀ lq∈lA,lq.length≤16:=fun lq h=>by
   rw [sG] at h
   obtain⟨rw,h1,rfl⟩:=aB.mp h
   exact a8 (zbv pl rw) hn
  have qt:lA.length=rws.length:=by rw [sG,ab]
  refine⟨_,rfl,c,_,rfl,lE.of hc.1,rfl,_,_,rfl,_,_,rfl,_,_,rfl,rfl,?_⟩
  refine (lp rfl ⟨ra,rfl,⟨_,p9⟩,zR (n:=AH.length) (fun i ys H'=>zt H H'∧∃ us:List Addr,ys=us.map V.ref∧zgN H' us (lA.take i)) ⟨fun _ _ e=>e,[],rfl,.nil⟩ ?_ ?_ ?_ ?_⟩)
  ·rintro i ys H1 hi ⟨s1,_⟩
   exact⟨_,.ref AH[i],s1.seq p9,by rw [ah,ai hi]; rfl⟩
  ·rintro ys H1 ⟨s1,_⟩
   exact⟨_,s1.seq p9,by rw [ab]; exact af _⟩
  ·rintro i y ys H1 H2 hi ⟨s1,us,rfl,lO⟩ ⟨rfl,hy⟩
   obtain⟨b,rfl,hb⟩:=zS (hy _ (s1.seq p9))
   obtain⟨rw,Gj,mU,Gk⟩:=Paired.get qW hb
   have qg:=lO.length
   rw [av] at qg
   refine gY (lp rfl (lp rfl (ex7 c tt b p k pl rw ⟨rfl,hc.same s1,⟨lr.of (s1 _ _ mU),Gk⟩,by lia,fun l bs H3 hl3 s3 uT hB=>?_⟩)))
   refine⟨by rw [ab]; lia,s1.trans s3,us++[l],by rw [ao]; rfl,?_⟩
   have hpi:lA[i]? = some (lI pl rw):=by rw [sG,ah,Gj]; rfl
   rw [take_snoc hpi]
   exact bJ (lO.same s3) ⟨bs,uT,hB⟩
  ·rintro ys H1 pa ⟨s1,us,rfl,lO⟩ hpa
   rw [nY,← qt,ba] at lO
   have t2:=zb (o:=.lst (us.map V.ref)) hpa
   have xq:lu H1 pa (.lst (us.map V.ref)) pa=some (.lst (us.map V.ref)):=zc
   have tV:=lO.same t2
   have s2:=s1.trans t2
   generalize lu H1 pa (.lst (us.map V.ref))=H2 at t2 xq tV s2 ⊢
   have qg:=tV.length
   refine (lp rfl ⟨bj _,fun na Fz=>?_⟩)
   have t3:=zb (o:=.lst []) Fz
   refine⟨fun m σ H'=>∃ (n:Nat) (ns:List Addr) (ev:Int) (rel:V) (e9 qP:Option V),σ = [some (.ref c),some (.ref ra),some (.int p),some (.int (k:Int)),some (.ref tt),some (.ref pa),some (.int ev),some (.ref na),some rel,e9,qP]∧zt H2 H'∧H' na=some (.lst (ns.map V.ref))∧NdA p lA na H' ns (aJ n) ∧
    ((rel = .non∧ev=(n:Int) - 1∧m=20 - n∧n≤16∧∀ e',e' < n→Indep p (zcD k e' lA) (zbj p k e' lA))∨(∃ (rl:Addr) (cc:List Int) (mm e:Nat),rel = .ref rl∧ev=(e:Int)∧e≤16∧H' rl=some (.lst (cc.map V.int))∧IsP p (mm+1) cc∧mm < e+1∧gl cc mm=1∧Dep p (zcD k e lA) (zbj p k e lA) cc∧∀ e',e' < e→Indep p (zcD k e' lA) (zbj p k e' lA))),
    ⟨20,0,[],_,_,_,_,rfl,t3,zc,.nil,.inl ⟨rfl,rfl,rfl,by lia,fun _ h=>by lia⟩⟩,?_⟩
   rintro m σ H3 ⟨n,ns,ev,rel,e9,qP,rfl,s3,h3n,Ck,sW⟩
   have Ea:=Ck.length
   rw [aY] at Ea
   rcases sW with ⟨rfl,rfl,rfl,Gm,xt⟩ | ⟨rl,cc,mm,e,rfl,rfl,Cm,h3r,mQ,wR,vL,Gn,xt⟩
   ·refine (lp rfl ⟨rfl,(lp rfl ?_)⟩)
    refine zaU (fun _=>?_) (fun h=>absurd rfl h)
    refine⟨fun σ' H'=>∃ m',m' < 20 - n∧∃ (n:Nat) (ns:List Addr) (ev:Int) (rel:V) (e9 qP:Option V),σ' = [some (.ref c),some (.ref ra),some (.int p),some (.int (k:Int)),some (.ref tt),some (.ref pa),some (.int ev),some (.ref na),some rel,e9,qP]∧zt H2 H'∧H' na=some (.lst (ns.map V.ref))∧NdA p lA na H' ns (aJ n) ∧
     ((rel = .non∧ev=(n:Int) - 1∧m'=20 - n∧n≤16∧∀ e',e' < n→Indep p (zcD k e' lA) (zbj p k e' lA))∨(∃ (rl:Addr) (cc:List Int) (mm e:Nat),rel = .ref rl∧ev=(e:Int)∧e≤16∧H' rl=some (.lst (cc.map V.int))∧IsP p (mm+1) cc∧mm < e+1∧gl cc mm=1∧Dep p (zcD k e lA) (zbj p k e lA) cc∧∀ e',e' < e→Indep p (zcD k e' lA) (zbj p k e' lA))),fun _ _ z=>z,?_⟩
    refine (lp rfl (lD rfl rfl ?_))
    have e1:(n:Int) - 1+1=(n:Int):=by lia
    refine⟨fun σ' H'=>∃ pw:Addr,σ' = [some (.ref c),some (.ref ra),some (.int p),some (.int (k:Int)),some (.ref tt),some (.ref pa),some (.int (n:Int)),some (.ref na),some .non,some (.ref pw),qP]∧zt H3 H'∧lE K H' pw ((unit n).map V.int),?_,?_⟩
    ·refine⟨by show 1≤sizeLine; lia,fun t1 yP=>(lp rfl (ex3 t1 _ ([.int 0]) ⟨rfl,rfl,lE.of zc,by simp,by lia,by lia,by show 1*_≤sizeLine; lia,fun z H4 s4 h4z=>?_⟩))⟩
     rw [e1,bG,zdp] at h4z
     have s34:=(zb (o:=.tup [.int 0]) yP).trans s4
     refine⟨by show 1≤sizeLine; lia,fun t2 vJ=>(ex4 z t2 _ _ ⟨rfl,rfl,zpt (zb vJ) h4z,lE.of zc,by simp,by rw [ab,aU]; show n+1≤sizeLine; lia,fun e0=>?_,fun _ pw Cn=>?_⟩)⟩
     ·have hn0:n=0:=by
       have:=congrArg fe e0
       rw [ab,aU] at this
       exact this
      subst hn0
      exact⟨t2,congrArg (fun v:Int=>[some (V.ref c),some (.ref ra),some (.int p),some (.int (k:Int)),some (.ref tt),some (.ref pa),some (.int v),some (.ref na),some .non,some (.ref t2),qP]) e1,s34.trans (zb vJ),lE.of zc⟩
     ·refine⟨pw,congrArg (fun v:Int=>[some (V.ref c),some (.ref ra),some (.int p),some (.int (k:Int)),some (.ref tt),some (.ref pa),some (.int v),some (.ref na),some .non,some (.ref pw),qP]) e1,(s34.trans (zb vJ)).trans (zb Cn),?_⟩
      have:(unit n).map V.int=(ap n (0:Int)).map V.int++[.int 1]:=by unfold unit; rw [ao]; rfl
      rw [this]
      exact lE.of zc
    ·rintro σ' H4 ⟨pw,rfl,s4,h4p⟩
     have AQ:=s3.trans s4
     have Eb:=AQ _ _ xq
     have vT:=tV.same AQ
     have Gp:=s4 _ _ h3n
     have Gq:=Ck.same s4
     refine (lp rfl ⟨.inl ⟨rfl,_,lr.of Gp⟩,(lp rfl ⟨pa,rfl,⟨_,lr.of Eb⟩,zR (n:=us.length) (fun i ys H'=>zt H4 H'∧∃ ws:List Addr,ys=ws.map V.ref∧zbi H' ws ((lA.take i).map fun lq=>Tp p lq n)) ⟨fun _ _ e=>e,[],rfl,.nil⟩ ?_ ?_ ?_ ?_⟩)⟩)
     ·rintro i ys H5 hi ⟨s5,_⟩
      exact⟨_,.ref us[i],lr.of (s5 _ _ Eb),by rw [ah,ai hi]; rfl⟩
     ·rintro ys H5 ⟨s5,_⟩
      exact⟨_,lr.of (s5 _ _ Eb),by rw [ab]; exact af _⟩
     ·rintro i y ys H5 H6 hi ⟨s5,ws,rfl,sH⟩ ⟨rfl,hy⟩
      obtain⟨b,rfl,hb⟩:=zS (hy _ (lr.of (s5 _ _ Eb)))
      obtain⟨lq,mR,bs,mU,hB⟩:=Paired.get vT hb
      have uj:=sH.length
      rw [ab,av] at uj
      have hm:=aF mR
      refine gY (lp rfl (lp rfl (lp rfl (ex6 p pw b (unit n) bs lq ⟨rfl,zpt s5 h4p,lr.of (s5 _ _ mU),hB.same s5,a8 (Cj lq hm) (by decide),hp,hP lq hm,fun z H7 hz s7 h7z=>?_⟩))))
      refine⟨by rw [ab]; lia,s5.trans s7,ws++[z],by rw [ao]; rfl,?_⟩
      rw [take_snoc mR,ao]
      exact bJ (sH.same s7) h7z
     ·rintro ys H5 D2 ⟨s5,ws,rfl,sH⟩ sj
      rw [qg,ba] at sH
      have t6:=zb (o:=.lst (ws.map V.ref)) sj
      have xW:lu H5 D2 (.lst (ws.map V.ref)) D2=some (.lst (ws.map V.ref)):=zc
      have Ec:D2≠na:=fun e=>by
       have:=s5 _ _ Gp
       rw [← e,sj] at this
       cases this
      have y4:=s5.trans t6
      have Cp:=sH.same t6
      generalize lu H5 D2 (.lst (ws.map V.ref))=H6 at t6 xW y4 Cp ⊢
      have Gr:=y4 _ _ Gp
      have Gs:=Gq.same y4
      refine (ex3 na _ _ ⟨rfl,rfl,Gr,by rw [ab]; lia,?_⟩)
      have Cq:zt H2 (lu H6 na (.lst (ns.map V.ref++[.ref D2]))):=zae (AQ.trans y4) Fz
      have y6:lu H6 na (.lst (ns.map V.ref++[.ref D2])) na=some (.lst ((ns++[D2]).map V.ref)):=by rw [zc,ao]; rfl
      have vU:NdA p lA na (lu H6 na (.lst (ns.map V.ref++[.ref D2]))) (ns++[D2]) (aJ (n+1)):=by
       rw [cp]
       exact bJ (Gs.put Gr) ⟨ws,by rw [zr Ec]; exact xW,Ec,Cp.put Gr⟩
      generalize lu H6 na (.lst (ns.map V.ref++[.ref D2]))=H7 at Cq y6 vU ⊢
      have hn7:=vU.length
      rw [aY] at hn7
      refine (lp rfl (lp rfl ⟨na,rfl,⟨_,lr.of y6⟩,zR (n:=(ns++[D2]).length) (fun i ys H'=>zt H7 H'∧∃ vs:List Addr,ys=vs.map V.ref∧LsA H' vs ((zbj p k n lA).take i)) ⟨fun _ _ e=>e,[],rfl,.nil⟩ ?_ ?_ ?_ ?_⟩))
      ·rintro i ys H8 hi ⟨s8,_⟩
       exact⟨_,.ref (ns++[D2])[i],lr.of (s8 _ _ y6),by rw [ah,ai hi]; rfl⟩
      ·rintro ys H8 ⟨s8,_⟩
       exact⟨_,lr.of (s8 _ _ y6),by rw [ab]; exact af _⟩
      ·rintro i y ys H8 H9 hi ⟨s8,vs,rfl,tE⟩ ⟨rfl,hy⟩
       obtain⟨b,rfl,hb⟩:=zS (hy _ (lr.of (s8 _ _ y6)))
       obtain⟨i',oC,us',mU,_,hT⟩:=Paired.get vU hb
       have qT:i < n+1:=by lia
       rw [cj qT] at oC
       cases oC
       have tf:=tE.length
       rw [av] at tf
       refine gY (lp rfl (lp rfl (lp rfl (lD rfl rfl ⟨b,k+n,us',_,(by show [V.ref b,V.int ((k:Int)+(n:Int))]=_; rw [fN]),lr.of (s8 _ _ mU),hT.same s8,fun j=>?_,fun z Ha hz sa haz=>?_⟩))))
       ·rw [← de,zer hp fun q hq=>hP q (dH hq)]
        refine a8 (ziS (b:=16) fun q hq=>?_) ?_
        ·have:=Cj q (dH hq)
         lia
        ·rw [av]
         lia
       ·refine⟨by rw [ab]; lia,s8.trans sa,vs++[z],by rw [ao]; rfl,?_⟩
        have hvi:(zbj p k n lA)[i]? = some (bey (k+n) (lA.map fun lq=>Tp p lq i)):=by
         unfold zbj
         rw [ah,cj qT]
         rfl
        rw [take_snoc hvi]
        exact bJ (tE.same sa) haz
      ·rintro ys H8 D3 ⟨s8,vs,rfl,tE⟩ tJ
       have Gu:(zbj p k n lA).length=n+1:=by unfold zbj; rw [ab,aY]
       rw [hn7,← Gu,ba] at tE
       have t9:=zb (o:=.lst (vs.map V.ref)) tJ
       have Cf:lu H8 D3 (.lst (vs.map V.ref)) D3=some (.lst (vs.map V.ref)):=zc
       have Cr:=tE.same t9
       have y8:=s8.trans t9
       generalize lu H8 D3 (.lst (vs.map V.ref))=H9 at t9 Cf Cr y8 ⊢
       refine (ex5 p D3 vs (zbj p k n lA) (zcD k n lA) ⟨rfl,Cf,Cr,(fun e=>by (rw [e] at Gu; cases Gu)),by lia,?_,znT hp hP,hp,fun Ha sa hI=>?_,fun l cc mm Ha hl sa hal mQ wR vL hD _=>?_⟩)
       ·refine a8 (ziS (b:=16) fun q hq=>?_) (by lia)
        have:=Cj q hq
        lia
       ·have lT:=zml hp Cj hI
        refine⟨20 - (n+1),by lia,n+1,ns++[D2],_,_,_,_,rfl,Cq.trans (y8.trans sa),(y8.trans sa) _ _ y6,vU.same (y8.trans sa),.inl ⟨rfl,by lia,rfl,by lia,fun e' wy=>?_⟩⟩
        by_cases e:e'=n
        ·subst e; exact hI
        ·exact xt e' (by lia)
       ·exact⟨0,by lia,n+1,ns++[D2],_,_,_,_,rfl,Cq.trans (y8.trans sa),(y8.trans sa) _ _ y6,vU.same (y8.trans sa),.inr (ex4 l cc mm n ⟨rfl,rfl,Gm,hal,mQ,by lia,vL,hD,xt⟩)⟩
   ·refine (lp rfl ⟨rfl,(lp rfl ?_)⟩)
    refine zaU (fun h=>absurd h (by simp)) (fun _=>?_)
    have h3a:=s3 _ _ xq
    have Gv:=tV.same s3
    have rn:cc.length=mm+1:=mQ.1
    refine (lp rfl ⟨rl,(lp rfl (.inl ⟨lr.of h3r,fun tl pv=>?_⟩))⟩)
    have t4:=zb (o:=.tup (cc.map V.int)) pv
    have h4t:lu H3 tl (.tup (cc.map V.int)) tl=some (.tup (cc.map V.int)):=zc
    generalize lu H3 tl (.tup (cc.map V.int))=H4 at t4 h4t ⊢
    refine (lp rfl (lD rfl rfl (ex3 tl (e+1) cc ⟨rfl,h4t,by lia,by lia,fun lf H5 s5 Gw=>?_⟩)))
    have L:=zpu hp (k:=k) hP mQ wR vL Gn xt
    generalize szd cc (e+1)=left at Gw L ⊢
    have Gx:=t4.trans s5
    have Ed:=Gx _ _ h3a
    have qv:=Gv.same Gx
    refine (lp rfl (lp rfl (lp rfl ⟨pa,rfl,⟨_,lr.of Ed⟩,zR (n:=us.length) (fun i ys H'=>zt H5 H'∧∃ ws:List Addr,ys=ws.map V.ref∧zbi H' ws ((lA.take i).map fun lq=>szd (thr p (tmP p left lq)) (k+e))) ⟨fun _ _ e=>e,[],rfl,.nil⟩ ?_ ?_ ?_ ?_⟩)))
    ·rintro i ys H6 hi ⟨s6,_⟩
     exact⟨_,.ref us[i],lr.of (s6 _ _ Ed),by rw [ah,ai hi]; rfl⟩
    ·rintro ys H6 ⟨s6,_⟩
     exact⟨_,lr.of (s6 _ _ Ed),by rw [ab]; exact af _⟩
    ·rintro i y ys H6 H7 hi ⟨s6,ws,rfl,sH⟩ ⟨rfl,hy⟩
     obtain⟨b,rfl,hb⟩:=zS (hy _ (lr.of (s6 _ _ Ed)))
     obtain⟨lq,mR,bs,mU,hB⟩:=Paired.get qv hb
     have uj:=sH.length
     rw [ab,av] at uj
     have hm:=aF mR
     have Gy:=Cj lq hm
     refine gY (lp rfl (lp rfl (lp rfl (ex6 p lf b left bs lq ⟨rfl,lE.of (s6 _ _ Gw),lr.of (s6 _ _ mU),hB.same s6,a8 Gy (by decide),hp,hP lq hm,fun z H8 hz s8 h8z=>?_⟩))))
     refine (lp rfl (lp rfl (lD rfl rfl ⟨z,k+e,_,(by show [V.ref z,V.int ((k:Int)+(e:Int))]=_; rw [fN]),h8z,by lia,by rw [zdf hp (hP lq hm)]; lia,fun x H9 s9 h9x=>?_⟩)))
     refine⟨by rw [ab]; lia,s6.trans (s8.trans s9),ws++[x],by rw [ao]; rfl,?_⟩
     rw [take_snoc mR,ao]
     exact bJ (sH.same (s8.trans s9)) h9x
    ·rintro ys H6 D2 ⟨s6,ws,rfl,sH⟩ sj
     rw [qg,ba] at sH
     have t7:=zb (o:=.lst (ws.map V.ref)) sj
     have vo:lu H6 D2 (.lst (ws.map V.ref)) D2=some (.lst (ws.map V.ref)):=zc
     have vV:=sH.same t7
     have AR:=s6.trans t7
     generalize lu H6 D2 (.lst (ws.map V.ref))=H7 at t7 vo vV AR ⊢
     refine⟨by show 3≤sizeLine; lia,fun z hz=>?_⟩
     have t8:=zb (o:=.tup [.int (e:Int),.ref lf,.ref D2]) hz
     have Cq:=(s2.trans s3).trans (Gx.trans AR)
     exact q z lf D2 ws e left _ _ (Cq.trans t8) zc ((AR.trans t8) _ _ Gw) (t8 _ _ vo) (vV.same t8) Cm (by rw [← sG]; exact L)
theorem zbw:FnScope ["code","row","e","left","rights"] ["code","row"] (zh zbJ):=⟨rfl,rfl,rfl,by decide +kernel,rfl,by decide +kernel,by decide +kernel⟩
theorem zc7 {fd:FuncData} (T:Txt K mg t) (F:Fun K "locator_of" "locator_of" zbJ t.locator_of fd):FnOk P w K mg base CX0 6 t.locator_of fd ["code","row"] (zfA K):=by
 obtain⟨pH,nX,mM⟩:=T.f_joint_locator
 have qa:=zdW (P:=P) (w:=w) (base:=base) T nX
 refine F.ok zbw (fun vs H Q E h=>?_) (fun mh A outer s H vs Q E hr h=>?_)
 ·obtain⟨c,tt,r,p,k,pl,rw,rfl,_⟩:=h
  rfl
 ·obtain⟨c,tt,r,p,k,pl,rw,rfl,hc,p9,nY,hn,hp,nV,m8,tR,k0,k1,q⟩:=h
  refine⟨_,#[zd,#[zbd,#[zo,qa,(hr.mono (by decide)),T.m_joint_locator,nX.kp,mM,#[zy],#[za,#[pvx,0],#[ya,#[z9,#[ya,#[pvx,1]]]]]],#[zaK,#[zi,#[zf,2,zbw.nd,(am rfl)],#[zi,#[zf,3,zbw.nd,(am rfl)],#[zi,#[zf,4,zbw.nd,(am rfl)],#[zD]]]]]],#[zn,#[zF,#[zaw,#[za,#[pvx,2],#[za,#[pvx,3],#[ya,#[zQ,#[zG],#[pvx,4],#[zg]]]]]]]]],?_⟩
  have o8:=aX
  refine (lp rfl (lp rfl ⟨by show 1≤sizeLine; lia,fun ra Ee=>?_⟩))
  have t1:=zb (o:=.lst [.ref r]) Ee
  refine (ex8 c tt ra p k pl ([r]) ([rw]) ⟨rfl,hc.same t1,lr.of zc,.cons ⟨t1 _ _ p9,nY⟩ .nil,(by show 1≤10; decide),hn,hp,nV,m8,fun uD h=>?_,k0,k1,fun z la l3 us e left oV H2 s2 xp Gz Ef hT he L=>?_⟩)
  ·obtain rfl:uD=rw:=by simpa using h
   exact tR
  have hl:=hT.length
  have hr1:oV.length=1:=by rw [L.rt]; rfl
  obtain⟨u0,rfl⟩:∃ u0,us = [u0]:=jk.mp (by lia)
  obtain⟨right,rfl⟩:∃ r0,oV = [r0]:=jk.mp hr1
  obtain⟨r',uv,hu⟩:=Paired.get hT (i:=0) (a:=u0) rfl
  cases uv
  refine⟨z,_,rfl,lE.of xp,rfl,_,_,rfl,_,_,rfl,_,_,rfl,rfl,?_⟩
  refine (lp rfl (lp rfl (lp rfl (ex4 l3 _ _ _ ⟨rfl,rfl,lr.of Ef,rfl,by show 3≤sizeLine; lia,fun y hy=>?_⟩))))
  have ux:=t1.trans s2
  exact q y la u0 e left right _ (ux.trans (zb hy)) zc ((zb hy) _ _ Gz) ((zb hy) _ _ hu) he L
end
end My
end
section
namespace My
open PySem L2 PyProof.Rows
section
variable {P:Program} {w:World} {K:ag} {mg:Str→Option Value} {base:Heap} {t:Adr}
theorem zcv:FnScope ["things","many","chosen","step"] ["things","many"] (zh zbN):=⟨rfl,rfl,rfl,by decide +kernel,rfl,by decide +kernel,by decide +kernel⟩
theorem zi0 {fd:FuncData} (T:Txt K mg t) (F:Fun K "choices" "choices" zbN t.choices fd):FnOk P w K mg base CX0 1 t.choices fd ["things","many"] (ziO K):=by
 refine F.ok zcv (fun vs H Q E h=>?_) (fun mh A outer s H vs Q E hr h=>?_)
 ·obtain⟨a,m,xs,rfl,_⟩:=h
  rfl
 ·obtain⟨a,m,xs,rfl,hS,hx,hm,q⟩:=h
  refine⟨_,#[zd,#[zq,2,zcv.nd,(am rfl),#[z9,#[ya,#[zaw,#[za,#[zg],#[ya,#[z9,#[ze]]]]]]]],#[zd,#[za7,bI,#[zaq,T.range_,#[ya,#[pvx,1]]],#[zf,3,zcv.nd,(am rfl)],#[zn,(@ziN _ _ _ _ _ _ _ _ _ _ _ _ _ _ _ _ _ _ _ _ _ (2) _ _ _ zcv.nd rfl (am rfl) (CompSc.of (N':=["start","picked","at","things"]) (ix:=[none,none,none,some 0]) (zh zbN) ["things","many","chosen","step"] rfl rfl (by decide +kernel)) rfl (zlj (js:=[0,1]) (zeH (js:=[0,1]) (i:=0) (by decide) (zeH (js:=[0,1]) (i:=1) (by decide) (zjh (js:=[0,1]))))) (zcI (js:=[2]) (i:=2) (by decide)) (by decide) (by decide) #[zN,#[pvx,2]] (fun _ _ _ _=>#[zah,(K),2,#[zi,#[zf,0,(show (["start","picked","at","things"]:List Str).Nodup by decide +kernel),(am rfl)],#[zi,#[zf,1,(show (["start","picked","at","things"]:List Str).Nodup by decide +kernel),(am rfl)],#[zD]]]]) (fun _ _ _ _=>#[zw]) (fun _ _ _ _=>(@zkd _ _ _ _ _ _ _ rfl T.range_ #[za,#[pvx,0],#[ya,#[zC,#[zbu,(K)],T.len_,cB,#[ya,#[pvx,3]]]]] (by rfl) (by rfl))) (fun _ _ _ _=>#[zf,2,(show (["start","picked","at","things"]:List Str).Nodup by decide +kernel),(am rfl)]) (fun _ _ _ _=>#[zw]) (fun _ _ _ _=>#[zaw,#[za,#[zl,#[zO],#[pvx,2],#[zg]],#[ya,#[zl,#[zc8],#[pvx,1],#[z9,#[ya,#[zQ,#[zbR,(K)],#[pvx,3],#[pvx,2]]]]]]]]) (by rfl) (by intro _; rfl) (by intros; rfl) (by trivial))]],#[zn,#[zF,#[zV,(CompSc.of (N':=["start","picked"]) (ix:=[none,none]) (zh zbN) ["things","many","chosen","step"] rfl rfl (by decide +kernel)),#[zaC,#[zu,#[zu,#[zan]]]],#[zN,#[pvx,2]],(fun _ _ _ _=>#[zah,(K),2,#[zi,#[zf,0,(show (["start","picked"]:List Str).Nodup by decide +kernel),(am rfl)],#[zi,#[zf,1,(show (["start","picked"]:List Str).Nodup by decide +kernel),(am rfl)],#[zD]]]]),(fun _ _ _ _=>#[zw]),(fun _ _ _ _=>#[pvx,1])]]]]],?_⟩
  have o8:=aX
  refine⟨bj _,fun L0 hL0=>⟨by show 2≤sizeLine; lia,fun T0 hT0=>⟨by show 1≤sizeLine; lia,fun c hc=>?_⟩⟩⟩
  have u0:=zb (o:=.lst []) hL0
  have u1:=zb (o:=.tup [.int 0,.ref L0]) hT0
  have u2:=zb (o:=.lst [.ref T0]) hc
  have Cs:ze1 (lu (lu (lu H L0 (.lst [])) T0 (.tup [.int 0,.ref L0])) c (.lst [.ref T0])) [T0] (chs xs 0):=.cons ⟨L0,u2 _ _ zc,(u1.trans u2) _ _ zc⟩ .nil
  have vK:lu (lu (lu H L0 (.lst [])) T0 (.tup [.int 0,.ref L0])) c (.lst [.ref T0]) c=some (.lst ([T0].map V.ref)):=zc
  have s0:=(u0.trans u1).trans u2
  generalize lu (lu (lu H L0 (.lst [])) T0 (.tup [.int 0,.ref L0])) c (.lst [.ref T0])=H0 at Cs vK s0 ⊢
  refine (lp rfl (lp rfl ⟨by lia,by lia,?_⟩))
  rw [bG]
  refine zca (lo:=0) (n:=m) (fun i σ H'=>∃ (c:Addr) (ts:List Addr) (e3:Option V),σ = [some (.ref a),some (.int m),some (.ref c),e3]∧zt H H'∧H' c=some (.lst (ts.map V.ref))∧ze1 H' ts (chs xs i)) (ex3 c ([T0]) none ⟨rfl,s0,vK,Cs⟩) ?_ ?_
  ·rintro i σ H1 hi ⟨c,ts,e3,rfl,s1,rO,sU⟩
   have rn:=sU.length
   have xP:=zcN (xs:=xs) (i+1) hx
   have Cd:((chs xs i).flatMap (nxt xs)).length≤65536:=xP
   refine (lp rfl ⟨c,rfl,⟨_,lr.of rO⟩,zf5 (n:=ts.length) (fun i' ys H'=>∃ us:List Addr,ys=us.map V.ref∧zt H1 H'∧ze1 H' us (((chs xs i).take i').flatMap (nxt xs))) ⟨[],rfl,fun _ _ e=>e,.nil⟩ ?_ ?_ ?_ ?_⟩)
   ·rintro i' ys H2 oC ⟨us,_,s2,_⟩
    exact⟨_,.ref ts[i'],lr.of (s2 _ _ rO),by rw [ah,ai oC]; rfl⟩
   ·rintro ys H2 ⟨us,_,s2,_⟩
    exact⟨_,lr.of (s2 _ _ rO),by rw [ab]; exact af _⟩
   ·rintro i' y ys H2 H3 oC ⟨us,rfl,s2,lO⟩ ⟨rfl,hy⟩
    obtain⟨tt,rfl,AK⟩:=zS (hy _ (lr.of (s2 _ _ rO)))
    obtain⟨cc,mQ,mU⟩:=Paired.get sU AK
    obtain⟨L,wZ,Aw⟩:=mU.same s2
    have hle:=zpp (aF mQ)
    have m8:=zhU (aF mQ)
    obtain⟨st,pk⟩:=cc
    dsimp only at wZ Aw hle m8
    refine gY2 (lE.of wZ) ?_
    refine (lp rfl (lp rfl ⟨a,xs,rfl,.inl ((s1.trans s2).seq hS),_,_,rfl,⟨by lia,by lia,by lia,by lia⟩,?_⟩))
    have en:((xs.length:Int) - (st:Int)).toNat=xs.length - st:=by lia
    rw [en]
    refine zf5 (n:=xs.length - st) (fun j ys H'=>∃ us:List Addr,ys=us.map V.ref∧zt H3 H'∧ze1 H' us (((chs xs i).take i').flatMap (nxt xs)++(nxt xs (st,pk)).take j)) ⟨us,rfl,fun _ _ e=>e,by rw [dO,bH]; exact lO⟩ (fun j ys H' hj _=>hj) (fun ys H' _=>af _) ?_ ?_
    ·rintro j z ys H4 H5 hj ⟨us,rfl,s4,lO⟩ ⟨rfl,rfl⟩
     obtain⟨x,um⟩:∃ x,xs[st+j]? = some x:=⟨xs[st+j]'(by lia),by simp⟩
     have mU:atI xs ((st:Int)+(j:Int))=some x:=by
      have e:((st+j:Nat):Int)=(st:Int)+j:=by lia
      rw [← e]
      exact zaT um
     have hng:=znC (c:=(st,pk)) um
     have qg:=lO.length
     have hpart:=zkJ (f:=nxt xs) mQ (show j < (nxt xs (st,pk)).length by rw [zgF]; exact hj)
     have Ea:=zgF xs (st,pk)
     refine gY ?_
     refine (lp rfl (lD rfl rfl (lp rfl (lp rfl (lp rfl (ex4 a xs _ x ⟨rfl,rfl,((s1.trans s2).trans s4).seq hS,mU,by show 1≤sizeLine; lia,fun b hb=>?_⟩))))))
     have v1:=zb (o:=.lst [x]) hb
     refine (ex4 L b pk ([x]) ⟨rfl,rfl,(s4.trans v1) _ _ Aw,zc,by show pk.length+1≤sizeLine; lia,fun L2 Ct=>⟨by show 2≤sizeLine; lia,fun T2 wG=>⟨?_,us++[T2],by rw [ao]; rfl,?_,?_⟩⟩⟩)
     ·rw [ab,qg,aq,av]
      lia
     ·exact s4.trans (v1.trans ((zb Ct).trans (zb wG)))
     ·rw [take_snoc hng,← bg]
      refine bJ (lO.same (v1.trans ((zb Ct).trans (zb wG)))) ⟨L2,?_,(zb wG) _ _ zc⟩
      rw [zc]
      show some (HO.tup [.int ((st:Int)+(j:Int)+1),.ref L2])=some (HO.tup [.int ((st+j+1:Nat):Int),.ref L2])
      have e:((st+j+1:Nat):Int)=(st:Int)+j+1:=by lia
      rw [e]
    ·rintro ys H4 ⟨us,rfl,s4,lO⟩
     rw [aP (l:=nxt xs (st,pk)) (by rw [zgF]; exact af _)] at lO
     exact⟨us,rfl,s2.trans s4,by rw [zkK mQ]; exact lO⟩
   ·rintro ys H2 ⟨us,rfl,s2,lO⟩ D hD
    rw [rn,aP (af _)] at lO
    exact (ex3 D us _ ⟨rfl,s1.trans (s2.trans (zb hD)),zc,lO.same (zb hD)⟩)
  ·rintro σ H1 ⟨c,ts,e3,rfl,s1,rO,sU⟩
   have rn:=sU.length
   have xP:=zcN (xs:=xs) m hx
   refine (lp rfl ⟨c,rfl,⟨_,lr.of rO⟩,zR (n:=ts.length) (fun i ys H'=>H'=H1∧∃ us:List Addr,ys=us.map V.ref∧zhV H1 us (((chs xs m).map (·.2)).take i)) ⟨rfl,[],rfl,.nil⟩ ?_ ?_ ?_ ?_⟩)
   ·rintro i ys H2 hi ⟨rfl,_⟩
    exact⟨_,.ref ts[i],lr.of rO,by rw [ah,ai hi]; rfl⟩
   ·rintro ys H2 ⟨rfl,_⟩
    exact⟨_,lr.of rO,by rw [ab]; exact af _⟩
   ·rintro i y ys H2 H3 hi ⟨rfl,us,rfl,lO⟩ ⟨rfl,hy⟩
    obtain⟨tt,rfl,AK⟩:=zS (hy _ (lr.of rO))
    obtain⟨cc,mQ,L,wZ,Aw⟩:=Paired.get sU AK
    have qg:=lO.length
    refine gY2 (lE.of wZ) ⟨_,rfl,?_,rfl,us++[L],by rw [ao]; rfl,?_⟩
    ·rw [ab,qg,av,ab]
     lia
    ·have GA:((chs xs m).map (·.2))[i]? = some cc.2:=by rw [ah,mQ]; rfl
     rw [take_snoc GA]
     exact bJ lO Aw
   ·rintro ys H2 D ⟨rfl,us,rfl,lO⟩ hD
    rw [aP (by rw [ab,rn]; exact af _)] at lO
    exact q D us _ (s1.free hD) (s1.trans (zb hD)) zc (lO.same (zb hD))
theorem zet:FnScope ["code","row","polynomial","p","k","places"] ["code","row","polynomial"] (zh zfd):=⟨rfl,rfl,rfl,by decide +kernel,rfl,by decide +kernel,by decide +kernel⟩
theorem zeu {fd:FuncData} (T:Txt K mg t) (F:Fun K "fits" "fits" zfd t.fits fd):FnOk P w K mg base CX0 2 t.fits fd ["code","row","polynomial"] (znr K):=by
 obtain⟨nc,lL,lN⟩:=T.f_value_at
 have lV:=zb0 (P:=P) (w:=w) (base:=base) T lL
 refine F.ok zet (fun vs H Q E h=>?_) (fun mh A outer s H vs Q E hr h=>?_)
 ·obtain⟨c,tt,ra,po,p,k,pl,mF,rw,rfl,_⟩:=h
  rfl
 ·obtain⟨c,tt,ra,po,p,k,pl,mF,rw,rfl,hc,p9,nY,B4,p0,p1,m8,hn,q⟩:=h
  refine⟨_,#[zd,#[zbd,#[pvx,0],#[zaK,#[zi,#[zf,3,zet.nd,(cb rfl)],#[zi,#[zf,4,zet.nd,(am rfl)],#[zi,#[zf,5,zet.nd,(am rfl)],#[zD]]]]]],#[zn,#[zF,#[zV,(CompSc.of (N':=["at","place","entry","p","polynomial"]) (ix:=[none,none,none,some 3,some 2]) (zh zfd) ["code","row","polynomial","p","k","places"] rfl rfl (by decide +kernel)),#[zaC,#[zu,(@zkk _ _ _ #[zaC,#[zu,#[zu,#[zan]]]] #[zan] ziK)]],(@ziJ _ _ _ _ _ _ _ _ _ _ _ rfl T.enumerate_ rfl T.zip_ #[za,#[pvx,5],#[ya,#[pvx,1]]] (by rfl) (by rfl) (by rfl)),(fun _ _ _ _=>#[zah,(K),2,#[zi,#[zf,0,(show (["at","place","entry","p","polynomial"]:List Str).Nodup by decide +kernel),(am rfl)],#[zi,#[zah,(K),2,#[zi,#[zf,1,(show (["at","place","entry","p","polynomial"]:List Str).Nodup by decide +kernel),(am rfl)],#[zi,#[zf,2,(show (["at","place","entry","p","polynomial"]:List Str).Nodup by decide +kernel),(am rfl)],#[zD]]]],#[zD]]]]),(fun _ _ _ _=>#[zbP,#[zL,#[zeB],#[pvx,2],#[zo,lV,(hr.mono (by decide)),T.m_value_at,lL.kp,lN,#[zy],#[za,#[pvx,3],#[za,#[pvx,4],#[ya,#[pvx,1]]]]],(zX _)]]),(fun _ _ _ _=>#[pvx,0])]]]],?_⟩
  refine⟨_,rfl,c,_,rfl,lE.of hc.1,rfl,_,_,rfl,_,_,rfl,_,_,rfl,rfl,?_⟩
  refine (lp rfl (lp rfl (ex4 tt ra _ _ ⟨rfl,lE.of hc.2,lr.of p9,zR (n:=pl.length) (fun i ys H'=>ys=(zcZ p pl rw mF i).map V.int∧zt H H') ⟨rfl,fun _ _ e=>e⟩ ?_ ?_ ?_ ?_⟩)))
  ·rintro i ys H3 hi ⟨_,s3⟩
   obtain⟨o,ho⟩:∃ o,rw[i]? = some o:=⟨rw[i]'(by lia),by simp⟩
   exact⟨_,_,.int pl[i],o9 o,lE.of (s3 _ _ hc.2),lr.of (s3 _ _ p9),by rw [ah,ai hi]; rfl,by rw [ah,ho]; rfl⟩
  ·rintro ys H3 ⟨_,s3⟩
   exact⟨_,_,lE.of (s3 _ _ hc.2),lr.of (s3 _ _ p9),by rw [ab]⟩
  ·rintro i xx ys H3 H4 hi ⟨rfl,s3⟩ ⟨T1,T2,u,v,AS,wG,me,rfl,rfl,hu,hv⟩
   obtain⟨x,rfl,hx⟩:=zab (hu _ (lE.of (s3 _ _ hc.2)))
   obtain⟨o,rfl,ho⟩:=zeh (hv _ (lr.of (s3 _ _ p9)))
   obtain⟨x0,x1⟩:=m8 x (aF hx)
   have s4:zt H3 (lu (lu H3 T1 (.tup [.int x,o9 o])) T2 (.tup [.int i,.ref T1])):=zae (zb AS) wG
   refine⟨T2,_,rfl,lE.of zc,rfl,_,_,rfl,_,_,rfl,T1,_,rfl,lE.of (by rw [zr me]; exact zc),rfl,_,_,rfl,_,_,rfl,rfl,rfl,?_⟩
   refine (lp rfl (lp rfl (lp rfl (lp rfl (ex4 p x po mF ⟨rfl,.inr (lE.of ((s3.trans s4) _ _ B4)),p0,p1,x0,x1,zlC o _,(lp rfl ?_)⟩)))))
   rw [zfZ,zlD hx ho,ao]
   have lF:=zhF p pl rw mF i
   refine zaU (fun h1=>(lp rfl ⟨zaa (by rw [ab]; lia),?_,s3.trans s4⟩)) (fun h1=>⟨?_,s3.trans s4⟩)
   ·rw [if_pos h1]
    rfl
   ·rw [if_neg h1]
    simp
  ·rintro ys H3 D ⟨rfl,s3⟩ hD
   exact q D _ (s3.free hD) (s3.trans (zb hD)) zc
theorem zj0 {p:Int} {lq:List (Int×Int)} (hP:Pts p lq):lq.map (md p)=lq:=by
 refine (ci fun q hq=>?_).trans (ji _)
 obtain⟨_,_,h1,h2⟩:=hP.rg q hq
 show (q.1,q.2 % p)=q
 rw [cr h1 h2]
theorem zaB:FnScope ["code","points","p","k","places","found","picked"] ["code","points"] (zh za2):=⟨rfl,rfl,rfl,by decide +kernel,rfl,by decide +kernel,by decide +kernel⟩
theorem zcH {fd:FuncData} (T:Txt K mg t) (F:Fun K "all_through" "all_through" za2 t.all_through fd):FnOk P w K mg base CX0 4 t.all_through fd ["code","points"] (ze4 K):=by
 obtain⟨tX,rH,pI⟩:=T.f_choices
 have uW:=zi0 (P:=P) (w:=w) (base:=base) T rH
 obtain⟨oX,mj,mH⟩:=T.f_through
 have nK:=zdi (P:=P) (w:=w) (base:=base) T mj
 refine F.ok zaB (fun vs H Q E h=>?_) (fun mh A outer s H vs Q E hr h=>?_)
 ·obtain⟨c,tt,a,p,k,pl,bs,lq,rfl,_⟩:=h
  rfl
 ·obtain⟨c,tt,a,p,k,pl,bs,lq,rfl,hc,hS,hB,hn,hp,hP,k0,k1,q⟩:=h
  have hu:(A.deeper (envOfC (bW "all_through") (zh za2) s.heap.objs.size t.all_through mh)).units+1 < cLine:=by have:=hr.units; lia
  refine⟨_,#[zd,#[zbd,#[pvx,0],#[zaK,#[zi,#[zf,2,zaB.nd,(am rfl)],#[zi,#[zf,3,zaB.nd,(am rfl)],#[zi,#[zf,4,zaB.nd,(am rfl)],#[zD]]]]]],#[zd,#[zq,5,zaB.nd,(am rfl),(@zlM _ _)],#[zd,#[za7,bI,#[zN,#[zo,uW,(hr.mono (by decide)),T.m_choices,rH.kp,pI,#[zy],#[za,#[pvx,1],#[ya,#[pvx,3]]]]],#[zf,6,zaB.nd,(am rfl)],#[zn,(@zns _ _ _ _ _ _ _ _ _ hu #[pvx,5] #[zo,nK,(hr.mono (by decide)),T.m_through,mj.kp,mH,#[zy],#[za,#[pvx,2],#[ya,#[pvx,6]]]] #[zdX] rfl)]],#[zn,#[zF,#[zC,(@zgE _ rfl),T.sorted_,ki,#[ya,#[pvx,5]]]]]]]],?_⟩
  have o8:=aX
  have rp:=zp hp
  obtain⟨zs,rfl,rfl,hz⟩:=hB.zs
  rw [ab] at hn
  refine⟨_,rfl,c,_,rfl,lE.of hc.1,rfl,_,_,rfl,_,_,rfl,_,_,rfl,rfl,fun D hD=>?_⟩
  have s0:=zb (o:=.dT []) hD
  have Cu:lu H D (.dT []) D=some (.dT []):=zc
  generalize lu H D (.dT [])=H0 at s0 Cu ⊢
  refine (lp rfl (lp rfl (ex3 a k _ ⟨rfl,s0.seq hS,by rw [ab,ab]; lia,by lia,fun l ls H1 hl s1 sg Eg=>?_⟩)))
  have hlD:l≠D:=fun e=>by rw [e,Cu] at hl; cases hl
  rw [bq,zf7 (V.ref ∘ fun z:Addr×Int×Int=>z.1) zs k] at Eg
  have m8:=Eg.length
  rw [ab,ab] at m8
  have xP:=zcN (xs:=zs) k hn
  obtain⟨AU,xu⟩:∃ AU,(chs zs k).map (·.2)=AU:=⟨_,rfl⟩
  rw [xu] at Eg
  have GB:ls.length=AU.length:=by rw [m8,← xu,ab]
  have Cv:H1 D=some (.dT []):=s1 _ _ Cu
  have hid:=zlB H1 D
  refine⟨l,rfl,⟨_,lr.of sg⟩,zbO (K:=K) (a:=l) (xs:=ls.map V.ref) (fun i σ H'=>∃ (lB:List (List Key×V)) (nL:List (List Int)) (e6:Option V),σ = [some (.ref c),some (.ref a),some (.int p),some (.int k),some (.ref tt),some (.ref D),e6] ∧
   zt (hide H1 D) H'∧H' D=some (.dT lB)∧KeysAre lB nL∧nL.Nodup∧nL.length≤i∧∀ x,x∈nL↔∃ zk∈AU.take i,x=thr p (zk.map (·.2)))
   ⟨[],[],none,rfl,hid,Cv,rfl,by simp,af _,fun x=>by simp⟩ (fun i σ H' _ ⟨_,_,_,_,s3,_⟩=>lr.of (s3 _ _ (zei sg hlD))) ?_ ?_⟩
  ·rintro i y σ H2 hy ⟨lB,nL,e6,rfl,s2,AO,yN,nV,pq,n9⟩
   obtain⟨b,rfl,yW⟩:=zS hy
   obtain⟨hi,_⟩:=aD.mp yW
   obtain⟨vk,Cw,tB⟩:=Paired.get Eg yW
   obtain⟨zk,hzk,rfl⟩:∃ zk,AU[i]? = some zk∧vk=zk.map (V.ref ∘ fun z:Addr×Int×Int=>z.1):=by
    rw [ah] at Cw
    cases e:AU[i]? with
    | none=>rw [e] at Cw; cases Cw
    | some zk=>rw [e] at Cw; exact⟨zk,rfl,(aT Cw).symm⟩
   have hbD:b≠D:=fun e=>by rw [e,Cv] at tB; cases tB
   obtain⟨wY,lF⟩:=zdy.mp (by rw [xu]; exact aF hzk:zk∈(chs zs k).map (·.2))
   have wH:Pts p (zk.map (·.2)):=hP.sub (wY.map _)
   have mR:zlx K H2 b (zk.map (·.2)):=by
    refine⟨zk.map (·.1),?_,by rw [ab,ab],fun j b' q' h1 h2=>?_⟩
    ·have:=s2 _ _ (zei tB hbD)
     rw [bq]
     exact lr.of this
    ·rw [ah] at h1 h2
     cases e:zk[j]? with
     | none=>rw [e] at h1; cases h1
     | some z =>
      rw [e] at h1 h2
      cases h1
      cases h2
      have rL:=hz z (wY.subset (aF e))
      have hzD:z.1≠D:=zB rL hD
      exact s2 _ _ (zei ((s0.trans s1) _ _ rL) hzD)
   have hmf:lB.length=nL.length:=by
    have:=congrArg fe yN
    rw [ab,ab] at this
    exact this
   refine (lp rfl (lp rfl (lp rfl (ex3 p b _ ⟨rfl,mR,by rw [ab]; lia,hp,(by rw [zj0 wH]; exact wH),(fun q hq=>by have:=wH.rg q hq; lia),fun tl H3 pv s3 h3=>?_⟩))))
   rw [zj0 wH] at h3
   have h3D:=s3 _ _ AO
   refine⟨D,(lp rfl ⟨zlL.t (k:=(thr p (zk.map (·.2))).map cY) h3D (by rw [h3,bq]; rfl) (by lia),?_⟩)⟩
   obtain⟨uP,m1,m2,m3,m4⟩:=zl8 yN nV (thr p (zk.map (·.2))) (.bl true)
   refine (ex3 _ uP _ ⟨rfl,?_,zc,m1,m2,by lia,fun x=>?_⟩)
   ·refine zae (s2.trans s3) ?_
    unfold hide
    rw [if_pos rfl]
   ·rw [m4 x,n9 x,take_snoc hzk]
    constructor
    ·rintro (⟨GC,h1,h2⟩ | e)
     ·exact⟨GC,aW _ h1,h2⟩
     ·exact⟨zk,aL _ (be.mpr rfl),e⟩
    ·rintro⟨GC,h1,h2⟩
     rcases (bf.mp h1) with h1 | h1
     ·exact .inl ⟨GC,h1,h2⟩
     ·rw [be.mp h1] at h2
      exact .inr h2
  ·rintro σ H2 ⟨lB,nL,e6,rfl,s2,AO,yN,nV,pq,n9⟩
   rw [ab,GB] at n9 pq
   rw [ba] at n9
   rw [← GB,m8] at pq
   have nE:∀ x,x∈nL↔∃ pk∈(chs (zs.map (·.2)) k).map (·.2),x=thr p pk:=fun x=>by
    rw [n9 x,zf7,xu]
    constructor
    ·rintro⟨zk,h1,h2⟩
     exact⟨_,dN h1,h2⟩
    ·rintro⟨pk,h1,h2⟩
     obtain⟨zk,h3,rfl⟩:=aB.mp h1
     exact⟨zk,h3,h2⟩
   have Cy:∀ x∈nL,IsP p k x:=fun x hx=>by
    obtain⟨pk,h1,rfl⟩:=(nE x).mp hx
    exact zjJ hp hP h1
   refine (lp rfl (ex5 D k p lB nL ⟨rfl,AO,yN,fun ms hm=>Cy ms hm,k0,by lia,fun r m7 uv rE Cz hH=>?_⟩))
   have hHs:zt H H2:=fun x u e=>s2 _ _ (zei ((s0.trans s1) _ _ e) (zB e hD))
   have e1:m7.map (fun q=>V.ref q.1)=(m7.map (·.1)).map V.ref:=by rw [bq]; rfl
   rw [e1]
   refine q r (m7.map (·.1)) (m7.map (·.2)) _ (hHs.free uv) (hHs.trans (zb uv)) zc ((zbi.of hH).same (zb uv)) (by rw [rE.length_eq]; lia) (zjL (by lia) (fun x hx=>Cy x (rE.mem_iff.mp hx)) (rE.nodup_iff.mpr nV) ?_) fun x=>?_
   ·rw [cu]
    exact Cz
   ·rw [rE.mem_iff]
    exact nE x
def zgZ (K:ag):Sp:=fun vs H Q _=>∃ (c tt r:Addr) (p:Int) (k:Nat) (T:Int) (pl:List Int) (rw:List (Option Int)),vs = [.ref c,.ref r,.int T]∧zbf H c tt p k pl∧H r=some (.lst (rw.map o9))∧rw.length=pl.length∧pl.length≤16∧p∈zm∧pl.Nodup∧(∀ x∈pl,0≤x∧x < p)∧(∀ z,some z∈rw→0≤z∧z < p)∧1≤k∧k≤100∧(k:Int)≤T ∧
 ∀ (l:Addr) (rs:List Addr) (qs:List (List Int)) (H':Hp),H l=none→zt H H'→H' l=some (.lst (rs.map V.ref))→zbi H' rs qs→zde p k qs→(∀ q,q∈qs↔IsP p k q∧T≤(hits p q (lI pl rw):Int))→Q (.ref l) H'
theorem zb2:FnScope ["code","row","t","k","points","first"] ["code","row","t"] (zh zbS):=⟨rfl,rfl,rfl,by decide +kernel,rfl,by decide +kernel,by decide +kernel⟩
theorem zie {fd:FuncData} (T:Txt K mg t) (F:Fun K "all_near" "all_near" zbS t.all_near fd):FnOk P w K mg base CX0 5 t.all_near fd ["code","row","t"] (zgZ K):=by
 obtain⟨lR,lC,lG⟩:=T.f_heard_points
 have lJ:=zaI (P:=P) (w:=w) (base:=base) T lC
 obtain⟨qi,mN,nj⟩:=T.f_fits
 have oh:=zeu (P:=P) (w:=w) (base:=base) T mN
 obtain⟨oj,l4,l5⟩:=T.f_all_through
 have nk:=zcH (P:=P) (w:=w) (base:=base) T l4
 refine F.ok zb2 (fun vs H Q E h=>?_) (fun mh A outer s H vs Q E hr h=>?_)
 ·obtain⟨c,tt,r,p,k,T',pl,rw,rfl,_⟩:=h
  rfl
 ·obtain⟨c,tt,r,p,k,T',pl,rw,rfl,hc,p9,nY,hn,hp,nV,m8,qW,k0,k1,h1,q⟩:=h
  refine⟨_,#[zd,#[zq,3,zb2.nd,(am rfl),#[zQ,#[zb4],#[pvx,0],#[zg]]],#[zd,#[za0,#[zL,#[zeC],#[pvx,2],#[pvx,3],(zX _)],#[zdJ],#[zag]],#[zd,#[zq,4,zb2.nd,(am rfl),#[zo,lJ,(hr.mono (by decide)),T.m_heard_points,lC.kp,lG,#[zy],#[za,#[pvx,0],#[ya,#[pvx,1]]]]],#[zd,#[za0,#[zL,#[zhk],#[pvx,2],#[zC,#[zE],T.len_,cB,#[ya,#[pvx,4]]],(zX _)],#[zn,#[zF,#[z9,#[ze]]]],#[zag]],#[zd,#[zq,5,zb2.nd,(am rfl),#[zaG,zbt,#[pvx,4],#[zbe],#[zaS,#[zl,#[zO],#[zl,#[zaY],#[zC,#[zE],T.len_,cB,#[ya,#[pvx,4]]],#[pvx,2]],#[pvx,3]]]]],#[zn,#[zF,#[zV,(CompSc.of (N':=["polynomial","code","row","t"]) (ix:=[none,some 0,some 1,some 2]) (zh zbS) ["code","row","t","k","points","first"] rfl rfl (by decide +kernel)),#[zam],#[zN,#[zo,nk,(hr.mono (by decide)),T.m_all_through,l4.kp,l5,#[zy],#[za,#[pvx,0],#[ya,#[pvx,5]]]]],(fun _ _ _ _=>#[zf,0,(show (["polynomial","code","row","t"]:List Str).Nodup by decide +kernel),(am rfl)]),(fun _ _ _ _=>#[zbP,#[zL,#[zlb],#[zC,#[zbu,(K)],T.len_,cB,#[ya,#[zo,oh,(hr.mono (by decide)),T.m_fits,mN.kp,nj,#[zy],#[za,#[pvx,1],#[za,#[pvx,2],#[ya,#[pvx,0]]]]]]],#[pvx,3],(zX _)]]),(fun _ _ _ _=>#[pvx,0])]]]]]]]],?_⟩
  have o8:=aX
  have rp:=zp hp
  have hR:RowAt K H r pl.length rw:=⟨lr.of p9,nY⟩
  have hP:=zcO nV m8 qW
  have Eh:=zbv pl rw
  refine (lp rfl (ex4 c _ _ _ ⟨rfl,rfl,lE.of hc.1,rfl,?_⟩))
  refine (lp rfl (lp rfl (lD rfl rfl (lp rfl ?_))))
  ·refine zaU (fun h=>absurd (of_decide_eq_true h) (by lia)) (fun _=>?_)
   refine (lp rfl (lp rfl (ex7 c tt r p k pl rw ⟨rfl,hc,hR,by lia,fun l bs H1 tj s1 sg hB=>?_⟩)))
   have tD:bs.length=(lI pl rw).length:=hB.length
   refine (lp rfl (lp rfl ⟨l,(lp rfl ⟨.inl (lr.of sg),(lD rfl rfl (lp rfl ?_))⟩)⟩))
   rw [ab]
   refine zaU (fun lT=>?_) (fun oM=>?_)
   ·have lT:=of_decide_eq_true lT
    refine⟨bj _,fun z hz=>q z [] [] _ (s1.free hz) (s1.trans (zb hz)) zc .nil ⟨by simp,.nil⟩ fun x=>?_⟩
    have:=dm (hit p x) (lI pl rw)
    constructor
    ·intro h; cases h
    ·rintro⟨_,h⟩
     unfold hits at h
     lia
   ·have oM:¬ T' > (bs.length:Int):=fun h=>oM (decide_eq_true h)
    obtain⟨tn,rfl⟩:∃ tn:Nat,T'=tn:=⟨T'.toNat,by lia⟩
    refine (lp rfl (lp rfl ⟨l,(lp rfl ⟨.inl (lr.of sg),(lp rfl (lD rfl rfl (lp rfl (lD rfl rfl (lp rfl ⟨l,(lp rfl ⟨lr.of sg,fun z hz=>?_⟩)⟩)))))⟩)⟩))
    have GD:((bs.map V.ref).length:Int) - (tn:Int)+(k:Int)=((bs.length - tn+k:Nat):Int):=by rw [ab]; lia
    rw [GD,zgX,← de]
    have v1:=zb (o:=.lst ((bs.take (bs.length - tn+k)).map V.ref)) hz
    have hzz:lu H1 z (.lst ((bs.take (bs.length - tn+k)).map V.ref)) z=some (.lst ((bs.take (bs.length - tn+k)).map V.ref)):=zc
    have s2:=s1.trans v1
    have pC:=(hB.same v1).take (bs.length - tn+k)
    generalize lu H1 z (.lst ((bs.take (bs.length - tn+k)).map V.ref))=H2 at v1 hzz s2 pC ⊢
    have hPt:Pts p ((lI pl rw).take (bs.length - tn+k)):=hP.sub (bU _ _)
    refine (lp rfl (lp rfl (ex8 c tt z p k pl _ _ ⟨rfl,hc.same s2,lr.of hzz,pC,by rw [av]; lia,hp,hPt,k0,k1,fun l2 rs qs H3 qf s3 uT hT hql sI n9=>?_⟩)))
    have GF:=hT.length
    have qQ:=s2.trans s3
    refine⟨l2,rfl,⟨_,lr.of uT⟩,zR (n:=rs.length) (fun i ys H'=>zt H3 H'∧∃ us:List Addr,ys=us.map V.ref∧us.length≤i∧zbi H' us ((qs.take i).filter fun x=>decide ((tn:Int)≤(hits p x (lI pl rw):Int)))) ⟨fun _ _ e=>e,[],rfl,af _,.nil⟩ ?_ ?_ ?_ ?_⟩
    ·rintro i ys H4 hi ⟨s4,_⟩
     exact⟨_,.ref rs[i],lr.of (s4 _ _ uT),by rw [ah,ai hi]; rfl⟩
    ·rintro ys H4 ⟨s4,_⟩
     exact⟨_,lr.of (s4 _ _ uT),by rw [ab]; exact af _⟩
    ·rintro i y ys H4 H5 hi ⟨s4,us,rfl,qg,lO⟩ ⟨rfl,hy⟩
     obtain⟨rb,rfl,GG⟩:=zS (hy _ (lr.of (s4 _ _ uT)))
     obtain⟨qq,wI,mU⟩:=Paired.get hT GG
     have sk:=qQ.trans s4
     refine (lp rfl (lp rfl (lp rfl (ex9 c tt r rb p k pl qq rw ⟨rfl,hc.same sk,sk _ _ p9,nY,s4 _ _ mU,by lia,by lia,m8,by lia,fun fl H6 Cd s6 h6=>?_⟩))))
     refine⟨fl,(lp rfl ⟨.inl (lr.of h6),(lp rfl (lD rfl rfl (lp rfl ?_)))⟩)⟩
     have ef:((zcZ p pl rw qq pl.length).map V.int).length=hits p qq (lI pl rw):=by rw [ab]; exact zgI nY
     rw [ef]
     have uM:(qs.take (i+1)).filter (fun x=>decide ((tn:Int)≤(hits p x (lI pl rw):Int)))=(qs.take i).filter (fun x=>decide ((tn:Int)≤(hits p x (lI pl rw):Int)))++[qq].filter (fun x=>decide ((tn:Int)≤(hits p x (lI pl rw):Int))):=by rw [take_snoc wI,cS]
     refine zaU (fun h=>(lp rfl ⟨?_,s4.trans s6,us++[rb],by rw [ao]; rfl,by rw [aq]; exact eJ qg,?_⟩)) (fun h=>⟨s4.trans s6,us,rfl,by lia,?_⟩)
     ·rw [ab]; lia
     ·rw [uM,bQ (p:=fun x=>decide ((tn:Int)≤(hits p x (lI pl rw):Int))) h]
      exact bJ (lO.same s6) ((s4.trans s6) _ _ mU)
     ·rw [uM,bR (p:=fun x=>decide ((tn:Int)≤(hits p x (lI pl rw):Int))) h,fc,bH]
      exact lO.same s6
    ·rintro ys H4 D ⟨s4,us,rfl,qg,lO⟩ hD
     rw [GF,ba] at lO
     have sk:=qQ.trans s4
     refine q D us _ _ (sk.free hD) (sk.trans (zb hD)) zc (lO.same (zb hD)) (sI.filter _) fun x=>?_
     rw [bE,n9 x,decide_eq_true_iff]
     constructor
     ·rintro⟨⟨pk,h1,rfl⟩,h2⟩
      exact⟨zjJ hp hPt h1,h2⟩
     ·rintro⟨CA,h2⟩
      exact⟨zdd hp hP CA (t:=tn) (by lia) (by lia) (by lia),h2⟩
def zoe (p:Int) (lq:List (Int×Int)) (H:Hp):List Addr→List (List Int)→Prop:=Paired fun b q=>∃ r,H b=some (.tup [.int (hits p q lq:Int),.ref r])∧H r=some (.tup (q.map V.int))
theorem zoe.same {p:Int} {lq:List (Int×Int)} {H H':Hp} (s:zt H H') {bs:List Addr} {qs:List (List Int)} (h:zoe p lq H bs qs):zoe p lq H' bs qs:=cJ (fun _ _ ⟨r,z1,z2⟩=>⟨r,s _ _ z1,s _ _ z2⟩) h
theorem zmG {p:Int} (hp:p∈zm) {lq pk:List (Int×Int)} (hP:Pts p lq) {k:Nat} (h:pk∈(chs lq k).map (·.2)):k≤hits p (thr p pk) lq:=by
 obtain⟨h1,h2⟩:=zdy.mp h
 obtain⟨_,_,h3⟩:=zc9 hp (hP.sub h1)
 unfold hits
 have hs:=h1.filter (hit p (thr p pk))
 rw [jM.mpr (fun a ha=>by unfold hit; exact decide_eq_true (h3 a ha))] at hs
 have:=hs.length_le
 lia
def zi1 (K:ag):Sp:=fun vs H Q _=>∃ (c tt r:Addr) (p:Int) (k:Nat) (pl:List Int) (rw:List (Option Int)),vs = [.ref c,.ref r]∧zbf H c tt p k pl∧H r=some (.lst (rw.map o9))∧rw.length=pl.length∧pl.length≤16∧p∈zm∧pl.Nodup∧(∀ x∈pl,0≤x∧x < p)∧(∀ z,some z∈rw→0≤z∧z < p)∧1≤k∧k≤100 ∧
 k≤(lI pl rw).length∧∀ (z l:Addr) (rs:List Addr) (qs:List (List Int)) (M:Nat) (H':Hp),H z=none→H l=none→zt H H'→H' z=some (.tup [.int (M:Int),.ref l])→H' l=some (.lst (rs.map V.ref))→zbi H' rs qs→qs.length≤65536→zde p k qs→k≤M→(∃ q,IsP p k q∧hits p q (lI pl rw)=M)→(∀ q,IsP p k q→hits p q (lI pl rw)≤M)→(∀ q,q∈qs↔IsP p k q∧hits p q (lI pl rw)=M)→Q (.ref z) H'
theorem zbT:FnScope ["code","row","k","points","counted","most"] ["code","row"] (zh zbq):=⟨rfl,rfl,rfl,by decide +kernel,rfl,by decide +kernel,by decide +kernel⟩
theorem zi2 {fd:FuncData} (T:Txt K mg t) (F:Fun K "nearest" "nearest" zbq t.nearest fd):FnOk P w K mg base CX0 5 t.nearest fd ["code","row"] (zi1 K):=by
 obtain⟨lR,lC,lG⟩:=T.f_heard_points
 have lJ:=zaI (P:=P) (w:=w) (base:=base) T lC
 obtain⟨oj,l4,l5⟩:=T.f_all_through
 have nk:=zcH (P:=P) (w:=w) (base:=base) T l4
 obtain⟨qi,mN,nj⟩:=T.f_fits
 have oh:=zeu (P:=P) (w:=w) (base:=base) T mN
 refine F.ok zbT (fun vs H Q E h=>?_) (fun mh A outer s H vs Q E hr h=>?_)
 ·obtain⟨c,tt,r,p,k,pl,rw,rfl,_⟩:=h
  rfl
 ·obtain⟨c,tt,r,p,k,pl,rw,rfl,hc,p9,nY,hn,hp,nV,m8,qW,k0,k1,h1,q⟩:=h
  refine⟨_,#[zd,#[zq,2,zbT.nd,(am rfl),#[zQ,#[zb4],#[pvx,0],#[zg]]],#[zd,#[zq,3,zbT.nd,(am rfl),#[zo,lJ,(hr.mono (by decide)),T.m_heard_points,lC.kp,lG,#[zy],#[za,#[pvx,0],#[ya,#[pvx,1]]]]],#[zd,#[za0,#[zL,#[zeC],#[zC,#[zE],T.len_,cB,#[ya,#[pvx,3]]],#[pvx,2],(zX _)],#[zdJ],#[zag]],#[zd,#[zaD,4,zbT.nd,(am rfl),(CompSc.of (N':=["polynomial","code","row"]) (ix:=[none,some 0,some 1]) (zh zbq) ["code","row","k","points","counted","most"] rfl rfl (by decide +kernel)),#[zam],#[zN,#[zo,nk,(hr.mono (by decide)),T.m_all_through,l4.kp,l5,#[zy],#[za,#[pvx,0],#[ya,#[pvx,3]]]]],(fun _ _ _ _=>#[zf,0,(show (["polynomial","code","row"]:List Str).Nodup by decide +kernel),(am rfl)]),(fun _ _ _ _=>#[zw]),(fun _ _ _ _=>#[zaw,#[za,#[zC,#[zbu,(K)],T.len_,cB,#[ya,#[zo,oh,(hr.mono (by decide)),T.m_fits,mN.kp,nj,#[zy],#[za,#[pvx,1],#[za,#[pvx,2],#[ya,#[pvx,0]]]]]]],#[ya,#[pvx,0]]]])],#[zd,#[zq,5,zbT.nd,(cb rfl),#[zC,#[zcR],T.max_,kE,#[ya,#[zV,(CompSc.of (N':=["many","polynomial"]) (ix:=[none,none]) (zh zbq) ["code","row","k","points","counted","most"] rfl rfl (by decide +kernel)),#[zaC,#[zu,#[zu,#[zan]]]],#[zN,#[pvx,4]],(fun _ _ _ _=>#[zah,(K),2,#[zi,#[zf,0,(show (["many","polynomial"]:List Str).Nodup by decide +kernel),(am rfl)],#[zi,#[zf,1,(show (["many","polynomial"]:List Str).Nodup by decide +kernel),(am rfl)],#[zD]]]]),(fun _ _ _ _=>#[zw]),(fun _ _ _ _=>#[pvx,0])]]]],#[zn,#[zF,#[zaw,#[za,#[pvx,5],#[ya,#[zV,(CompSc.of (N':=["many","polynomial","most"]) (ix:=[none,none,some 5]) (zh zbq) ["code","row","k","points","counted","most"] rfl rfl (by decide +kernel)),#[zaC,#[zu,#[zu,#[zan]]]],#[zN,#[pvx,4]],(fun _ _ _ _=>#[zah,(K),2,#[zi,#[zf,0,(show (["many","polynomial","most"]:List Str).Nodup by decide +kernel),(am rfl)],#[zi,#[zf,1,(show (["many","polynomial","most"]:List Str).Nodup by decide +kernel),(am rfl)],#[zD]]]]),(fun _ _ _ _=>#[zbP,#[zL,#[zeB],#[pvx,0],#[pvx,2],(zX _)]]),(fun _ _ _ _=>#[pvx,1])]]]]]]]]]]],?_⟩
  have o8:=aX
  have rp:=zp hp
  have hR:RowAt K H r pl.length rw:=⟨lr.of p9,nY⟩
  have hP:=zcO nV m8 qW
  have Eh:=zbv pl rw
  refine (lp rfl (ex4 c _ _ _ ⟨rfl,rfl,lE.of hc.1,rfl,?_⟩))
  refine (lp rfl (lp rfl (ex7 c tt r p k pl rw ⟨rfl,hc,hR,by lia,fun l bs H1 tj s1 sg hB=>?_⟩)))
  have tD:bs.length=(lI pl rw).length:=hB.length
  refine (lp rfl ⟨l,(lp rfl ⟨.inl (lr.of sg),(lp rfl (lD rfl rfl (lp rfl ?_)))⟩)⟩)
  rw [ab]
  refine zaU (fun h=>absurd (of_decide_eq_true h) (by lia)) (fun _=>?_)
  refine (lp rfl (lp rfl (ex8 c tt l p k pl _ _ ⟨rfl,hc.same s1,lr.of sg,hB,by lia,hp,hP,k0,k1,fun l2 rs qs H3 qf s3 uT hT hql sI n9=>?_⟩)))
  have GF:=hT.length
  have qQ:=s1.trans s3
  have me:qs≠[]:=fun e=>by
   have hm:thr p ((lI pl rw).take k)∈qs:=(n9 _).mpr ⟨(lI pl rw).take k,zdy.mpr ⟨bU _ _,by rw [av]; lia⟩,rfl⟩
   rw [e] at hm
   cases hm
  refine⟨l2,rfl,⟨_,lr.of uT⟩,zR (n:=rs.length) (fun i ys H'=>zt H3 H'∧∃ us:List Addr,ys=us.map V.ref∧zoe p (lI pl rw) H' us (qs.take i)) ⟨fun _ _ e=>e,[],rfl,.nil⟩ ?_ ?_ ?_ ?_⟩
  ·rintro i ys H4 hi ⟨s4,_⟩
   exact⟨_,.ref rs[i],lr.of (s4 _ _ uT),by rw [ah,ai hi]; rfl⟩
  ·rintro ys H4 ⟨s4,_⟩
   exact⟨_,lr.of (s4 _ _ uT),by rw [ab]; exact af _⟩
  ·rintro i y ys H4 H5 hi ⟨s4,us,rfl,lO⟩ ⟨rfl,hy⟩
   obtain⟨rb,rfl,GG⟩:=zS (hy _ (lr.of (s4 _ _ uT)))
   obtain⟨qq,wI,mU⟩:=Paired.get hT GG
   have sk:=qQ.trans s4
   have qg:=lO.length
   rw [av] at qg
   refine gY (lp rfl (lp rfl (lp rfl (ex9 c tt r rb p k pl qq rw ⟨rfl,hc.same sk,sk _ _ p9,nY,s4 _ _ mU,by lia,by lia,m8,by lia,fun fl H6 Cd s6 h6=>?_⟩))))
   refine⟨fl,(lp rfl ⟨.inl (lr.of h6),(lp rfl ⟨by show 2≤sizeLine; lia,fun z hz=>?_⟩)⟩)⟩
   have ef:((zcZ p pl rw qq pl.length).map V.int).length=hits p qq (lI pl rw):=by rw [ab]; exact zgI nY
   rw [ef]
   have s7:=zb (o:=.tup [.int (hits p qq (lI pl rw):Int),.ref rb]) hz
   refine⟨by rw [ab]; lia,s4.trans (s6.trans s7),us++[z],by rw [ao]; rfl,?_⟩
   rw [take_snoc wI]
   exact bJ (lO.same (s6.trans s7)) ⟨rb,zc,(s4.trans (s6.trans s7)) _ _ mU⟩
  ·rintro ys H4 D ⟨s4,us,rfl,lO⟩ hD
   rw [GF,ba] at lO
   have v5:=zb (o:=.lst (us.map V.ref)) hD
   have xv:lu H4 D (.lst (us.map V.ref)) D=some (.lst (us.map V.ref)):=zc
   have qv:=lO.same v5
   have AN:=(qQ.trans s4).trans v5
   generalize lu H4 D (.lst (us.map V.ref))=H5 at v5 xv qv AN ⊢
   have GH:=qv.length
   refine (lp rfl ⟨D,rfl,⟨_,lr.of xv⟩,zR (n:=us.length) (fun i ys H'=>H'=H5∧ys=((qs.take i).map fun x=>(hits p x (lI pl rw):Int)).map V.int) ⟨rfl,rfl⟩ ?_ ?_ ?_ ?_⟩)
   ·rintro i ys H' hi ⟨rfl,_⟩
    exact⟨_,.ref us[i],lr.of xv,by rw [ah,ai hi]; rfl⟩
   ·rintro ys H' ⟨rfl,_⟩
    exact⟨_,lr.of xv,by rw [ab]; exact af _⟩
   ·rintro i y ys H' H6 hi ⟨rfl,rfl⟩ ⟨rfl,hy⟩
    obtain⟨b,rfl,hb⟩:=zS (hy _ (lr.of xv))
    obtain⟨qq,wI,rb,mU,CB⟩:=Paired.get qv hb
    refine gY2 (lE.of mU) ⟨_,rfl,?_,rfl,?_⟩
    ·rw [ab,ab,av]; lia
    ·rw [take_snoc wI,ao,ao]; rfl
   ·rintro ys H' D2 ⟨rfl,rfl⟩ sj
    rw [GH,ba]
    have v6:=zb (o:=.lst ((qs.map fun x=>(hits p x (lI pl rw):Int)).map V.int)) sj
    have h6d:lu H' D2 (.lst ((qs.map fun x=>(hits p x (lI pl rw):Int)).map V.int)) D2=_:=zc
    refine⟨D2,(lp rfl ⟨lr.of h6d,fun e=>me (List.map_eq_nil_iff.mp e),fun M hM1 hM2=>?_⟩)⟩
    have xW:=v6 _ _ xv
    have xw:=qv.same v6
    have GI:=AN.trans v6
    generalize lu H' D2 (.lst ((qs.map fun x=>(hits p x (lI pl rw):Int)).map V.int))=H6 at v6 h6d xW xw GI ⊢
    obtain⟨qM,hqM,rfl⟩:=aB.mp hM1
    obtain⟨pM,hpM,eM⟩:=(n9 qM).mp hqM
    have hkM:k≤hits p qM (lI pl rw):=by rw [eM]; exact zmG hp hP hpM
    have nE:∀ x,IsP p k x→k≤hits p x (lI pl rw)→x∈qs:=fun x hx hk=>by
     obtain⟨pk,h1,h2⟩:=zdd hp hP (n:=(lI pl rw).length) hx (af k) (by lia) hk
     rw [ba] at h1
     exact (n9 x).mpr ⟨pk,h1,h2⟩
    have xX:∀ x,IsP p k x→hits p x (lI pl rw)≤hits p qM (lI pl rw):=fun x hx=>by
     by_cases hk:k≤hits p x (lI pl rw)
     ·have:=hM2 _ (aB.mpr ⟨x,nE x hx hk,rfl⟩)
      lia
     ·lia
    have GJ:IsP p k qM:=sI.1 qM hqM
    have hex:∃ x,IsP p k x∧hits p x (lI pl rw)=hits p qM (lI pl rw):=⟨qM,GJ,rfl⟩
    generalize hits p qM (lI pl rw)=M at hkM xX hex ⊢
    refine (lp rfl (lp rfl ⟨D,rfl,⟨_,lr.of xW⟩,zR (n:=us.length) (fun i ys H'=>H'=H6∧∃ ws:List Addr,ys=ws.map V.ref∧ws.length≤i∧zbi H6 ws ((qs.take i).filter fun x=>decide (hits p x (lI pl rw)=M))) ⟨rfl,[],rfl,af _,.nil⟩ ?_ ?_ ?_ ?_⟩))
    ·rintro i ys H' hi ⟨rfl,_⟩
     exact⟨_,.ref us[i],lr.of xW,by rw [ah,ai hi]; rfl⟩
    ·rintro ys H' ⟨rfl,_⟩
     exact⟨_,lr.of xW,by rw [ab]; exact af _⟩
    ·rintro i y ys H' H7 hi ⟨rfl,ws,rfl,uj,sH⟩ ⟨rfl,hy⟩
     obtain⟨b,rfl,hb⟩:=zS (hy _ (lr.of xW))
     obtain⟨qq,wI,rb,mU,CB⟩:=Paired.get xw hb
     have uM:(qs.take (i+1)).filter (fun x=>decide (hits p x (lI pl rw)=M))=(qs.take i).filter (fun x=>decide (hits p x (lI pl rw)=M))++[qq].filter (fun x=>decide (hits p x (lI pl rw)=M)):=by rw [take_snoc wI,cS]
     refine⟨b,_,rfl,lE.of mU,rfl,_,_,rfl,_,_,rfl,rfl,?_⟩
     refine (lp rfl (lp rfl ?_))
     refine⟨rfl,(lp rfl ?_)⟩
     have eD:decide (V.int (hits p qq (lI pl rw):Int)=V.int (M:Int))=decide (hits p qq (lI pl rw)=M):=by
      by_cases h:hits p qq (lI pl rw)=M
      ·rw [h]; simp
      ·rw [decide_eq_false h,decide_eq_false fun e=>h (by injection e with e; lia)]
     rw [eD]
     refine zaU (fun h=>(lp rfl ⟨?_,rfl,ws++[rb],by rw [ao]; rfl,by rw [aq]; exact eJ uj,?_⟩)) (fun h=>⟨rfl,ws,rfl,by lia,?_⟩)
     ·rw [ab]; lia
     ·rw [uM,bQ (p:=fun x=>decide (hits p x (lI pl rw)=M)) h]
      exact bJ sH CB
     ·rw [uM,bR (p:=fun x=>decide (hits p x (lI pl rw)=M)) h,fc,bH]
      exact sH
    ·rintro ys H' D3 ⟨rfl,ws,rfl,uj,sH⟩ tJ
     rw [GH,ba] at sH
     refine⟨by show 2≤sizeLine; lia,fun z hz=>?_⟩
     have v7:=zb (o:=.lst (ws.map V.ref)) tJ
     have h7d:lu H' D3 (.lst (ws.map V.ref)) D3=some (.lst (ws.map V.ref)):=zc
     have vV:=sH.same v7
     have y9:=GI.trans v7
     generalize lu H' D3 (.lst (ws.map V.ref))=H7 at v7 h7d vV y9 hz ⊢
     have v8:=zb (o:=.tup [.int (M:Int),.ref D3]) hz
     refine q z D3 ws _ M _ (y9.free hz) (GI.free tJ) (y9.trans v8) zc (v8 _ _ h7d) (vV.same v8) (a8 (dm _ _) hql) (sI.filter _) hkM hex xX fun x=>?_
     rw [bE,decide_eq_true_iff]
     constructor
     ·rintro⟨h1,h2⟩
      exact⟨sI.1 x h1,h2⟩
     ·rintro⟨h1,h2⟩
      exact⟨nE x h1 (by lia),h2⟩
end
end My
end
section
namespace My
open PySem L2 PyProof.Rows
section
variable {p:Int} {k:Nat} {lq:List (Int×Int)} {f:List Int}
def zdk (p:Int) (f:List Int) (lq:List (Int×Int)):List Int:=(lq.filter fun a=>!hit p f a).map (·.1)
theorem zcY (p:Int) (f:List Int) (lq:List (Int×Int)):hits p f lq+(zdk p f lq).length=lq.length:=by
 unfold hits zdk
 rw [ab]
 induction lq with
 | nil=>rfl
 | cons a l ih =>
  cases h:hit p f a
  ·rw [bR (by simp [h]),bQ (by simp [h]),bn,bn]
   lia
  ·rw [bQ h,bR (by simp [h]),bn,bn]
   lia
theorem zof (hp:p∈zm) (hf:IsP p k f):Good p k (zdk p f lq).length [lq] (zc5 p (zdk p f lq)):=by
 have rp:=zp hp
 intro q hq
 obtain rfl:q=lq:=by simpa using hq
 have hw:=ze9 hp (zdk p f q)
 refine⟨(zdg f (zc5 p (zdk p f q)) (k+(zdk p f q).length) ((zdk p f q).length+1)).map (· % p),⟨by rw [ab]; unfold zdg; rw [ab,aY],fun c hc=>?_⟩,fun a ha=>?_⟩
 ·obtain⟨d,_,rfl⟩:=aB.mp hc
  exact⟨aG _ (by lia),az _ (by lia)⟩
 ·refine Cg.eq ?_ (zai (by lia) _) (zaj (by lia) _) (aG _ (by lia)) (az _ (by lia))
  refine (zdS _).trans ((ziU (by rw [hf.1]; exact af _) (by rw [hw.1]; exact af _)).trans (Cg.trans ?_ (Cg.emod _ _).symm))
  cases hh:hit p f a
  ·have hz:Cg p (zj p a.1 (zc5 p (zdk p f q))) 0:=(zgO _).trans (Cg.of_eq (ze8 (aB.mpr ⟨a,bE.mpr ⟨ha,by rw [hh]; rfl⟩,rfl⟩)))
   exact (hz.mul (Cg.refl p _)).trans ((Cg.of_eq (by lia)).trans (hz.mul (Cg.refl p a.2)).symm)
  ·have:zj p a.1 f=a.2:=of_decide_eq_true hh
   rw [this]
   exact Cg.refl _ _
theorem zqo (hP:Pts p lq) {a b:Int×Int} (ha:a∈lq) (hb:b∈lq) (e:a.1=b.1):a=b:=by
 obtain⟨i,hi⟩:=cW ha
 (obtain⟨j,hj⟩:=cW hb)
 have h1:(lq.map (·.1))[i]? = some a.1:=by rw [ah,hi]; rfl
 have h2:(lq.map (·.1))[j]? = some b.1:=by rw [ah,hj]; rfl
 have p7:i=j:=(List.getElem?_inj (aD.mp h1).1 hP.nd).mp (by rw [h1,h2,e])
 subst p7
 rw [hi] at hj
 exact aT hj
theorem zmH (hp:p∈zm) (hP:Pts p lq) (lT:(zdk p f lq).length < lq.length):∃ i,gl (zc5 p (zdk p f lq)) i≠0:=by
 have rp:=zp hp
 refine du fun Bh=>?_
 have nE:∀ i,gl (zc5 p (zdk p f lq)) i=0:=fun i=>du fun h=>Bh ⟨i,h⟩
 have hs:=zcY p f lq
 have xj:0 < (lq.filter (hit p f)).length:=by unfold hits at hs; lia
 obtain⟨a,ha⟩:=List.exists_mem_of_length_pos xj
 obtain⟨h1,h2⟩:=bE.mp ha
 obtain⟨x0,x1,_⟩:=hP.rg a h1
 refine zh7 hp ⟨x0,x1⟩ (xs:=zdk p f lq) (fun x hx=>?_) ((zgO (zdk p f lq)).symm.trans (ze7 fun c hc=>?_))
 ·obtain⟨b,hb,rfl⟩:=aB.mp hx
  obtain⟨b1,b2⟩:=bE.mp hb
  obtain⟨y0,y1,_⟩:=hP.rg b b1
  refine⟨y0,y1,fun e=>?_⟩
  have Av:=zqo hP b1 h1 e
  rw [Av,h2] at b2
  cases b2
 ·obtain⟨j,hj⟩:=cW hc
  have:=nE j
  rw [zbW hj] at this
  exact Cg.of_eq this
theorem zj1 (hp:p∈zm) (hP:Pts p lq) (hf:IsP p k f) (hk:1≤k) (hh:lq.length+k≤2*hits p f lq) {e:Nat} {left right:List Int} (L:LocOk p k [lq] e left [right]):e≤(zdk p f lq).length:=by
 have hs:=zcY p f lq
 refine fA fun lT=>?_
 obtain⟨i,hi⟩:=zmH hp hP (f:=f) (by lia)
 exact hi (L.mn _ lT _ (ze9 hp _) (zof hp hf) i)
theorem zi3 (hp:p∈zm) (hP:Pts p lq) (hf:IsP p k f) (hk:1≤k) (hh:lq.length+k≤2*hits p f lq) {e:Nat} {left right:List Int} (L:LocOk p k [lq] e left [right]) (hr:IsP p (k+e) right) (wF:∀ a∈lq,zj p a.1 right=zj p a.1 left*a.2 % p) (z:Int):zj p z right=zj p z left*zj p z f % p:=by
 have rp:=zp hp
 have he:=zj1 hp hP hf hk hh L
 have hs:=zcY p f lq
 have hl:=L.lf
 have hC:(zdg f left (k+e) (e+1)).length=k+e:=by unfold zdg; rw [ab,aY]
 have hme:∀ z,Cg p (zj p z (zdg f left (k+e) (e+1))) (zj p z left*zj p z f):=fun z=>ziU (by rw [hf.1]; exact af _) (by rw [hl.1]; exact af _)
 have hD:=zcr hp (k+e) (a7 (· - ·) right (zdg f left (k+e) (e+1))) ((lq.filter (hit p f)).map (·.1)) (by rw [cK,hC,hr.1,Nat.min_self]) (by rw [ab]; unfold hits at hs hh; lia)
  ((c6.map _).nodup hP.nd) (fun x hx=>by
   obtain⟨a,ha,rfl⟩:=aB.mp hx
   have:=hP.rg a (bE.mp ha).1
   exact⟨this.1,this.2.1⟩) fun x hx=>by
   obtain⟨a,ha,rfl⟩:=aB.mp hx
   obtain⟨h1,h2⟩:=bE.mp ha
   have h3:=wF a h1
   have h4:zj p a.1 f=a.2:=of_decide_eq_true h2
   rw [← h4] at h3
   refine (zdx (by rw [hr.1,hC])).trans ?_
   rw [h3]
   exact ((Cg.emod _ _).sub (hme _)).trans (Cg.of_eq (by lia))
 have hz:=ze7 (z:=z) hD
 have h4:=(zdx (p:=p) (x:=z) (a:=right) (b:=zdg f left (k+e) (e+1)) (by rw [hr.1,hC])).symm.trans hz
 refine Cg.eq ?_ (zai (by lia) _) (zaj (by lia) _) (aG _ (by lia)) (az _ (by lia))
 have h5:=h4.add (hme z)
 exact (Cg.of_eq (by lia)).trans (h5.trans ((Cg.of_eq (by lia)).trans (Cg.emod _ _).symm))
def zdF (p:Int) (left:List Int) (lq:List (Int×Int)):List (Int×Int):=lq.filter fun a=>decide (zj p a.1 left≠0)
theorem zmI (hp:p∈zm) (hP:Pts p lq) (hf:IsP p k f) (hk:1≤k) (hh:lq.length+k≤2*hits p f lq) {e:Nat} {left right:List Int} (L:LocOk p k [lq] e left [right]) (hr:IsP p (k+e) right) (wF:∀ a∈lq,zj p a.1 right=zj p a.1 left*a.2 % p):∀ a∈zdF p left lq,zj p a.1 f=a.2:=fun a ha=>by
 have rp:=zp hp
 obtain⟨h1,h2⟩:=bE.mp ha
 have h2:zj p a.1 left≠0:=by simpa using h2
 have h3:=wF a h1
 rw [zi3 hp hP hf hk hh L hr wF] at h3
 have h4:Cg p (zj p a.1 left*zj p a.1 f) (zj p a.1 left*a.2):=Cg.of_mod h3
 have h5:Cg p (zj p a.1 left*(zj p a.1 f - a.2)) 0:=by
  have:=h4.sub (Cg.refl p (zj p a.1 left*a.2))
  exact (Cg.of_eq (by rw [Int.mul_sub])).trans (this.trans (Cg.of_eq (by lia)))
 have v0:=zai (x:=a.1) (show 0 < p by lia) left
 have v1:=zaj (x:=a.1) (show 0 < p by lia) left
 have h6:=zdO hp (a:=zj p a.1 left) (by rw [cr v0 v1]; exact h2) h5
 have h7:Cg p (zj p a.1 f) a.2:=by
  have:=h6.add (Cg.refl p a.2)
  exact (Cg.of_eq (by lia)).trans (this.trans (Cg.of_eq (by lia)))
 obtain⟨_,_,y0,y1⟩:=hP.rg a h1
 exact h7.eq (zai (by lia) _) (zaj (by lia) _) y0 y1
theorem zk0 (hp:p∈zm) (hP:Pts p lq) {e:Nat} {left:List Int} (hl:IsP p (e+1) left) (hnz:∃ i,gl left i≠0):lq.length≤(zdF p left lq).length+e:=by
 have rp:=zp hp
 have hs:(zdF p left lq).length+(lq.filter fun a=>decide (zj p a.1 left=0)).length=lq.length:=by
  unfold zdF
  clear hP
  induction lq with
  | nil=>rfl
  | cons a l ih =>
   by_cases h:zj p a.1 left=0
   ·rw [bR (by simp [h]),bQ (by simp [h]),bn,bn]
    lia
   ·rw [bQ (by simp [h]),bR (by simp [h]),bn,bn]
    lia
 refine fA fun lT=>?_
 have h:=zcr hp (e+1) left ((lq.filter fun a=>decide (zj p a.1 left=0)).map (·.1)) hl.1 (by rw [ab]; lia) ((c6.map _).nodup hP.nd) (fun x hx=>by
  obtain⟨a,ha,rfl⟩:=aB.mp hx
  have:=hP.rg a (bE.mp ha).1
  exact⟨this.1,this.2.1⟩) fun x hx=>by
  obtain⟨a,ha,rfl⟩:=aB.mp hx
  exact Cg.of_eq (by simpa using (bE.mp ha).2)
 obtain⟨i,hi⟩:=hnz
 refine hi ?_
 by_cases B0:i < left.length
 ·have hm:=aF (zbp B0)
  obtain⟨c0,c1⟩:=hl.2 _ hm
  exact (h _ hm).eq c0 c1 (bP _) (by lia)
 ·exact zaZ (by lia)
theorem zog (hp:p∈zm) (hP:Pts p lq) (hf:IsP p k f) (hk:1≤k) (hh:lq.length+k≤2*hits p f lq) {e:Nat} {left right:List Int} (L:LocOk p k [lq] e left [right]) (hr:IsP p (k+e) right) (wF:∀ a∈lq,zj p a.1 right=zj p a.1 left*a.2 % p) :
  k≤(zdF p left lq).length∧f=thr p ((zdF p left lq).take k):=by
 have he:=zj1 hp hP hf hk hh L
 have hs:=zcY p f lq
 have hm:=zk0 hp hP L.lf L.nz
 have uF:k≤(zdF p left lq).length:=by lia
 refine⟨uF,zgG hp (hP.sub ((bU _ _).trans c6)) (by rw [av,hf.1]; exact (cD uF).symm) hf.2 fun a ha=>?_⟩
 exact zmI hp hP hf hk hh L hr wF a (dH ha)
end
end My
end
section
namespace My
open PySem L2 PyProof.Rows
section
variable {P:Program} {w:World} {K:ag} {mg:Str→Option Value} {base:Heap} {t:Adr}
def zqp (p:Int) (k:Nat) (lq:List (Int×Int)) (H':Hp) (v:V):Prop:=(∃ (z:Addr) (q:List Int),v = .ref z∧H' z=some (.tup (q.map V.int))∧IsP p k q∧lq.length+k≤2*hits p q lq∧∀ f,IsP p k f→lq.length+k≤2*hits p f lq→f=q)∨(v = .non∧∀ f,IsP p k f→¬ lq.length+k≤2*hits p f lq)
def zoh (K:ag):Sp:=fun vs H Q _=>∃ (c tt r:Addr) (p:Int) (k:Nat) (pl:List Int) (rw:List (Option Int)),vs = [.ref c,.ref r]∧zbf H c tt p k pl∧H r=some (.lst (rw.map o9))∧rw.length=pl.length∧pl.length≤16∧p∈zm∧pl.Nodup∧(∀ x∈pl,0≤x∧x < p)∧(∀ z,some z∈rw→0≤z∧z < p)∧1≤k∧k≤100∧∀ v H',zt H H'→zqp p k (lI pl rw) H' v→Q v H'
theorem zbx:FnScope ["code","row","p","k","places","points","e","left","right","right_points","polynomial"] ["code","row"] (zh zfe):=⟨rfl,rfl,rfl,by decide +kernel,rfl,by decide +kernel,by decide +kernel⟩
theorem zoi {fd:FuncData} (T:Txt K mg t) (F:Fun K "half" "half" zfe t.half fd):FnOk P w K mg base CX0 7 t.half fd ["code","row"] (zoh K):=by
 obtain⟨lR,lC,lG⟩:=T.f_heard_points
 have lJ:=zaI (P:=P) (w:=w) (base:=base) T lC
 obtain⟨oQ,lX,lY⟩:=T.f_locator_of
 have mS:=zc7 (P:=P) (w:=w) (base:=base) T lX
 obtain⟨nc,lL,lN⟩:=T.f_value_at
 have lV:=zb0 (P:=P) (w:=w) (base:=base) T lL
 obtain⟨oX,mj,mH⟩:=T.f_through
 have nK:=zdi (P:=P) (w:=w) (base:=base) T mj
 obtain⟨qi,mN,nj⟩:=T.f_fits
 have oh:=zeu (P:=P) (w:=w) (base:=base) T mN
 refine F.ok zbx (fun vs H Q E h=>?_) (fun mh A outer s H vs Q E hr h=>?_)
 ·obtain⟨c,tt,r,p,k,pl,rw,rfl,_⟩:=h
  rfl
 ·obtain⟨c,tt,r,p,k,pl,rw,rfl,hc,p9,nY,hn,hp,nV,m8,qW,k0,k1,q⟩:=h
  have q1:∀ (z:Addr) (qq:List Int) (H':Hp),zt H H'→H' z=some (.tup (qq.map V.int))→IsP p k qq→(lI pl rw).length+k≤2*hits p qq (lI pl rw)→(∀ f,IsP p k f→(lI pl rw).length+k≤2*hits p f (lI pl rw)→f=qq)→Q (.ref z) H':=fun z qq H' s a b c d=>q (.ref z) H' s (.inl ⟨z,qq,rfl,a,b,c,d⟩)
  have q2:∀ H',zt H H'→(∀ f,IsP p k f→¬ (lI pl rw).length+k≤2*hits p f (lI pl rw))→Q .non H':=fun H' s a=>q .non H' s (.inr ⟨rfl,a⟩)
  refine⟨_,#[zd,#[zbd,#[pvx,0],#[zaK,#[zi,#[zf,2,zbx.nd,(cb rfl)],#[zi,#[zf,3,zbx.nd,(am rfl)],#[zi,#[zf,4,zbx.nd,(am rfl)],#[zD]]]]]],#[zd,#[zq,5,zbx.nd,(am rfl),#[zo,lJ,(hr.mono (by decide)),T.m_heard_points,lC.kp,lG,#[zy],#[za,#[pvx,0],#[ya,#[pvx,1]]]]],#[zd,#[zbd,#[zo,mS,(hr.mono (by decide)),T.m_locator_of,lX.kp,lY,#[zy],#[za,#[pvx,0],#[ya,#[pvx,1]]]],#[zaK,#[zi,#[zf,6,zbx.nd,(am rfl)],#[zi,#[zf,7,zbx.nd,(cb rfl)],#[zi,#[zf,8,zbx.nd,(am rfl)],#[zD]]]]]],#[zd,#[zaD,9,zbx.nd,(am rfl),(CompSc.of (N':=["x","y","p","left"]) (ix:=[none,none,some 2,some 7]) (zh zfe) ["code","row","p","k","places","points","e","left","right","right_points","polynomial"] rfl rfl (by decide +kernel)),#[zaC,#[zu,#[zu,#[zan]]]],#[zN,#[pvx,5]],(fun _ _ _ _=>#[zah,(K),2,#[zi,#[zf,0,(show (["x","y","p","left"]:List Str).Nodup by decide +kernel),(am rfl)],#[zi,#[zf,1,(show (["x","y","p","left"]:List Str).Nodup by decide +kernel),(am rfl)],#[zD]]]]),(fun _ _ _ _=>#[zbP,#[zL,#[zhj],#[zo,lV,(hr.mono (by decide)),T.m_value_at,lL.kp,lN,#[zy],#[za,#[pvx,2],#[za,#[pvx,3],#[ya,#[pvx,0]]]]],#[zg],(zX _)]]),(fun _ _ _ _=>#[zaw,#[za,#[pvx,0],#[ya,#[pvx,1]]]])],#[zd,#[za0,#[zL,#[zeC],#[zC,#[zE],T.len_,cB,#[ya,#[pvx,9]]],#[pvx,3],(zX _)],#[zn,#[zF,#[zbo]]],#[zag]],#[zd,#[zq,10,zbx.nd,(am rfl),#[zo,nK,(hr.mono (by decide)),T.m_through,mj.kp,mH,#[zy],#[za,#[pvx,2],#[ya,#[zaG,zbt,#[pvx,9],#[zbe],#[zaS,#[pvx,3]]]]]]],#[zd,#[za0,#[zL,#[zeC],#[zl,#[zW],#[zg],#[zC,#[zE],T.len_,cB,#[ya,#[zo,oh,(hr.mono (by decide)),T.m_fits,mN.kp,nj,#[zy],#[za,#[pvx,0],#[za,#[pvx,1],#[ya,#[pvx,10]]]]]]]],#[zl,#[zO],#[zC,#[zE],T.len_,cB,#[ya,#[pvx,5]]],#[pvx,3]],(zX _)],#[zn,#[zF,#[zbo]]],#[zag]],#[zn,#[zF,#[pvx,10]]]]]]]]]],?_⟩
  have o8:=aX
  have rp:=zp hp
  have p0:0 < p:=by lia
  have hP:=zcO nV m8 qW
  have Eh:=zbv pl rw
  have hR:RowAt K H r pl.length rw:=⟨lr.of p9,nY⟩
  refine⟨_,rfl,c,_,rfl,lE.of hc.1,rfl,_,_,rfl,_,_,rfl,_,_,rfl,rfl,?_⟩
  refine (lp rfl (lp rfl (ex7 c tt r p k pl rw ⟨rfl,hc,hR,by lia,fun l bs H1 tj s1 sg hB=>?_⟩)))
  have tD:bs.length=(lI pl rw).length:=hB.length
  have vL:=hc.same s1
  refine (lp rfl (lp rfl (ex7 c tt r p k pl rw ⟨rfl,vL,s1 _ _ p9,nY,hn,hp,nV,m8,qW,k0,k1,fun z la rb e left right H2 s2 xp Gz Ef Cm L=>?_⟩)))
  obtain⟨vW,CC⟩:=L.ok (lI pl rw) (by simp)
  have hrt:right=szd (thr p (tmP p left (lI pl rw))) (k+e):=by
   have:=L.rt
   simpa using this
  rw [← hrt] at vW CC
  have BH:=fun (f:List Int) (hf:IsP p k f) (hh:(lI pl rw).length+k≤2*hits p f (lI pl rw))=>zog hp hP hf k0 hh L vW CC
  refine⟨z,_,rfl,lE.of xp,rfl,_,_,rfl,_,_,rfl,_,_,rfl,rfl,?_⟩
  have xq:=s2 _ _ sg
  have pC:=hB.same s2
  refine (lp rfl ⟨l,rfl,⟨_,lr.of xq⟩,zR (n:=bs.length) (fun i ys H'=>zt H2 H'∧∃ us:List Addr,ys=us.map V.ref∧us.length≤i∧PtB H' us (zdF p left ((lI pl rw).take i))) ⟨fun _ _ e=>e,[],rfl,af _,.nil⟩ ?_ ?_ ?_ ?_⟩)
  ·rintro i ys H3 hi ⟨s3,_⟩
   exact⟨_,.ref bs[i],lr.of (s3 _ _ xq),by rw [ah,ai hi]; rfl⟩
  ·rintro ys H3 ⟨s3,_⟩
   exact⟨_,lr.of (s3 _ _ xq),by rw [ab]; exact af _⟩
  ·rintro i y ys H3 H4 hi ⟨s3,us,rfl,qg,lO⟩ ⟨rfl,hy⟩
   obtain⟨b,rfl,hb⟩:=zS (hy _ (lr.of (s3 _ _ xq)))
   obtain⟨pt,qt,mU⟩:=Paired.get pC hb
   obtain⟨x0,x1,_⟩:=hP.rg pt (aF qt)
   have uM:zdF p left ((lI pl rw).take (i+1))=zdF p left ((lI pl rw).take i)++[pt].filter fun a=>decide (zj p a.1 left≠0):=by
    unfold zdF
    rw [take_snoc qt,cS]
   refine⟨b,_,rfl,lE.of (s3 _ _ mU),rfl,_,_,rfl,_,_,rfl,rfl,?_⟩
   refine (lp rfl (lp rfl (lp rfl (ex4 p pt.1 la left ⟨rfl,.inr (lE.of (s3 _ _ Gz)),p0,by lia,x0,x1,rfl,(lp rfl ?_)⟩))))
   by_cases h0:zj p pt.1 left=0
   ·refine zaU (fun h=>absurd h (by rw [h0]; simp)) (fun _=>?_)
    refine⟨s3,us,rfl,by lia,?_⟩
    rw [uM,bR (by simp [h0]),fc,bH]
    exact lO
   ·refine zaU (fun _=>?_) (fun h=>absurd (by simpa using h0) h)
    refine (lp rfl (lp rfl ⟨by show 2≤sizeLine; lia,fun w hw=>?_⟩))
    refine⟨by rw [ab]; lia,s3.trans (zb hw),us++[w],by rw [ao]; rfl,by rw [aq]; exact eJ qg,?_⟩
    rw [uM,bQ (by simp [h0]),fc]
    exact bJ (lO.same (zb hw)) zc
  ·rintro ys H3 CD ⟨s3,us,rfl,qg,lO⟩ GL
   rw [tD,ba] at lO
   have t4:=zb (o:=.lst (us.map V.ref)) GL
   have GN:lu H3 CD (.lst (us.map V.ref)) CD=some (.lst (us.map V.ref)):=zc
   have vT:=lO.same t4
   have s4:=(s1.trans s2).trans (s3.trans t4)
   have AQ:=s3.trans t4
   generalize lu H3 CD (.lst (us.map V.ref))=H4 at t4 GN vT s4 AQ ⊢
   have hrpl:=vT.length
   refine (lp rfl ⟨CD,(lp rfl ⟨.inl (lr.of GN),(lp rfl (lD rfl rfl (lp rfl ?_)))⟩)⟩)
   rw [ab]
   refine zaU (fun lT=>?_) (fun oM=>?_)
   ·have lT:=of_decide_eq_true lT
    refine q2 H4 s4 fun f hf hh=>?_
    have:=(BH f hf hh).1
    lia
   ·have oM:¬ (us.length:Int) < (k:Int):=fun h=>oM (decide_eq_true h)
    refine (lp rfl (lp rfl (lp rfl (lp rfl ⟨CD,(lp rfl ⟨lr.of GN,fun w hw=>?_⟩)⟩))))
    rw [zgX,← de]
    have t5:=zb (o:=.lst ((us.take k).map V.ref)) hw
    have xV:lu H4 w (.lst ((us.take k).map V.ref)) w=some (.lst ((us.take k).map V.ref)):=zc
    have qv:=(vT.same t5).take k
    generalize lu H4 w (.lst ((us.take k).map V.ref))=H5 at t5 xV qv ⊢
    have wH:Pts p ((zdF p left (lI pl rw)).take k):=hP.sub ((bU _ _).trans c6)
    refine (ex3 p w _ ⟨rfl,qv.pts xV,by rw [av]; lia,hp,(by rw [zj0 wH]; exact wH),(fun q hq=>by have:=wH.rg q hq; lia),fun pz H6 hpz s6 h6=>?_⟩)
    rw [zj0 wH] at h6
    obtain⟨g1,g2,g3⟩:=zc9 hp wH
    have uy:IsP p k (thr p ((zdF p left (lI pl rw)).take k)):=⟨by rw [g1,av]; lia,g2⟩
    generalize wI:thr p ((zdF p left (lI pl rw)).take k)=qq at h6 uy
    have y4:=t5.trans s6
    have Ei:=s4.trans y4
    refine (lp rfl (lp rfl (lp rfl (ex9 c tt r pz p k pl qq rw ⟨rfl,hc.same Ei,Ei _ _ p9,nY,h6,by lia,by lia,m8,by lia,fun fl H7 Cd s7 h7=>?_⟩))))
    refine⟨fl,(lp rfl ⟨.inl (lr.of h7),(lD rfl rfl ⟨.inl ⟨by decide,by decide⟩,(lp rfl ⟨l,(lp rfl ⟨.inl (lr.of ((AQ.trans (y4.trans s7)) _ _ xq)),(lp rfl (lD rfl rfl (lD rfl rfl (lp rfl ?_))))⟩)⟩)⟩)⟩)⟩
    have ef:((zcZ p pl rw qq pl.length).map V.int).length=hits p qq (lI pl rw):=by rw [ab]; exact zgI nY
    rw [ef,ab,tD]
    refine zaU (fun lT=>?_) (fun CF=>?_)
    ·have lT:=of_decide_eq_true lT
     refine q2 H7 (Ei.trans s7) fun f hf hh=>?_
     have e1:=(BH f hf hh).2
     rw [wI] at e1
     rw [e1] at hh
     lia
    ·have CF:¬ 2*(hits p qq (lI pl rw):Int) < ((lI pl rw).length:Int)+(k:Int):=fun h=>CF (decide_eq_true h)
     refine (lp rfl (q1 pz qq H7 (Ei.trans s7) (s7 _ _ h6) uy (by lia) fun f hf hh=>?_))
     rw [← wI]
     exact (BH f hf hh).2
end
end My
end
section
namespace My
open PySem L2 PyProof.Rows
section
variable {P:Program} {w:World} {K:ag} {mg:Str→Option Value} {base:Heap} {t:Adr}
def pwr (p x:Int) (kept n:Nat):List Int:=(aJ kept).map fun u=>cf x n u % p
def pws (p x:Int) (kept n:Nat):List (List Int):=(aJ n).map (pwr p x kept)
theorem zfi (p x:Int) (kept n:Nat):pws p x kept (n+1)=pws p x kept n++[pwr p x kept n]:=by
 unfold pws
 rw [cp,ao]
 rfl
theorem zbn (p x:Int) (kept n:Nat):(pwr p x kept n).length=kept:=by unfold pwr; rw [ab,aY]
theorem zfj {p x:Int} {kept n u:Nat} (h:u < kept):gl (pwr p x kept n) u=cf x n u % p:=zbW (by unfold pwr; rw [ah,cj h]; rfl)
theorem zmJ {p x:Int} {kept n:Nat}:(zbH p (-x) (pwr p x kept n)).take kept=pwr p x kept (n+1):=by
 refine zl4 (by rw [av,zbM,zbn,zbn]; lia) fun u hu=>?_
 have hu:u < kept:=by rw [av,zbM,zbn] at hu; lia
 rw [zfj hu]
 have e1:gl ((zbH p (-x) (pwr p x kept n)).take kept) u=gl (zbH p (-x) (pwr p x kept n)) u:=by
  unfold gl
  rw [aQ,aQ,bL hu]
 rw [e1]
 unfold zbH
 rw [zl3 (by rw [bn,zbn]; lia) (by rw [aq,zbn]; simp; lia)]
 have e2:gl (pwr p x kept n++[0]) u=cf x n u % p:=by
  rw [← zfj hu]
  unfold gl
  rw [aQ,aQ,bo (by rw [zbn]; exact hu)]
 rw [e2]
 show (_ - (-x)*_) % p=_
 cases u with
 | zero =>
  show (0 - (-x)*(cf x n 0 % p)) % p=cf x (n+1) 0 % p
  rw [zgS,zgS,dE]
  refine Cg.mod_eq ?_
  refine (((Cg.refl p 0).sub ((Cg.refl p (-x)).mul (Cg.emod p _)))).trans (Cg.of_eq (by grind))
 | succ u =>
  have e3:gl (0 :: pwr p x kept n) (u+1)=cf x n u % p:=by
   rw [← zfj (show u < kept by lia)]
   unfold gl
   simp
  rw [e3,zn0]
  refine Cg.mod_eq ?_
  refine ((Cg.emod p _).sub ((Cg.refl p (-x)).mul (Cg.emod p _))).trans (Cg.of_eq (by grind))
theorem zmK {p x:Int} (hp:1 < p) {kept:Nat} (hk:1≤kept):pwr p x kept 0=1 :: ap (kept - 1) 0:=by
 refine zl4 (by rw [zbn,bn,aU]; lia) fun u hu=>?_
 rw [zbn] at hu
 rw [zfj hu]
 cases u with
 | zero =>
  rw [zgS,gF]
  show (1:Int) % p=1
  exact cr (by decide) hp
 | succ u =>
  have e:cf x 0 (u+1)=0:=by show (0:Int)*_=0; simp
  rw [e,Int.zero_emod]
  unfold gl
  rw [aQ,cE,cX,if_pos (by lia)]
  rfl
def zea (K:ag):Sp:=fun vs H Q _=>∃ (p x:Int) (most kept:Nat),vs = [.int p,.int x,.int (most:Int),.int (kept:Int)]∧5≤p∧p≤97∧0≤x∧x < p∧most≤500∧1≤kept∧kept≤100 ∧
 ∀ (l:Addr) (ls:List Addr) (H':Hp),H l=none→zt H H'→H' l=some (.lst (ls.map V.ref))→LsA H' ls (pws p x kept (most+1))→Q (.ref l) H'
theorem zbF:FnScope ["p","by","most","kept","powers","power"] ["p","by","most","kept"] (zh zbl):=⟨rfl,rfl,rfl,by decide +kernel,rfl,by decide +kernel,by decide +kernel⟩
theorem zeb {fd:FuncData} (T:Txt K mg t) (F:Fun K "moved_powers" "moved_powers" zbl t.moved_powers fd):FnOk P w K mg base CX0 2 t.moved_powers fd ["p","by","most","kept"] (zea K):=by
 obtain⟨oP,mv,mB⟩:=T.f_times_root
 have nM:=zc6 (P:=P) (w:=w) (base:=base) T mv
 refine F.ok zbF (fun vs H Q E h=>?_) (fun mh A outer s H vs Q E hr h=>?_)
 ·obtain⟨p,x,most,kept,rfl,_⟩:=h
  rfl
 ·obtain⟨p,x,most,kept,rfl,p5,AV,x0,x1,hm,k1,k2,q⟩:=h
  refine⟨_,#[zd,#[zq,4,zbF.nd,(am rfl),#[z9,#[ya,#[zl,#[zc8],#[z9,#[ya,#[zg]]],#[zl,#[zgj],#[z9,#[ya,#[zg]]],#[zl,#[zaY],#[pvx,3],#[zg]]]]]]],#[zd,#[za7,bI,#[zaq,T.range_,#[ya,#[pvx,2]]],#[zf,5,zbF.nd,(am rfl)],#[zn,#[zci,#[zeG,cF,cU,cV,#[zbL],#[pvx,4],#[ya,#[zaG,zbt,#[zo,nM,(hr.mono (by decide)),T.m_times_root,mv.kp,mB,#[zy],#[za,#[pvx,0],#[za,#[zQ,#[zG],#[pvx,4],#[zk8,zis,#[zg]]],#[ya,#[zk8,zis,#[pvx,1]]]]]],#[zbe],#[zaS,#[pvx,3]]]]]]]],#[zn,#[zF,#[pvx,4]]]]],?_⟩
  have o8:=aX
  refine⟨by show 1≤sizeLine; lia,fun A1 hA1=>?_⟩
  have u1:=zb (o:=.lst [V.int 1]) hA1
  have v1:lu H A1 (.lst [V.int 1]) A1=some (.lst [V.int 1]):=zc
  generalize lu H A1 (.lst [V.int 1])=H1 at u1 v1 ⊢
  refine⟨by show 1≤sizeLine; lia,fun A2 hA2=>?_⟩
  have u2:=u1.trans (zb (o:=.lst [V.int 0]) hA2)
  have AL:=(zb (o:=.lst [V.int 0]) hA2) _ _ v1
  have v2:lu H1 A2 (.lst [V.int 0]) A2=some (.lst [V.int 0]):=zc
  generalize lu H1 A2 (.lst [V.int 0])=H2 at u2 AL v2 ⊢
  have ek:((kept:Int) - 1).toNat=kept - 1:=by lia
  refine (lp rfl (lD rfl rfl (ex3 A2 _ _ ⟨rfl,rfl,v2,by lia,by lia,by rw [ek]; show 1*(kept - 1)≤sizeLine; lia,fun A3 hA3=>?_⟩)))
  rw [ek,List.flatten_replicate_singleton]
  have w3:=zb (o:=.lst (ap (kept - 1) (V.int 0))) hA3
  have xn:=w3 _ _ AL
  have v3:lu H2 A3 (.lst (ap (kept - 1) (V.int 0))) A3=some (.lst (ap (kept - 1) (V.int 0))):=zc
  have u3:=u2.trans w3
  generalize lu H2 A3 (.lst (ap (kept - 1) (V.int 0)))=H3 at u3 xn v3 ⊢
  refine (ex4 A1 A3 _ _ ⟨rfl,rfl,xn,v3,by rw [aU]; show 1+(kept - 1)≤sizeLine; lia,fun A4 hA4=>?_⟩)
  have ez:[V.int 1]++ap (kept - 1) (V.int 0)=(pwr p x kept 0).map V.int:=by rw [zmK (by lia) k1,aZ,List.map_replicate]; rfl
  rw [ez]
  have u4:=u3.trans (zb (o:=.lst ((pwr p x kept 0).map V.int)) hA4)
  have v4:lu H3 A4 (.lst ((pwr p x kept 0).map V.int)) A4=some (.lst ((pwr p x kept 0).map V.int)):=zc
  generalize lu H3 A4 (.lst ((pwr p x kept 0).map V.int))=H4 at u4 v4 ⊢
  refine⟨by show 1≤sizeLine; lia,fun PW GO=>?_⟩
  have sw:=zb (o:=.lst [V.ref A4]) GO
  have emt:((most:Int)).toNat=most:=by lia
  refine (lp rfl (lp rfl ⟨by lia,by lia,zca (lo:=0) (n:=((most:Int)).toNat) (fun i σ H'=>∃ (e5:Option V),σ = [some (.int p),some (.int x),some (.int (most:Int)),some (.int (kept:Int)),some (.ref PW),e5]∧zt H H'∧∃ ls:List Addr,H' PW=some (.lst (ls.map V.ref))∧LsA H' ls (pws p x kept (i+1))) ⟨none,rfl,u4.trans sw,[A4],zc,.cons (sw _ _ v4) .nil⟩ ?_ ?_⟩))
  ·rintro i σ H5 hi ⟨e5,rfl,s5,ls,h5,si⟩
   have yT:ls.length=i+1:=by rw [bm si]; unfold pws; rw [ab,aY]
   rw [zfi] at si
   obtain⟨Ej,b,rfl⟩:∃ Ej b,ls=Ej++[b]:=⟨_,_,(List.dropLast_concat_getLast (l:=ls) (fun e=>by rw [e] at yT; simp at yT)).symm⟩
   obtain⟨hA,hB⟩:=zd3 si
   have mU:atI ((Ej++[b]).map V.ref) (-1)=some (.ref b):=by rw [ao]; exact zn9
   refine (lp rfl ⟨.inl ⟨rfl,_,lr.of h5⟩,(lp rfl (lp rfl (lp rfl (ex4 PW _ _ _ ⟨rfl,rfl,lr.of h5,mU,(lp rfl (lp rfl (ex4 p (-x) b _ ⟨rfl,hB,by rw [zbn]; lia,by lia,by lia,by lia,fun l H6 hl s6 h6=>?_⟩)))⟩))))⟩)
   refine (lp rfl (lp rfl ⟨l,(lp rfl ⟨lr.of h6,fun z hz=>?_⟩)⟩))
   have ec:za8 ((zbH p (-x) (pwr p x kept i)).map V.int) none (some (kept:Int))=(pwr p x kept (i+1)).map V.int:=by
    unfold za8
    rw [HT.sIx_nat,HT.sIx_none,dn,dX,ab,zbM,zbn,cD (by lia),← de,zmJ]
   rw [ec]
   have sz:=zb (o:=.lst ((pwr p x kept (i+1)).map V.int)) hz
   have h6P:=s6 _ _ h5
   have h7P:=sz _ _ h6P
   have zP:z≠PW:=(zB h6P hz).symm
   refine (ex3 PW _ _ ⟨rfl,rfl,h7P,by rw [ab,yT]; lia,?_⟩)
   refine (lp rfl ⟨zae ((s5.trans s6).trans sz) (u4.free GO),(Ej++[b])++[z],by rw [zc]; simp,?_⟩)
   rw [zfi]
   refine bJ (zpy (D:=PW) (fun hm=>?_) (fun c o hc e=>by rw [zr hc]; exact e) (LsA.same (s6.trans sz) (by rw [zfi]; exact si))) (by rw [zr zP]; exact zc)
   obtain⟨j,hj⟩:=cA.mp hm
   exact LsA.off si h5 j PW hj rfl
  ·rintro σ H5 ⟨e5,rfl,s5,ls,h5,si⟩
   rw [emt] at si
   exact (lp rfl (q PW ls _ (u4.free GO) s5 h5 si))
def tI (t:Tm):Int×Int:=((t.1:Int),(t.2:Int))
theorem zj2 {ns:List Nat} {M:Int} (hM:M∈ns.map fun n:Nat=>(n:Int)) (Aa:∀ a∈ns.map (fun n:Nat=>(n:Int)),a≤M):∃ m:Nat,M=m∧m∈ns∧∀ n∈ns,n≤m:=by
 obtain⟨m,hm,rfl⟩:=aB.mp hM
 refine⟨m,rfl,hm,fun n hn=>?_⟩
 have:=Aa _ (aB.mpr ⟨n,hn,rfl⟩)
 lia
theorem zj3 {K:ag} {H:Hp} {tl:Addr} {bs:List Addr} {ts:List Tm} (pv:H tl=some (.lst (bs.map V.ref))) (qt:PtB H bs (ts.map tI)) (lF:ts.length≤200) {g:TG} {tt:TT} {te:TE} {σ0:L2.St} {Q:VK} (f:Tm→Int)
  (hs:∀ (T:Addr) (t:Tm) (R:VK) (B:L2.St→Hp→Prop),t∈ts→lE K H T [.int (t.1:Int),.int (t.2:Int)]→R (.int (f t)) H→g (.ref T) σ0 H fun σ2 H2=>tt σ2 H2 fun b H3=>if b=true then te σ2 H3 R else B σ2 H3)
  (hd:∀ D,H D=none→Q (.ref D) (lu H D (.lst ((ts.map f).map V.int)))):cGo g tt te σ0 (Itl K tl) Q H:=by
 have tD:bs.length=ts.length:=by rw [bm qt,ab]
 refine zcd (fs:=(ts.map f).map V.int) (lr.of pv) (by rw [ab,ab,ab,tD]) (by rw [ab]; lia) (fun i x y R B hx hy hR=>?_) hd
 obtain⟨b,rfl,yW⟩:=zS hx
 obtain⟨q,hq,hT⟩:=Paired.get qt yW
 rw [ah] at hq
 obtain⟨t,ht,rfl⟩:=gm.mp hq
 rw [ah,ah,ht] at hy
 have hy:V.int (f t)=y:=by simpa using hy
 subst hy
 exact hs b t R B (aF ht) (lE.of hT) hR
def nAt (t:Tm) (x y p:Int) (w m:Nat):List Int:=(aJ m).flatMap fun u=>(aJ (w - u)).map fun v=>cv t ⟨x,y,u,v⟩ % p
theorem zif (t:Tm) (x y p:Int) (w m:Nat):nAt t x y p w (m+1)=nAt t x y p w m++(aJ (w - m)).map fun v=>cv t ⟨x,y,m,v⟩ % p:=by
 unfold nAt
 rw [cp,cq]
 simp
theorem zoj (t:Tm) (x y p:Int) (w:Nat):nAt t x y p w w=(pco (x,y,w)).map fun c=>cv t c % p:=by
 unfold nAt pco
 rw [kA]
 congr 1
 funext u
 rw [bq]
 rfl
theorem zj4 (t:Tm) (x y p:Int) (w:Nat):∀ m,(nAt t x y p w m).length≤w*m
 | 0=>by simp [nAt]
 | m+1=>by
  have ih:=zj4 t x y p w m
  rw [zif,aq,ab,aY,fZ]
  lia
theorem zmL {H:Hp} {l:Addr} {ls:List Addr} {p x:Int} {w n i u:Nat} (h:LsA H ls (pws p x w n)) (hi:i < n) (hu:u < w):∃ b,atI (ls.map V.ref) (i:Int)=some (.ref b)∧H b=some (.lst ((pwr p x w i).map V.int))∧atI ((pwr p x w i).map V.int) (u:Int)=some (.int (cf x i u % p)):=by
 have hl:ls.length=n:=by rw [bm h]; unfold pws; rw [ab,aY]
 have hb:ls[i]? = some (ls[i]'(by lia)):=ai (by lia)
 obtain⟨v,hv,hvb⟩:=Paired.get h hb
 unfold pws at hv
 rw [ah,cj hi] at hv
 cases hv
 refine⟨_,zaT (by rw [ah,hb]; rfl),hvb,zaT ?_⟩
 rw [ah,zbp (by rw [zbn]; exact hu),zfj hu]
 rfl
def zfC (K:ag):Sp:=fun vs H Q _=>∃ (p:Int) (tl pt:Addr) (x y:Int) (w:Nat) (bs:List Addr) (ts:List Tm),vs = [.int p,.ref tl,.ref pt]∧5≤p∧p≤97∧0≤x∧x < p∧0≤y∧y < p∧1≤w∧w≤9∧H tl=some (.lst (bs.map V.ref))∧PtB H bs (ts.map tI)∧ts≠[]∧ts.length≤200∧(∀ t∈ts,t.1≤400∧t.2≤400)∧H pt=some (.tup [.int x,.int y,.int (w:Int)]) ∧
 ∀ (l:Addr) (ls:List Addr) (H':Hp),H l=none→zt H H'→H' l=some (.lst (ls.map V.ref))→LsA H' ls (ts.map fun t=>(pco (x,y,w)).map fun c=>cv t c % p)→Q (.ref l) H'
theorem zaJ:FnScope ["p","terms","point","x","y","weight","by_x","by_y"] ["p","terms","point"] (zh zaE):=⟨rfl,rfl,rfl,by decide +kernel,rfl,by decide +kernel,by decide +kernel⟩
theorem zfD {fd:FuncData} (T:Txt K mg t) (F:Fun K "numbers_at" "numbers_at" zaE t.numbers_at fd):FnOk P w K mg base CX0 3 t.numbers_at fd ["p","terms","point"] (zfC K):=by
 obtain⟨qb,mW,mC⟩:=T.f_moved_powers
 have om:=zeb (P:=P) (w:=w) (base:=base) T mW
 refine F.ok zaJ (fun vs H Q E h=>?_) (fun mh A outer s H vs Q E hr h=>?_)
 ·obtain⟨p,tl,pt,x,y,wt,bs,ts,rfl,_⟩:=h
  rfl
 ·obtain⟨p,tl,pt,x,y,wt,bs,ts,rfl,p5,AV,x0,x1,y0,y1,w1,w9,pv,qt,me,lF,xi,hp,q⟩:=h
  refine⟨_,#[zd,#[zbd,#[pvx,2],#[zaK,#[zi,#[zf,3,zaJ.nd,(am rfl)],#[zi,#[zf,4,zaJ.nd,(am rfl)],#[zi,#[zf,5,zaJ.nd,(cb rfl)],#[zD]]]]]],#[zd,#[zq,6,zaJ.nd,(cb rfl),#[zo,om,(hr.mono (by decide)),T.m_moved_powers,mW.kp,mC,#[zy],#[za,#[pvx,0],by exact #[za,#[pvx,3],#[za,#[zC,#[zcR],T.max_,kE,#[ya,#[zV,(CompSc.of (N':=["i","j"]) (ix:=[none,none]) (zh zaE) ["p","terms","point","x","y","weight","by_x","by_y"] rfl rfl (by decide +kernel)),#[zaC,#[zu,#[zu,#[zan]]]],#[zN,#[pvx,1]],(fun _ _ _ _=>#[zah,(K),2,#[zi,#[zf,0,(show (["i","j"]:List Str).Nodup by decide +kernel),(am rfl)],#[zi,#[zf,1,(show (["i","j"]:List Str).Nodup by decide +kernel),(am rfl)],#[zD]]]]),(fun _ _ _ _=>#[zw]),(fun _ _ _ _=>#[pvx,0])]]],#[ya,#[pvx,5]]]]]]],#[zd,#[zq,7,zaJ.nd,(cb rfl),#[zo,om,(hr.mono (by decide)),T.m_moved_powers,mW.kp,mC,#[zy],#[za,#[pvx,0],by exact #[za,#[pvx,4],#[za,#[zC,#[zcR],T.max_,kE,#[ya,#[zV,(CompSc.of (N':=["i","j"]) (ix:=[none,none]) (zh zaE) ["p","terms","point","x","y","weight","by_x","by_y"] rfl rfl (by decide +kernel)),#[zaC,#[zu,#[zu,#[zan]]]],#[zN,#[pvx,1]],(fun _ _ _ _=>#[zah,(K),2,#[zi,#[zf,0,(show (["i","j"]:List Str).Nodup by decide +kernel),(am rfl)],#[zi,#[zf,1,(show (["i","j"]:List Str).Nodup by decide +kernel),(am rfl)],#[zD]]]]),(fun _ _ _ _=>#[zw]),(fun _ _ _ _=>#[pvx,1])]]],#[ya,#[pvx,5]]]]]]],#[zn,#[zF,#[zV,(CompSc.of (N':=["i","j","weight","by_x","by_y","p"]) (ix:=[none,none,some 5,some 6,some 7,some 0]) (zh zaE) ["p","terms","point","x","y","weight","by_x","by_y"] rfl rfl (by decide +kernel)),#[zaC,#[zu,#[zu,#[zan]]]],#[zN,#[pvx,1]],(fun _ _ _ _=>#[zah,(K),2,#[zi,#[zf,0,(show (["i","j","weight","by_x","by_y","p"]:List Str).Nodup by decide +kernel),(cb rfl)],#[zi,#[zf,1,(show (["i","j","weight","by_x","by_y","p"]:List Str).Nodup by decide +kernel),(cb rfl)],#[zD]]]]),(fun _ _ _ _=>#[zw]),(fun _ _ _ _=>#[zjD,(CompSc.of (N':=["u","v","by_x","i","by_y","j","p","weight"]) (ix:=[none,none,some 3,some 0,some 4,some 1,some 5,some 2]) ({ kind:=.function,names:=[(".0",.local),("i",.cell),("j",.cell),("range",.globalImplicit),("by_x",.cell),("by_y",.cell),("p",.cell),("weight",.cell)],isGenerator:=false,isCoroutine:=false }) ["i","j","weight","by_x","by_y","p"] (by with_unfolding_all rfl) rfl (by decide +kernel)),(zcI (js:=[0]) (i:=0) (by decide)),(zcI (js:=[1]) (i:=1) (by decide)),#[zaq,T.range_,#[ya,#[pvx,2]]],(fun _ _ _ _=>#[zf,0,(show (["u","v","by_x","i","by_y","j","p","weight"]:List Str).Nodup by decide +kernel),(am rfl)]),(fun _ _ _ _=>#[zw]),(fun _ _ _ _=>#[zaq,T.range_,#[ya,#[zl,#[zaY],#[pvx,7],#[pvx,0]]]]),(fun _ _ _ _=>#[zf,1,(show (["u","v","by_x","i","by_y","j","p","weight"]:List Str).Nodup by decide +kernel),(am rfl)]),(fun _ _ _ _=>#[zw]),(fun _ _ _ _=>#[zl,#[zK],#[zl,#[zW],#[zQ,#[zbR,(K)],#[zQ,#[zbR,(K)],#[pvx,2],#[pvx,3]],#[pvx,0]],#[zQ,#[zbR,(K)],#[zQ,#[zbR,(K)],#[pvx,4],#[pvx,5]],#[pvx,1]]],#[pvx,6]]),(by intros; rfl)])]]]]]],?_⟩
  have o8:=aX
  have tD:bs.length=ts.length:=by rw [bm qt,ab]
  refine⟨_,rfl,pt,_,rfl,lE.of hp,rfl,_,_,rfl,_,_,rfl,_,_,rfl,rfl,?_⟩
  refine⟨_,rfl,_,rfl,_,rfl,tl,rfl,⟨_,lr.of pv⟩,zj3 pv qt lF (fun t=>(t.1:Int)) (fun T t R B ht hT hR=>gY2 hT ⟨_,rfl,hR⟩) fun D hD=>?_⟩
  refine⟨D,ts.map fun t=>(t.1:Int),rfl,lr.of zc,by simpa using me,fun M hM Aa=>?_⟩
  obtain⟨mx,rfl,mx1,mx2⟩:=zj2 (ns:=ts.map (·.1)) (by rw [bq]; exact hM) (by rw [bq]; exact Aa)
  have mx4:mx≤400:=by obtain⟨t,ht,rfl⟩:=aB.mp mx1; exact (xi t ht).1
  have s0:=zb (o:=.lst ((ts.map fun t:Tm=>(t.1:Int)).map V.int)) hD
  generalize lu H D (.lst ((ts.map fun t:Tm=>(t.1:Int)).map V.int))=H0 at s0 ⊢
  refine (lp rfl (ex4 p x mx wt ⟨rfl,p5,AV,x0,x1,by lia,w1,by lia,fun l1 ls1 H1 tj s1 h1 g1=>?_⟩))
  have tW:=s0.trans s1
  refine⟨_,rfl,_,rfl,_,rfl,tl,rfl,⟨_,lr.of (tW _ _ pv)⟩,zj3 (tW _ _ pv) (qt.same tW) lF (fun t=>(t.2:Int)) (fun T t R B ht hT hR=>gY2 hT ⟨_,rfl,hR⟩) fun D2 sj=>?_⟩
  refine⟨D2,ts.map fun t=>(t.2:Int),rfl,lr.of zc,by simpa using me,fun M hM Aa=>?_⟩
  obtain⟨my,rfl,my1,xf⟩:=zj2 (ns:=ts.map (·.2)) (by rw [bq]; exact hM) (by rw [bq]; exact Aa)
  have my4:my≤400:=by obtain⟨t,ht,rfl⟩:=aB.mp my1; exact (xi t ht).2
  have s2:=zb (o:=.lst ((ts.map fun t:Tm=>(t.2:Int)).map V.int)) sj
  generalize lu H1 D2 (.lst ((ts.map fun t:Tm=>(t.2:Int)).map V.int))=H2 at s2 ⊢
  refine (lp rfl (ex4 p y my wt ⟨rfl,p5,AV,y0,y1,by lia,w1,by lia,fun l2 ls2 H3 qf s3 h3 g3=>?_⟩))
  have qQ:=s2.trans s3
  have sA:=tW.trans qQ
  have h1:=qQ _ _ h1
  have g1:=g1.same qQ
  refine (lp rfl ⟨tl,rfl,⟨_,lr.of (sA _ _ pv)⟩,zR (n:=ts.length) (fun m ys H'=>zt H3 H'∧∃ us:List Addr,ys=us.map V.ref∧LsA H' us ((ts.take m).map fun t=>(pco (x,y,wt)).map fun c=>cv t c % p)) ⟨fun _ _ e=>e,[],rfl,.nil⟩ ?_ ?_ ?_ ?_⟩)
  ·rintro m ys H4 hm ⟨s4,_⟩
   exact⟨_,.ref (bs[m]'(by lia)),lr.of ((sA.trans s4) _ _ pv),by rw [ah,ai (by lia)]; rfl⟩
  ·rintro ys H4 ⟨s4,_⟩
   exact⟨_,lr.of ((sA.trans s4) _ _ pv),by rw [ab]; lia⟩
  ·rintro m z ys H4 H5 hm ⟨s4,us,rfl,lO⟩ ⟨rfl,hx⟩
   have sA4:=sA.trans s4
   obtain⟨b,rfl,GP⟩:=zS (hx _ (lr.of (sA4 _ _ pv)))
   obtain⟨q',oJ,hT⟩:=Paired.get (qt.same sA4) GP
   rw [ah] at oJ
   obtain⟨t,ht,rfl⟩:=gm.mp oJ
   have Ek:=aF ht
   have hz:us.length=m:=by rw [bm lO,ab,av]; lia
   have t1:t.1 < mx+1:=iz (mx2 _ (aB.mpr ⟨t,Ek,rfl⟩))
   have t2:t.2 < my+1:=iz (xf _ (aB.mpr ⟨t,Ek,rfl⟩))
   have h4x:=s4 _ _ h1
   have h4y:=s4 _ _ h3
   have g4x:=g1.same s4
   have g4y:=g3.same s4
   refine gY2 (lE.of hT) ?_
   have ew:((wt:Int)).toNat=wt:=by lia
   refine (lp rfl (lp rfl ⟨by lia,by lia,?_⟩))
   rw [ew]
   refine zf5 (n:=wt) (fun u ys H'=>H'=H5∧ys=(nAt t x y p wt u).map V.int) ⟨rfl,rfl⟩ (fun i ys H' hi _=>hi) (fun ys H' _=>af _) ?_ ?_
   ·rintro u xx ys H6 H7 hu ⟨rfl,rfl⟩ ⟨rfl,rfl⟩
    rw [show ((0:Int)+(u:Int))=(u:Int) from dI _]
    refine gY ?_
    have ewu:((wt:Int) - (u:Int)).toNat=wt - u:=by lia
    refine (lp rfl (lp rfl (lD rfl rfl (lp rfl ⟨by lia,by lia,?_⟩))))
    rw [ewu]
    refine zf5 (n:=wt - u) (fun v ys H'=>H'=H7∧ys=(nAt t x y p wt u++(aJ v).map fun v=>cv t ⟨x,y,u,v⟩ % p).map V.int) ⟨rfl,by simp⟩ (fun i ys H' hi _=>hi) (fun ys H' _=>af _) ?_ ?_
    ·rintro v yy ys H8 H9 hv ⟨rfl,rfl⟩ ⟨rfl,rfl⟩
     rw [show ((0:Int)+(v:Int))=(v:Int) from dI _]
     obtain⟨bx,ax1,ax2,ax3⟩:=zmL (l:=l1) g4x t1 hu
     obtain⟨b2,ay1,ay2,ay3⟩:=zmL (l:=l2) g4y t2 (show v < wt by lia)
     have r0:=aG (cf x t.1 u) (show p≠0 by lia)
     have r1:=az (cf x t.1 u) (show 0 < p by lia)
     have nl:=zj4 t x y p wt u
     have nm:wt*u≤9*9:=kX (by lia) (by lia)
     refine gY ?_
     refine (lp rfl (lp rfl (ex4 l1 _ _ _ ⟨rfl,rfl,lr.of h4x,ax1,(lp rfl (ex4 bx _ _ _ ⟨rfl,rfl,lr.of ax2,ax3,(lp rfl (lp rfl (ex4 l2 _ _ _ ⟨rfl,rfl,lr.of h4y,ay1,(lp rfl (ex4 b2 _ _ _ ⟨rfl,rfl,lr.of ay2,ay3,(lD rfl rfl ⟨.inl ⟨by lia,by lia⟩,(lp rfl (lD rfl rfl ⟨by lia,?_⟩))⟩)⟩))⟩)))⟩))⟩)))
     refine⟨by rw [ab,aq,ab,aY]; lia,rfl,?_⟩
     rw [cp,ao,ao,ao,ao,bg]
     have:cf x t.1 u % p*(cf y t.2 v % p) % p=cv t ⟨x,y,u,v⟩ % p:=by unfold cv; rw [← Int.mul_emod]
     show _++(_++[V.int (cf x t.1 u % p*(cf y t.2 v % p) % p)])=_
     rw [this]
     rfl
    ·rintro ys H8 ⟨rfl,rfl⟩
     refine⟨rfl,?_⟩
     rw [zif]
   ·rintro ys H6 ⟨rfl,rfl⟩ D3 tJ
    refine⟨by rw [ab]; lia,s4.trans (zb tJ),us++[D3],by simp,?_⟩
    rw [take_snoc ht,ao]
    refine bJ (lO.same (zb tJ)) ?_
    rw [zc,zoj]
  ·rintro ys H4 D3 ⟨s4,us,rfl,lO⟩ tJ
   rw [aP (af _)] at lO
   have sf:=sA.trans s4
   exact q D3 us _ (sf.free tJ) (sf.trans (zb tJ)) zc (lO.same (zb tJ))
def W3 (H:Hp):List Addr→List (Int×Int×Nat)→Prop:=Paired fun b q=>H b=some (.tup [.int q.1,.int q.2.1,.int (q.2.2:Int)])
theorem W3.same {H H':Hp} (s:zt H H') {bs:List Addr} {lq:List (Int×Int×Nat)} (h:W3 H bs lq):W3 H' bs lq:=cJ (fun _ _ z=>s _ _ z) h
def zmM (p:Int) (lq:List (Int×Int×Nat)):Prop:=∀ q∈lq,0≤q.1∧q.1 < p∧0≤q.2.1∧q.2.1 < p∧1≤q.2.2∧q.2.2≤9
theorem zmN {p:Int} {lq:List (Int×Int×Nat)} {q:Int×Int×Nat} {t:Tm}:zaM p (lq++[q]) t=zaM p lq t++(pco q).map fun c=>cv t c % p:=by
 unfold zaM cos
 rw [cq,ao]
 simp
theorem zpA {lq:List (Int×Int×Nat)} (i:Nat):(cos (lq.take i)).length≤(cos lq).length:=by
 conv=>rhs; rw [← ck i lq]
 unfold cos
 rw [cq,aq]
 lia
def zfE (K:ag):Sp:=fun vs H Q _=>∃ (p:Int) (tl pl:Addr) (bs cs:List Addr) (ts:List Tm) (lq:List (Int×Int×Nat)),vs = [.int p,.ref tl,.ref pl]∧5≤p∧p≤97∧H tl=some (.lst (bs.map V.ref))∧PtB H bs (ts.map tI)∧ts≠[]∧ts.length≤200∧(∀ t∈ts,t.1≤400∧t.2≤400)∧H pl=some (.lst (cs.map V.ref))∧W3 H cs lq∧zmM p lq∧(cos lq).length≤800∧lq.length≤1000 ∧
 ∀ (l:Addr) (ls:List Addr) (H':Hp),H l=none→zt H H'→H' l=some (.lst (ls.map V.ref))→LsA H' ls (ts.map (zaM p lq))→Q (.ref l) H'
theorem zby:FnScope ["p","terms","points","vectors","point"] ["p","terms","points"] (zh zaW):=⟨rfl,rfl,rfl,by decide +kernel,rfl,by decide +kernel,by decide +kernel⟩
theorem zfF {fd:FuncData} (T:Txt K mg t) (F:Fun K "vectors_of" "vectors_of" zaW t.vectors_of fd):FnOk P w K mg base CX0 4 t.vectors_of fd ["p","terms","points"] (zfE K):=by
 obtain⟨qX,ph,nN⟩:=T.f_numbers_at
 have rQ:=zfD (P:=P) (w:=w) (base:=base) T ph
 refine F.ok zby (fun vs H Q E h=>?_) (fun mh A outer s H vs Q E hr h=>?_)
 ·obtain⟨p,tl,pl,bs,cs,ts,lq,rfl,_⟩:=h
  rfl
 ·obtain⟨p,tl,pl,bs,cs,ts,lq,rfl,p5,AV,pv,qt,me,lF,xi,m8,uC,hg,hL,hn,q⟩:=h
  refine⟨_,#[zd,#[zaD,3,zby.nd,(am rfl),(CompSc.of (N':=["term"]) (ix:=[none]) (zh zaW) ["p","terms","points","vectors","point"] rfl rfl (by decide +kernel)),#[zam],#[zN,#[pvx,1]],(fun _ _ _ _=>#[zf,0,(show (["term"]:List Str).Nodup by decide +kernel),(am rfl)]),(fun _ _ _ _=>#[zw]),(fun _ _ _ _=>#[z9,#[ze]])],#[zd,#[za7,bI,#[zN,#[pvx,2]],#[zf,4,zby.nd,(am rfl)],#[zn,#[zaD,3,zby.nd,(am rfl),(CompSc.of (N':=["vector","numbers"]) (ix:=[none,none]) (zh zaW) ["p","terms","points","vectors","point"] rfl rfl (by decide +kernel)),#[zaC,#[zu,#[zu,#[zan]]]],#[zef,T.zip_,#[za,#[pvx,3],#[ya,#[zo,rQ,(hr.mono (by decide)),T.m_numbers_at,ph.kp,nN,#[zy],#[za,#[pvx,0],#[za,#[pvx,1],#[ya,#[pvx,4]]]]]]]],(fun _ _ _ _=>#[zah,(K),2,#[zi,#[zf,0,(show (["vector","numbers"]:List Str).Nodup by decide +kernel),(am rfl)],#[zi,#[zf,1,(show (["vector","numbers"]:List Str).Nodup by decide +kernel),(am rfl)],#[zD]]]]),(fun _ _ _ _=>#[zw]),(fun _ _ _ _=>#[zl,#[zc8],#[pvx,0],#[pvx,1]])]]],#[zn,#[zF,#[pvx,3]]]]],?_⟩
  have o8:=aX
  have tD:bs.length=ts.length:=by rw [bm qt,ab]
  have rn:=bm uC
  refine (lp rfl ⟨tl,rfl,⟨_,lr.of pv⟩,zR (n:=ts.length) (fun m ys H'=>zt H H'∧∃ us:List Addr,ys=us.map V.ref∧LsA H' us ((ts.take m).map (zaM p []))) ⟨fun _ _ e=>e,[],rfl,.nil⟩ ?_ ?_ ?_ ?_⟩)
  ·rintro m ys H4 hm ⟨s4,_⟩
   exact⟨_,.ref (bs[m]'(by lia)),lr.of (s4 _ _ pv),by rw [ah,ai (by lia)]; rfl⟩
  ·rintro ys H4 ⟨s4,_⟩
   exact⟨_,lr.of (s4 _ _ pv),by rw [ab]; lia⟩
  ·rintro m z ys H4 H5 hm ⟨s4,us,rfl,lO⟩ ⟨rfl,hx⟩
   have hz:us.length=m:=by rw [bm lO,ab,av]; lia
   refine gY ?_
   refine⟨bj _,fun D hD=>⟨by rw [ab]; lia,s4.trans (zb hD),us++[D],by simp,?_⟩⟩
   have ht:ts[m]? = some (ts[m]'hm):=ai hm
   rw [take_snoc ht,ao]
   exact bJ (lO.same (zb hD)) zc
  ·rintro ys H4 V0 ⟨s4,us,rfl,lO⟩ hV
   rw [aP (af _)] at lO
   have sV:=s4.trans (zb (o:=.lst (us.map V.ref)) hV)
   refine (lp rfl ⟨pl,rfl,⟨_,lr.of (sV _ _ m8)⟩,zbO (K:=K) (a:=pl) (xs:=cs.map V.ref) (fun i σ H'=>∃ (vl:Addr) (ls:List Addr) (e4:Option V),σ = [some (.int p),some (.ref tl),some (.ref pl),some (.ref vl),e4]∧zt H H'∧H vl=none∧H' vl=some (.lst (ls.map V.ref))∧LsA H' ls (ts.map (zaM p (lq.take i)))) (ex3 V0 us none ⟨rfl,sV,s4.free hV,zc,lO.same (zb hV)⟩) ?_ ?_ ?_⟩)
   ·rintro i σ H' _ ⟨vl,ls,e4,rfl,s,_⟩
    exact lr.of (s _ _ m8)
   ·rintro i x σ H5 hx ⟨vl,ls,e4,rfl,s5,tf,h5,si⟩
    obtain⟨b,rfl,hb⟩:=zS hx
    obtain⟨⟨px,py,pw⟩,hq,GQ⟩:=Paired.get uC hb
    obtain⟨g1,g2,g3,g4,g5,g6⟩:=hg _ (aF hq)
    refine (lp rfl (lp rfl (lp rfl (lp rfl (ex8 p tl b px py pw bs ts ⟨rfl,p5,AV,g1,g2,g3,g4,g5,g6,s5 _ _ pv,qt.same s5,me,lF,xi,s5 _ _ GQ,fun nl nls H6 Ea s6 h6 g6'=>?_⟩)))))
    have El:=s6 _ _ h5
    have GR:=si.same s6
    have l1:ls.length=ts.length:=by rw [bm si,ab]
    have l2:nls.length=ts.length:=by rw [bm g6',ab]
    refine (ex4 vl nl _ _ ⟨rfl,lr.of El,lr.of h6,zR (n:=ts.length) (fun m ys H'=>zt H6 H'∧∃ us:List Addr,ys=us.map V.ref∧LsA H' us ((ts.take m).map (zaM p (lq.take (i+1))))) ⟨fun _ _ e=>e,[],rfl,.nil⟩ ?_ ?_ ?_ ?_⟩)
    ·rintro m ys H7 hm ⟨s7,_⟩
     exact⟨_,_,.ref (ls[m]'(by lia)),.ref (nls[m]'(by lia)),lr.of (s7 _ _ El),lr.of (s7 _ _ h6),by rw [ah,ai (by lia)]; rfl,by rw [ah,ai (by lia)]; rfl⟩
    ·rintro ys H7 ⟨s7,_⟩
     exact⟨_,_,lr.of (s7 _ _ El),lr.of (s7 _ _ h6),by rw [ab,ab]; lia⟩
    ·rintro m z ys H7 H8 hm ⟨s7,us,rfl,lO⟩ ⟨T,u,v,hT,rfl,rfl,hu,hv⟩
     obtain⟨b1,rfl,tB⟩:=zS (hu _ (lr.of (s7 _ _ El)))
     obtain⟨b2,rfl,uN⟩:=zS (hv _ (lr.of (s7 _ _ h6)))
     obtain⟨w1,hw1,GU⟩:=Paired.get GR tB
     obtain⟨w2,hw2,GV⟩:=Paired.get g6' uN
     have ht:ts[m]? = some (ts[m]'hm):=ai hm
     rw [ah,ht] at hw1 hw2
     cases hw1
     cases hw2
     have hz:us.length=m:=by rw [bm lO,ab,av]; lia
     refine gY2 (lE.of zc) ?_
     have sT:=s7.trans (zb (o:=.tup [.ref b1,.ref b2]) hT)
     have CG:=lO.same (zb (o:=.tup [.ref b1,.ref b2]) hT)
     generalize lu H7 T (.tup [.ref b1,.ref b2])=H8 at sT CG ⊢
     have lv:=zpA (lq:=lq) (i+1)
     have ev:zaM p (lq.take (i+1)) (ts[m]'hm)=zaM p (lq.take i) (ts[m]'hm)++(pco (px,py,pw)).map fun c=>cv (ts[m]'hm) c % p:=by rw [take_snoc hq,zmN]
     have lz:(zaM p (lq.take i) (ts[m]'hm)).length+((pco (px,py,pw)).map fun c=>cv (ts[m]'hm) c % p).length=(cos (lq.take (i+1))).length:=by rw [← aq,← ev,zjY]
     refine (lp rfl (lp rfl (ex4 b1 b2 _ _ ⟨rfl,rfl,sT _ _ GU,sT _ _ GV,(by simp only [ab] at lz ⊢; lia),fun D hD=>⟨by rw [ab]; lia,sT.trans (zb hD),us++[D],by simp,?_⟩⟩)))
     rw [take_snoc ht,ao]
     refine bJ (CG.same (zb hD)) ?_
     rw [zc,ev,ao]
    ·rintro ys H7 D ⟨s7,us,rfl,lO⟩ hD
     rw [aP (af _)] at lO
     have AR:=s6.trans s7
     exact (ex3 D us _ ⟨rfl,(s5.trans AR).trans (zb hD),(s5.trans AR).free hD,zc,lO.same (zb hD)⟩)
   ·rintro σ H5 ⟨vl,ls,e4,rfl,s5,tf,h5,si⟩
    rw [ab,rn,aP (af _)] at si
    exact (lp rfl (q vl ls _ tf s5 h5 si))
def tK (t:Tm):List Key:=[cY (t.1:Int),cY (t.2:Int)]
theorem zmO {t u:Tm} (h:tK t=tK u):t=u:=by
 unfold tK at h
 injection h with h1 h2
 injection h2 with h2 _
 have e1:(t.1:Int)=u.1:=i7 h1
 have e2:(t.2:Int)=u.2:=i7 h2
 exact kj (by lia) (by lia)
theorem zmP {ts:List Tm} (h:ts.Nodup):(ts.map tK).Nodup:=by
 rw [db,cu]
 exact j9 (fun me e=>me (zmO e)) h
theorem zpB {H:Hp} {bs:List Addr} {ts:List Tm} (h:PtB H bs (ts.map tI)):KyA H (bs.map V.ref) (ts.map tK):=by
 induction ts generalizing bs with
 | nil=>cases h; exact .nil
 | cons t ts ih =>
  cases h with
  | cons h1 h2=>exact .cons ⟨_,rfl,h1⟩ (ih h2)
def zg0 (K:ag):Sp:=fun vs H Q _=>∃ (p:Int) (tl pl:Addr) (bs cs:List Addr) (ts:List Tm) (lq:List (Int×Int×Nat)),vs = [.int p,.ref tl,.ref pl]∧p∈zm∧H tl=some (.lst (bs.map V.ref))∧PtB H bs (ts.map tI)∧ts.Nodup∧ts.length=(cos lq).length+1∧ts.length≤200∧(∀ t∈ts,t.1≤400∧t.2≤400)∧H pl=some (.lst (cs.map V.ref))∧W3 H cs lq∧zmM p lq∧lq.length≤1000 ∧
 ∀ (D:Addr) (c:List Int) (m:Nat) (H':Hp),H D=none→zt H H'→H' D=some (.dT ((ts.map tK).zip (c.map V.int)))→IsP p (m+1) c→m < ts.length→gl c m=1→Dep p (cos lq).length (ts.map (zaM p lq)) c→zn1 p (cos lq).length m (ts.map (zaM p lq))→Q (.ref D) H'
theorem zdG:FnScope ["p","terms","points","relation"] ["p","terms","points"] (zh zbC):=⟨rfl,rfl,rfl,by decide +kernel,rfl,by decide +kernel,by decide +kernel⟩
theorem zg1 {fd:FuncData} (T:Txt K mg t) (F:Fun K "first_sum" "first_sum" zbC t.first_sum fd):FnOk P w K mg base CX0 5 t.first_sum fd ["p","terms","points"] (zg0 K):=by
 obtain⟨ng,lP,lQ⟩:=T.f_first_relation
 have mI:=zb1 (P:=P) (w:=w) (base:=base) T lP
 obtain⟨qY,pj,nO⟩:=T.f_vectors_of
 have rR:=zfF (P:=P) (w:=w) (base:=base) T pj
 refine F.ok zdG (fun vs H Q E h=>?_) (fun mh A outer s H vs Q E hr h=>?_)
 ·obtain⟨p,tl,pl,bs,cs,ts,lq,rfl,_⟩:=h
  rfl
 ·obtain⟨p,tl,pl,bs,cs,ts,lq,rfl,hp,pv,qt,nV,lF,qf,xi,m8,uC,hg,hn,q⟩:=h
  have hu:(A.deeper (envOfC (bW "first_sum") (zh zbC) s.heap.objs.size t.first_sum mh)).units+20 < cLine:=by have:=hr.units; lia
  refine⟨_,#[zd,#[zq,3,zdG.nd,(am rfl),#[zo,mI,(hr.mono (by decide)),T.m_first_relation,lP.kp,lQ,#[zy],#[za,#[pvx,0],#[ya,#[zo,rR,(hr.mono (by decide)),T.m_vectors_of,pj.kp,nO,#[zy],#[za,#[pvx,0],#[za,#[pvx,1],#[ya,#[pvx,2]]]]]]]]],#[zn,#[zF,(ziV (gV (jN (show 2≤20 by decide) _) hu) rfl rfl T.dict_ rfl T.zip_ #[za,#[pvx,1],#[ya,#[pvx,3]]])]]],?_⟩
  have o8:=aX
  have rp:=zp hp
  have me:ts≠[]:=fun e=>by rw [e] at lF; simp at lF
  have hv:∀ v∈ts.map (zaM p lq),v.length=(cos lq).length∧∀ c∈v,0≤c∧c < p:=fun v hv=>by
   obtain⟨t,_,rfl⟩:=aB.mp hv
   exact⟨zjY p lq t,zn3 (by lia)⟩
  refine (lp rfl (lp rfl (lp rfl (lp rfl (ex7 p tl pl bs cs ts lq ⟨rfl,by lia,by lia,pv,qt,me,qf,xi,m8,uC,hg,by lia,hn,fun vl vls H1 tf s1 h1 g1=>?_⟩)))))
  refine (ex5 p vl vls (ts.map (zaM p lq)) ((cos lq).length) ⟨rfl,h1,g1,by simpa using me,by rw [ab]; exact qf,by lia,hv,hp,fun H2 s2 hI=>?_,fun l c m H2 hl s2 h2 hc hm CA hD hI=>?_⟩)
  ·have:=zmt hp hv hI
   rw [ab] at this
   lia
  ·rw [ab] at hm
   have ux:=s1.trans s2
   exact (lp rfl (lp rfl (ex5 tl l _ _ _ ⟨rfl,lr.of (ux _ _ pv),lr.of h2,zpB (qt.same ux),zmP nV,fun D H3 tJ s3 h3=>q D c m H3 (ux.free tJ) (ux.trans s3) h3 hc hm CA hD hI⟩)))
def zfk (K:ag):Sp:=fun vs H Q _=>∃ (k many:Nat),vs = [.int (k:Int),.int (many:Int)]∧2≤k∧k≤100∧many≤300 ∧
 ∀ (l:Addr) (us:List Addr) (S:Nat) (H':Hp),H l=none→zt H H'→H' l=some (.lst (us.map V.ref))→PtB H' us (((zU k S).take many).map tI)→S≤many→many≤(zU k S).length→Q (.ref l) H'
theorem zg2 (k s:Nat):(tms k s).length=s / (k - 1)+1:=by unfold tms; rw [ab,aY]
theorem zok {H:Hp} {us:List Addr} {q:List (Int×Int)} (h:PtB H us q) (m:Nat):PtB H (us.take m) (q.take m):=by
 induction h generalizing m with
 | nil=>simp; exact .nil
 | cons h1 _ ih =>
  cases m with
  | zero=>exact .nil
  | succ m=>exact .cons h1 (ih m)
theorem zmQ {H:Hp} {F:Addr} {xs:List V} {o:HO} {us:List Addr} {q:List (Int×Int)} (h:PtB H us q) (hF:H F=some (.lst xs)):PtB (lu H F o) us q:=cJ (fun b v z=>by rw [zr (fun e=>by rw [e,hF] at z; cases z)]; exact z) h
theorem zpC {H:Hp} {us vs:List Addr} {q r:List (Int×Int)} (h1:PtB H us q) (h2:PtB H vs r):PtB H (us++vs) (q++r):=by
 induction h1 with
 | nil=>exact h2
 | cons a _ ih=>exact .cons a ih
theorem zaQ:FnScope ["k","many","terms","size"] ["k","many"] (zh za3):=⟨rfl,rfl,rfl,by decide +kernel,rfl,by decide +kernel,by decide +kernel⟩
theorem zfl {fd:FuncData} (T:Txt K mg t) (F:Fun K "first_terms" "first_terms" za3 t.first_terms fd):FnOk P w K mg base CX0 1 t.first_terms fd ["k","many"] (zfk K):=by
 refine F.ok zaQ (fun vs H Q E h=>?_) (fun mh A outer s H vs Q E hr h=>?_)
 ·obtain⟨k,many,rfl,_⟩:=h
  rfl
 ·obtain⟨k,many,rfl,k2,CH,hm,q⟩:=h
  refine⟨_,#[zd,#[zq,2,zaQ.nd,(am rfl),#[z9,#[ze]]],#[zd,#[zq,3,zaQ.nd,(cb rfl),#[zg]],#[zd,#[zez,bI,#[zL,#[zeC],#[zC,#[zE],T.len_,cB,#[ya,#[pvx,2]]],#[pvx,1],(zX _)],#[zd,#[zgh,2,zaQ.nd,(am rfl),#[zV,(CompSc.of (N':=["j","size","k"]) (ix:=[none,some 3,some 0]) (zh za3) ["k","many","terms","size"] rfl rfl (by decide +kernel)),#[zam],#[zaq,T.range_,#[ya,#[zl,#[zO],#[zl,#[zck],#[pvx,3],#[zl,#[zaY],#[pvx,0],#[zg]]],#[zg]]]],(fun _ _ _ _=>#[zf,0,(show (["j","size","k"]:List Str).Nodup by decide +kernel),(am rfl)]),(fun _ _ _ _=>#[zw]),(fun _ _ _ _=>#[zaw,#[za,#[zl,#[zaY],#[pvx,1],#[zl,#[zW],#[zl,#[zaY],#[pvx,2],#[zg]],#[pvx,0]]],#[ya,#[pvx,0]]]])],zmp],#[zn,#[zgh,3,zaQ.nd,(cb rfl),#[zg],zi8]]]],#[zn,#[zF,#[zaG,zbt,#[pvx,2],#[zbe],#[zaS,#[pvx,1]]]]]]]],?_⟩
  have o8:=aX
  refine⟨bj _,fun TL wJ=>?_⟩
  refine⟨fun μ σ H'=>∃ (S:Nat) (us:List Addr),μ=many+1 - S∧S≤many∧σ = [some (.int (k:Int)),some (.int (many:Int)),some (.ref TL),some (.int (S:Int))]∧zt H H'∧H' TL=some (.lst (us.map V.ref))∧PtB H' us ((zU k S).map tI),(ex3 (many+1) 0 ([]) ⟨rfl,bj _,rfl,zb wJ,zc,.nil⟩),?_⟩
  rintro μ σ H1 ⟨S,us,rfl,hS,rfl,s1,h1,lO⟩
  have qg:us.length=(zU k S).length:=by rw [bm lO,ab]
  have hSl:=zf9 k S
  refine (lp rfl ⟨TL,(lp rfl ⟨.inl (lr.of h1),(lp rfl (lD rfl rfl (lp rfl ?_)))⟩)⟩)
  rw [ab,qg]
  refine zaU (fun lT=>?_) (fun oM=>?_)
  ·have lT:=of_decide_eq_true lT
   have lT:(zU k S).length < many:=by lia
   refine⟨fun σ' H'=>∃ m',m' < many+1 - S∧∃ (S:Nat) (us:List Addr),m'=many+1 - S∧S≤many∧σ' = [some (.int (k:Int)),some (.int (many:Int)),some (.ref TL),some (.int (S:Int))]∧zt H H'∧H' TL=some (.lst (us.map V.ref))∧PtB H' us ((zU k S).map tI),fun _ _ z=>z,?_⟩
   have k1:0 < k - 1:=by lia
   have ek:((k:Int) - 1)=((k - 1:Nat):Int):=by lia
   have eN:((S:Int) / ((k:Int) - 1)+1)=((S / (k - 1)+1:Nat):Int):=by
    rw [ek]
    exact congrArg (· + 1) (iQ S (k - 1)).symm
   have hq:S / (k - 1)≤S:=kO _ _
   refine (lp rfl (lp rfl (lp rfl (lD rfl rfl (lD rfl rfl ⟨⟨by lia,by lia⟩,(lD rfl rfl ?_)⟩)))))
   refine⟨(S:Int) / ((k:Int) - 1)+1,rfl,by rw [eN]; exact b7 (by decide) (j3 _),by rw [eN]; exact j4 (Int.ofNat_le.mpr (show S / (k - 1)+1≤301 from eJ (a8 hq (by lia)))) (by decide),?_⟩
   rw [eN,bG]
   refine zR (n:=S / (k - 1)+1) (fun m ys H'=>zt H1 H'∧∃ vs:List Addr,ys=vs.map V.ref∧PtB H' vs (((tms k S).take m).map tI)) ⟨fun _ _ e=>e,[],rfl,.nil⟩ (fun i ys H' hi _=>hi) (fun ys H' _=>af _) ?_ ?_
   ·rintro j x ys H2 H3 hj ⟨s2,vs,rfl,tE⟩ ⟨rfl,rfl⟩
    rw [show ((0:Int)+(j:Int))=(j:Int) from dI _]
    have tH:(k - 1)*j≤S:=by
     have:=(fw k1).mp (show j≤S / (k - 1) by lia)
     rw [fj]; exact this
    have tf:vs.length=j:=by rw [bm tE,ab,av,zg2]; lia
    have eV:(S:Int) - ((k:Int) - 1)*(j:Int)=((S - (k - 1)*j:Nat):Int):=by
     rw [ek,kP tH,fL]
    refine gY ?_
    refine (lp rfl (lp rfl (lD rfl rfl (lp rfl (lD rfl rfl ⟨.inl ⟨by lia,by lia⟩,(lD rfl rfl (lp rfl ⟨by show 2≤sizeLine; lia,fun T hT=>?_⟩))⟩)))))
    have Ek:(tms k S)[j]? = some (S - (k - 1)*j,j):=by unfold tms; rw [ah,cj hj]; rfl
    refine⟨by rw [ab]; lia,s2.trans (zb hT),vs++[T],by simp,?_⟩
    rw [take_snoc Ek,ao]
    refine bJ (tE.same (zb hT)) ?_
    rw [zc]
    show some (HO.tup [V.int ((S:Int) - ((k:Int) - 1)*(j:Int)),V.int (j:Int)])=_
    rw [eV]
    rfl
   ·rintro ys H2 D ⟨s2,vs,rfl,tE⟩ hD
    rw [aP (by rw [zg2]; exact af _)] at tE
    have sD:=s2.trans (zb (o:=.lst (vs.map V.ref)) hD)
    have tf:vs.length=S / (k - 1)+1:=by rw [bm tE,ab,zg2]
    refine (ex4 TL D _ _ ⟨rfl,rfl,sD _ _ h1,zc,by rw [ab,ab]; lia,?_⟩)
    refine (lp rfl (lD rfl rfl ?_))
    refine⟨many+1 - (S+1),by lia,S+1,us++vs,rfl,by lia,rfl,zae (s1.trans sD) wJ,by rw [zc,ao],?_⟩
    rw [zaN,ao]
    have a1:=zmQ (o:=.lst (us.map V.ref++vs.map V.ref)) (lO.same sD) (sD _ _ h1)
    have a2:=zmQ (o:=.lst (us.map V.ref++vs.map V.ref)) (tE.same (zb (o:=.lst (vs.map V.ref)) hD)) (sD _ _ h1)
    exact zpC a1 a2
  ·have oM:¬ (((zU k S).length:Int) < (many:Int)):=fun h=>oM (decide_eq_true h)
   refine (lp rfl (lp rfl (lp rfl ⟨TL,(lp rfl ⟨lr.of h1,fun z hz=>?_⟩)⟩)))
   have ec:za8 (us.map V.ref) none (some (many:Int))=(us.take many).map V.ref:=by
    unfold za8
    rw [HT.sIx_nat,HT.sIx_none,dn,dX,ab,cD (by lia),de]
   rw [ec]
   refine q z (us.take many) S _ (s1.free hz) (s1.trans (zb hz)) zc ?_ hS (by lia)
   have:=(zok lO many).same (zb (o:=.lst ((us.take many).map V.ref)) hz)
   rw [← de] at this
   exact this
theorem gY3 {K:ag} {i j l:Nat} {T:Addr} {x y z:V} {σ:L2.St} {H:Hp} {A B:L2.St→Hp→Prop} (hT:lE K H T [x,y,z]) (h:A (((σ.set i (some x)).set j (some y)).set l (some z)) H) :
  zhh K 3 (zb9 (zaX i) (zb9 (zaX j) (zb9 (zaX l) zio))) (.ref T) σ H (fun σ2 H2=>zni σ2 H2 fun b H3=>if b=true then A σ2 H3 else B σ2 H3):=by
 refine⟨T,_,rfl,hT,rfl,x,_,rfl,y,_,rfl,z,_,rfl,rfl,?_⟩
 show (if true=true then A (((σ.set i (some x)).set j (some y)).set l (some z)) H else B (((σ.set i (some x)).set j (some y)).set l (some z)) H)
 rw [if_pos rfl]
 exact h
theorem zmR (w:Nat):(w:Int)*((w:Int)+1) / 2=(tri w:Int):=by
 unfold tri
 rw [show ((w:Int)*((w:Int)+1))=((w*(w+1):Nat):Int) by rw [fL]; rfl]
 exact (iQ _ 2).symm
theorem zig {α:Type} (f:α→Nat):∀ l:List α,(l.map fun q=>(f q:Int)).sum=((l.map f).sum:Int)
 | []=>rfl
 | a :: l=>by
  rw [aZ,df,aZ,df,zig f l]
  lia
theorem zj5:∀ {ts:List Tm} {c:List Int} {t:Tm},(zda ((ts.map tK).zip (c.map V.int)) (tK t)).getD (.int 0) = .int (gof ts c t)
 | [],_,_=>rfl
 | _ :: _,[],_=>rfl
 | a :: ts,b :: c,t=>by
  have ih:=zj5 (ts:=ts) (c:=c) (t:=t)
  unfold zda gof at ih ⊢
  rw [aZ,aZ,dY,dY,bh]
  by_cases e:t=a
  ·subst e
   rw [List.find?_cons_of_pos (by simp),beq_self_eq_true]
   rfl
  ·rw [List.find?_cons_of_neg (by simp; exact fun h=>e (zmO h).symm),show (t == a)=false by simpa using e]
   exact ih
theorem zol {k:Nat} (hk:2≤k) (t:Tm):(t.1:Int)+((k:Int) - 1)*(t.2:Int)=(tz k t:Int):=by
 unfold tz
 rw [show ((k:Int) - 1)=((k - 1:Nat):Int) by lia,fN,fL]
theorem zk1 {k s j:Nat} {g:Tm→Int} (h:j < s / (k - 1)+1):(zgW k s g).take (j+1)=(zgW k s g).take j++[(aJ (s - (k - 1)*j+1)).map fun i=>g (i,j)]:=take_snoc (zmy h)
def zfm (K:ag):Sp:=fun vs H Q _=>∃ (p:Int) (k:Nat) (pl:Addr) (cs:List Addr) (lq:List (Int×Int×Nat)),vs = [.int p,.int (k:Int),.ref pl]∧p∈zm∧2≤k∧k≤100∧H pl=some (.lst (cs.map V.ref))∧W3 H cs lq∧zmM p lq∧(cos lq).length≤199∧lq.length≤1000 ∧
 ∀ (z r:Addr) (ls:List Addr) (size:Nat) (g:Tm→Int) (H':Hp),H z=none→zt H H'→H' z=some (.tup [.int (size:Int),.ref r])→H' r=some (.tup (ls.map V.ref))→zbi H' ls (zgW k size g)→Lst p k lq size g→size≤200→Q (.ref z) H'
theorem zaR:FnScope ["p","k","points","asked","found","size","lines"] ["p","k","points"] (zh zap):=⟨rfl,rfl,rfl,by decide +kernel,rfl,by decide +kernel,by decide +kernel⟩
theorem zfn {fd:FuncData} (T:Txt K mg t) (F:Fun K "least_curve" "least_curve" zap t.least_curve fd):FnOk P w K mg base CX0 6 t.least_curve fd ["p","k","points"] (zfm K):=by
 obtain⟨rS,pX,oo⟩:=T.f_first_sum
 have sJ:=zg1 (P:=P) (w:=w) (base:=base) T pX
 obtain⟨qw,oR,nr⟩:=T.f_first_terms
 have qZ:=zfl (P:=P) (w:=w) (base:=base) T oR
 refine F.ok zaR (fun vs H Q E h=>?_) (fun mh A outer s H vs Q E hr h=>?_)
 ·obtain⟨p,k,pl,cs,lq,rfl,_⟩:=h
  rfl
 ·obtain⟨p,k,pl,cs,lq,rfl,hp,k2,CH,m8,uC,hg,hL,hn,q⟩:=h
  have hu:(A.deeper (envOfC (bW "least_curve") (zh zap) s.heap.objs.size t.least_curve mh)).units+20 < cLine:=by have:=hr.units; lia
  refine⟨_,#[zd,#[zq,3,zaR.nd,(am rfl),#[zC,(@zkA _ rfl),T.sum_,boot_sum,#[ya,#[zV,(CompSc.of (N':=["x","y","weight"]) (ix:=[none,none,none]) (zh zap) ["p","k","points","asked","found","size","lines"] rfl rfl (by decide +kernel)),#[zaC,#[zu,#[zu,#[zu,#[zan]]]]],#[zN,#[pvx,2]],(fun _ _ _ _=>#[zah,(K),3,#[zi,#[zf,0,(show (["x","y","weight"]:List Str).Nodup by decide +kernel),(am rfl)],#[zi,#[zf,1,(show (["x","y","weight"]:List Str).Nodup by decide +kernel),(am rfl)],#[zi,#[zf,2,(show (["x","y","weight"]:List Str).Nodup by decide +kernel),(am rfl)],#[zD]]]]]),(fun _ _ _ _=>#[zw]),(fun _ _ _ _=>#[zl,#[zck],#[zl,#[zW],#[pvx,2],#[zl,#[zO],#[pvx,2],#[zg]]],#[zg]])]]]],#[zd,#[zq,4,zaR.nd,(cb rfl),#[zo,sJ,(hr.mono (by decide)),T.m_first_sum,pX.kp,oo,#[zy],#[za,#[pvx,0],#[za,#[zo,qZ,(hr.mono (by decide)),T.m_first_terms,oR.kp,nr,#[zy],#[za,#[pvx,1],#[ya,#[zl,#[zO],#[pvx,3],#[zg]]]]],#[ya,#[pvx,2]]]]]],#[zd,#[zq,5,zaR.nd,(cb rfl),#[zC,#[zcR],T.max_,kE,#[ya,#[zV,(CompSc.of (N':=["i","j","k"]) (ix:=[none,none,some 1]) (zh zap) ["p","k","points","asked","found","size","lines"] rfl rfl (by decide +kernel)),#[zaC,#[zu,#[zu,#[zan]]]],(@zqg _ _ _ _ #[pvx,4]),(fun _ _ _ _=>#[zah,(K),2,#[zi,#[zf,0,(show (["i","j","k"]:List Str).Nodup by decide +kernel),(am rfl)],#[zi,#[zf,1,(show (["i","j","k"]:List Str).Nodup by decide +kernel),(am rfl)],#[zD]]]]),(fun _ _ _ _=>#[zw]),(fun _ _ _ _=>#[zl,#[zO],#[pvx,0],#[zl,#[zW],#[zl,#[zaY],#[pvx,2],#[zg]],#[pvx,1]]])]]]],#[zd,#[zaD,6,zaR.nd,(am rfl),(CompSc.of (N':=["j","size","k","found"]) (ix:=[none,some 5,some 1,some 4]) (zh zap) ["p","k","points","asked","found","size","lines"] rfl rfl (by decide +kernel)),#[zam],#[zaq,T.range_,#[ya,#[zl,#[zO],#[zl,#[zck],#[pvx,5],#[zl,#[zaY],#[pvx,1],#[zg]]],#[zg]]]],(fun _ _ _ _=>#[zf,0,(show (["j","size","k","found"]:List Str).Nodup by decide +kernel),(cb rfl)]),(fun _ _ _ _=>#[zw]),(fun _ _ _ _=>#[zaA,(zfa (K:=K) rfl),T.tuple_,fE,#[ya,#[zV,(CompSc.of (N':=["i","found","j"]) (ix:=[none,some 3,some 0]) ({ kind:=.function,names:=[(".0",.local),("j",.cell),("tuple",.globalImplicit),("range",.globalImplicit),("found",.cell),("k",.cell),("size",.cell)],isGenerator:=false,isCoroutine:=false }) ["j","size","k","found"] (by with_unfolding_all rfl) rfl (by decide +kernel)),#[zam],#[zaq,T.range_,#[ya,#[zl,#[zO],#[zl,#[zaY],#[pvx,1],#[zl,#[zW],#[zl,#[zaY],#[pvx,2],#[zg]],#[pvx,0]]],#[zg]]]],(fun _ _ _ _=>#[zf,0,(show (["i","found","j"]:List Str).Nodup by decide +kernel),(am rfl)]),(fun _ _ _ _=>#[zw]),(fun _ _ _ _=>(@zlN _ _ _ _ _ _ _ _ _ (gV (jN (show 1≤20 by decide) _) hu) #[pvx,1] #[zaw,#[za,#[pvx,0],#[ya,#[pvx,2]]]] #[zg] ⟨rfl,rfl,rfl,rfl⟩))]]])],#[zn,#[zF,#[zaw,#[za,#[pvx,5],#[ya,#[zaA,#[zao],T.tuple_,fE,#[ya,#[pvx,6]]]]]]]]]]]],?_⟩
  have o8:=aX
  have rp:=zp hp
  have rn:=bm uC
  refine (lp rfl ⟨pl,rfl,⟨_,lr.of m8⟩,zcd (fs:=(lq.map fun q=>(tri q.2.2:Int)).map V.int) (lr.of m8) (by rw [ab,ab,ab,rn]) (by rw [ab]; lia) (fun i x y R B hx hy hR=>?_) (fun D0 Cu=>?_)⟩)
  ·obtain⟨b,rfl,hb⟩:=zS hx
   obtain⟨⟨px,py,pw⟩,hq,GQ⟩:=Paired.get uC hb
   have hw9:=(hg _ (aF hq)).2.2.2.2.2
   rw [ah,ah,hq] at hy
   have hy:V.int (tri pw:Int)=y:=by simpa using hy
   subst hy
   refine gY3 (lE.of GQ) ?_
   have hw9:pw≤9:=hw9
   refine (lp rfl (lp rfl (lD rfl rfl (lD rfl rfl ⟨.inl ⟨by lia,by lia⟩,(lD rfl rfl ⟨⟨by decide,by decide⟩,?_⟩)⟩))))
   show R (.int ((pw:Int)*((pw:Int)+1) / 2)) _
   rw [zmR]
   exact hR
  refine⟨D0,lq.map fun q=>(tri q.2.2:Int),rfl,lr.of zc,?_⟩
  rw [zig,show (lq.map fun q=>tri q.2.2).sum=zcF lq from rfl]
  have s0:=zb (o:=.lst ((lq.map fun q=>(tri q.2.2:Int)).map V.int)) Cu
  generalize lu H D0 (.lst ((lq.map fun q=>(tri q.2.2:Int)).map V.int))=H0 at s0 ⊢
  have hcn:=zgV lq
  refine (lp rfl (lp rfl (lp rfl (lD rfl rfl ⟨k,zcF lq+1,rfl,k2,CH,by lia,fun tl us S H1 pv s1 h1 qt CI hS2=>?_⟩))))
  have tW:=s0.trans s1
  have GW:∀ t∈(zU k S).take (zcF lq+1),tz k t < S:=fun t ht=>(zaV k2).mp (dH ht)
  have tle:∀ t:Tm,t.1≤tz k t∧t.2≤tz k t:=fun t=>⟨by unfold tz; lia,by
   unfold tz
   have:1*t.2≤(k - 1)*t.2:=gG _ (by lia)
   lia⟩
  have nV:((zU k S).take (zcF lq+1)).Nodup:=fY (bU _ _) (zbb k2 S)
  have lF:((zU k S).take (zcF lq+1)).length=zcF lq+1:=by rw [av]; lia
  refine (lp rfl (ex7 p tl pl us cs ((zU k S).take (zcF lq+1)) lq ⟨rfl,hp,h1,qt,nV,by rw [lF,hcn],by lia,fun t ht=>?_,tW _ _ m8,uC.same tW,hg,hn,fun D c m H2 hD s2 h2 hc hm CA hDp hI=>?_⟩))
  ·have:=GW t ht
   have:=tle t
   lia
  rw [lF] at hm
  have Em:=tW.trans s2
  have Ec:H D=none:=tW.free hD
  obtain⟨top,pg⟩:∃ top,((zU k S).take (zcF lq+1))[m]? = some top:=⟨((zU k S).take (zcF lq+1))[m]'(by lia),ai _⟩
  have LS:=zpx (p:=p) (by lia) k2 (lq:=lq) (S:=S) (ts:=(zU k S).take (zcF lq+1)) (by rw [hcn]) hc pg CA hDp hI
  have DT:((zU k S).take (zcF lq+1)).Pairwise fun a b=>tz k a≤tz k b:=ft (bU _ _) (zct k2 S)
  have CJ:=GW top (aF pg)
  generalize (zU k S).take (zcF lq+1)=ts at *
  have yX:c.length=m+1:=hc.1
  have GB:((ts.map tK).zip (c.map V.int)).length=m+1:=by rw [kN,ab,ab]; lia
  refine (lp rfl ⟨D,(lp rfl ⟨h2,fun o=>?_⟩)⟩)
  have s3:zt H (lu H2 D (.frz o (.dT ((ts.map tK).zip (c.map V.int))))):=zae Em Ec
  have h3:lu H2 D (.frz o (.dT ((ts.map tK).zip (c.map V.int)))) D=some (.frz o (.dT ((ts.map tK).zip (c.map V.int)))):=zc
  generalize lu H2 D (.frz o (.dT ((ts.map tK).zip (c.map V.int))))=H3 at s3 h3 ⊢
  refine zR (n:=m+1) (fun i ys H'=>H'=H3∧ys=((ts.take i).map fun t=>(tz k t:Int)).map V.int) ⟨rfl,rfl⟩ ?_ ?_ ?_ ?_
  ·rintro i ys H' hi ⟨rfl,_⟩
   exact⟨h3,by lia⟩
  ·rintro ys H' ⟨rfl,_⟩
   exact⟨h3,by lia⟩
  ·rintro i x ys H' H4 hi ⟨rfl,rfl⟩ ⟨rfl,a,ky,rfl,DR,ha⟩
   have En:ts[i]? = some (ts[i]'(by lia)):=ai (by lia)
   have ek:ky=tK (ts[i]'(by lia)):=by
    rw [ah] at DR
    obtain⟨q',oJ,rfl⟩:=gm.mp DR
    have nZ:((ts.map tK).zip (c.map V.int))[i]? = some (q'.1,q'.2):=oJ
    rw [fM,ah,En] at nZ
    exact (aT nZ.1).symm
   subst ek
   generalize ts[i]'(by lia)=tt at En ha
   have AK:tz k tt < S:=GW tt (aF En)
   have:=tle tt
   refine gY2 (lE.of (xs:=[.int (tt.1:Int),.int (tt.2:Int)]) ha) ?_
   refine (lp rfl (lp rfl (lD rfl rfl (lp rfl (lD rfl rfl ⟨.inl ⟨by lia,by lia⟩,(lD rfl rfl ?_)⟩)))))
   refine⟨by rw [ab,ab,av]; lia,rfl,?_⟩
   show _++[V.int ((tt.1:Int)+((k:Int) - 1)*(tt.2:Int))]=_
   rw [zol k2,take_snoc En,ao,ao]
   rfl
  rintro ys H' D2 ⟨rfl,rfl⟩ sj
  refine⟨D2,(ts.take (m+1)).map fun t=>(tz k t:Int),rfl,lr.of zc,fun e=>?_,fun M hM Aa=>?_⟩
  ·have:(ts.take (m+1)).length=0:=by rw [← ab (f:=fun t=>(tz k t:Int)),e]; rfl
   rw [av] at this
   lia
  have eM:M=(tz k top:Int):=by
   obtain⟨t',ht',rfl⟩:=aB.mp hM
   obtain⟨i',oC⟩:=cA.mp ht'
   have GX:i' < m+1:=by have:=(aD.mp oC).1; rw [av] at this; lia
   rw [bL GX] at oC
   have b1:=zdT DT oC pg (by lia)
   have b2:=Aa (tz k top:Int) (aB.mpr ⟨top,cA.mpr ⟨m,by rw [bL (by lia)]; exact pg⟩,rfl⟩)
   lia
  subst eM
  have w4:=zb (o:=.lst (((ts.take (m+1)).map fun t=>(tz k t:Int)).map V.int)) sj
  have s4:=s3.trans w4
  have h4:=w4 _ _ h3
  generalize lu H' D2 (.lst (((ts.take (m+1)).map fun t=>(tz k t:Int)).map V.int))=H4 at s4 h4 ⊢
  have k1:0 < k - 1:=by lia
  have ek1:((k:Int) - 1)=((k - 1:Nat):Int):=by lia
  obtain⟨sz,yK⟩:∃ sz,tz k top=sz:=⟨_,rfl⟩
  rw [yK] at LS CJ ⊢
  have eN:((sz:Int) / ((k:Int) - 1)+1)=((sz / (k - 1)+1:Nat):Int):=by
   rw [ek1]
   exact congrArg (· + 1) (iQ sz (k - 1)).symm
  have hqs:sz / (k - 1)≤sz:=kO _ _
  have GY:=fun t=>zj5 (ts:=ts) (c:=c) (t:=t)
  generalize (ts.map tK).zip (c.map V.int)=lB at *
  generalize gof ts c=g at *
  refine (lp rfl (lp rfl (lD rfl rfl (lD rfl rfl ⟨⟨by lia,by lia⟩,(lD rfl rfl ?_)⟩))))
  refine⟨(sz:Int) / ((k:Int) - 1)+1,rfl,by rw [eN]; exact b7 (by decide) (j3 _),by rw [eN]; exact j4 (Int.ofNat_le.mpr (show sz / (k - 1)+1≤301 from eJ (a8 hqs (by lia)))) (by decide),?_⟩
  rw [eN,bG]
  refine zR (n:=sz / (k - 1)+1) (fun j ys H'=>zt H4 H'∧∃ us:List Addr,ys=us.map V.ref∧zbi H' us ((zgW k sz g).take j)) ⟨fun _ _ e=>e,[],rfl,.nil⟩ (fun i ys H' hi _=>hi) (fun ys H' _=>af _) ?_ ?_
  ·rintro j x ys H5 H6 hj ⟨s5,us,rfl,lO⟩ ⟨rfl,rfl⟩
   rw [show ((0:Int)+(j:Int))=(j:Int) from dI _]
   have tH:(k - 1)*j≤sz:=by
    have:=(fw k1).mp (show j≤sz / (k - 1) by lia)
    rw [fj]; exact this
   have qg:us.length=j:=by rw [bm lO,av,zia]; lia
   have eV:(sz:Int) - ((k:Int) - 1)*(j:Int)+1=((sz - (k - 1)*j+1:Nat):Int):=by
    rw [ek1,fN,kP tH,fL]
    rfl
   refine gY ?_
   refine (lp rfl (lp rfl (lD rfl rfl (lp rfl (lD rfl rfl ⟨.inl ⟨by lia,by lia⟩,(lD rfl rfl (lD rfl rfl ?_))⟩)))))
   refine⟨(sz:Int) - ((k:Int) - 1)*(j:Int)+1,rfl,by rw [eV]; lia,by rw [eV]; lia,?_⟩
   rw [eV,bG]
   refine zR (n:=sz - (k - 1)*j+1) (fun i ys H'=>zt H6 H'∧ys=((aJ i).map fun i=>g (i,j)).map V.int) ⟨fun _ _ e=>e,rfl⟩ (fun i ys H' hi _=>hi) (fun ys H' _=>af _) ?_ ?_
   ·rintro i x ys H7 H8 hi ⟨s7,rfl⟩ ⟨rfl,rfl⟩
    rw [show ((0:Int)+(i:Int))=(i:Int) from dI _]
    have h7:=(s5.trans s7) _ _ h4
    refine gY ?_
    refine (lp rfl ⟨D,rfl,.inr ⟨lB,.inr ⟨o,h7⟩⟩,(lp rfl (lp rfl ⟨by show 2≤sizeLine; lia,fun T hT=>?_⟩))⟩)
    have wT:=zb (o:=.tup [.int (i:Int),.int (j:Int)]) hT
    refine⟨_,.inr ⟨lB,tK (i,j),T,.inr ⟨o,wT _ _ h7⟩,rfl,zc,rfl⟩,?_⟩
    rw [GY]
    refine⟨by rw [ab,ab,aY]; lia,s7.trans wT,?_⟩
    rw [cp,ao,ao]
    rfl
   ·rintro ys H7 D5 ⟨s7,rfl⟩ hD5
    refine⟨D5,(lp rfl (.inl ⟨lr.of zc,fun l hl=>?_⟩))⟩
    have w7:=(s7.trans (zb (o:=.lst (((aJ (sz - (k - 1)*j+1)).map fun i=>g (i,j)).map V.int)) hD5)).trans (zb (o:=.tup (((aJ (sz - (k - 1)*j+1)).map fun i=>g (i,j)).map V.int)) hl)
    refine⟨by rw [ab]; lia,s5.trans w7,us++[l],by simp,?_⟩
    rw [zk1 hj]
    exact bJ (lO.same w7) zc
  ·rintro ys H5 L1 ⟨s5,us,rfl,lO⟩ wZ
   rw [aP (by rw [zia]; exact af _)] at lO
   have w5:=s5.trans (zb (o:=.lst (us.map V.ref)) wZ)
   have qv:=lO.same (zb (o:=.lst (us.map V.ref)) wZ)
   refine (lp rfl (lp rfl ⟨L1,(lp rfl (.inl ⟨lr.of zc,fun r hr=>?_⟩))⟩))
   have w6:=w5.trans (zb (o:=.tup (us.map V.ref)) hr)
   have xw:=qv.same (zb (o:=.tup (us.map V.ref)) hr)
   refine⟨by show 2≤sizeLine; lia,fun z hz=>?_⟩
   have sf:=s4.trans w6
   have wz:=zb (o:=.tup [.int (sz:Int),.ref r]) hz
   exact q z r us sz g _ (sf.free hz) (sf.trans wz) zc (wz _ _ zc) (xw.same wz) LS (by lia)
def zec (K:ag):Sp:=fun vs H Q _=>∃ (k:Nat),vs = [.int (k:Int)]∧2≤k∧Q .non H
theorem zed:FnScope ["k"] ["k"] (zh zbm):=⟨rfl,rfl,rfl,by decide +kernel,rfl,by decide +kernel,by decide +kernel⟩
theorem zee {fd:FuncData} (T:Txt K mg t) (F:Fun K "check_curves" "check_curves" zbm t.check_curves fd):FnOk P w K mg base CX0 1 t.check_curves fd ["k"] (zec K):=by
 refine F.ok zed (fun vs H Q E h=>?_) (fun mh A outer s H vs Q E hr h=>?_)
 ·obtain⟨k,rfl,_⟩:=h
  rfl
 ·obtain⟨k,rfl,h1,q⟩:=h
  refine⟨_,#[zn,#[za0,#[zL,#[zeC],#[pvx,0],#[zg],(zX _)],#[zdJ],#[zag]]],?_⟩
  refine (lp rfl (lD rfl rfl (lp rfl ?_)))
  exact zaU (fun h=>absurd (of_decide_eq_true h) (by lia)) (fun _=>q)
def wpt (m:Nat) (l:List (Int×Int)):List (Int×Int×Nat):=l.map fun q=>(q.1,q.2,m)
theorem zih (m:Nat):∀ l,zcF (wpt m l)=l.length*tri m
 | []=>by simp [zcF,wpt]
 | a :: l=>by
  have ih:=zih m l
  unfold zcF wpt at ih ⊢
  (simp only [aZ,df,bn])
  rw [ih,Nat.add_mul]
  lia
def zg3 (K:ag):Sp:=fun vs H Q _=>∃ (c tt r:Addr) (p:Int) (k m:Nat) (pl:List Int) (rw:List (Option Int)),vs = [.ref c,.ref r,.int (m:Int)]∧zbf H c tt p k pl∧H r=some (.lst (rw.map o9))∧rw.length=pl.length∧pl.length≤16∧p∈zm∧pl.Nodup∧(∀ x∈pl,0≤x∧x < p)∧(∀ z,some z∈rw→0≤z∧z < p)∧2≤k∧k≤100∧1≤m∧m≤9∧(lI pl rw).length*tri m≤199 ∧
 ∀ (z r:Addr) (ls:List Addr) (size:Nat) (g:Tm→Int) (H':Hp),H z=none→zt H H'→H' z=some (.tup [.int (size:Int),.ref r])→H' r=some (.tup (ls.map V.ref))→zbi H' ls (zgW k size g)→Lst p k (wpt m (lI pl rw)) size g→size≤200→Q (.ref z) H'
theorem zbK:FnScope ["code","row","m","p","k","places"] ["code","row","m"] (zh zbD):=⟨rfl,rfl,rfl,by decide +kernel,rfl,by decide +kernel,by decide +kernel⟩
theorem zg4 {fd:FuncData} (T:Txt K mg t) (F:Fun K "curve_for" "curve_for" zbD t.curve_for fd):FnOk P w K mg base CX0 7 t.curve_for fd ["code","row","m"] (zg3 K):=by
 obtain⟨qc,oq,mX⟩:=T.f_check_curves
 have qz:=zee (P:=P) (w:=w) (base:=base) T oq
 obtain⟨qA,oS,nu⟩:=T.f_least_curve
 have rf:=zfn (P:=P) (w:=w) (base:=base) T oS
 obtain⟨lR,lC,lG⟩:=T.f_heard_points
 have lJ:=zaI (P:=P) (w:=w) (base:=base) T lC
 refine F.ok zbK (fun vs H Q E h=>?_) (fun mh A outer s H vs Q E hr h=>?_)
 ·obtain⟨c,tt,r,p,k,m,pl,rw,rfl,_⟩:=h
  rfl
 ·obtain⟨c,tt,r,p,k,m,pl,rw,rfl,hc,p9,nY,hn,hp,nV,m8,qW,h1,k1,m1,m9,hA,q⟩:=h
  refine⟨_,#[zd,#[zbd,#[pvx,0],#[zaK,#[zi,#[zf,3,zbK.nd,(am rfl)],#[zi,#[zf,4,zbK.nd,(am rfl)],#[zi,#[zf,5,zbK.nd,(am rfl)],#[zD]]]]]],#[zd,#[zci,#[zo,qz,(hr.mono (by decide)),T.m_check_curves,oq.kp,mX,#[zy],#[ya,#[pvx,4]]]],#[zn,#[zF,#[zo,rf,(hr.mono (by decide)),T.m_least_curve,oS.kp,nu,#[zy],#[za,#[pvx,3],#[za,#[pvx,4],#[ya,#[zV,(CompSc.of (N':=["place","entry","m"]) (ix:=[none,none,some 2]) (zh zbD) ["code","row","m","p","k","places"] rfl rfl (by decide +kernel)),#[zaC,#[zu,#[zu,#[zan]]]],#[zN,#[zo,lJ,(hr.mono (by decide)),T.m_heard_points,lC.kp,lG,#[zy],#[za,#[pvx,0],#[ya,#[pvx,1]]]]],(fun _ _ _ _=>#[zah,(K),2,#[zi,#[zf,0,(show (["place","entry","m"]:List Str).Nodup by decide +kernel),(am rfl)],#[zi,#[zf,1,(show (["place","entry","m"]:List Str).Nodup by decide +kernel),(am rfl)],#[zD]]]]),(fun _ _ _ _=>#[zw]),(fun _ _ _ _=>#[zaw,#[za,#[pvx,0],#[za,#[pvx,1],#[ya,#[pvx,2]]]]])]]]]]]]]],?_⟩
  have o8:=aX
  have rp:=zp hp
  have hR:RowAt K H r pl.length rw:=⟨lr.of p9,nY⟩
  have hP:=zcO nV m8 qW
  have Eh:=zbv pl rw
  refine⟨_,rfl,c,_,rfl,lE.of hc.1,rfl,_,_,rfl,_,_,rfl,_,_,rfl,rfl,?_⟩
  refine (lp rfl ⟨k,rfl,h1,?_⟩)
  refine (lp rfl (lp rfl (lp rfl (lp rfl (ex7 c tt r p k pl rw ⟨rfl,hc,hR,by lia,fun l bs H1 tj s1 sg hB=>?_⟩)))))
  have tD:bs.length=(lI pl rw).length:=hB.length
  refine⟨l,rfl,⟨_,lr.of sg⟩,zR (n:=bs.length) (fun i ys H'=>zt H1 H'∧∃ us:List Addr,ys=us.map V.ref∧W3 H' us (wpt m ((lI pl rw).take i))) ⟨fun _ _ e=>e,[],rfl,.nil⟩ ?_ ?_ ?_ ?_⟩
  ·rintro i ys H4 hi ⟨s4,_⟩
   exact⟨_,.ref (bs[i]'(by lia)),lr.of (s4 _ _ sg),by rw [ah,ai (by lia)]; rfl⟩
  ·rintro ys H4 ⟨s4,_⟩
   exact⟨_,lr.of (s4 _ _ sg),by rw [ab]; exact af _⟩
  ·rintro i z ys H4 H5 hi ⟨s4,us,rfl,lO⟩ ⟨rfl,hx⟩
   obtain⟨b,rfl,GP⟩:=zS (hx _ (lr.of (s4 _ _ sg)))
   obtain⟨q',oJ,hT⟩:=Paired.get (hB.same s4) GP
   have hz:us.length=i:=by rw [bm lO]; unfold wpt; rw [ab,av]; lia
   refine gY2 (lE.of hT) ?_
   refine (lp rfl (lp rfl (lp rfl ⟨by show 3≤sizeLine; lia,fun T Eo=>⟨by rw [ab]; lia,s4.trans (zb Eo),us++[T],by simp,?_⟩⟩)))
   rw [take_snoc oJ]
   unfold wpt
   rw [ao]
   exact bJ (lO.same (zb Eo)) zc
  ·rintro ys H4 D ⟨s4,us,rfl,lO⟩ hD
   rw [aP (by lia)] at lO
   have w4:=s4.trans (zb (o:=.lst (us.map V.ref)) hD)
   refine (ex5 p k D us (wpt m (lI pl rw)) ⟨rfl,hp,h1,k1,zc,lO.same (zb hD),fun q' oJ=>?_,by rw [zgV,zih]; exact hA,by unfold wpt; rw [ab]; lia,fun z r' ls size g H5 hz s5 h5 h6 h7 hL hs=>?_⟩)
   ·obtain⟨a,ha,rfl⟩:=aB.mp oJ
    obtain⟨g1,g2,g3,g4⟩:=hP.rg a ha
    exact⟨g1,g2,g3,g4,m1,m9⟩
   ·have sk:=s1.trans w4
    exact q z r' ls size g H5 (sk.free hz) (sk.trans s5) h5 h6 h7 hL hs
end
end My
end
section
namespace My
open PySem L2 PyProof.Rows
theorem zgd {k a:Nat} {f:Tm→Int} (hk:2≤k) (hf:∀ t,a≤tz k t→f t=0):∀ {b:Nat},a≤b→lsum (zU k b) f=lsum (zU k a) f
 | 0,h=>by rw [show a=0 by lia]
 | b+1,h=>by
  by_cases e:a=b+1
  ·rw [e]
  ·have ih:=zgd hk hf (b:=b) (by lia)
   rw [zaN,zcE,ih,zgb (l:=tms k b) fun t ht=>hf t ?_,iJ]
   have h1:t∈zU k (b+1):=by rw [zaN]; exact aL _ ht
   have h2:¬ t∈zU k b:=fun z=>by
    have nd:=zbb hk (b+1)
    rw [zaN,er] at nd
    exact nd.2.2 t z t ht rfl
   have h3:¬ tz k t < b:=fun z=>h2 ((zaV hk).mpr z)
   lia
end My
end
section
namespace My
open PySem L2 PyProof.Rows
theorem zmS {a b:Int} {n:Nat} {l:Nat→Int} {j:Nat}:sh b n (fun t=>a ^ t*l t) j=a ^ j*sh (a*b) n l j:=by
 rw [zdC,zdC,← zbg]
 refine zY fun t _=>?_
 by_cases h:j≤t
 ·have e:a ^ t=a ^ j*a ^ (t - j):=by rw [← Int.pow_add]; congr 1; lia
  rw [e,Int.mul_pow]
  grind
 ·rw [zdB (by lia)]
  simp
theorem zmT {p a b:Int} (h:Cg p a b):∀ i:Nat,Cg p (a ^ i) (b ^ i)
 | 0=>by rw [gF,gF]; exact Cg.refl _ _
 | i+1=>by rw [dE,dE]; exact (zmT h i).mul h
theorem zom {p x:Int} {q:List Int} {n:Nat} (h:q.length≤n):Cg p (zj p x q) (vl n (gl q) x):=by
 rw [zoD]
 exact za1 h
theorem zge (w:Nat):∀ n,((aJ n).flatMap fun j=>(aJ w).map fun i=>((i,j):Tm)).Nodup
 | 0=>by simp
 | n+1=>by
  rw [cp,cq,er]
  refine⟨zge w n,?_,fun a ha b hb e=>?_⟩
  ·simp only [dJ,gr,bH]
   exact List.Pairwise.map _ (fun a b Av e=>Av (congrArg Prod.fst e)) iK
  ·simp only [dJ,gr,bH] at hb
   obtain⟨j,hj,ha⟩:=b9.mp ha
   obtain⟨i,_,rfl⟩:=aB.mp ha
   obtain⟨i',_,rfl⟩:=aB.mp hb
   have:=bv.mp hj
   have:=congrArg Prod.snd e
   simp only at this
   lia
theorem zii {k s:Nat} (hk:2≤k) {f:Tm→Int} (hf:∀ t,s < tz k t→f t=0):lsum (zU k (s+1)) f=sm (s+1) fun j=>sm (s+1) fun i=>f (i,j):=by
 rw [← zkT (n:=s+1) (w:=fun _=>s+1)]
 have nb:=zge (s+1) (s+1)
 rw [zbX (q:=fun t=>decide (tz k t≤s)) (l:=(aJ (s+1)).flatMap fun j=>(aJ (s+1)).map fun i=>((i,j):Tm)) fun t _ ht=>hf t (by simpa using ht)]
 refine zgc (zbb hk _) (nb.filter _) fun t=>?_
 rw [zaV hk,bE,decide_eq_true_iff]
 constructor
 ·intro h
  have h1:t.1≤tz k t:=gq _ _
  have h2:t.2≤tz k t:=by
   have:1*t.2≤(k - 1)*t.2:=gG _ (by lia)
   unfold tz
   lia
  refine⟨b9.mpr ⟨t.2,bv.mpr (by lia),aB.mpr ⟨t.1,bv.mpr (by lia),rfl⟩⟩,by lia⟩
 ·rintro⟨_,h⟩
  lia
end My
end
section
namespace My
open PySem L2 PyProof.Rows
theorem zfo {p:Int} {k:Nat} {qs:List (List Int)} (h:zde p k qs):qs.Nodup:=h.2.imp fun {a b} Av e=>by rw [e] at Av; lia
theorem zmU {p:Int} (hp:p∈zm) {lq:List (Int×Int)} (hP:Pts p lq) (hl:lq.length≤16) {k:Nat} {T:Int} (hT:(k:Int)≤T) {qs:List (List Int)} (nd:qs.Nodup) (h:∀ q,q∈qs↔IsP p k q∧T≤(hits p q lq:Int)):qs.length≤65536:=by
 have hs:∀ q∈qs,q∈((chs lq k).map (·.2)).map (thr p):=fun q hq=>by
  obtain⟨h1,h2⟩:=(h q).mp hq
  obtain⟨pk,hk,e⟩:=zdd hp hP (t:=k) (n:=lq.length) h1 (af _) (by lia) (by lia)
  rw [ba] at hk
  exact aB.mpr ⟨pk,hk,e.symm⟩
 refine a8 (List.Nodup.length_le_of_subset nd hs) ?_
 rw [ab,ab]
 exact zcN k hl
end My
end
section
namespace My
open PySem L2 PyProof.Rows
abbrev Ps:=Nat→Int
structure Add (B:Ps→Ps):Prop where
 a:∀ u v,B (fun i=>u i+v i)=fun i=>B u i+B v i
def shO (B:Ps→Ps):Nat→(Nat→Ps)→Nat→Ps
 | 0,_,_=>fun _=>0
 | n+1,F,0=>fun i=>F 0 i+B (shO B n (fun t=>F (t+1)) 0) i
 | n+1,F,j+1=>fun i=>shO B n (fun t=>F (t+1)) j i+B (shO B n (fun t=>F (t+1)) (j+1)) i
theorem Add.z {B:Ps→Ps} (h:Add B):B (fun _=>0)=fun _=>0:=by
 have:=h.a (fun _=>0) (fun _=>0)
 funext i
 have e:=congrFun this i
 have e2:(fun _:Nat=>(0:Int)+0)=fun _=>0:=by funext i; rfl
 rw [e2] at e
 lia
theorem zfp {B:Ps→Ps} (h:Add B):∀ {n:Nat} {F:Nat→Ps} {j:Nat},n≤j→shO B n F j=fun _=>0
 | 0,_,_,_=>by simp [shO]
 | n+1,F,0,hj=>by lia
 | n+1,F,j+1,hj=>by
  rw [shO,zfp h (by lia),zfp h (by lia),h.z]
  funext i
  simp
theorem zg5 {B:Ps→Ps} (h:Add B):∀ {n:Nat} {F G:Nat→Ps} {j:Nat},shO B n (fun t i=>F t i+G t i) j=fun i=>shO B n F j i+shO B n G j i
 | 0,_,_,_=>by simp [shO]
 | n+1,F,G,0=>by
  have e:=zg5 h (n:=n) (F:=fun t=>F (t+1)) (G:=fun t=>G (t+1)) (j:=0)
  simp only [shO]
  rw [e,h.a]
  funext i
  dsimp only
  lia
 | n+1,F,G,j+1=>by
  have e:=fun j=>zg5 h (n:=n) (F:=fun t=>F (t+1)) (G:=fun t=>G (t+1)) (j:=j)
  simp only [shO]
  rw [e,e,h.a]
  funext i
  dsimp only
  lia
theorem zg6 {B C:Ps→Ps} (hC:Add C) (hc:∀ l,C (B l)=B (C l)):∀ {n:Nat} {F:Nat→Ps} {j:Nat},shO B n (fun t=>C (F t)) j=C (shO B n F j)
 | 0,_,_=>by simp [shO,hC.z]
 | n+1,F,0=>by
  have e:=zg6 hC hc (n:=n) (F:=fun t=>F (t+1)) (j:=0)
  simp only [shO]
  rw [e,← hc,← hC.a]
 | n+1,F,j+1=>by
  have e:=fun j=>zg6 hC hc (n:=n) (F:=fun t=>F (t+1)) (j:=j)
  simp only [shO]
  rw [e,e,← hc,← hC.a]
theorem zg7 {B:Ps→Ps} (h:Add B):∀ {n:Nat} {F:Nat→Ps} {j:Nat},F n=(fun _=>0)→shO B (n+1) F j=shO B n F j
 | 0,F,0,e=>by simp [shO,e,h.z]
 | 0,F,j+1,e=>by simp [shO,h.z]
 | n+1,F,0,e=>by
  rw [shO,zg7 h (n:=n) (F:=fun t=>F (t+1)) e]; simp only [shO]
 | n+1,F,j+1,e=>by
  have g:=fun i=>zg7 h (n:=n) (F:=fun t=>F (t+1)) (j:=i) e
  rw [shO,g j,g (j+1)]; simp only [shO]
theorem zmV {B:Ps→Ps} {n:Nat} {F G:Nat→Ps} {j:Nat} (h:∀ t,F t=G t):shO B n F j=shO B n G j:=by
 rw [funext h]
theorem zew {B B':Ps→Ps} (h:Add B) (h':Add B') (hc:∀ l,B (B' l)=B' (B l)):∀ {n:Nat} {F:Nat→Ps} {j:Nat},shO B' n (shO B n F) j=shO (fun l i=>B l i+B' l i) n F j
 | 0,_,_=>by simp [shO]
 | n+1,F,j=>by
  have hz:shO B n (fun t=>F (t+1)) n=fun _=>0:=zfp h (af _)
  have ih:=fun i=>zew h h' hc (n:=n) (F:=fun t=>F (t+1)) (j:=i)
  have e:shO B' (n+1) (shO B (n+1) F) j=shO B' (n+1) (fun t i=>(if t=0 then F 0 else shO B n (fun t=>F (t+1)) (t - 1)) i+B (shO B n (fun t=>F (t+1)) t) i) j:=by
   refine zmV fun t=>?_
   cases t <;> simp [shO]
  rw [e,zg5 h',zg6 h hc (F:=shO B n (fun t=>F (t+1))),zg7 h' hz,ih]
  have e2:∀ i,shO B' n (fun t=>if t+1=0 then F 0 else shO B n (fun t=>F (t+1)) (t+1 - 1)) i=shO (fun l i=>B l i+B' l i) n (fun t=>F (t+1)) i:=fun i=>by
   rw [← ih]; exact zmV fun t=>by simp
  cases j with
  | zero =>
   simp only [shO,if_true]
   rw [e2]
   funext i
   lia
  | succ j =>
   simp only [shO]
   rw [e2,e2]
   funext i
   lia
theorem zij:∀ {n:Nat} {F:Nat→Ps} {j:Nat},j < n→shO (fun _ _=>0) n F j=F j
 | 0,_,_,h=>by lia
 | n+1,F,0,_=>by simp [shO]
 | n+1,F,j+1,h=>by
  rw [shO,zij (n:=n) (F:=fun t=>F (t+1)) (by lia)]; simp
def Xl (l:Ps):Ps:=fun i=>if i=0 then 0 else l (i - 1)
def mq (a:Int):Nat→Ps→Ps→Ps
 | 0,_,_=>fun _=>0
 | n+1,b,l=>fun i=>b 0*l i+(Xl (mq a n (fun t=>b (t+1)) l) i+a*mq a n (fun t=>b (t+1)) l i)
theorem zpD (u v:Ps):Xl (fun i=>u i+v i)=fun i=>Xl u i+Xl v i:=by
 funext i
 unfold Xl
 split
 ·rfl
 ·rfl
theorem zpE (c:Int) (u:Ps):Xl (fun i=>c*u i)=fun i=>c*Xl u i:=by
 funext i
 unfold Xl
 split
 ·lia
 ·rfl
theorem zg8 (a:Int):∀ (n:Nat) (b:Ps),Add (mq a n b)
 | 0,_=>⟨fun _ _=>by funext i; simp [mq]⟩
 | n+1,b=>⟨fun u v=>by
  have ih:=(zg8 a n (fun t=>b (t+1))).a u v
  funext i
  simp only [mq]
  rw [ih,zpD]
  grind⟩
theorem zg9 (a c:Int):∀ (n:Nat) (b l:Ps),mq a n b (fun i=>c*l i)=fun i=>c*mq a n b l i
 | 0,_,_=>by funext i; simp [mq]
 | n+1,b,l=>by
  have ih:=zg9 a c n (fun t=>b (t+1)) l
  funext i
  simp only [mq]
  rw [ih,zpE]
  grind
def Dg (l:Ps) (w:Nat):Prop:=∀ i,w≤i→l i=0
theorem Dg.le {l:Ps} {w w':Nat} (h:Dg l w) (hw:w≤w'):Dg l w':=fun i hi=>h i (by lia)
theorem zi4:∀ {n:Nat} {b l:Ps} {w:Nat},Dg l w→Dg (mq 0 n b l) (w+(n - 1))
 | 0,_,_,_,_=>fun i _=>by simp [mq]
 | n+1,b,l,w,h=>fun i hi=>by
  have ih:=zi4 (n:=n) (b:=fun t=>b (t+1)) h
  simp only [mq,cI,iJ]
  rw [h i (by lia),cH,dI]
  unfold Xl
  split
  ·rfl
  ·cases n with
   | zero=>simp [mq]
   | succ n=>exact ih _ (by lia)
theorem zqq {a:Int}:∀ {w:Nat} {l:Ps},sh a (w+1) (Xl l)=fun i=>Xl (sh a w l) i+a*sh a w l i
 | w,l=>by
  funext i
  have e:(fun t=>Xl l (t+1))=l:=by funext t; simp [Xl]
  cases i with
  | zero=>simp only [sh,e]; simp [Xl]
  | succ i=>simp only [sh,e]; simp [Xl]
theorem zon {a c:Int} {w:Nat} {l:Ps}:sh a w (fun i=>c*l i)=fun i=>c*sh a w l i:=funext fun _=>zfb
theorem zha {a:Int} {w:Nat} {u v:Ps}:sh a w (fun i=>u i+v i)=fun i=>sh a w u i+sh a w v i:=funext fun _=>zgR
theorem zhb {a:Int} {w w':Nat} {l:Ps} (h:Dg l w) (hw:w≤w'):sh a w' l=sh a w l:=funext fun _=>znZ hw fun t h1 _=>h t h1
theorem zoF {a:Int}:∀ {n:Nat} {b l:Ps} {w W:Nat},Dg l w→w+n≤W→sh a W (mq 0 n b l)=mq a n b (sh a W l)
 | 0,_,_,_,_,_,_=>by
  funext i
  simp only [mq]
  rw [zdC]
  exact zbh fun t _=>by simp
 | n+1,b,l,w,W,h,hW=>by
  have ih:=zoF (a:=a) (n:=n) (b:=fun t=>b (t+1)) (w:=w) (W:=W) h (by lia)
  have hd:Dg (mq 0 n (fun t=>b (t+1)) l) (W - 1):=(zi4 h).le (by lia)
  have e1:sh a W (Xl (mq 0 n (fun t=>b (t+1)) l))=fun i=>Xl (sh a W (mq 0 n (fun t=>b (t+1)) l)) i+a*sh a W (mq 0 n (fun t=>b (t+1)) l) i:=by
   have:=zqq (a:=a) (w:=W - 1) (l:=mq 0 n (fun t=>b (t+1)) l)
   rw [show W - 1+1=W by lia] at this
   rw [this,zhb hd (show W - 1≤W by lia)]
  have e2:mq 0 (n+1) b l=fun i=>b 0*l i+Xl (mq 0 n (fun t=>b (t+1)) l) i:=by
   funext i
   simp only [mq,cI,iJ]
  rw [e2,zha,zon,e1,ih]
  rfl
def Od (p:Int) (l:Ps) (r:Nat):Prop:=∀ i,i < r→Cg p (l i) 0
theorem Od.le {p:Int} {l:Ps} {r r':Nat} (h:Od p l r) (hr:r'≤r):Od p l r':=fun i hi=>h i (by lia)
theorem Od.add {p:Int} {u v:Ps} {r:Nat} (h:Od p u r) (h':Od p v r):Od p (fun i=>u i+v i) r:=fun i hi=>((h i hi).add (h' i hi)).trans (Cg.of_eq (by simp))
theorem Od.mul {p:Int} {u:Ps} {r:Nat} (c:Int) (h:Od p u r):Od p (fun i=>c*u i) r:=fun i hi=>((Cg.refl p c).mul (h i hi)).trans (Cg.of_eq (by simp))
theorem Od.Xl {p:Int} {u:Ps} {r:Nat} (h:Od p u r):Od p (Xl u) (r+1):=fun i hi=>by
 unfold My.Xl
 split
 ·exact Cg.refl _ _
 ·exact h _ (by lia)
theorem Od.mq {p a:Int}:∀ {n:Nat} {b l:Ps} {r:Nat},Od p l r→Od p (mq a n b l) r
 | 0,_,_,_,_=>fun i _=>by simp only [My.mq]; exact Cg.refl _ _
 | n+1,b,l,r,h=>by
  have ih:=Od.mq (a:=a) (n:=n) (b:=fun t=>b (t+1)) h
  exact (h.mul (b 0)).add ((ih.Xl.le (gj _)).add (ih.mul a))
theorem Od.less {p a:Int}:∀ {n:Nat} {b l:Ps} {r:Nat},Od p l r→Od p (fun i=>My.mq a n b l i + -(vl n b a)*l i) (r+1)
 | 0,b,l,r,_=>fun i _=>by simp only [My.mq,vl]; exact Cg.of_eq (by simp)
 | n+1,b,l,r,h=>by
  have ih:=Od.less (a:=a) (n:=n) (b:=fun t=>b (t+1)) h
  have e:(fun i=>My.mq a (n+1) b l i + -(vl (n+1) b a)*l i)=fun i=>My.Xl (My.mq a n (fun t=>b (t+1)) l) i+a*(My.mq a n (fun t=>b (t+1)) l i + -(vl n (fun t=>b (t+1)) a)*l i):=by
   funext i
   simp only [My.mq,vl]
   grind
  rw [e]
  exact (Od.mq (a:=a) h).Xl.add (ih.mul a)
theorem zi5 {p:Int} {B:Ps→Ps} (hB:∀ l r,Od p l r→Od p (B l) (r+1)):∀ {n:Nat} {F:Nat→Ps} {m v:Nat},(∀ t,Od p (F t) (m - t))→Od p (shO B n F v) (m - v)
 | 0,_,_,_,_=>fun i _=>by simp only [shO]; exact Cg.refl _ _
 | n+1,F,m,0,h=>by
  have ih:=zi5 hB (n:=n) (F:=fun t=>F (t+1)) (m:=m - 1) (v:=0) fun t=>(h (t+1)).le (by lia)
  exact (h 0).add ((hB _ _ ih).le (by lia))
 | n+1,F,m,v+1,h=>by
  have ih:=fun v=>zi5 hB (n:=n) (F:=fun t=>F (t+1)) (m:=m - 1) (v:=v) fun t=>(h (t+1)).le (by lia)
  exact ((ih v).le (by lia)).add ((hB _ _ (ih (v+1))).le (by lia))
theorem zfq {k1:Nat} {b:Ps}:∀ {n:Nat} {F:Nat→Ps} {S v:Nat},(∀ t,Dg (F t) (S - k1*t))→Dg (shO (mq 0 (k1+1) b) n F v) (S - k1*v)
 | 0,_,_,_,_=>fun i _=>by simp [shO]
 | n+1,F,S,v,h=>by
  have h':∀ t,Dg (F (t+1)) (S - k1 - k1*t):=fun t=>(h (t+1)).le (by rw [fZ]; lia)
  have ih:=fun v=>zfq (k1:=k1) (b:=b) (n:=n) (F:=fun t=>F (t+1)) (S:=S - k1) (v:=v) h'
  have hz:∀ v,S≤k1*(v+1)→(shO (mq 0 (k1+1) b) n (fun t=>F (t+1)) v)=fun _=>0:=fun v hv=>by
   funext i
   exact ih v i (by rw [fZ] at hv; lia)
  have hb:∀ v,Dg (mq 0 (k1+1) b (shO (mq 0 (k1+1) b) n (fun t=>F (t+1)) v)) (S - k1*v):=fun v=>by
   by_cases hv:S≤k1*(v+1)
   ·rw [hz v hv,(zg8 0 (k1+1) b).z]
    exact fun i _=>rfl
   ·exact (zi4 (ih v)).le (by rw [fZ] at hv; lia)
  cases v with
  | zero =>
   intro i hi
   simp only [shO]
   rw [h 0 i hi,hb 0 i hi]
   rfl
  | succ v =>
   intro i hi
   simp only [shO]
   rw [ih v i (by rw [fZ] at hi; lia),hb (v+1) i hi]
   rfl
theorem zmW {a:Int} {k1 W:Nat} {b:Ps}:∀ {n:Nat} {F:Nat→Ps} {S v:Nat},(∀ t,Dg (F t) (S - k1*t))→S+(k1+1)≤W→sh a W (shO (mq 0 (k1+1) b) n F v)=shO (mq a (k1+1) b) n (fun t=>sh a W (F t)) v
 | 0,F,_,_,_,_=>by
  funext i
  simp only [shO]
  rw [zdC]
  exact zbh fun t _=>by simp
 | n+1,F,S,v,h,hW=>by
  have h':∀ t,Dg (F (t+1)) (S - k1 - k1*t):=fun t=>(h (t+1)).le (by rw [fZ]; lia)
  have ih:=fun v=>zmW (a:=a) (k1:=k1) (W:=W) (b:=b) (n:=n) (F:=fun t=>F (t+1)) (S:=S - k1) (v:=v) h' (by lia)
  have hm:∀ v,sh a W (mq 0 (k1+1) b (shO (mq 0 (k1+1) b) n (fun t=>F (t+1)) v))=mq a (k1+1) b (sh a W (shO (mq 0 (k1+1) b) n (fun t=>F (t+1)) v)):=fun v =>
   zoF (w:=S) ((zfq (k1:=k1) (b:=b) (n:=n) (F:=fun t=>F (t+1)) (S:=S - k1) (v:=v) h').le (by lia)) hW
  cases v with
  | zero =>
   simp only [shO]
   rw [zha,hm,ih]
  | succ v =>
   simp only [shO]
   rw [zha,hm,ih,ih]
theorem zik {c:Int}:∀ {n:Nat} {F:Nat→Ps} {v i:Nat},shO (fun l i=>c*l i) n F v i=sh c n (fun t=>F t i) v
 | 0,_,_,_=>by simp [shO,sh]
 | n+1,F,0,i=>by simp only [shO,sh]; rw [zik]
 | n+1,F,v+1,i=>by simp only [shO,sh]; rw [zik,zik]
theorem zdl {p:Int} {B:Ps→Ps} (hB:∀ l,(∀ i,Cg p (l i) 0)→∀ i,Cg p (B l i) 0):∀ {n:Nat} {F:Nat→Ps} {v:Nat},(∀ t i,Cg p (F t i) 0)→∀ i,Cg p (shO B n F v i) 0
 | 0,_,_,_=>fun i=>by simp only [shO]; exact Cg.refl _ _
 | n+1,F,0,h=>fun i=>by
  have ih:=zdl hB (n:=n) (F:=fun t=>F (t+1)) (v:=0) fun t=>h (t+1)
  simp only [shO]
  exact ((h 0 i).add (hB _ ih i)).trans (Cg.of_eq (by simp))
 | n+1,F,v+1,h=>fun i=>by
  have ih:=fun v=>zdl hB (n:=n) (F:=fun t=>F (t+1)) (v:=v) fun t=>h (t+1)
  simp only [shO]
  exact ((ih v i).add (hB _ (ih (v+1)) i)).trans (Cg.of_eq (by simp))
theorem zk2 {p a:Int} {n:Nat} {b l:Ps} (h:∀ i,Cg p (l i) 0) (i:Nat):Cg p (mq a n b l i) 0:=Od.mq (r:=i+1) (fun j _=>h j) i (iG _)
theorem zmX {s:Nat} {G:Tm→Int} {X y:Int} {u v:Nat}:(sm (s+1) fun j=>sm (s+1) fun i=>G (i,j)*cv (i,j) ⟨X,y,u,v⟩)=sh y (s+1) (fun j=>sh X (s+1) (fun i=>G (i,j)) u) v:=by
 rw [zdC]
 refine zY fun j _=>?_
 rw [zdC,← zbg]
 refine zY fun i _=>?_
 unfold cv cf
 grind
def mvP (p by':Int) (mo:List Int) (a:Int×Int):Int×Int:=(a.1,(by'*a.2+zj p a.1 mo) % p)
theorem zj6 {p by' c:Int} (p0:0 < p) (hc:Cg p (by'*c) 1) {k m s s':Nat} (hk:2≤k) {mo:List Int} (GZ:mo.length≤k) {lq:List (Int×Int)} {g g':Tm→Int} (L:Lst p k (lq.map fun q=>(q.1,q.2,m)) s g) (L':Lst p k ((lq.map (mvP p by' mo)).map fun q=>(q.1,q.2,m)) s' g'):s'≤s:=by
 (refine du fun hn=>?_)
 obtain⟨k1,rfl⟩:∃ k1,k=k1+1:=⟨k - 1,by lia⟩
 obtain⟨b,eb⟩:∃ b:Ps,b=fun t=>-(gl mo t):=⟨_,rfl⟩
 obtain⟨F,eF⟩:∃ F:Nat→Ps,F=fun t i=>c ^ t*g (i,t):=⟨_,rfl⟩
 obtain⟨h,eh⟩:∃ h:Tm→Int,h=fun t=>shO (mq 0 (k1+1) b) (s+1) F t.2 t.1:=⟨_,rfl⟩
 have etz:∀ i j,tz (k1+1) (i,j)=i+k1*j:=fun i j=>rfl
 have hF:∀ t,Dg (F t) (s+1 - k1*t):=fun t i hi=>by
  rw [eF]
  show c ^ t*g (i,t)=0
  rw [L.out (i,t) (by rw [etz]; lia),cH]
 have hH:∀ j,Dg (shO (mq 0 (k1+1) b) (s+1) F j) (s+1 - k1*j):=fun j=>zfq hF
 have qV:∀ t,s < tz (k1+1) t→h t=0:=fun t ht=>by
  rw [eh]
  have ht:s < t.1+k1*t.2:=ht
  exact hH t.2 t.1 (by lia)
 have hz:=L'.least h (fun co CK=>by
  rw [zgd (a:=s+1) hk (fun t ht=>by rw [qV t (by lia),cI]) (by lia),zii hk fun t ht=>by rw [qV t ht,cI]]
  obtain⟨q3,hq3,CK⟩:=b9.mp CK
  obtain⟨q',oJ,rfl⟩:=aB.mp hq3
  obtain⟨q,hq,rfl⟩:=aB.mp oJ
  obtain⟨u,hu,CK⟩:=b9.mp CK
  obtain⟨v,hv,rfl⟩:=aB.mp CK
  have hu:=bv.mp hu
  have hv:=bv.mp hv
  dsimp only [mvP] at hu hv ⊢
  obtain⟨x0,y0⟩:=q
  dsimp only at hu hv ⊢
  obtain⟨y',ey'⟩:∃ y',y'=(by'*y0+zj p x0 mo) % p:=⟨_,rfl⟩
  obtain⟨z,ez⟩:∃ z,z=y'+vl (k1+1) b x0:=⟨_,rfl⟩
  rw [← ey',zmX]
  have hzc:Cg p (c*z) y0:=by
   have e1:Cg p (vl (k1+1) b x0) (-(zj p x0 mo)):=by
    have e2:vl (k1+1) b x0 = -1*vl (k1+1) (gl mo) x0:=by
     rw [← zmq,eb]
     exact zoC fun t _=>by lia
    rw [e2]
    exact ((Cg.refl p (-1)).mul (zom GZ).symm).trans (Cg.of_eq (by lia))
   have e3:Cg p z (by'*y0):=by
    rw [ez,ey']
    exact ((Cg.emod _ _).add e1).trans (Cg.of_eq (by lia))
   have e4:Cg p (by'*c*y0) (1*y0):=hc.mul (Cg.refl _ _)
   exact ((Cg.refl p c).mul e3).trans ((Cg.of_eq (by grind)).trans (e4.trans (Cg.of_eq (by simp))))
  obtain⟨W,eW⟩:∃ W,W=s+1+(k1+1):=⟨_,rfl⟩
  have e5:(fun j=>sh x0 (s+1) (fun i=>h (i,j)) u)=fun j=>shO (mq x0 (k1+1) b) (s+1) (fun t=>sh x0 W (F t)) j u:=by
   funext j
   rw [← zmW (S:=s+1) hF (by lia),zhb (w:=s+1) ((hH j).le (by lia)) (by lia),eh]
  rw [e5,← zik (F:=fun j=>shO (mq x0 (k1+1) b) (s+1) (fun t=>sh x0 W (F t)) j)]
  have aC:∀ d:Int,Add (fun (l:Ps) i=>d*l i):=fun d=>⟨fun u v=>by funext i; exact Int.mul_add _ _ _⟩
  have aM:=zg8 x0 (k1+1) b
  rw [zew aM (aC y') fun l=>zg9 x0 y' (k1+1) b l]
  have aE:Add (fun (l:Ps) i=>mq x0 (k1+1) b l i + -(vl (k1+1) b x0)*l i):=⟨fun u v=>by
   rw [aM.a]
   funext i
   grind⟩
  have e6:(fun (l:Ps) i=>mq x0 (k1+1) b l i+y'*l i)=fun (l:Ps) i=>(fun (l:Ps) i=>z*l i) l i+(fun (l:Ps) i=>mq x0 (k1+1) b l i + -(vl (k1+1) b x0)*l i) l i:=by
   funext l i
   rw [ez]
   grind
  rw [e6,← zew (aC z) aE fun l=>by
   funext i
   have:=congrFun (zg9 x0 z (k1+1) b l) i
   dsimp only at this ⊢
   rw [this]
   grind]
  refine zi5 (p:=p) (m:=m) (fun l r hl=>Od.less hl) (fun t i hi=>?_) u (by lia)
  rw [zik]
  have e7:(fun j=>sh x0 W (F j) i)=fun j=>c ^ j*sh x0 W (fun i=>g (i,j)) i:=by
   funext j
   rw [eF]
   exact zfb
  rw [e7,zmS]
  have ok:=L.ok ⟨x0,y0,i,t⟩ (zn6 (aB.mpr ⟨(x0,y0),hq,rfl⟩) (by lia) (by lia))
  rw [zii hk fun t ht=>by rw [L.out t ht,cI],zmX] at ok
  have e8:(fun j=>sh x0 W (fun i=>g (i,j)) i)=fun j=>sh x0 (s+1) (fun i=>g (i,j)) i:=by
   funext j
   rw [zhb (w:=s+1) (fun i hi=>L.out (i,j) (by rw [etz]; lia)) (by lia)]
  rw [e8]
  exact ((Cg.refl p _).mul ((zjW hzc fun _ _=>Cg.refl _ _).trans ok)).trans (Cg.of_eq (by simp)))
 obtain⟨t,ht,h0⟩:=L.top
 refine h0 ?_
 have nE:∀ j i,Cg p (shO (mq 0 (k1+1) b) (s+1) F j i) 0:=fun j i=>by
  by_cases hs:tz (k1+1) (i,j)≤s
  ·have:=hz (i,j) (by lia)
   rw [eh] at this
   exact this
  ·have:=qV (i,j) (by lia)
   rw [eh] at this
   exact Cg.of_eq this
 have aM:=zg8 0 (k1+1) b
 have aN:Add (fun (l:Ps) i=>-1*mq 0 (k1+1) b l i):=⟨fun u v=>by rw [aM.a]; funext i; grind⟩
 have vJ:t.2 < s+1:=by
  have h1:t.1+k1*t.2=s:=ht
  have h2:1*t.2≤k1*t.2:=gG _ (by lia)
  lia
 have e9:F t.2=shO (fun (l:Ps) i=>-1*mq 0 (k1+1) b l i) (s+1) (shO (mq 0 (k1+1) b) (s+1) F) t.2:=by
  rw [zew aM aN fun l=>zg9 0 (-1) (k1+1) b (mq 0 (k1+1) b l)]
  have:(fun (l:Ps) i=>mq 0 (k1+1) b l i + -1*mq 0 (k1+1) b l i)=fun _ _=>0:=by
   funext l i
   lia
  rw [this,zij vJ]
 have qP:Cg p (F t.2 t.1) 0:=by
  rw [e9]
  exact zdl (fun l hl i=>((Cg.refl p (-1)).mul (zk2 hl i)).trans (Cg.of_eq (by simp))) nE t.1
 rw [eF] at qP
 have tY:Cg p (by' ^ t.2*(c ^ t.2*g (t.1,t.2))) (by' ^ t.2*0):=(Cg.refl p _).mul qP
 have tF:Cg p ((by'*c) ^ t.2*g t) (1 ^ t.2*g t):=(zmT hc _).mul (Cg.refl _ _)
 rw [Int.one_pow,gk] at tF
 refine (tF.symm.trans ((Cg.of_eq ?_).trans (tY.trans (Cg.of_eq (by simp))))).eq (L.rg t).1 (L.rg t).2 (bP _) p0
 rw [Int.mul_pow]
 have:g (t.1,t.2)=g t:=rfl
 rw [this]
 grind
end My
end
section
namespace My
open PySem L2 PyProof.Rows
def mvQ (p by':Int) (mo q:List Int):List Int:=a7 (fun a b=>(by'*a+b) % p) q mo
theorem zbz {p by':Int} (p0:0 < p) {k:Nat} {mo q:List Int} (hm:mo.length=k) (hq:q.length=k):IsP p k (mvQ p by' mo q):=by
 refine⟨by unfold mvQ; rw [cK]; lia,fun c hc=>?_⟩
 obtain⟨i,hi⟩:=cA.mp hc
 unfold mvQ at hi
 rw [dk] at hi
 split at hi
 ·cases hi
  exact⟨aG _ (by lia),az _ p0⟩
 ·cases hi
theorem zmY {p by' x:Int}:∀ {mo q:List Int},mo.length=q.length→Cg p (zj p x (mvQ p by' mo q)) (by'*zj p x q+zj p x mo)
 | [],[],_=>Cg.of_eq (by simp [mvQ,zj])
 | [],_ :: _,h=>by simp at h
 | _ :: _,[],h=>by simp at h
 | b :: mo,a :: q,h=>by
  have ih:=zmY (p:=p) (by':=by') (x:=x) (mo:=mo) (q:=q) (by simpa using h)
  have e:mvQ p by' (b :: mo) (a :: q)=(by'*a+b) % p :: mvQ p by' mo q:=rfl
  rw [e]
  have h1:=(zH p x ((by'*a+b) % p) (mvQ p by' mo q)).trans ((Cg.emod _ _).add ((Cg.refl p x).mul ih))
  have h2:=((Cg.refl p by').mul (zH p x a q)).add (zH p x b mo)
  exact h1.trans ((Cg.of_eq (by grind)).trans h2.symm)
theorem zpF {p by' x:Int} (p0:0 < p) {mo q:List Int} (h:mo.length=q.length):zj p x (mvQ p by' mo q)=(by'*zj p x q+zj p x mo) % p :=
 ((zmY h).trans (Cg.emod _ _).symm).eq (zai p0 _) (zaj p0 _) (aG _ (by lia)) (az _ p0)
theorem zi6 {p by' c x y:Int} (p0:0 < p) (hc:Cg p (by'*c) 1) {mo q:List Int} (h:mo.length=q.length) (y0:0≤y) (y1:y < p):zj p x (mvQ p by' mo q)=(by'*y+zj p x mo) % p↔zj p x q=y:=by
 rw [zpF p0 h]
 constructor
 ·intro e
  have e1:Cg p (by'*zj p x q+zj p x mo) (by'*y+zj p x mo):=(Cg.emod _ _).symm.trans ((Cg.of_eq e).trans (Cg.emod _ _))
  have e2:Cg p (c*(by'*zj p x q+zj p x mo - zj p x mo)) (c*(by'*y+zj p x mo - zj p x mo)):=(Cg.refl p c).mul (e1.sub (Cg.refl _ _))
  have e3:Cg p (by'*c*zj p x q) (1*zj p x q):=hc.mul (Cg.refl _ _)
  have e4:Cg p (by'*c*y) (1*y):=hc.mul (Cg.refl _ _)
  refine Cg.eq (p:=p) ?_ (zai p0 _) (zaj p0 _) y0 y1
  exact ((Cg.of_eq (by simp)).trans (e3.symm.trans ((Cg.of_eq (by grind)).trans (e2.trans ((Cg.of_eq (by grind)).trans e4))))).trans (Cg.of_eq (by simp))
 ·intro e
  rw [e]
theorem zdH {p by' c:Int} (p0:0 < p) (hc:Cg p (by'*c) 1) {mo q:List Int} (h:mo.length=q.length) {lq:List (Int×Int)} (hr:∀ a∈lq,0≤a.2∧a.2 < p):hits p (mvQ p by' mo q) (lq.map (mvP p by' mo))=hits p q lq:=by
 unfold hits
 rw [kQ,ab]
 congr 1
 refine gf fun a ha=>?_
 show decide (zj p a.1 _=(by'*a.2+zj p a.1 mo) % p)=decide (zj p a.1 q=a.2)
 rw [cL,decide_eq_true_iff,decide_eq_true_iff]
 exact zi6 p0 hc h (hr a ha).1 (hr a ha).2
def mo' (p c:Int) (mo:List Int):List Int:=mo.map fun a=>-(c*a) % p
theorem zcg {p by' c:Int} (p0:0 < p) (hc:Cg p (by'*c) 1):∀ {mo q:List Int},mo.length=q.length→(∀ a∈q,0≤a∧a < p)→mvQ p c (mo' p c mo) (mvQ p by' mo q)=q∧mvQ p by' mo (mvQ p c (mo' p c mo) q)=q
 | [],[],_,_=>⟨rfl,rfl⟩
 | [],_ :: _,h,_=>(by simp at h)
 | _ :: _,[],h,_=>(by simp at h)
 | b :: mo,a :: q,h,hr=>by
  obtain⟨h1,h2⟩:=zcg p0 hc (mo:=mo) (q:=q) (by simpa using h) fun x hx=>hr x (au _ hx)
  obtain⟨a0,a1⟩:=hr a aH
  have e:Cg p (by'*c*a) (1*a):=hc.mul (Cg.refl _ _)
  have eb:Cg p (by'*c*b) (1*b):=hc.mul (Cg.refl _ _)
  constructor
  ·show (c*((by'*a+b) % p) + -(c*b) % p) % p :: _=_
   rw [show a7 (fun a b=>(c*a+b) % p) (a7 (fun a b=>(by'*a+b) % p) q mo) (mo.map fun a=>-(c*a) % p)=q from h1]
   congr 1
   refine (((Cg.emod _ _).trans (((Cg.refl p c).mul (Cg.emod _ _)).add (Cg.emod _ _))).trans ?_).eq (aG _ (by lia)) (az _ p0) a0 a1
   exact (Cg.of_eq (by grind)).trans (e.trans (Cg.of_eq (by simp)))
  ·show (by'*((c*a + -(c*b) % p) % p)+b) % p :: _=_
   rw [show a7 (fun a b=>(by'*a+b) % p) (a7 (fun a b=>(c*a+b) % p) q (mo.map fun a=>-(c*a) % p)) mo=q from h2]
   congr 1
   refine (((Cg.emod _ _).trans ((((Cg.refl p by').mul ((Cg.emod _ _).trans ((Cg.refl _ _).add (Cg.emod _ _))))).add (Cg.refl _ _))).trans ?_).eq (aG _ (by lia)) (az _ p0) a0 a1
   have e5:Cg p (by'*c*a - by'*c*b+b) (1*a - 1*b+b):=(e.sub eb).add (Cg.refl _ _)
   exact (Cg.of_eq (by grind)).trans (e5.trans (Cg.of_eq (by lia)))
theorem zdI (p c:Int) (mo:List Int):(mo' p c mo).length=mo.length:=by unfold mo'; rw [ab]
theorem zmZ {p c x:Int}:∀ {mo:List Int},Cg p (zj p x (mo' p c mo)) (-(c*zj p x mo))
 | []=>Cg.of_eq (by simp [mo',zj])
 | b :: mo=>by
  have ih:=zmZ (p:=p) (c:=c) (x:=x) (mo:=mo)
  have h1:=(zH p x (-(c*b) % p) (mo' p c mo)).trans ((Cg.emod _ _).add ((Cg.refl p x).mul ih))
  have h2:Cg p (-1*(c*zj p x (b :: mo))) (-1*(c*(b+x*zj p x mo))):=(Cg.refl p (-1)).mul ((Cg.refl p c).mul (zH p x b mo))
  exact h1.trans ((Cg.of_eq (by grind)).trans (h2.symm.trans (Cg.of_eq (by lia))))
theorem zil {p by' c:Int} (p0:0 < p) (hc:Cg p (by'*c) 1) {mo:List Int} {lq:List (Int×Int)} (hr:∀ a∈lq,0≤a.2∧a.2 < p):(lq.map (mvP p by' mo)).map (mvP p c (mo' p c mo))=lq:=by
 rw [bq]
 conv=>rhs; rw [← ji lq]
 refine ci fun a ha=>?_
 obtain⟨x,y⟩:=a
 show (x,(c*((by'*y+zj p x mo) % p)+zj p x (mo' p c mo)) % p)=(x,y)
 congr 1
 have e:Cg p (by'*c*y) (1*y):=hc.mul (Cg.refl _ _)
 refine (((Cg.emod _ _).trans (((Cg.refl p c).mul (Cg.emod _ _)).add zmZ)).trans ?_).eq (aG _ (by lia)) (az _ p0) (hr _ ha).1 (hr _ ha).2
 exact (Cg.of_eq (by grind)).trans (e.trans (Cg.of_eq (by simp)))
theorem zm0 {p by' c:Int} (p0:0 < p) (hc:Cg p (by'*c) 1) {k:Nat} {mo:List Int} (hm:mo.length=k) {lq:List (Int×Int)} (hr:∀ a∈lq,0≤a.2∧a.2 < p) (R:Nat→Prop) {qs AW:List (List Int)} (h:∀ q,q∈qs↔IsP p k q∧R (hits p q lq)) (h':∀ q,q∈AW↔IsP p k q∧R (hits p q (lq.map (mvP p by' mo)))) (q':List Int):q'∈AW↔q'∈qs.map (mvQ p by' mo):=by
 rw [h' q',aB]
 constructor
 ·rintro⟨q1,q2⟩
  have hl:mo.length=q'.length:=by rw [hm,q1.1]
  obtain⟨_,b2⟩:=zcg p0 hc hl q1.2
  have I:IsP p k (mvQ p c (mo' p c mo) q'):=zbz p0 (by rw [zdI]; exact hm) q1.1
  refine⟨_,(h _).mpr ⟨I,?_⟩,b2⟩
  rw [← zdH (mo:=mo) p0 hc (hm.trans I.1.symm) hr,b2]
  exact q2
 ·rintro⟨q,hq,rfl⟩
  obtain⟨q1,q2⟩:=(h q).mp hq
  exact⟨zbz p0 hm q1.1,by rw [zdH p0 hc (by rw [hm,q1.1]) hr]; exact q2⟩
theorem zk3 {p by' c:Int} (p0:0 < p) (hc:Cg p (by'*c) 1) {k:Nat} {mo:List Int} (hm:mo.length=k) {qs:List (List Int)} (hq:∀ q∈qs,IsP p k q) (nd:qs.Nodup):(qs.map (mvQ p by' mo)).Nodup:=by
 refine cu.mpr ((List.Pairwise.and_mem.mp nd).imp fun {a b} ⟨ha,hb,me⟩ e=>me ?_)
 have h1:=(zcg p0 hc (by rw [hm,(hq a ha).1]) (hq a ha).2).1
 have h2:=(zcg p0 hc (by rw [hm,(hq b hb).1]) (hq b hb).2).1
 rw [← h1,← h2,e]
theorem zgf {p by' c:Int} (hp:p∈zm) (hc:Cg p (by'*c) 1) {k:Nat} {mo:List Int} (hm:mo.length=k) {qs AW l:List (List Int)} (hR:zde p k qs) (hR':zde p k AW) (h:∀ q',q'∈AW↔q'∈qs.map (mvQ p by' mo)) (hl:l.Perm (qs.map (mvQ p by' mo))) (hs:l.Pairwise fun a b=>Srt.num p a≤Srt.num p b):AW=l:=by
 have rp:=zp hp
 have p0:0 < p:=by lia
 refine zjM hR' (zjL (by lia) (fun q hq=>?_) (hl.nodup_iff.mpr (zk3 p0 hc hm hR.1 (zfo hR))) hs) fun q=>by rw [h,hl.mem_iff]
 obtain⟨q0,DV,rfl⟩:=aB.mp (hl.mem_iff.mp hq)
 exact zbz p0 hm (hR.1 q0 DV).1
theorem zj7 {p by':Int} (p0:0 < p) {k e e':Nat} {mo:List Int} (hm:mo.length≤k) {lq:List (Int×Int)} {l l':List Int} {r r':List (List Int)} (L:LocOk p k [lq] e l r) (L':LocOk p k [lq.map (mvP p by' mo)] e' l' r'):e'≤e:=by
 (refine du fun hn=>?_)
 obtain⟨i,hi⟩:=L.nz
 obtain⟨h1,h2⟩:=L.ok _ (be.mpr rfl)
 refine hi (L'.mn e (by lia) l L.lf (fun pts' mR=>?_) i)
 rw [be.mp mR]
 obtain⟨C,eC⟩:∃ C,C=(zdg mo l (k+e) (e+1)).map (· % p):=⟨_,rfl⟩
 have DQ:C.length=k+e:=by rw [eC,ab]; unfold zdg; rw [ab,aY]
 have FQ:∀ c∈C,0≤c∧c < p:=fun c hc=>by
  rw [eC] at hc
  obtain⟨d,_,rfl⟩:=aB.mp hc
  exact⟨aG _ (by lia),az _ p0⟩
 refine⟨ad p by' C (szd (thr p (tmP p l lq)) (k+e)),⟨by rw [zdL]; exact DQ,ziD p0 _ _ FQ⟩,fun a ha=>?_⟩
 obtain⟨b,hb,rfl⟩:=aB.mp ha
 show zj p b.1 _=zj p b.1 l*((by'*b.2+zj p b.1 mo) % p) % p
 refine Cg.eq (p:=p) ?_ (zai p0 _) (zaj p0 _) (aG _ (by lia)) (az _ p0)
 have e1:Cg p (zj p b.1 (ad p by' C (szd (thr p (tmP p l lq)) (k+e)))) (zj p b.1 C+by'*zj p b.1 (szd (thr p (tmP p l lq)) (k+e))):=zgs _ _ (by rw [DQ,h1.1]; exact af _)
 have e2:Cg p (zj p b.1 C) (zj p b.1 l*zj p b.1 mo):=by
  rw [eC]
  exact (zdS _).trans (ziU hm (by rw [L.lf.1]; exact af _))
 have e3:Cg p (zj p b.1 (szd (thr p (tmP p l lq)) (k+e))) (zj p b.1 l*b.2):=(Cg.of_eq (h2 b hb)).trans (Cg.emod _ _)
 refine (e1.trans (e2.add ((Cg.refl p by').mul e3))).trans ?_
 refine Cg.trans ?_ ((Cg.emod _ _).trans ((Cg.refl p _).mul (Cg.emod _ _))).symm
 exact Cg.of_eq (by grind)
theorem zpG {p by' c:Int} (p0:0 < p) (hc:Cg p (by'*c) 1) {k e e':Nat} {mo:List Int} (hm:mo.length≤k) {lq:List (Int×Int)} {l l':List Int} {r r':List (List Int)} (hr:∀ a∈lq,0≤a.2∧a.2 < p) (L:LocOk p k [lq] e l r) (L':LocOk p k [lq.map (mvP p by' mo)] e' l' r'):e'=e:=by
 have h1:=zj7 p0 hm L L'
 rw [← zil (mo:=mo) p0 hc hr] at L
 have h2:=zj7 p0 (by rw [zdI]; exact hm) L' L
 lia
theorem zpH {p by' c:Int} (p0:0 < p) (hc:Cg p (by'*c) 1) {k m s s':Nat} (hk:2≤k) {mo:List Int} (hm:mo.length≤k) {lq:List (Int×Int)} {g g':Tm→Int} (hr:∀ a∈lq,0≤a.2∧a.2 < p) (L:Lst p k (lq.map fun q=>(q.1,q.2,m)) s g) (L':Lst p k ((lq.map (mvP p by' mo)).map fun q=>(q.1,q.2,m)) s' g'):s'=s:=by
 have h1:=zj6 p0 hc hk hm L L'
 rw [← zil (mo:=mo) p0 hc hr] at L
 have lH:Cg p (c*by') 1:=(Cg.of_eq (dG _ _)).trans hc
 have h2:=zj6 p0 lH hk (by rw [zdI]; exact hm) L' L
 lia
def mvR (p by':Int) (mo:List Int) (pl:List Int) (rw:List (Option Int)):List (Option Int):=a7 (fun x o=>o.map fun y=>(by'*y+zj p x mo) % p) pl rw
theorem zj8 (p by':Int) (mo:List Int):∀ {pl:List Int} {rw:List (Option Int)},rw.length=pl.length→lI pl (mvR p by' mo pl rw)=(lI pl rw).map (mvP p by' mo)
 | [],[],_=>rfl
 | [],_ :: _,h=>by simp at h
 | _ :: _,[],h=>by simp at h
 | x :: pl,o :: rw,h=>by
  have ih:=zj8 p by' mo (pl:=pl) (rw:=rw) (by simpa using h)
  cases o with
  | none=>exact ih
  | some y =>
   show (x,(by'*y+zj p x mo) % p) :: lI pl (mvR p by' mo pl rw)=_
   rw [ih]
   rfl
theorem zm1 {p by':Int} {mo pl:List Int} {rw:List (Option Int)} {j:Nat} {x:Int} {o:Option Int} (hx:pl[j]? = some x) (ho:rw[j]? = some o):(mvR p by' mo pl rw)[j]? = some (o.map fun y=>(by'*y+zj p x mo) % p):=by
 unfold mvR
 rw [dk,hx,ho]
theorem zoo {p by':Int} {mo pl:List Int} {rw:List (Option Int)} (h:rw.length=pl.length):(mvR p by' mo pl rw).length=pl.length:=by
 unfold mvR
 rw [cK]
 lia
set_option tactic.hygienic true in
theorem zop {p by':Int} (p0:0 < p) {mo pl:List Int} {rw:List (Option Int)}:∀ z,some z∈mvR p by' mo pl rw→0≤z∧z < p:=fun z hz=>by
 obtain⟨j,hj⟩:=cA.mp hz
 unfold mvR at hj
 rw [dk] at hj
 split at hj
 ·rename_i x o _ _
  cases o with
  | none=>cases hj
  | some y =>
   cases hj
   exact⟨aG _ (by lia),az _ p0⟩
 ·cases hj
theorem zpI {p by' c:Int} (p0:0 < p) (hc:Cg p (by'*c) 1) {mo q pl:List Int} (h:mo.length=q.length) {rw:List (Option Int)} (hl:rw.length=pl.length) (hr:∀ z,some z∈rw→0≤z∧z < p) (n:Nat):zcZ p pl (mvR p by' mo pl rw) (mvQ p by' mo q) n=zcZ p pl rw q n:=by
 unfold zcZ
 congr 1
 refine gf fun j _=>?_
 unfold zeS
 by_cases hj:j < pl.length
 ·have hx:=ai hj
  have ho:=ai (show j < rw.length by lia)
  rw [zm1 hx ho,hx,ho]
  cases e:rw[j]'(by lia) with
  | none=>rfl
  | some y =>
   have hy:=hr y (by rw [← e]; exact eP _)
   show decide ((by'*y+zj p pl[j] mo) % p=zj p pl[j] (mvQ p by' mo q))=decide (y=zj p pl[j] q)
   rw [cL,decide_eq_true_iff,decide_eq_true_iff]
   constructor
   ·intro z
    exact ((zi6 p0 hc h hy.1 hy.2).mp z.symm).symm
   ·intro z
    exact ((zi6 p0 hc h hy.1 hy.2).mpr z.symm).symm
 ·rw [cw (l:=pl) (by lia)]
end My
end
section
namespace My
open PySem PySem.Spec L2 PyProof.Rows
noncomputable def isAt (H:Hp) (q:List Int) (u:Value):Bool:=@decide (∃ b,u = .ref b∧H b=some (.tup (q.map V.int))) (Classical.propDecidable _)
end My
end
section
namespace My
open PySem L2 PyProof.Rows
theorem zfr {K:ag} {a:Addr} {xs:List V} {g:TG} {ts:TT} {te:TE} {σ0:L2.St} {Q:VK} {H:Hp} (P:Nat→V→Hp→Prop) (hm:∀ i v H1 H2,P i v H1→zt H1 H2→P i v H2) (ha:H a=some (.lst xs)) (hn:xs.length≤1000000)
  (hs:∀ (i:Nat) x H' (N:VK) (N':Hp→Prop),zt H H'→xs[i]? = some x→(∀ v CL,P i v CL→zt H' CL→N v CL)→g x σ0 H' fun σ2 H2=>ts σ2 H2 fun b H3=>if b=true then te σ2 H3 N else N' H3)
  (hd:∀ (vs:List V) H' D,zt H H'→vs.length=xs.length→(∀ (i:Nat) v,vs[i]? = some v→P i v H')→H' D=none→Q (.ref D) (lu H' D (.lst vs))):cGo g ts te σ0 (Itl K a) Q H:=by
 refine zR (n:=xs.length) (fun i ys H'=>zt H H'∧ys.length=i∧∀ (j:Nat) v,ys[j]? = some v→P j v H') ⟨fun _ _ e=>e,rfl,fun j v h=>by simp at h⟩ ?_ ?_ ?_ ?_
 ·rintro i ys H' hi ⟨s,_⟩
  exact⟨_,xs[i]'hi,lr.of (s _ _ ha),ai hi⟩
 ·rintro ys H' ⟨s,_⟩
  exact⟨_,lr.of (s _ _ ha),af _⟩
 ·rintro i x ys H1 H2 hi ⟨s,hl,hP⟩ ⟨rfl,hx⟩
  refine hs i x H2 _ _ s (hx _ (lr.of (s _ _ ha))) fun v H3 hv s3=>⟨by rw [hl,aX]; lia,s.trans s3,by rw [aq,hl]; rfl,fun j v' hj=>?_⟩
  by_cases e:j < ys.length
  ·rw [bo e] at hj
   exact hm _ _ _ _ (hP j v' hj) s3
  ·rw [bN (by lia)] at hj
   have:j=i:=by
    have:=(aD.mp hj).1
    simp only [fh] at this
    lia
   subst this
   rw [hl,fX] at hj
   cases hj
   exact hv
 ·rintro ys H1 D ⟨s,hl,hP⟩ hD
  exact hd ys H1 D s hl hP hD
def zim (qs:List (List Int)) (f:List Int→List Int) (i:Nat) (v:V) (H:Hp):Prop:=∃ (q:List Int) (l:Addr),qs[i]? = some q∧v = .ref l∧H l=some (.tup ((f q).map V.int))
theorem zim.mono {qs:List (List Int)} {f:List Int→List Int} (i:Nat) (v:V) (H1 H2:Hp) (h:zim qs f i v H1) (s:zt H1 H2):zim qs f i v H2:=let ⟨q,l,a,b,c⟩:=h; ⟨q,l,a,b,s _ _ c⟩
theorem zm2 {f:List Int→List Int} {H:Hp}:∀ {qs:List (List Int)} {vs:List V},vs.length=qs.length→(∀ (i:Nat) v,vs[i]? = some v→zim qs f i v H)→∃ ps:List (Addr×List Int),vs=ps.map (fun q=>V.ref q.1)∧ps.map (·.2)=qs.map f∧∀ q∈ps,H q.1=some (.tup (q.2.map V.int))
 | [],[],_,_=>⟨[],rfl,rfl,fun q hq=>by cases hq⟩
 | [],_ :: _,h,_=>(by simp at h)
 | _ :: _,[],h,_=>(by simp at h)
 | q :: qs,v :: vs,h,hv=>by
  obtain⟨ps,e1,e2,e3⟩:=zm2 (qs:=qs) (vs:=vs) (by simpa using h) fun i w hw=>by
   obtain⟨q',l,a,b⟩:=hv (i+1) w (by simpa using hw)
   exact⟨q',l,by simpa using a,b⟩
  obtain⟨q',l,a,rfl,c⟩:=hv 0 v rfl
  have a:q=q':=by simpa using a
  subst a
  refine⟨(l,f q) :: ps,by rw [e1]; rfl,by rw [aZ,e2]; rfl,fun x hx=>?_⟩
  rcases (aI.mp hx) with rfl | hx
  ·exact c
  ·exact e3 x hx
theorem zhc {H:Hp}:∀ {ps:List (Addr×List Int)},(∀ q∈ps,H q.1=some (.tup (q.2.map V.int)))→zbi H (ps.map (·.1)) (ps.map (·.2))
 | [],_=>.nil
 | q :: ps,h=>.cons (h q aH) (zhc fun x hx=>h x (au _ hx))
theorem zin {K:ag} {H:Hp} {d:Nat} {n:Int}:EqD K H d (.int n) (.int n) true:=by
 have h:=EqD.flat (K:=K) (H:=H) (d:=d) (x:=.int n) (y:=.int n) rfl rfl
 have e:eqV (.int n) (.int n)=true:=by simp [eqV]
 rw [e] at h
 exact h
theorem zm3 {K:ag} {H:Hp} {d:Nat} {a b:Addr} {ms:List Int} (ha:H a=some (.tup (ms.map V.int))) (hb:H b=some (.tup (ms.map V.int))):EqD K H (d+1) (.ref a) (.ref b) true:=by
 by_cases me:a=b
 ·subst me
  exact .same
 ·have h:=EqD.tups (K:=K) (H:=H) (d:=d) (e:=fun _=>true) me (lE.of ha) (lE.of hb) fun j x y h1 h2=>by
   rw [h1] at h2
   cases h2
   obtain⟨z,rfl,_⟩:=zab h1
   exact zin
  have e:((aJ (min (ms.map V.int).length (ms.map V.int).length)).all (fun _=>true) && (ms.map V.int).length == (ms.map V.int).length)=true:=by simp
  rw [e] at h
  exact h
theorem zm4 {K:ag} {H:Hp} {d:Nat} {a b:Addr} {rs AJ:List Addr} {qs:List (List Int)} (ha:H a=some (.lst (rs.map V.ref))) (hb:H b=some (.lst (AJ.map V.ref))) (h1:zbi H rs qs) (h2:zbi H AJ qs):EqD K H (d+2) (.ref a) (.ref b) true:=by
 by_cases me:a=b
 ·subst me
  exact .same
 ·have hl:(rs.map V.ref).length=(AJ.map V.ref).length:=by rw [ab,ab,h1.length,h2.length]
  have h:=EqD.lists (K:=K) (H:=H) (d:=d+1) (e:=fun _=>true) me (lr.of ha) (lr.of hb) hl fun j x y e1 e2=>by
   obtain⟨u,rfl,hu⟩:=zS e1
   obtain⟨v,rfl,hv⟩:=zS e2
   obtain⟨q,g1,g2⟩:=Paired.get h1 hu
   obtain⟨q',g3,g4⟩:=Paired.get h2 hv
   rw [g1] at g3
   cases g3
   exact zm3 g2 g4
  have e:(aJ (rs.map V.ref).length).all (fun _=>true)=true:=by simp
  rw [e] at h
  exact h
end My
end
section
namespace L2
open PySem PySem.Spec PyProof.Rows
theorem zpJ {X:Cx} (hu:X.A.units+20 < cLine):OpR X (compareOp .NotEq) (fun x y H Q=>(x = .non∧y = .non∧Q (.bl false) H)∨zkp X.K true x y H Q):=by
 intro lj s σ H x y v u Q I rx ry h
 rcases h with ⟨rfl,rfl,q⟩ | h
 ·exact zhj lj s σ H .non .non v u Q I rx ry ⟨rfl,q⟩
 ·exact zgr hu lj s σ H x y v u Q I rx ry h
end L2
end
section
namespace L2
open PySem PySem.Spec PyProof.Rows Srt
end L2
end
section
namespace My
open PySem L2 PyProof.Rows
section
variable {P:Program} {w:World} {K:ag} {mg:Str→Option Value} {base:Heap} {t:Adr}
def zfs (K:ag):Sp:=fun vs H Q _=>∃ (p by':Int) (o mr:Addr) (q mo:List Int),vs = [.int p,.ref o,.int by',.ref mr]∧H o=some (.tup (q.map V.int))∧H mr=some (.tup (mo.map V.int))∧mo.length=q.length∧q.length≤100∧0 < p∧p≤97∧0≤by'∧by' < p ∧
 ∀ (l:Addr) (H':Hp),H l=none→zt H H'→H' l=some (.tup ((mvQ p by' mo q).map V.int))→Q (.ref l) H'
theorem zft:FnScope ["p","one","by","more"] ["p","one","by","more"] (zh za4):=⟨rfl,rfl,rfl,by decide +kernel,rfl,by decide +kernel,by decide +kernel⟩
theorem zfu {fd:FuncData} (T:Txt K mg t) (F:Fun K "_law_moved_one" "_law_moved_one" za4 t.l_moved_one fd):FnOk P w K mg base CX0 1 t.l_moved_one fd ["p","one","by","more"] (zfs K):=by
 refine F.ok zft (fun vs H Q E h=>?_) (fun mh A outer s H vs Q E hr h=>?_)
 ·obtain⟨p,by',o,mr,q,mo,rfl,_⟩:=h
  rfl
 ·obtain⟨p,by',o,mr,q',mo,rfl,ho,hm,hl,hn,p0,AV,b0,b1,q⟩:=h
  refine⟨_,#[zn,#[zF,#[zaA,#[zao],T.tuple_,fE,#[ya,#[zV,(CompSc.of (N':=["a","b","by","p"]) (ix:=[none,none,some 2,some 0]) (zh za4) ["p","one","by","more"] rfl rfl (by decide +kernel)),#[zaC,#[zu,#[zu,#[zan]]]],(zlG rfl T.zip_ #[za,#[pvx,1],#[ya,#[pvx,3]]]),(fun _ _ _ _=>#[zah,(K),2,#[zi,#[zf,0,(show (["a","b","by","p"]:List Str).Nodup by decide +kernel),(am rfl)],#[zi,#[zf,1,(show (["a","b","by","p"]:List Str).Nodup by decide +kernel),(am rfl)],#[zD]]]]),(fun _ _ _ _=>#[zw]),(fun _ _ _ _=>#[zl,#[zK],#[zl,#[zO],#[zl,#[zW],#[pvx,2],#[pvx,0]],#[pvx,1]],#[pvx,3]])]]]]],?_⟩
  have o8:=aX
  refine (lp rfl (lp rfl (ex4 o mr _ _ ⟨rfl,lE.of ho,lE.of hm,zR (n:=q'.length) (fun i ys H'=>zt H H'∧ys=((mvQ p by' mo q').take i).map V.int) ⟨fun _ _ e=>e,rfl⟩ ?_ ?_ ?_ ?_⟩)))
  ·rintro i ys H3 hi ⟨s3,_⟩
   exact⟨_,_,.int q'[i],.int (mo[i]'(by lia)),lE.of (s3 _ _ ho),lE.of (s3 _ _ hm),by rw [ah,ai hi]; rfl,by rw [ah,ai (show i < mo.length by lia)]; rfl⟩
  ·rintro ys H3 ⟨s3,_⟩
   exact⟨_,_,lE.of (s3 _ _ ho),lE.of (s3 _ _ hm),.inl (by rw [ab])⟩
  ·rintro i xx ys H3 H4 hi ⟨s3,rfl⟩ ⟨T,u,v,hT,rfl,rfl,hu,hv⟩
   obtain⟨x,rfl,hx⟩:=zab (hu _ (lE.of (s3 _ _ ho)))
   obtain⟨y,rfl,hy⟩:=zab (hv _ (lE.of (s3 _ _ hm)))
   have hz:(mvQ p by' mo q')[i]? = some ((by'*x+y) % p):=by
    unfold mvQ
    rw [dk,hx,hy]
   refine gY2 (lE.of zc) ?_
   refine (lp rfl (lp rfl (lD rfl rfl ⟨.inl ⟨by lia,by lia⟩,(lp rfl (lD rfl rfl (lp rfl (lD rfl rfl ⟨p0,by rw [ab,av]; lia,s3.trans (zb hT),?_⟩))))⟩)))
   rw [take_snoc hz,ao]
   rfl
  ·rintro ys H3 D ⟨s3,rfl⟩ hD
   have pq:(mvQ p by' mo q').length=q'.length:=by unfold mvQ; rw [cK]; lia
   rw [aP (by lia)]
   refine⟨D,(lp rfl (.inl ⟨lr.of zc,fun l yg=>?_⟩))⟩
   have s4:=s3.trans (zb (o:=.lst ((mvQ p by' mo q').map V.int)) hD)
   exact q l _ (s4.free yg) (s4.trans (zb yg)) zc
end
end My
end
section
namespace My
open PySem L2 PyProof.Rows
section
variable {P:Program} {w:World} {K:ag} {mg:Str→Option Value} {base:Heap} {t:Adr}
theorem zj9:∀ {pl:List Int} {rw:List (Option Int)},rw.length=pl.length→(lI pl rw).length=(rw.filter k8).length
 | [],[],_=>rfl
 | [],_ :: _,h=>by simp at h
 | _ :: _,[],h=>by simp at h
 | x :: pl,o :: rw,h=>by
  have ih:=zj9 (pl:=pl) (rw:=rw) (by simpa using h)
  cases o with
  | none=>exact ih
  | some y =>
   show (lI pl rw).length+1=(rw.filter k8).length+1
   rw [ih]
theorem zk4 {H:Hp} {Q:VK} {a b:Addr} {xs ys:List V} (ha:lr K H a xs) (hb:lr K H b ys) (hl:xs.length=ys.length) (he:∀ (j:Nat) x y,xs[j]? = some x→ys[j]? = some y→EqD K H 8 x y true) (q:Q (.bl false) H):zkp K true (.ref a) (.ref b) H Q:=by
 refine⟨a,b,_,_,rfl,rfl,.inl ⟨ha,hb⟩,.inr ⟨hl,fun _=>true,he,?_⟩⟩
 have:(aJ xs.length).all (fun _=>true)=true:=by simp
 rw [this]
 exact q
theorem zm5 {H:Hp} {Q:VK} {a b:Addr} {ms:List Int} (ha:H a=some (.tup (ms.map V.int))) (hb:H b=some (.tup (ms.map V.int))) (q:Q (.bl false) H):zkp K true (.ref a) (.ref b) H Q:=by
 refine⟨a,b,_,_,rfl,rfl,.inr ⟨lE.of ha,lE.of hb⟩,.inr ⟨rfl,fun _=>true,fun j x y e1 e2=>?_,?_⟩⟩
 ·rw [e1] at e2
  cases e2
  obtain⟨z,rfl,_⟩:=zab e1
  exact zib rfl
 ·have:(aJ (ms.map V.int).length).all (fun _=>true)=true:=by simp
  rw [this]
  exact q
theorem zi7 {H:Hp} {Q:VK} {a b:Addr} {ms:List Int} (ha:H a=some (.lst (ms.map V.int))) (hb:H b=some (.lst (ms.map V.int))) (q:Q (.bl false) H):zkp K true (.ref a) (.ref b) H Q:=zkq (.inl ⟨lr.of ha,lr.of hb⟩) (by rw [decide_eq_true rfl]; exact q)
theorem zoq {m b:Int} (m0:0≤m) (m1:m < 2) {p:Int} (p5:5≤p) (b0:0 < b) (b1:b < p):∃ x:Int,atI [V.int 1,V.int b] m=some (.int x)∧0 < x∧x < p:=by
 rcases (show m=0∨m=1 by lia) with rfl | rfl
 ·exact⟨1,rfl,by lia,by lia⟩
 ·exact⟨b,rfl,b0,b1⟩
theorem zaF:FnScope ["script","at","code","p","k","places","row","plan","more","by","other","x","entry","t","near","most","ones","one","m"] ["script"] (zh zbY):=⟨rfl,rfl,rfl,by decide +kernel,rfl,by decide +kernel,by decide +kernel⟩
theorem zpK {fd:FuncData} (T:Txt K mg t) (F:Fun K "law" "law" zbY t.law fd):FnOk P w K mg base CX0 8 t.law fd ["script"] (zgv K):=by
 obtain⟨uX,sL,qB⟩:=T.f_l_code
 have vX:=zkW (P:=P) (w:=w) (base:=base) T sL
 obtain⟨vY,uz,rV⟩:=T.f_l_row
 have xy:=zmB (P:=P) (w:=w) (base:=base) T uz
 obtain⟨oW,lW,mi⟩:=T.f_l_draws
 have mT:=zdh (P:=P) (w:=w) (base:=base) T lW
 obtain⟨qp,nG,nH⟩:=T.f_l_value
 have pD:=zff (P:=P) (w:=w) (base:=base) T nG
 obtain⟨sM,oY,nP⟩:=T.f_all_near
 have qC:=zie (P:=P) (w:=w) (base:=base) T oY
 obtain⟨qD,l9,lS⟩:=T.f_l_moved_one
 have mK:=zfu (P:=P) (w:=w) (base:=base) T l9
 obtain⟨tZ,pJ,oD⟩:=T.f_nearest
 have rJ:=zi2 (P:=P) (w:=w) (base:=base) T pJ
 obtain⟨qi,mN,nj⟩:=T.f_fits
 have oh:=zeu (P:=P) (w:=w) (base:=base) T mN
 obtain⟨xA,ua,rW⟩:=T.f_half
 have vZ:=zoi (P:=P) (w:=w) (base:=base) T ua
 obtain⟨oQ,lX,lY⟩:=T.f_locator_of
 have mS:=zc7 (P:=P) (w:=w) (base:=base) T lX
 obtain⟨rX,ou,nh⟩:=T.f_curve_for
 have pY:=zg4 (P:=P) (w:=w) (base:=base) T ou
 refine F.ok zaF (fun vs H Q E h=>?_) (fun mh A outer s H vs Q E hr h=>?_)
 ·obtain⟨a,ns,rfl,_⟩:=h
  rfl
 ·obtain⟨a,ns,rfl,hS,lF,q⟩:=h
  have hu:(A.deeper (envOfC (bW "law") (zh zbY) s.heap.objs.size t.law mh)).units+20 < cLine:=by have:=hr.units; lia
  refine⟨_,#[zd,#[za7,bI,#[zaq,T.range_,#[ya,#[zg]]],#[zf,1,zaF.nd,(am rfl)],#[zd,#[zq,2,zaF.nd,(am rfl),#[zo,vX,(hr.mono (by decide)),T.m_l_code,sL.kp,qB,#[zy],#[za,#[pvx,0],by exact #[za,#[zl,#[zW],#[zg],#[pvx,1]],#[za,#[zg],#[ya,#[zg]]]]]]],#[zd,#[zbd,#[pvx,2],#[zaK,#[zi,#[zf,3,zaF.nd,(cb rfl)],#[zi,#[zf,4,zaF.nd,(am rfl)],#[zi,#[zf,5,zaF.nd,(am rfl)],#[zD]]]]]],#[zd,#[zq,6,zaF.nd,(am rfl),#[zo,xy,(hr.mono (by decide)),T.m_l_row,uz.kp,rV,#[zy],#[za,#[pvx,0],#[za,#[zl,#[zO],#[zl,#[zW],#[zg],#[pvx,1]],#[zg]],#[ya,#[pvx,2]]]]]],#[zd,#[zq,7,zaF.nd,(am rfl),#[zo,mT,(hr.mono (by decide)),T.m_l_draws,lW.kp,mi,#[zy],#[za,#[pvx,0],by exact #[za,#[zl,#[zO],#[zl,#[zW],#[zg],#[pvx,1]],#[zg]],#[za,#[zg],#[ya,#[zg]]]]]]],#[zd,#[zq,8,zaF.nd,(cb rfl),#[zaA,#[zao],T.tuple_,fE,#[ya,#[zV,(CompSc.of (N':=["draw","p"]) (ix:=[none,some 3]) (zh zbY) ["script","at","code","p","k","places","row","plan","more","by","other","x","entry","t","near","most","ones","one","m"] rfl rfl (by decide +kernel)),#[zam],#[zN,#[zaG,zbt,#[pvx,7],#[zbe],#[zaS,#[pvx,4]]]],(fun _ _ _ _=>#[zf,0,(show (["draw","p"]:List Str).Nodup by decide +kernel),(am rfl)]),(fun _ _ _ _=>#[zw]),(fun _ _ _ _=>#[zl,#[zK],#[pvx,0],#[pvx,1]])]]]],#[zd,(zgL #[zq,9,zaF.nd,(cb rfl),#[zQ,#[zG],#[z9,#[za,#[zg],#[ya,#[zl,#[zO],#[zg],#[zl,#[zK],#[zQ,#[zG],#[pvx,7],#[zg]],#[zl,#[zaY],#[pvx,3],#[zg]]]]]]],#[zl,#[zK],#[zQ,#[zG],#[pvx,7],#[zg]],#[zg]]]]),#[zd,#[zq,10,zaF.nd,(am rfl),#[z9,#[ze]]],#[zd,#[za7,bI,#[zhH,T.zip_,#[za,#[pvx,5],#[ya,#[pvx,6]]]],#[zaK,#[zi,#[zf,11,zaF.nd,(am rfl)],#[zi,#[zf,12,zaF.nd,(am rfl)],#[zD]]]],#[zn,#[zci,#[zeG,cF,cU,cV,#[zbL],#[pvx,10],#[ya,#[zey,#[zL,#[zit],#[pvx,12],#[zbo],(zX _)],#[zbo],#[zl,#[zK],#[zl,#[zO],#[zl,#[zW],#[pvx,9],#[pvx,12]],#[zo,pD,(hr.mono (by decide)),T.m_l_value,nG.kp,nH,#[zy],#[za,#[pvx,3],#[za,#[pvx,8],#[ya,#[pvx,11]]]]]],#[pvx,3]]]]]]]],#[zd,#[za7,bI,#[zN,#[z9,#[za,#[pvx,4],#[za,#[zl,#[zO],#[pvx,4],#[zg]],#[ya,#[zl,#[zO],#[pvx,4],#[zg]]]]]]],#[zf,13,zaF.nd,(am rfl)],#[zd,#[zq,14,zaF.nd,(am rfl),#[zo,qC,(hr.mono (by decide)),T.m_all_near,oY.kp,nP,#[zy],#[za,#[pvx,2],#[za,#[pvx,6],#[ya,#[pvx,13]]]]]],#[zn,#[za0,#[zL,#[zgr,hu],#[zo,qC,(hr.mono (by decide)),T.m_all_near,oY.kp,nP,#[zy],#[za,#[pvx,2],#[za,#[pvx,10],#[ya,#[pvx,13]]]]],#[zC,#[zdw],T.sorted_,ki,#[ya,#[zV,(CompSc.of (N':=["one","p","by","more"]) (ix:=[none,some 3,some 9,some 8]) (zh zbY) ["script","at","code","p","k","places","row","plan","more","by","other","x","entry","t","near","most","ones","one","m"] rfl rfl (by decide +kernel)),#[zam],#[zN,#[pvx,14]],(fun _ _ _ _=>#[zf,0,(show (["one","p","by","more"]:List Str).Nodup by decide +kernel),(am rfl)]),(fun _ _ _ _=>#[zw]),(fun _ _ _ _=>#[zo,mK,(hr.mono (by decide)),T.m_l_moved_one,l9.kp,lS,#[zy],#[za,#[pvx,1],by exact #[za,#[pvx,0],#[za,#[pvx,2],#[ya,#[pvx,3]]]]]])]]],(zX _)],#[zn,#[zF,#[zdX]]],#[zag]]]]],#[zd,(zgL #[za0,#[zL,#[zlb],#[zC,#[zE],T.len_,cB,#[ya,#[zV,(CompSc.of (N':=["entry"]) (ix:=[none]) (zh zbY) ["script","at","code","p","k","places","row","plan","more","by","other","x","entry","t","near","most","ones","one","m"] rfl rfl (by decide +kernel)),#[zam],#[zN,#[pvx,6]],(fun _ _ _ _=>#[zf,0,(show (["entry"]:List Str).Nodup by decide +kernel),(am rfl)]),(fun _ _ _ _=>#[zbP,#[zL,#[zjc],#[pvx,0],#[zbo],(zX _)]]),(fun _ _ _ _=>#[pvx,0])]]],#[pvx,4],(zX _)],#[zd,#[zbd,#[zo,rJ,(hr.mono (by decide)),T.m_nearest,pJ.kp,oD,#[zy],#[za,#[pvx,2],#[ya,#[pvx,6]]]],#[zaK,#[zi,#[zf,15,zaF.nd,(am rfl)],#[zi,#[zf,16,zaF.nd,(am rfl)],#[zD]]]]],#[zd,#[za0,#[zL,#[zgr,hu],#[zo,rJ,(hr.mono (by decide)),T.m_nearest,pJ.kp,oD,#[zy],#[za,#[pvx,2],#[ya,#[pvx,10]]]],#[zaw,#[za,#[pvx,15],#[ya,#[zC,#[zdw],T.sorted_,ki,#[ya,#[zV,(CompSc.of (N':=["one","p","by","more"]) (ix:=[none,some 3,some 9,some 8]) (zh zbY) ["script","at","code","p","k","places","row","plan","more","by","other","x","entry","t","near","most","ones","one","m"] rfl rfl (by decide +kernel)),#[zam],#[zN,#[pvx,16]],(fun _ _ _ _=>#[zf,0,(show (["one","p","by","more"]:List Str).Nodup by decide +kernel),(am rfl)]),(fun _ _ _ _=>#[zw]),(fun _ _ _ _=>#[zo,mK,(hr.mono (by decide)),T.m_l_moved_one,l9.kp,lS,#[zy],#[za,#[pvx,1],by exact #[za,#[pvx,0],#[za,#[pvx,2],#[ya,#[pvx,3]]]]]])]]]]]],(zX _)],#[zn,#[zF,#[zdX]]],#[zag]],#[zn,#[za0,#[zL,#[zgr,hu],#[zo,oh,(hr.mono (by decide)),T.m_fits,mN.kp,nj,#[zy],#[za,#[pvx,2],#[za,#[pvx,10],#[ya,#[zo,mK,(hr.mono (by decide)),T.m_l_moved_one,l9.kp,lS,#[zy],#[za,#[pvx,3],by exact #[za,#[zQ,#[zG],#[pvx,16],#[zg]],#[za,#[pvx,9],#[ya,#[pvx,8]]]]]]]]]],#[zo,oh,(hr.mono (by decide)),T.m_fits,mN.kp,nj,#[zy],#[za,#[pvx,2],#[za,#[pvx,6],#[ya,#[zQ,#[zG],#[pvx,16],#[zg]]]]]],(zX _)],#[zn,#[zF,#[zdX]]],#[zag]]]]],#[zag]]),#[zd,#[zq,17,zaF.nd,(am rfl),#[zo,vZ,(hr.mono (by decide)),T.m_half,ua.kp,rW,#[zy],#[za,#[pvx,2],#[ya,#[pvx,6]]]]],#[zd,(zgL #[za0,#[zL,(zpJ hu),#[zo,vZ,(hr.mono (by decide)),T.m_half,ua.kp,rW,#[zy],#[za,#[pvx,2],#[ya,#[pvx,10]]]],#[zey,#[zL,#[zit],#[pvx,17],#[zbo],(zX _)],#[zbo],#[zo,mK,(hr.mono (by decide)),T.m_l_moved_one,l9.kp,lS,#[zy],#[za,#[pvx,3],by exact #[za,#[pvx,17],#[za,#[pvx,9],#[ya,#[pvx,8]]]]]]],(zX _)],#[zn,#[zF,#[zdX]]],#[zag]]),#[zd,#[za0,#[zL,#[zhj],#[zQ,#[zb4],#[zo,mS,(hr.mono (by decide)),T.m_locator_of,lX.kp,lY,#[zy],#[za,#[pvx,2],#[ya,#[pvx,10]]]],#[zg]],#[zQ,#[zb4],#[zo,mS,(hr.mono (by decide)),T.m_locator_of,lX.kp,lY,#[zy],#[za,#[pvx,2],#[ya,#[pvx,6]]]],#[zg]],(zX _)],#[zn,#[zF,#[zdX]]],#[zag]],#[zn,#[za7,bI,#[zN,#[zaG,zbt,#[z9,#[za,#[zg],#[ya,#[zg]]]],#[zbe],#[zaS,#[zl,#[zW],#[zg],#[zaA,(@zke _),T.int_,boot_int,#[ya,(@znb _ _ _ _ _ _ _ _ #[zhk] #[pvx,4] #[zg] (zX _))]]]]]],#[zf,18,zaF.nd,(am rfl)],#[zn,#[za0,#[zL,#[zhj],#[zQ,#[zb4],#[zo,pY,(hr.mono (by decide)),T.m_curve_for,ou.kp,nh,#[zy],#[za,#[pvx,2],#[za,#[pvx,10],#[ya,#[pvx,18]]]]],#[zg]],#[zQ,#[zb4],#[zo,pY,(hr.mono (by decide)),T.m_curve_for,ou.kp,nh,#[zy],#[za,#[pvx,2],#[za,#[pvx,6],#[ya,#[pvx,18]]]]],#[zg]],(zX _)],#[zn,#[zF,#[zdX]]],#[zag]]]]]]]]]]]]]]]]]]],#[zn,#[zF,#[zdX]]]],?_⟩
  have o8:=aX
  refine⟨2,rfl,by decide,by decide,?_⟩
  refine zca (lo:=0) (n:=2) (fun i σ H'=>∃ (e1 e2 e3 e4 e5 e6 e7 e8 e9 qP tY tF uY uZ wc uR xm tS:Option V),σ = [some (.ref a),e1,e2,e3,e4,e5,e6,e7,e8,e9,qP,tY,tF,uY,uZ,wc,uR,xm,tS]∧zt H H') (zp6 none none none none none none none none none none none none none none none none none none ⟨rfl,fun _ _ e=>e⟩) ?_ ?_
  ·rintro i σ H0 hi ⟨e1,e2,e3,e4,e5,e6,e7,e8,e9,qP,tY,tF,uY,uZ,wc,uR,xm,tS,rfl,s0⟩
   refine (lp rfl (lp rfl (lD rfl rfl ⟨.inl ⟨by decide,by decide⟩,a,ns,4*(0+(i:Int)),4,10,rfl,s0.seq hS,lF,by lia,by lia,by decide,by decide,by decide,by decide,fun c tt p kI pl H1 vL s1 co rO h1t=>?_⟩)))
   have rp:=zp co.pr
   have k1:=co.k1
   have kk:=co.kk
   have kn:=co.kl
   have ln:=co.ln
   have p0:0 < p:=by lia
   obtain⟨k,rfl⟩:∃ k:Nat,kI=k:=⟨kI.toNat,by lia⟩
   have hcA:zbf H1 c tt p k pl:=⟨rO,h1t⟩
   have tW:=s0.trans s1
   refine⟨_,rfl,c,_,rfl,lE.of rO,rfl,_,_,rfl,_,_,rfl,_,_,rfl,rfl,?_⟩
   refine (lp rfl (lp rfl (lD rfl rfl ⟨.inl ⟨by decide,by decide⟩,(lD rfl rfl (lp rfl (ex8 a c tt ns (4*(0+(i:Int))+1) p k pl ⟨rfl,tW.seq hS,lF,by lia,by lia,hcA,by lia,by lia,co.rg,by lia,fun r rw H2 AI s2 nY qW Ef=>?_⟩)))⟩)))
   have Em:=tW.trans s2
   refine (lp rfl (lp rfl (lD rfl rfl ⟨.inl ⟨by decide,by decide⟩,(lD rfl rfl (ex5 a ns (4*(0+(i:Int))+3) 8 27720 ⟨rfl,Em.seq hS,lF,by lia,by lia,by decide,by decide,by decide,by decide,fun dl ds H3 DU s3 ok h3=>?_⟩))⟩)))
   have hcC:=(hcA.same s2).same s3
   refine (lp rfl (lp rfl (lp rfl ⟨dl,(lp rfl ⟨lr.of h3,fun S hS4=>?_⟩)⟩)))
   rw [zgX,← de]
   have w4:=zb (o:=.lst ((ds.take k).map V.int)) hS4
   have g4:lu H3 S (.lst ((ds.take k).map V.int)) S=some (.lst ((ds.take k).map V.int)):=zc
   generalize lu H3 S (.lst ((ds.take k).map V.int))=H4 at w4 g4 ⊢
   have hdsl:ds.length=8:=ok.1
   refine⟨S,rfl,⟨_,lr.of g4⟩,zcd (fs:=((ds.take k).map (· % p)).map V.int) (lr.of g4) (by simp) (by rw [ab,av]; lia) (fun j x y R B hx hy hR=>?_) fun D1 hD1=>?_⟩
   ·obtain⟨o,rfl,ho⟩:=zab hx
    rw [ah,ah,ho] at hy
    have hy:V.int (o % p)=y:=by simpa using hy
    subst hy
    exact (lp rfl (lp rfl (lD rfl rfl ⟨p0,hR⟩)))
   obtain⟨mo,G0⟩:∃ mo,mo=(ds.take k).map (· % p):=⟨_,rfl⟩
   have GZ:IsP p k mo:=by
    refine⟨by rw [G0,ab,av]; lia,fun x hx=>?_⟩
    rw [G0] at hx
    obtain⟨y,_,rfl⟩:=aB.mp hx
    exact⟨aG _ (by lia),az _ p0⟩
   rw [← G0]
   refine⟨D1,(lp rfl (.inl ⟨lr.of zc,fun mr DL=>?_⟩))⟩
   have w5:=(w4.trans (zb (o:=.lst (mo.map V.int)) hD1)).trans (zb (o:=.tup (mo.map V.int)) DL)
   have g5:lu (lu H4 D1 (.lst (mo.map V.int))) mr (.tup (mo.map V.int)) mr=some (.tup (mo.map V.int)):=zc
   generalize lu (lu H4 D1 (.lst (mo.map V.int))) mr (.tup (mo.map V.int))=H5 at w5 g5 ⊢
   have xv:=w5 _ _ h3
   obtain⟨d6,hd6,_⟩:=zoE (i:=6) ok (by decide) (by decide)
   obtain⟨d7,hd7,_⟩:=zoE (i:=7) ok (by decide) (by decide)
   have b0:=aG d6 (show p - 1≠0 by lia)
   have b1:=az d6 (show 0 < p - 1 by lia)
   have o0:=aG d7 (show (2:Int)≠0 by decide)
   have o1:=az d7 (show (0:Int) < 2 by decide)
   refine⟨fun σ H'=>∃ bb:Int,σ = [some (.ref a),some (.int (0+(i:Int))),some (.ref c),some (.int p),some (.int (k:Int)),some (.ref tt),some (.ref r),some (.ref dl),some (.ref mr),some (.int bb),qP,tY,tF,uY,uZ,wc,uR,xm,tS]∧zt H5 H'∧0 < bb∧bb < p,?_,?_⟩
   ·refine (lp rfl (ex4 dl _ _ _ ⟨rfl,rfl,lr.of xv,hd6,(lp rfl (lD rfl rfl (lD rfl rfl ⟨by lia,(lD rfl rfl ⟨by show 2≤sizeLine; lia,fun BL hBL=>?_⟩)⟩)))⟩))
    obtain⟨bb,ED,G1,Ab⟩:=zoq (b:=1+d6 % (p - 1)) o0 o1 rp.1 (by lia) (by lia)
    exact (lp rfl (ex4 dl _ _ _ ⟨rfl,rfl,lr.of ((zb hBL) _ _ xv),hd7,(lD rfl rfl ⟨by show (0:Int) < 2; decide,BL,_,_,.int bb,rfl,rfl,lr.of zc,ED,bb,rfl,zb hBL,G1,Ab⟩)⟩))
   rintro σ' H6 ⟨bb,rfl,s6,G1,Ab⟩
   have uS:Cg p (bb*inv p bb) 1:=(Cg.of_eq (dG _ _)).trans (zeJ co.pr G1 Ab)
   have G2:=w5.trans s6
   have CM:=hcC.same G2
   have CN:=(s3.trans G2) _ _ Ef
   have h6m:=s6 _ _ g5
   refine⟨bj _,fun ol G3=>?_⟩
   have h7o:lu H6 ol (.lst []) ol=some (.lst []):=zc
   have s7:=zb (o:=.lst []) G3
   generalize lu H6 ol (.lst [])=H7 at s7 h7o ⊢
   obtain⟨rT,CP⟩:∃ x,x=mvR p bb mo pl rw:=⟨_,rfl⟩
   have AX:rT.length=pl.length:=by rw [CP]; exact zoo nY
   have CQ:∀ z,some z∈rT→0≤z∧z < p:=by rw [CP]; exact zop p0
   refine (lp rfl (lp rfl (ex4 tt r _ _ ⟨rfl,lE.of (CM.same s7).2,lr.of (s7 _ _ CN),zgm (n:=pl.length) (fun j σ H'=>∃ (tY tF:Option V),σ = [some (.ref a),some (.int (0+(i:Int))),some (.ref c),some (.int p),some (.int (k:Int)),some (.ref tt),some (.ref r),some (.ref dl),some (.ref mr),some (.int bb),some (.ref ol),tY,tF,uY,uZ,wc,uR,xm,tS]∧zt H6 H'∧H' ol=some (.lst ((rT.take j).map o9))) ⟨tY,tF,rfl,s7,h7o⟩ ?_ ?_ ?_ ?_⟩)))
   ·rintro j σ H8 hj ⟨_,_,rfl,s8,_⟩
    obtain⟨o,ho⟩:∃ o,rw[j]? = some o:=⟨rw[j]'(by lia),by simp⟩
    exact⟨_,_,.int pl[j],o9 o,lE.of (CM.same s8).2,lr.of (s8 _ _ CN),by rw [ah,ai hj]; rfl,by rw [ah,ho]; rfl⟩
   ·rintro σ H8 ⟨_,_,rfl,s8,_⟩
    exact⟨_,_,lE.of (CM.same s8).2,lr.of (s8 _ _ CN),.inl (by rw [ab])⟩
   ·rintro j xx σ H8 H9 hj ⟨tY,tF,rfl,s8,Ep⟩ ⟨T,u,v,hT,rfl,rfl,hu',hv⟩
    obtain⟨x,rfl,hx⟩:=zab (hu' _ (lE.of (CM.same s8).2))
    obtain⟨o,rfl,ho⟩:=zeh (hv _ (lr.of (s8 _ _ CN)))
    have xr:=co.rg x (aF hx)
    have v9:=zb (o:=.tup [.int x,o9 o]) hT
    have s9:=s8.trans v9
    have Er:=v9 _ _ Ep
    refine⟨T,_,rfl,lE.of zc,rfl,_,_,rfl,_,_,rfl,rfl,?_⟩
    generalize lu H8 T (.tup [.int x,o9 o])=H9 at v9 s9 Er ⊢
    have mU:=zm1 (p:=p) (by':=bb) (mo:=mo) hx ho
    rw [← CP] at mU
    refine (lp rfl ⟨.inl ⟨rfl,_,lr.of Er⟩,(lp rfl ⟨rfl,(lp rfl ?_)⟩)⟩)
    have htk:rT.take (j+1)=rT.take j++[o.map fun y=>(bb*y+zj p x mo) % p]:=take_snoc mU
    have xP:((rT.take j).map o9).length≤10000:=by rw [ab,av]; lia
    cases o with
    | none =>
     refine zp5 ?_
     refine (ex3 ol _ _ ⟨rfl,rfl,Er,zaa xP,_,_,rfl,zae s9 G3,?_⟩)
     rw [zc,htk,ao]
     rfl
    | some y =>
     have yr:=qW y (aF ho)
     refine zhn ?_
     refine (lp rfl (lp rfl (lD rfl rfl ⟨.inl ⟨by lia,by lia⟩,(lp rfl (lp rfl (lp rfl (ex4 p x mr mo ⟨rfl,.inr (lE.of (s9 _ _ h6m)),p0,by lia,xr.1,xr.2,(lD rfl rfl (lp rfl (lD rfl rfl ⟨p0,?_⟩)))⟩))))⟩)))
     refine (ex3 ol _ _ ⟨rfl,rfl,Er,zaa xP,_,_,rfl,zae s9 G3,?_⟩)
     rw [zc,htk,ao]
     rfl
   rintro σ H8 ⟨tY,tF,rfl,s8,Ep⟩
   rw [aP (by lia)] at Ep
   have F9:=CM.same s8
   have DY:=s8 _ _ CN
   have h8m:=s8 _ _ h6m
   have sX:=(Em.trans s3).trans (G2.trans s8)
   have hP:=zcO co.nd co.rg qW
   have AY:∀ a∈lI pl rw,0≤a.2∧a.2 < p:=fun a ha=>qW _ (zcs ha).2
   have xY:lI pl rT=(lI pl rw).map (mvP p bb mo):=by rw [CP]; exact zj8 p bb mo nY
   have Eh:=zbv pl rw
   have pq:=GZ.1
   refine (lp rfl (lp rfl (lD rfl rfl (lp rfl (lD rfl rfl ⟨by show 3≤sizeLine; lia,fun TL wJ=>?_⟩)))))
   have w9:=zb (o:=.lst [V.int (k:Int),V.int ((k:Int)+1),V.int ((k:Int)+2)]) wJ
   have hT:lu H8 TL (.lst [V.int (k:Int),V.int ((k:Int)+1),V.int ((k:Int)+2)]) TL=some (.lst ([(k:Int),(k:Int)+1,(k:Int)+2].map V.int)):=zc
   generalize lu H8 TL (.lst [V.int (k:Int),V.int ((k:Int)+1),V.int ((k:Int)+2)])=H9 at w9 hT ⊢
   have G4:=F9.same w9
   have Ee:=w9 _ _ DY
   have hrT:=w9 _ _ Ep
   have hmA:=w9 _ _ h8m
   have sY:=sX.trans w9
   refine⟨TL,rfl,⟨_,lr.of hT⟩,zbO (K:=K) (a:=TL) (xs:=[(k:Int),(k:Int)+1,(k:Int)+2].map V.int) (fun _ σ H'=>∃ (uY uZ:Option V),σ = [some (.ref a),some (.int (0+(i:Int))),some (.ref c),some (.int p),some (.int (k:Int)),some (.ref tt),some (.ref r),some (.ref dl),some (.ref mr),some (.int bb),some (.ref ol),tY,tF,uY,uZ,wc,uR,xm,tS]∧zt H9 H')
    ⟨uY,uZ,rfl,fun _ _ e=>e⟩ (fun i σ H' _ ⟨_,_,_,s8⟩=>lr.of (s8 _ _ hT)) ?_ ?_⟩
   ·rintro i' y σ Es hy ⟨uY,uZ,rfl,xB⟩
    obtain⟨T',rfl,Eo⟩:=zab hy
    have G5:(k:Int)≤T':=by
     have:=aF Eo
     simp only [aI,aV,or_false] at this
     lia
    refine (lp rfl (lp rfl (lp rfl (ex8 c tt r p k T' pl rw ⟨rfl,G4.same xB,xB _ _ Ee,nY,by lia,co.pr,co.nd,co.rg,qW,by lia,by lia,G5,fun ml mrs mqs H11 hml' CS G6 G7 hmR wR=>?_⟩))))
    have G8:=xB.trans CS
    refine (lp rfl (lp rfl (lp rfl (ex8 c tt ol p k T' pl rT ⟨rfl,G4.same G8,G8 _ _ hrT,AX,by lia,co.pr,co.nd,co.rg,CQ,by lia,by lia,G5,fun nl nrs nqs G9 Ea ux G' hnT hnR hnm=>?_⟩))))
    have wd:=G8.trans ux
    have CT:=ux _ _ G6
    have CU:=G7.same ux
    have hmln:=zmU co.pr hP (by lia) G5 (zfo hmR) wR
    refine (lp rfl ⟨ml,rfl,⟨_,lr.of CT⟩,zfr (zim mqs (mvQ p bb mo)) zim.mono CT (by rw [ab,G7.length]; lia) (fun j x H' N N' sN hx hN=>?_) fun vs CV D2 qQ tf tE sj=>?_⟩)
    ·obtain⟨b,rfl,hb⟩:=zS hx
     obtain⟨q',oJ,Hb⟩:=Paired.get CU hb
     have uy:=((wR q').mp (aF oJ)).1
     refine gY ?_
     have u:=wd.trans sN
     exact⟨_,rfl,_,rfl,_,rfl,_,rfl,p,bb,b,mr,q',mo,rfl,sN _ _ Hb,u _ _ hmA,by rw [uy.1]; exact pq,by rw [uy.1]; lia,p0,by lia,by lia,Ab,fun l CL hl wM uo=>hN _ _ ⟨q',l,oJ,rfl,uo⟩ wM⟩
    rw [ab,G7.length] at tf
    obtain⟨ps,rfl,we,Ac⟩:=zm2 tf tE
    have xn:=zb (o:=.lst (ps.map fun q=>V.ref q.1)) sj
    have wJ:ziM (lu CV D2 (.lst (ps.map fun q=>V.ref q.1))) k p ps:=fun x hx=>by
     have ur:x.2∈mqs.map (mvQ p bb mo):=by rw [← we]; exact dN hx
     obtain⟨q',oJ,e⟩:=aB.mp ur
     have I:=zbz (by':=bb) p0 pq ((wR q').mp oJ).1.1
     rw [e] at I
     exact⟨xn _ _ (Ac x hx),I.1,I.2⟩
    refine (ex4 D2 k p ps ⟨rfl,lr.of zc,wJ,by lia,by lia,fun l m7 hl yR Cn=>?_⟩)
    have Hc:∀ x∈m7,lu CV D2 (.lst (ps.map fun q=>V.ref q.1)) x.1=some (.tup (x.2.map V.int)):=fun x hx=>(wJ x (yR.mem_iff.mp hx)).1
    have CW:=zb (o:=.lst (m7.map fun q=>V.ref q.1)) hl
    have CI:nqs=m7.map (·.2):=by
     rw [xY] at hnm
     refine zgf co.pr uS pq hmR hnR (zm0 p0 uS pq AY (fun n=>T'≤(n:Int)) wR hnm) (by rw [← we]; exact yR.map _) ?_
     exact cu.mpr Cn
    have Ad:=qQ.trans (xn.trans CW)
    have e0:m7.map (fun q=>V.ref q.1)=(m7.map (·.1)).map V.ref:=by rw [bq]; rfl
    refine zk4 (lr.of (Ad _ _ G')) (lr.of (xs:=(m7.map (·.1)).map V.ref) (by rw [zc,e0])) (by rw [ab,ab,hnT.length,CI,ab,ab]) (zn8 (qs:=nqs) (hnT.same Ad) (by rw [CI]; exact zhc fun x hx=>CW _ _ (Hc x hx))) (lp rfl (zhn ?_))
    exact⟨_,_,rfl,wd.trans Ad⟩
   rintro σ Es ⟨uY,uZ,rfl,xB⟩
   have wK:=G4.same xB
   have Ae:=xB _ _ Ee
   have CY:=xB _ _ hrT
   have Hd:=xB _ _ hmA
   have sZ:=sY.trans xB
   refine⟨fun σ H'=>∃ (wc uR:Option V),σ = [some (.ref a),some (.int (0+(i:Int))),some (.ref c),some (.int p),some (.int (k:Int)),some (.ref tt),some (.ref r),some (.ref dl),some (.ref mr),some (.int bb),some (.ref ol),tY,tF,uY,uZ,wc,uR,xm,tS]∧zt Es H',?_,?_⟩
   ·have He:=zj9 nY
    refine (lp rfl ⟨r,rfl,⟨_,lr.of Ae⟩,zky (kp:=fun v=>!decide (v = .non)) (f:=id) (lr.of Ae) (by rw [ab]; lia) ?_ fun d hd=>?_⟩)
    ·intro j x R B hx hR
     obtain⟨ob,rfl,_⟩:=zeh hx
     refine (lp rfl ⟨rfl,(lp rfl ?_)⟩)
     refine zaU (fun h=>?_) (fun h=>?_)
     ·rw [if_pos h] at hR
      exact (lp rfl hR)
     ·rw [if_neg h] at hR
      exact hR
    have v11:=zb (o:=.lst (((rw.map o9).filter fun v=>!decide (v=V.non)).map id)) hd
    have g11:lu Es d (.lst (((rw.map o9).filter fun v=>!decide (v=V.non)).map id)) d=_:=zc
    have Hf:(((rw.map o9).filter fun v=>!decide (v=V.non)).map id).length=(lI pl rw).length:=by
     rw [He,ab,kQ,ab]
     congr 1
     refine gf fun ob _=>?_
     cases ob <;> simp [o9]
    refine⟨d,(lp rfl ⟨.inl (lr.of g11),?_⟩)⟩
    rw [Hf]
    generalize lu Es d (.lst (((rw.map o9).filter fun v=>!decide (v=V.non)).map id))=H11 at v11 g11 ⊢
    refine (lp rfl (lD rfl rfl (lp rfl ?_)))
    refine zaU (fun oM=>?_) (fun _=>⟨_,_,rfl,v11⟩)
    have oM:=of_decide_eq_true oM
    refine (lp rfl (lp rfl (ex7 c tt r p k pl rw ⟨rfl,wK.same v11,v11 _ _ Ae,nY,by lia,co.pr,co.nd,co.rg,qW,by lia,by lia,by lia,fun z1 l1 Hg Hh M1 G9 rL tj ux Af Hi AS hql1 vm BG CZ Hj sC=>?_⟩)))
    refine⟨z1,_,rfl,lE.of Af,rfl,_,_,rfl,_,_,rfl,rfl,?_⟩
    have wd:=v11.trans ux
    have hTl:(lI pl rT).length=(lI pl rw).length:=by rw [xY,ab]
    refine (lp rfl (lp rfl (ex7 c tt ol p k pl rT ⟨rfl,wK.same wd,wd _ _ CY,AX,by lia,co.pr,co.nd,co.rg,CQ,by lia,by lia,by lia,fun z2 l2 rs2 qs2 M2 CV uH qf qQ xC Hk wG hql2 rF pf hex2 Hl rD=>?_⟩)))
    have xZ:=wd.trans qQ
    have C0:∀ f,IsP p k f→hits p (mvQ p bb mo f) (lI pl rT)=hits p f (lI pl rw):=fun f hf=>by rw [xY]; exact zdH p0 uS (by rw [hf.1]; exact pq) AY
    have hMM:M2=M1:=by
     obtain⟨f1,I1,e1⟩:=CZ
     obtain⟨f2,I2,e2⟩:=hex2
     have a1:=Hl _ (zbz (by':=bb) p0 pq I1.1)
     rw [C0 f1 I1] at a1
     have I3:IsP p k (mvQ p (inv p bb) (mo' p (inv p bb) mo) f2):=zbz p0 (by rw [zdI]; exact pq) I2.1
     have b2:=(zcg (mo:=mo) p0 uS (pq.trans I2.1.symm) I2.2).2
     have a2:=C0 _ I3
     rw [b2] at a2
     have a3:=Hj _ I3
     lia
    subst hMM
    have Ag:=qQ _ _ Hi
    have C1:=AS.same qQ
    refine (lp rfl (lp rfl ⟨l1,rfl,⟨_,lr.of Ag⟩,zfr (zim Hh (mvQ p bb mo)) zim.mono Ag (by rw [ab,AS.length]; lia) (fun j x H' N N' sN hx hN=>?_) fun vs yb D2 sk tf tE sj=>?_⟩))
    ·obtain⟨b,rfl,hb⟩:=zS hx
     obtain⟨q',oJ,Hb⟩:=Paired.get C1 hb
     have uy:=((sC q').mp (aF oJ)).1
     refine gY ?_
     have u:=xZ.trans sN
     exact⟨_,rfl,_,rfl,_,rfl,_,rfl,p,bb,b,mr,q',mo,rfl,sN _ _ Hb,u _ _ Hd,by rw [uy.1]; exact pq,by rw [uy.1]; lia,p0,by lia,by lia,Ab,fun l CL hl wM uo=>hN _ _ ⟨q',l,oJ,rfl,uo⟩ wM⟩
    rw [ab,AS.length] at tf
    obtain⟨ps,rfl,we,Ac⟩:=zm2 tf tE
    have CW:=zb (o:=.lst (ps.map fun q=>V.ref q.1)) sj
    have wJ:ziM (lu yb D2 (.lst (ps.map fun q=>V.ref q.1))) k p ps:=fun x hx=>by
     have ur:x.2∈Hh.map (mvQ p bb mo):=by rw [← we]; exact dN hx
     obtain⟨q',oJ,e⟩:=aB.mp ur
     have I:=zbz (by':=bb) p0 pq ((sC q').mp oJ).1.1
     rw [e] at I
     exact⟨CW _ _ (Ac x hx),I.1,I.2⟩
    refine (ex4 D2 k p ps ⟨rfl,lr.of zc,wJ,by lia,by lia,fun l m7 hl yR Cn=>?_⟩)
    have Hc:∀ x∈m7,lu yb D2 (.lst (ps.map fun q=>V.ref q.1)) x.1=some (.tup (x.2.map V.int)):=fun x hx=>(wJ x (yR.mem_iff.mp hx)).1
    have v15:=zb (o:=.lst (m7.map fun q=>V.ref q.1)) hl
    have e0:m7.map (fun q=>V.ref q.1)=(m7.map (·.1)).map V.ref:=by rw [bq]; rfl
    have CI:qs2=m7.map (·.2):=by
     rw [xY] at rD
     refine zgf co.pr uS pq vm rF (zm0 p0 uS pq AY (fun n=>n=M2) sC rD) (by rw [← we]; exact yR.map _) ?_
     exact cu.mpr Cn
    refine⟨by show 2≤sizeLine; lia,fun tz htz=>?_⟩
    have Hm:=zb (o:=.tup [.int (M2:Int),.ref l]) htz
    have C2:lu (lu (lu yb D2 (.lst (ps.map fun q=>V.ref q.1))) l (.lst (m7.map fun q=>V.ref q.1))) tz (.tup [.int (M2:Int),.ref l]) tz=some (.tup [.int (M2:Int),.ref l]):=zc
    have C3:lu (lu (lu yb D2 (.lst (ps.map fun q=>V.ref q.1))) l (.lst (m7.map fun q=>V.ref q.1))) tz (.tup [.int (M2:Int),.ref l]) l=some (.lst ((m7.map (·.1)).map V.ref)):=by rw [← e0]; exact Hm _ _ zc
    have C4:zbi (lu (lu (lu yb D2 (.lst (ps.map fun q=>V.ref q.1))) l (.lst (m7.map fun q=>V.ref q.1))) tz (.tup [.int (M2:Int),.ref l])) (m7.map (·.1)) qs2:=by rw [CI]; exact zhc fun x hx=>Hm _ _ (v15 _ _ (Hc x hx))
    have yc:=sk.trans (CW.trans (v15.trans Hm))
    generalize lu (lu (lu yb D2 (.lst (ps.map fun q=>V.ref q.1))) l (.lst (m7.map fun q=>V.ref q.1))) tz (.tup [.int (M2:Int),.ref l])=Hn at yc C2 C3 C4 ⊢
    refine (ex4 z2 tz _ _ ⟨rfl,rfl,.inr ⟨lE.of (yc _ _ xC),lE.of C2⟩,.inr ⟨rfl,fun _=>true,fun j x y hx hy=>?_,?_⟩⟩)
    ·match j,hx,hy with
     | 0,hx,hy=>cases hx; cases hy; exact zin
     | 1,hx,hy=>cases hx; cases hy; exact zm4 (yc _ _ Hk) C3 (wG.same yc) C4
     | n+2,hx,_=>simp at hx
    have e1:(aJ ([V.int (M2:Int),V.ref l2]:List V).length).all (fun _=>true)=true:=by simp
    rw [e1]
    refine (lp rfl (zhn ?_))
    have C5:=xZ.trans yc
    obtain⟨f1,I1,e1⟩:=CZ
    have o7:=(sC f1).mpr ⟨I1,e1⟩
    have hlp:0 < Hh.length:=gI.mpr fun e=>by rw [e] at o7; cases o7
    have hrp:=AS.length
    obtain⟨b0,hb0⟩:∃ b0,Hg[0]? = some b0:=⟨Hg[0]'(by lia),by simp⟩
    obtain⟨q0,DV,C6⟩:=Paired.get C1 hb0
    have Ah:=((sC q0).mp (aF DV)).1
    have vQ:atI (Hg.map V.ref) 0=some (.ref b0):=zaT (j:=0) (by rw [ah,hb0]; rfl)
    have C7:=yc _ _ Ag
    refine (lp rfl (lp rfl (lp rfl (lp rfl (ex4 l1 _ _ _ ⟨rfl,rfl,lr.of C7,vQ,(lp rfl (lp rfl (ex6 p bb b0 mr q0 mo ⟨rfl,yc _ _ C6,C5 _ _ Hd,by rw [Ah.1]; exact pq,by rw [Ah.1]; lia,p0,by lia,by lia,Ab,fun lm H17 hlm y9 Ho=>?_⟩)))⟩)))))
    have Ai:=C5.trans y9
    refine (ex9 c tt ol lm p k pl (mvQ p bb mo q0) rT ⟨rfl,wK.same Ai,Ai _ _ CY,AX,Ho,by lia,by lia,co.rg,by lia,fun fa H18 hfa yd Hq=>?_⟩)
    have AZ:=Ai.trans yd
    refine (lp rfl (lp rfl (lp rfl (ex4 l1 _ _ _ ⟨rfl,rfl,lr.of ((y9.trans yd) _ _ C7),vQ,c,tt,r,b0,p,k,pl,q0,rw,rfl,wK.same AZ,AZ _ _ Ae,nY,(yc.trans (y9.trans yd)) _ _ C6,by lia,by lia,co.rg,by lia,fun fb H19 hfb C8 Hr=>?_⟩))))
    have C9:=C8 _ _ Hq
    rw [CP,zpI p0 uS (by rw [Ah.1]; exact pq) nY qW] at C9
    refine zi7 C9 Hr (lp rfl (zhn ?_))
    exact⟨_,_,rfl,AZ.trans C8⟩
   rintro σ' H11 ⟨wc,uR,rfl,CS⟩
   have Hs:=wK.same CS
   refine (lp rfl (lp rfl (ex7 c tt r p k pl rw ⟨rfl,Hs,CS _ _ Ae,nY,by lia,co.pr,co.nd,co.rg,qW,by lia,by lia,fun v G9 ux hv=>?_⟩)))
   have wd:=CS.trans ux
   have C0:∀ f,IsP p k f→hits p (mvQ p bb mo f) (lI pl rT)=hits p f (lI pl rw):=fun f hf=>by rw [xY]; exact zdH p0 uS (by rw [hf.1]; exact pq) AY
   have hTl:(lI pl rT).length=(lI pl rw).length:=by rw [xY,ab]
   refine⟨fun σ H'=>σ = [some (.ref a),some (.int (0+(i:Int))),some (.ref c),some (.int p),some (.int (k:Int)),some (.ref tt),some (.ref r),some (.ref dl),some (.ref mr),some (.int bb),some (.ref ol),tY,tF,uY,uZ,wc,uR,some v,tS]∧zt G9 H',?_,?_⟩
   ·refine (lp rfl (lp rfl (ex7 c tt ol p k pl rT ⟨rfl,wK.same wd,wd _ _ CY,AX,by lia,co.pr,co.nd,co.rg,CQ,by lia,by lia,fun v2 CV qQ hv2=>?_⟩)))
    have xZ:=wd.trans qQ
    refine (lp rfl ⟨rfl,(lp rfl ?_)⟩)
    rcases hv with ⟨z,qq,rfl,Af,uy,hqh,GH⟩ | ⟨rfl,Bh⟩
    ·refine zaU (fun h=>absurd h (by simp)) (fun _=>?_)
     refine (lp rfl (lp rfl (lp rfl (lp rfl (ex6 p bb z mr qq mo ⟨rfl,qQ _ _ Af,xZ _ _ Hd,by rw [uy.1]; exact pq,by rw [uy.1]; lia,p0,by lia,by lia,Ab,fun l yb hl sk h14=>?_⟩)))))
     have ye:(lI pl rT).length+k≤2*hits p (mvQ p bb mo qq) (lI pl rT):=by rw [hTl,C0 qq uy]; exact hqh
     rcases hv2 with ⟨z2,q2,rfl,xC,Et,h2h,hu2⟩ | ⟨rfl,C'⟩
     ·obtain rfl:=hu2 _ (zbz p0 pq uy.1) ye
      exact .inr (zm5 (sk _ _ xC) h14 (lp rfl (zhn ⟨rfl,qQ.trans sk⟩)))
     ·exact absurd ye (C' _ (zbz p0 pq uy.1))
    ·refine zaU (fun _=>?_) (fun h=>absurd rfl h)
     rcases hv2 with ⟨z2,q2,rfl,xC,Et,h2h,hu2⟩ | ⟨rfl,C'⟩
     ·have I:IsP p k (mvQ p (inv p bb) (mo' p (inv p bb) mo) q2):=zbz p0 (by rw [zdI]; exact pq) Et.1
      have b2:=(zcg (mo:=mo) p0 uS (pq.trans Et.1.symm) Et.2).2
      have:=C0 _ I
      rw [b2] at this
      exact absurd (by lia) (Bh _ I)
     ·exact .inl ⟨rfl,rfl,(lp rfl (zhn ⟨rfl,qQ⟩))⟩
   rintro σ' CV ⟨rfl,qQ⟩
   have xZ:=wd.trans qQ
   refine (lp rfl (lp rfl (ex7 c tt ol p k pl rT ⟨rfl,wK.same xZ,xZ _ _ CY,AX,by lia,co.pr,co.nd,co.rg,CQ,by lia,by lia,fun z1 la1 rb1 f1 left1 Ht yb sk Hu _ _ _ L1=>(ex4 z1 _ _ _ ⟨rfl,rfl,lE.of Hu,rfl,?_⟩)⟩)))
   have Ad:=xZ.trans sk
   refine (lp rfl (lp rfl (ex7 c tt r p k pl rw ⟨rfl,wK.same Ad,Ad _ _ Ae,nY,by lia,co.pr,co.nd,co.rg,qW,by lia,by lia,fun z2 la2 rb2 f2 left2 Hv H15 AN Hw _ _ _ L2=>(ex4 z2 _ _ _ ⟨rfl,rfl,lE.of Hw,rfl,rfl,(lp rfl ?_)⟩)⟩)))
   rw [xY] at L1
   obtain rfl:=zpG p0 uS (iF pq) AY L2 L1
   refine zaU (fun h=>absurd h (by simp [eqV])) (fun _=>?_)
   have t15:=Ad.trans AN
   refine⟨by show 2≤sizeLine; lia,fun ML hML=>?_⟩
   have w16:=zb (o:=.lst [V.int 1,V.int 2]) hML
   have C2:lu H15 ML (.lst [V.int 1,V.int 2]) ML=some (.lst [V.int 1,V.int 2]):=zc
   generalize lu H15 ML (.lst [V.int 1,V.int 2])=Hn at w16 C2 ⊢
   refine (lp rfl (lD rfl rfl (.inr (lp rfl (lD rfl rfl ⟨.inl ⟨by decide,by decide⟩,(lp rfl ⟨ML,(lp rfl ⟨lr.of C2,fun S2 hS2=>?_⟩)⟩)⟩)))))
   obtain⟨ms,DK,rD⟩:∃ ms:List Int,za8 [V.int 1,V.int 2] none (some (2*(if decide (1 < (k:Int))=true then 1 else 0)))=ms.map V.int∧∀ m∈ms,(m=1∨m=2)∧2≤k:=by
    by_cases h:1 < (k:Int)
    ·exact⟨[1,2],by rw [decide_eq_true h]; rfl,fun m hm=>⟨by simpa using hm,by lia⟩⟩
    ·exact⟨[],by rw [decide_eq_false h]; rfl,fun m hm=>by cases hm⟩
   rw [DK]
   have w17:=zb (o:=.lst (ms.map V.int)) hS2
   have Hx:lu Hn S2 (.lst (ms.map V.int)) S2=some (.lst (ms.map V.int)):=zc
   generalize lu Hn S2 (.lst (ms.map V.int))=H17 at w17 Hx ⊢
   have C5:=t15.trans (w16.trans w17)
   refine⟨S2,rfl,⟨_,lr.of Hx⟩,zbO (K:=K) (a:=S2) (xs:=ms.map V.int) (fun _ σ H'=>∃ (tS:Option V),σ = [some (.ref a),some (.int (0+(i:Int))),some (.ref c),some (.int p),some (.int (k:Int)),some (.ref tt),some (.ref r),some (.ref dl),some (.ref mr),some (.int bb),some (.ref ol),tY,tF,uY,uZ,wc,uR,some v,tS]∧zt H17 H')
    ⟨tS,rfl,fun _ _ e=>e⟩ (fun i σ H' _ ⟨_,_,s8⟩=>lr.of (s8 _ _ Hx)) ?_ ?_⟩
   ·rintro i' y σ H18 hy ⟨tS,rfl,yd⟩
    obtain⟨m',rfl,Bm⟩:=zab hy
    obtain⟨hm12,pf⟩:=rD m' (aF Bm)
    obtain⟨mn,rfl,Dc,hmn2⟩:∃ mn:Nat,m'=mn∧1≤mn∧mn≤2:=⟨m'.toNat,by lia,by lia,by lia⟩
    have Hy:tri mn≤3:=by
     rcases (show mn=1∨mn=2 by lia) with rfl | rfl <;> decide
    have hA:∀ uD:List (Option Int),(lI pl uD).length*tri mn≤199:=fun uD=>a8 (kX (a8 (zbv pl uD) (show pl.length≤10 by lia)) Hy) (by decide)
    have Ai:=C5.trans yd
    refine (lp rfl (lp rfl (lp rfl (ex8 c tt ol p k mn pl rT ⟨rfl,wK.same Ai,Ai _ _ CY,AX,by lia,co.pr,co.nd,co.rg,CQ,pf,by lia,Dc,by lia,hA rT,fun z3 r3 ls3 size1 g1 H19 DS C8 Hz _ _ Q1 _=>(ex4 z3 _ _ _ ⟨rfl,rfl,lE.of Hz,rfl,?_⟩)⟩))))
    have AZ:=Ai.trans C8
    refine (lp rfl (lp rfl (lp rfl (ex8 c tt r p k mn pl rw ⟨rfl,wK.same AZ,AZ _ _ Ae,nY,by lia,co.pr,co.nd,co.rg,qW,pf,by lia,Dc,by lia,hA rw,fun z4 r4 ls4 size2 g2 H20 hz4 s20 HA _ _ Q2 _=>(ex4 z4 _ _ _ ⟨rfl,rfl,lE.of HA,rfl,rfl,(lp rfl ?_)⟩)⟩))))
    rw [xY] at Q1
    obtain rfl:=zpH p0 uS pf (iF pq) AY Q2 Q1
    refine zaU (fun h=>absurd h (by simp [eqV])) (fun _=>?_)
    exact (lp rfl (yd.trans (C8.trans s20)))
   rintro σ H18 ⟨tS,rfl,yd⟩
   exact (zp6 _ _ _ _ _ _ _ _ _ _ _ _ _ _ _ _ _ _ ⟨rfl,sZ.trans (C5.trans yd)⟩)
  ·rintro σ H1 ⟨e1,e2,e3,e4,e5,e6,e7,e8,e9,qP,tY,tF,uY,uZ,wc,uR,xm,tS,rfl,s1⟩
   exact q _
end
end My
end
section
namespace My
open PySem L2 PyProof.Rows
structure Dn (K:ag) (x:Str) (st:Stmt) (f:Addr) (fd:FuncData):Prop where
 a:bM K mainGlobals x=some (some (.ref f))
 f:Fun K x x st f fd
theorem zak {K:ag} {x:Str} {st:Stmt} {f:Addr} {od an:Option Addr} {sl:Array (Option Value)} {oc kV dc pm cd ct:Value} (a:bM K mainGlobals x=some (some (.ref f))) (l:K.lookup f=some ⟨oc,od,.func (dw x x (zbV st) (zbI st) (zh st) .none kV dc pm an cd ct),sl⟩) (c:f7 K cd x=true) (k:f6 K (.ref f)=true):Dn K x st f (dw x x (zbV st) (zbI st) (zh st) .none kV dc pm an cd ct):=⟨a,zlh l c k⟩
theorem el1 {us:List Value} (e:us.length=1):∃ a,us = [a]:=match us,e with | [a],_=>⟨a,rfl⟩
theorem el2 {us:List Value} (e:us.length=2):∃ a b,us = [a,b]:=match us,e with | [a,b],_=>⟨a,b,rfl⟩
theorem el3 {us:List Value} (e:us.length=3):∃ a b c,us = [a,b,c]:=match us,e with | [a,b,c],_=>⟨a,b,c,rfl⟩
theorem el4 {us:List Value} (e:us.length=4):∃ a b c d,us = [a,b,c,d]:=match us,e with | [a,b,c,d],_=>⟨a,b,c,d,rfl⟩
theorem zpL {l:i0} {w:World} {K:ag} {h:Heap} {mg:Str→Option Value} {fa fl oz sO rK:Addr} (X:K.In h) (G:h.Ns mainGlobals mg) (hfa:mg "law" = some (.ref fa))
  {od an:Option Addr} {sl:Array (Option Value)} {oc kV dc pm cd ct:Value} (sP:bM K mainGlobals "SlipError" = some (some (.ref oz))) (wg:bM K mainGlobals "TooFew" = some (some (.ref sO))) (u5:bM K mainGlobals "NoCurve" = some (some (.ref rK))) (ub:∃ f fd,Dn K "value_at" zcu f fd) (u6:∃ f fd,Dn K "inverse" zcT f fd) (rY:∃ f fd,Dn K "times_root" zbk f fd) (Aj:∃ f fd,Dn K "bent" zfc f fd) (u9:∃ f fd,Dn K "through" zcU f fd) (qE:∃ f fd,Dn K "heard_points" zaO f fd) (Ak:∃ f fd,Dn K "fits" zfd f fd) (va:∃ f fd,Dn K "choices" zbN f fd) (rh:∃ f fd,Dn K "all_through" za2 f fd) (uc:∃ f fd,Dn K "all_near" zbS f fd) (vb:∃ f fd,Dn K "nearest" zbq f fd) (qF:∃ f fd,Dn K "moved_powers" zbl f fd) (rZ:∃ f fd,Dn K "numbers_at" zaE f fd) (r6:∃ f fd,Dn K "vectors_of" zaW f fd) (vc:∃ f fd,Dn K "without" zcf f fd) (pK:∃ f fd,Dn K "first_relation" zar f fd) (sQ:∃ f fd,Dn K "first_sum" zbC f fd) (rj:∃ f fd,Dn K "first_terms" za3 f fd) (rk:∃ f fd,Dn K "least_curve" zap f fd) (qG:∃ f fd,Dn K "check_curves" zbm f fd) (sR:∃ f fd,Dn K "curve_for" zbD f fd) (qd:∃ f fd,Dn K "times_entries" zaH f fd) (wj:∃ f fd,Dn K "beyond" s_beyond f fd) (xD:∃ f fd,Dn K "sized" zes f fd) (qe:∃ f fd,Dn K "joint_locator" zac f fd) (r8:∃ f fd,Dn K "locator_of" zbJ f fd) (Al:∃ f fd,Dn K "half" zfe f fd) (wm:∃ f fd,Dn K "_law_cell" zdD f fd) (vd:∃ f fd,Dn K "_law_draws" zcV f fd) (wo:∃ f fd,Dn K "_law_code" zcG f fd) (ve:∃ f fd,Dn K "_law_value" zcW f fd) (qH:∃ f fd,Dn K "_law_polynomial" zaP f fd) (xE:∃ f fd,Dn K "_law_row" zdE f fd) (rm:∃ f fd,Dn K "_law_moved_one" za4 f fd)   (sb:k7 K oz (.type "BaseException")=some true)
  (al:bM K mainGlobals "law" = some (some (.ref fl))) (ll:K.lookup fl=some ⟨oc,od,.func (dw "law" "law" (zbV zbY) (zbI zbY) (zh zbY) .none kV dc pm an cd ct),sl⟩) (cl:f7 K cd "law" = true) (kl:f6 K (.ref fl)=true) (Dd:bM K mainGlobals "len" = some none) (xF:bM K mainGlobals "range" = some none) (Am:bM K mainGlobals "list" = some none) (xG:bM K mainGlobals "tuple" = some none) (De:bM K mainGlobals "min" = some none) (Df:bM K mainGlobals "max" = some none) (Dh:bM K mainGlobals "int" = some none) (Di:bM K mainGlobals "zip" = some none) (sS:bM K mainGlobals "enumerate" = some none) (Dj:bM K mainGlobals "sum" = some none) (An:bM K mainGlobals "dict" = some none) (ud:bM K mainGlobals "reversed" = some none) (wq:bM K mainGlobals "sorted" = some none) (r9:bM K mainGlobals "ValueError" = some none) :
  ∃ fd:FuncData,(∀ (s:Shared) (v:Value),BindsTo s fd ⟨[v],[]⟩ [("script",v)])∧∀ base:Heap,K.In base→base.Ns mainGlobals mg→FnOk l.prog w K mg base CX0 8 fa fd ["script"] (zgv K):=by
 cases hfa.symm.trans (aS X G al)
 obtain⟨f_value_at,nc,oZ⟩:=ub
 have lN:=oZ.f.binds (ps:=["p","polynomial","x"]) fun _ _ _ _ _ _ _ h=>by obtain⟨_,_,_,rfl⟩:=el3 h; exact rfl
 obtain⟨f_inverse,qr,pL⟩:=u6
 have nJ:=pL.f.binds (ps:=["p","number"]) fun _ _ _ _ _ _ _ h=>by obtain⟨_,_,rfl⟩:=el2 h; exact rfl
 obtain⟨f_times_root,oP,nQ⟩:=rY
 have mB:=nQ.f.binds (ps:=["p","polynomial","root"]) fun _ _ _ _ _ _ _ h=>by obtain⟨_,_,_,rfl⟩:=el3 h; exact rfl
 obtain⟨f_bent,xo,ue⟩:=Aj
 have tT:=ue.f.binds (ps:=["p","polynomial","vanishing","point"]) fun _ _ _ _ _ _ _ h=>by obtain⟨_,_,_,_,rfl⟩:=el4 h; exact rfl
 obtain⟨f_through,oX,pN⟩:=u9
 have mH:=pN.f.binds (ps:=["p","points"]) fun _ _ _ _ _ _ _ h=>by obtain⟨_,_,rfl⟩:=el2 h; exact rfl
 obtain⟨f_heard_points,lR,mY⟩:=qE
 have lG:=mY.f.binds (ps:=["code","row"]) fun _ _ _ _ _ _ _ h=>by obtain⟨_,_,rfl⟩:=el2 h; exact rfl
 obtain⟨f_fits,qi,uf⟩:=Ak
 have nj:=uf.f.binds (ps:=["code","row","polynomial"]) fun _ _ _ _ _ _ _ h=>by obtain⟨_,_,_,rfl⟩:=el3 h; exact rfl
 obtain⟨f_choices,tX,pO⟩:=va
 have pI:=pO.f.binds (ps:=["things","many"]) fun _ _ _ _ _ _ _ h=>by obtain⟨_,_,rfl⟩:=el2 h; exact rfl
 obtain⟨f_all_through,oj,nv⟩:=rh
 have l5:=nv.f.binds (ps:=["code","points"]) fun _ _ _ _ _ _ _ h=>by obtain⟨_,_,rfl⟩:=el2 h; exact rfl
 obtain⟨f_all_near,sM,o6⟩:=uc
 have nP:=o6.f.binds (ps:=["code","row","t"]) fun _ _ _ _ _ _ _ h=>by obtain⟨_,_,_,rfl⟩:=el3 h; exact rfl
 obtain⟨f_nearest,tZ,pP⟩:=vb
 have oD:=pP.f.binds (ps:=["code","row"]) fun _ _ _ _ _ _ _ h=>by obtain⟨_,_,rfl⟩:=el2 h; exact rfl
 obtain⟨f_moved_powers,qb,mZ⟩:=qF
 have mC:=mZ.f.binds (ps:=["p","by","most","kept"]) fun _ _ _ _ _ _ _ h=>by obtain⟨_,_,_,_,rfl⟩:=el4 h; exact rfl
 obtain⟨f_numbers_at,qX,nR⟩:=rZ
 have nN:=nR.f.binds (ps:=["p","terms","point"]) fun _ _ _ _ _ _ _ h=>by obtain⟨_,_,_,rfl⟩:=el3 h; exact rfl
 obtain⟨f_vectors_of,qY,nS⟩:=r6
 have nO:=nS.f.binds (ps:=["p","terms","points"]) fun _ _ _ _ _ _ _ h=>by obtain⟨_,_,_,rfl⟩:=el3 h; exact rfl
 obtain⟨f_without,tU,pQ⟩:=vc
 have pF:=pQ.f.binds (ps:=["p","vector","times","other"]) fun _ _ _ _ _ _ _ h=>by obtain⟨_,_,_,_,rfl⟩:=el4 h; exact rfl
 obtain⟨f_first_relation,ng,mJ⟩:=pK
 have lQ:=mJ.f.binds (ps:=["p","vectors"]) fun _ _ _ _ _ _ _ h=>by obtain⟨_,_,rfl⟩:=el2 h; exact rfl
 obtain⟨f_first_sum,rS,oA⟩:=sQ
 have oo:=oA.f.binds (ps:=["p","terms","points"]) fun _ _ _ _ _ _ _ h=>by obtain⟨_,_,_,rfl⟩:=el3 h; exact rfl
 obtain⟨f_first_terms,qw,nA⟩:=rj
 have nr:=nA.f.binds (ps:=["k","many"]) fun _ _ _ _ _ _ _ h=>by obtain⟨_,_,rfl⟩:=el2 h; exact rfl
 obtain⟨f_least_curve,qA,nB⟩:=rk
 have nu:=nB.f.binds (ps:=["p","k","points"]) fun _ _ _ _ _ _ _ h=>by obtain⟨_,_,_,rfl⟩:=el3 h; exact rfl
 obtain⟨f_check_curves,qc,m5⟩:=qG
 have mX:=m5.f.binds (ps:=["k"]) fun _ _ _ _ _ _ _ h=>by obtain⟨_,rfl⟩:=el1 h; exact rfl
 obtain⟨f_curve_for,rX,oB⟩:=sR
 have nh:=oB.f.binds (ps:=["code","row","m"]) fun _ _ _ _ _ _ _ h=>by obtain⟨_,_,_,rfl⟩:=el3 h; exact rfl
 obtain⟨f_times_entries,pG,mO⟩:=qd
 have mf:=mO.f.binds (ps:=["p","left","points"]) fun _ _ _ _ _ _ _ h=>by obtain⟨_,_,_,rfl⟩:=el3 h; exact rfl
 obtain⟨f_beyond,uV,qI⟩:=wj
 have qu:=qI.f.binds (ps:=["rights","many"]) fun _ _ _ _ _ _ _ h=>by obtain⟨_,_,rfl⟩:=el2 h; exact rfl
 obtain⟨f_sized,vS,sd⟩:=xD
 have qh:=sd.f.binds (ps:=["polynomial","many"]) fun _ _ _ _ _ _ _ h=>by obtain⟨_,_,rfl⟩:=el2 h; exact rfl
 obtain⟨f_joint_locator,pH,mP⟩:=qe
 have mM:=mP.f.binds (ps:=["code","rows"]) fun _ _ _ _ _ _ _ h=>by obtain⟨_,_,rfl⟩:=el2 h; exact rfl
 obtain⟨f_locator_of,oQ,nT⟩:=r8
 have lY:=nT.f.binds (ps:=["code","row"]) fun _ _ _ _ _ _ _ h=>by obtain⟨_,_,rfl⟩:=el2 h; exact rfl
 obtain⟨f_half,xA,ug⟩:=Al
 have rW:=ug.f.binds (ps:=["code","row"]) fun _ _ _ _ _ _ _ h=>by obtain⟨_,_,rfl⟩:=el2 h; exact rfl
 obtain⟨f_l_cell,uQ,qJ⟩:=wm
 have qm:=qJ.f.binds (ps:=["script","k"]) fun _ _ _ _ _ _ _ h=>by obtain⟨_,_,rfl⟩:=el2 h; exact rfl
 obtain⟨f_l_draws,oW,pR⟩:=vd
 have mi:=pR.f.binds (ps:=["script","k","many","base"]) fun _ _ _ _ _ _ _ h=>by obtain⟨_,_,_,_,rfl⟩:=el4 h; exact rfl
 obtain⟨f_l_code,uX,qK⟩:=wo
 have qB:=qK.f.binds (ps:=["script","at","most_k","most_n"]) fun _ _ _ _ _ _ _ h=>by obtain⟨_,_,_,_,rfl⟩:=el4 h; exact rfl
 obtain⟨f_l_value,qp,pS⟩:=ve
 have nH:=pS.f.binds (ps:=["p","polynomial","x"]) fun _ _ _ _ _ _ _ h=>by obtain⟨_,_,_,rfl⟩:=el3 h; exact rfl
 obtain⟨f_l_polynomial,p8,m6⟩:=qH
 have mV:=m6.f.binds (ps:=["draws","p","k"]) fun _ _ _ _ _ _ _ h=>by obtain⟨_,_,_,rfl⟩:=el3 h; exact rfl
 obtain⟨f_l_row,vY,se⟩:=xE
 have rV:=se.f.binds (ps:=["script","at","code"]) fun _ _ _ _ _ _ _ h=>by obtain⟨_,_,_,rfl⟩:=el3 h; exact rfl
 obtain⟨f_l_moved_one,qD,nC⟩:=rm
 have lS:=nC.f.binds (ps:=["p","one","by","more"]) fun _ _ _ _ _ _ _ h=>by obtain⟨_,_,_,_,rfl⟩:=el4 h; exact rfl
 let t:Adr:=⟨oz,sO,rK,f_value_at,f_inverse,f_times_root,f_bent,f_through,f_heard_points,f_fits,f_choices,f_all_through,f_all_near,f_nearest,f_moved_powers,f_numbers_at,f_vectors_of,f_without,f_first_relation,f_first_sum,f_first_terms,f_least_curve,f_check_curves,f_curve_for,f_times_entries,f_beyond,f_sized,f_joint_locator,f_locator_of,f_half,f_l_cell,f_l_draws,f_l_code,f_l_value,f_l_polynomial,f_l_row,f_l_moved_one,fa⟩
 have T:Txt K mg t:=⟨bK X G Dd,bK X G xF,bK X G Am,bK X G xG,bK X G De,bK X G Df,bK X G Dh,bK X G Di,bK X G sS,bK X G Dj,bK X G An,bK X G ud,bK X G wq,bK X G r9,aS X G sP,aS X G wg,aS X G u5,sb,aS X G oZ.a,aS X G pL.a,aS X G nQ.a,aS X G ue.a,aS X G pN.a,aS X G mY.a,aS X G uf.a,aS X G pO.a,aS X G nv.a,aS X G o6.a,aS X G pP.a,aS X G mZ.a,aS X G nR.a,aS X G nS.a,aS X G pQ.a,aS X G mJ.a,aS X G oA.a,aS X G nA.a,aS X G nB.a,aS X G m5.a,aS X G oB.a,aS X G mO.a,aS X G qI.a,aS X G sd.a,aS X G mP.a,aS X G nT.a,aS X G ug.a,aS X G qJ.a,aS X G pR.a,aS X G qK.a,aS X G pS.a,aS X G m6.a,aS X G se.a,aS X G nC.a,⟨_,oZ.f,lN⟩,⟨_,pL.f,nJ⟩,⟨_,nQ.f,mB⟩,⟨_,ue.f,tT⟩,⟨_,pN.f,mH⟩,⟨_,mY.f,lG⟩,⟨_,uf.f,nj⟩,⟨_,pO.f,pI⟩,⟨_,nv.f,l5⟩,⟨_,o6.f,nP⟩,⟨_,pP.f,oD⟩,⟨_,mZ.f,mC⟩,⟨_,nR.f,nN⟩,⟨_,nS.f,nO⟩,⟨_,pQ.f,pF⟩,⟨_,mJ.f,lQ⟩,⟨_,oA.f,oo⟩,⟨_,nA.f,nr⟩,⟨_,nB.f,nu⟩,⟨_,m5.f,mX⟩,⟨_,oB.f,nh⟩,⟨_,mO.f,mf⟩,⟨_,qI.f,qu⟩,⟨_,sd.f,qh⟩,⟨_,mP.f,mM⟩,⟨_,nT.f,lY⟩,⟨_,ug.f,rW⟩,⟨_,qJ.f,qm⟩,⟨_,pR.f,mi⟩,⟨_,qK.f,qB⟩,⟨_,pS.f,nH⟩,⟨_,m6.f,mV⟩,⟨_,se.f,rV⟩,⟨_,nC.f,lS⟩⟩
 have FL:=zlh (st:=zbY) ll cl kl
 exact⟨dw "law" "law" (zbV zbY) (zbI zbY) (zh zbY) .none kV dc pm an cd ct,fun s v=>.of_eq rfl,fun base _ _=>zpK (t:=t) T FL⟩
theorem walk {l:i0} {q:Program} {loose:List Str} {XP:(Str→Option Value)→Heap→Prop} {YP:World→Heap→Prop} {d:DefRec} {K:Params→ag} (hn:l.most=some 63) (Bi:d.params.defaults = []) (hY:∀ (w:World) (h:Heap),YP w h→(K w.params).In h)
  (F:∀ (w:World) (mg:Str→Option Value) (fa:Addr) (h:Heap),(K w.params).In h→h.Ns mainGlobals mg→mg d.name=some (.ref fa)→∃ fd:FuncData,(∀ (s:Shared) (u:Value),BindsTo s fd ⟨[u],[]⟩ [("script",u)])∧∀ base:Heap,(K w.params).In base→base.Ns mainGlobals mg→FnOk l.prog w (K w.params) mg base CX0 8 fa fd ["script"] (zgv (K w.params))):k6 q loose XP YP l.row.toRowW d [] (fun f vs=>kJ f vs) :=
 L2.znh (n:=63) (k:=8) (x:="script") (CX:=fun _=>CX0) (sp:=fun w=>zgv (K w.params)) hn (by decide) Bi ⟨rfl,by decide,by decide⟩ hY F (fun _ _ a ns hl _ hS=>⟨a,ns,rfl,hS,hl,fun _=>rfl⟩) fun _ _ _ _ _ z=>z
end My
namespace PySem.W.Fast
def tw11689227082969504615:Unit:=()
def tw10649720693987472185:Unit:=()
def tw5494452913531493570:Unit:=()
def tw13791652179595552038:Unit:=()
def tw3848939080297860760:Unit:=()
def tw2648495603653710773:Unit:=()
def tw12831788632801362884:Unit:=()
def tw519105815556803506:Unit:=()
def tw10209378388969745761:Unit:=()
def tw7513469343045130534:Unit:=()
def tw15747882060861414024:Unit:=()
def tw15214598929809329460:Unit:=()
def tw5791261028442964736:Unit:=()
def tw11651617057637552459:Unit:=()
def tw3689970264932767826:Unit:=()
def tw16385569815845737251:Unit:=()
def tw8098174051227125899:Unit:=()
def tw8512065088229641987:Unit:=()
def tw10618212481306147985:Unit:=()
def tw17196713226619642672:Unit:=()
def tw904233822950245910:Unit:=()
def tw5153987194148426886:Unit:=()
def tw17039184354370312070:Unit:=()
def tw3417098853395905241:Unit:=()
def tw12604296107514602194:Unit:=()
def tw14503952912344371405:Unit:=()
def tw828450939905243962:Unit:=()
def tw1847844042886228357:Unit:=()
def tw5654247308145412222:Unit:=()
def tw12761502295172200985:Unit:=()
def tw1326290480581749018:Unit:=()
def tw5054567380277477582:Unit:=()
def tw18218793815075906394:Unit:=()
def tw16389439511129067477:Unit:=()
def tw18027638361293377120:Unit:=()
def tw8662337858521176258:Unit:=()
def tw3577610662833618127:Unit:=()
def tw4186431035166970741:Unit:=()
def tw9486888278180238506:Unit:=()
def tw13816218642473755299:Unit:=()
def tw8731388493923505884:Unit:=()
def tw15135822973939904465:Unit:=()
def tw15219979344971981740:Unit:=()
def tw15396873882453641143:Unit:=()
def tw14178278907241668566:Unit:=()
def tw3079064301538211727:Unit:=()
def tw12686728605944608014:Unit:=()
def tw11288721899675114318:Unit:=()
def tw9697337020550200740:Unit:=()
def tw888034599464941945:Unit:=()
def tw15407643594950960685:Unit:=()
def tw4632882983269544332:Unit:=()
def tw735636847028398616:Unit:=()
def tw2364463424233016671:Unit:=()
def tw4270215015391996187:Unit:=()
def tw13488661876331955793:Unit:=()
def tw9575417052664702766:Unit:=()
def tw15582041570842032270:Unit:=()
def tw1918516653752760993:Unit:=()
def tw13726045233257049676:Unit:=()
def tw4064575237260542256:Unit:=()
def tw7013258237571969660:Unit:=()
def tw3681581889714380427:Unit:=()
def tw354699213994576197:Unit:=()
def tw14580379581690067818:Unit:=()
def tw15323352849895066380:Unit:=()
def tw94274712611568071:Unit:=()
def tw5270664118697334356:Unit:=()
def tw5880860828455039057:Unit:=()
def tw12200099073490653920:Unit:=()
def tw11824987054428713156:Unit:=()
def tw12170667408271741813:Unit:=()
def tw649787138067195560:Unit:=()
def tw5031616643564679991:Unit:=()
def tw1375514637503223354:Unit:=()
def tw15750451140194248134:Unit:=()
def tw5493137241606906384:Unit:=()
def tw3791251837518775971:Unit:=()
def tw8669839052216312347:Unit:=()
def tw13923845546216656172:Unit:=()
def tw15383706634920034559:Unit:=()
def tw3246682521540546944:Unit:=()
def tw6193093230625682058:Unit:=()
def tw10735562232630057586:Unit:=()
def tw14622781385409956747:Unit:=()
def tw10481856467469958001:Unit:=()
def tw1013008898991938001:Unit:=()
def tw9224588583017761171:Unit:=()
def tw9107892028414230705:Unit:=()
def tw10896171722126723967:Unit:=()
end PySem.W.Fast
open PySem PySem.W
open PyProof.Rows
set_option maxHeartbeats 0 in
theorem PySem.Challenge.cw_slipcurve_k12_whole_rows_moved_holds : PySem.Challenge.rw_slipcurve_k12_whole_rows_moved.Holds := by
 w_on; o_law; k_head; (case hw=>w_witness2)
 k_fill
 refine My.walk (l:=PySem.Challenge.rw_slipcurve_k12_whole_rows_moved) rfl rfl (fun w h Y=>PySem.W.kIn_of Y) ?F
 case F =>
  intro w mg fa h KX G hmg
  refine' My.zpL KX G hmg ?a_SlipError ?a_TooFew ?a_NoCurve ⟨_,_,My.zak ?da_value_at ?dl_value_at ?dc_value_at ?dk_value_at⟩ ⟨_,_,My.zak ?da_inverse ?dl_inverse ?dc_inverse ?dk_inverse⟩ ⟨_,_,My.zak ?da_times_root ?dl_times_root ?dc_times_root ?dk_times_root⟩ ⟨_,_,My.zak ?da_bent ?dl_bent ?dc_bent ?dk_bent⟩ ⟨_,_,My.zak ?da_through ?dl_through ?dc_through ?dk_through⟩ ⟨_,_,My.zak ?da_heard_points ?dl_heard_points ?dc_heard_points ?dk_heard_points⟩ ⟨_,_,My.zak ?da_fits ?dl_fits ?dc_fits ?dk_fits⟩ ⟨_,_,My.zak ?da_choices ?dl_choices ?dc_choices ?dk_choices⟩ ⟨_,_,My.zak ?da_all_through ?dl_all_through ?dc_all_through ?dk_all_through⟩ ⟨_,_,My.zak ?da_all_near ?dl_all_near ?dc_all_near ?dk_all_near⟩ ⟨_,_,My.zak ?da_nearest ?dl_nearest ?dc_nearest ?dk_nearest⟩ ⟨_,_,My.zak ?da_moved_powers ?dl_moved_powers ?dc_moved_powers ?dk_moved_powers⟩ ⟨_,_,My.zak ?da_numbers_at ?dl_numbers_at ?dc_numbers_at ?dk_numbers_at⟩ ⟨_,_,My.zak ?da_vectors_of ?dl_vectors_of ?dc_vectors_of ?dk_vectors_of⟩ ⟨_,_,My.zak ?da_without ?dl_without ?dc_without ?dk_without⟩ ⟨_,_,My.zak ?da_first_relation ?dl_first_relation ?dc_first_relation ?dk_first_relation⟩ ⟨_,_,My.zak ?da_first_sum ?dl_first_sum ?dc_first_sum ?dk_first_sum⟩ ⟨_,_,My.zak ?da_first_terms ?dl_first_terms ?dc_first_terms ?dk_first_terms⟩ ⟨_,_,My.zak ?da_least_curve ?dl_least_curve ?dc_least_curve ?dk_least_curve⟩ ⟨_,_,My.zak ?da_check_curves ?dl_check_curves ?dc_check_curves ?dk_check_curves⟩ ⟨_,_,My.zak ?da_curve_for ?dl_curve_for ?dc_curve_for ?dk_curve_for⟩ ⟨_,_,My.zak ?da_times_entries ?dl_times_entries ?dc_times_entries ?dk_times_entries⟩ ⟨_,_,My.zak ?da_beyond ?dl_beyond ?dc_beyond ?dk_beyond⟩ ⟨_,_,My.zak ?da_sized ?dl_sized ?dc_sized ?dk_sized⟩ ⟨_,_,My.zak ?da_joint_locator ?dl_joint_locator ?dc_joint_locator ?dk_joint_locator⟩ ⟨_,_,My.zak ?da_locator_of ?dl_locator_of ?dc_locator_of ?dk_locator_of⟩ ⟨_,_,My.zak ?da_half ?dl_half ?dc_half ?dk_half⟩ ⟨_,_,My.zak ?da_l_cell ?dl_l_cell ?dc_l_cell ?dk_l_cell⟩ ⟨_,_,My.zak ?da_l_draws ?dl_l_draws ?dc_l_draws ?dk_l_draws⟩ ⟨_,_,My.zak ?da_l_code ?dl_l_code ?dc_l_code ?dk_l_code⟩ ⟨_,_,My.zak ?da_l_value ?dl_l_value ?dc_l_value ?dk_l_value⟩ ⟨_,_,My.zak ?da_l_polynomial ?dl_l_polynomial ?dc_l_polynomial ?dk_l_polynomial⟩ ⟨_,_,My.zak ?da_l_row ?dl_l_row ?dc_l_row ?dk_l_row⟩ ⟨_,_,My.zak ?da_l_moved_one ?dl_l_moved_one ?dc_l_moved_one ?dk_l_moved_one⟩ ?sb ?al ?ll ?cl ?kl ?z_len ?z_range ?z_list ?z_tuple ?z_min ?z_max ?z_int ?z_zip ?z_enumerate ?z_sum ?z_dict ?z_reversed ?z_sorted ?z_ValueError
  (case a_SlipError=>k_is)
  (case a_TooFew=>k_is)
  (case a_NoCurve=>k_is)
  (case da_value_at=>k_is)
  (case dl_value_at=>k_is)
  (case dc_value_at=>k_is)
  (case dk_value_at=>k_is)
  (case da_inverse=>k_is)
  (case dl_inverse=>k_is)
  (case dc_inverse=>k_is)
  (case dk_inverse=>k_is)
  (case da_times_root=>k_is)
  (case dl_times_root=>k_is)
  (case dc_times_root=>k_is)
  (case dk_times_root=>k_is)
  (case da_bent=>k_is)
  (case dl_bent=>k_is)
  (case dc_bent=>k_is)
  (case dk_bent=>k_is)
  (case da_through=>k_is)
  (case dl_through=>k_is)
  (case dc_through=>k_is)
  (case dk_through=>k_is)
  (case da_heard_points=>k_is)
  (case dl_heard_points=>k_is)
  (case dc_heard_points=>k_is)
  (case dk_heard_points=>k_is)
  (case da_fits=>k_is)
  (case dl_fits=>k_is)
  (case dc_fits=>k_is)
  (case dk_fits=>k_is)
  (case da_choices=>k_is)
  (case dl_choices=>k_is)
  (case dc_choices=>k_is)
  (case dk_choices=>k_is)
  (case da_all_through=>k_is)
  (case dl_all_through=>k_is)
  (case dc_all_through=>k_is)
  (case dk_all_through=>k_is)
  (case da_all_near=>k_is)
  (case dl_all_near=>k_is)
  (case dc_all_near=>k_is)
  (case dk_all_near=>k_is)
  (case da_nearest=>k_is)
  (case dl_nearest=>k_is)
  (case dc_nearest=>k_is)
  (case dk_nearest=>k_is)
  (case da_moved_powers=>k_is)
  (case dl_moved_powers=>k_is)
  (case dc_moved_powers=>k_is)
  (case dk_moved_powers=>k_is)
  (case da_numbers_at=>k_is)
  (case dl_numbers_at=>k_is)
  (case dc_numbers_at=>k_is)
  (case dk_numbers_at=>k_is)
  (case da_vectors_of=>k_is)
  (case dl_vectors_of=>k_is)
  (case dc_vectors_of=>k_is)
  (case dk_vectors_of=>k_is)
  (case da_without=>k_is)
  (case dl_without=>k_is)
  (case dc_without=>k_is)
  (case dk_without=>k_is)
  (case da_first_relation=>k_is)
  (case dl_first_relation=>k_is)
  (case dc_first_relation=>k_is)
  (case dk_first_relation=>k_is)
  (case da_first_sum=>k_is)
  (case dl_first_sum=>k_is)
  (case dc_first_sum=>k_is)
  (case dk_first_sum=>k_is)
  (case da_first_terms=>k_is)
  (case dl_first_terms=>k_is)
  (case dc_first_terms=>k_is)
  (case dk_first_terms=>k_is)
  (case da_least_curve=>k_is)
  (case dl_least_curve=>k_is)
  (case dc_least_curve=>k_is)
  (case dk_least_curve=>k_is)
  (case da_check_curves=>k_is)
  (case dl_check_curves=>k_is)
  (case dc_check_curves=>k_is)
  (case dk_check_curves=>k_is)
  (case da_curve_for=>k_is)
  (case dl_curve_for=>k_is)
  (case dc_curve_for=>k_is)
  (case dk_curve_for=>k_is)
  (case da_times_entries=>k_is)
  (case dl_times_entries=>k_is)
  (case dc_times_entries=>k_is)
  (case dk_times_entries=>k_is)
  (case da_beyond=>k_is)
  (case dl_beyond=>k_is)
  (case dc_beyond=>k_is)
  (case dk_beyond=>k_is)
  (case da_sized=>k_is)
  (case dl_sized=>k_is)
  (case dc_sized=>k_is)
  (case dk_sized=>k_is)
  (case da_joint_locator=>k_is)
  (case dl_joint_locator=>k_is)
  (case dc_joint_locator=>k_is)
  (case dk_joint_locator=>k_is)
  (case da_locator_of=>k_is)
  (case dl_locator_of=>k_is)
  (case dc_locator_of=>k_is)
  (case dk_locator_of=>k_is)
  (case da_half=>k_is)
  (case dl_half=>k_is)
  (case dc_half=>k_is)
  (case dk_half=>k_is)
  (case da_l_cell=>k_is)
  (case dl_l_cell=>k_is)
  (case dc_l_cell=>k_is)
  (case dk_l_cell=>k_is)
  (case da_l_draws=>k_is)
  (case dl_l_draws=>k_is)
  (case dc_l_draws=>k_is)
  (case dk_l_draws=>k_is)
  (case da_l_code=>k_is)
  (case dl_l_code=>k_is)
  (case dc_l_code=>k_is)
  (case dk_l_code=>k_is)
  (case da_l_value=>k_is)
  (case dl_l_value=>k_is)
  (case dc_l_value=>k_is)
  (case dk_l_value=>k_is)
  (case da_l_polynomial=>k_is)
  (case dl_l_polynomial=>k_is)
  (case dc_l_polynomial=>k_is)
  (case dk_l_polynomial=>k_is)
  (case da_l_row=>k_is)
  (case dl_l_row=>k_is)
  (case dc_l_row=>k_is)
  (case dk_l_row=>k_is)
  (case da_l_moved_one=>k_is)
  (case dl_l_moved_one=>k_is)
  (case dc_l_moved_one=>k_is)
  (case dk_l_moved_one=>k_is)
  (case sb=>k_is)
  (case al=>k_is)
  (case ll=>k_is)
  (case cl=>k_is)
  (case kl=>k_is)
  (case z_len=>k_is)
  (case z_range=>k_is)
  (case z_list=>k_is)
  (case z_tuple=>k_is)
  (case z_min=>k_is)
  (case z_max=>k_is)
  (case z_int=>k_is)
  (case z_zip=>k_is)
  (case z_enumerate=>k_is)
  (case z_sum=>k_is)
  (case z_dict=>k_is)
  (case z_reversed=>k_is)
  (case z_sorted=>k_is)
  (case z_ValueError=>k_is)
#print axioms PySem.Challenge.cw_slipcurve_k12_whole_rows_moved_holds
end