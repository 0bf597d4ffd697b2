import PyProof.Rows.All
import Wide.All
import OpenK.AllK
import Wide.FinOn
import Lean
import PyProof.EqAt
import PyProof.EqKinds
import KE.KDictOf
import PyProof.AttrMissHeap
import PyProof.Rows.MinMaxN
import PyProof.ListMulRoad
import KE.KUnpackStar
import KE.KIntText
import PyProof.CallStr
import KE.KDictSum
import KE.KSortTup
import PyProof.Walk
import PyProof.Rows.SortRuns
import PyProof.Rows.ChunkEnd
import PyProof.Rows.Range3
import PyProof.Rows.SeqGen
import PyProof.ConsumeWalk
import PyProof.ListRange
import PyProof.NeKinds
import PyProof.TupleCall
import PySem.Challenge.RW_slipcurve_k14_whole_places_exchanged
set_option maxHeartbeats 3999000
open List renaming length_map→ab,getElem?_map→ah,getElem?_eq_getElem→aj,length_append→ao,size_toArray→ap,map_append→au,mem_cons_of_mem→av,replicate→aw,getElem?_eq_some_iff→aA,mem_cons→aB,length_take→aD,mem_map→aE,mem_cons_self→aF,mem_of_getElem?→aG,range→aH,mem_append_right→aK,take_of_length_le→aM,getD_eq_getElem?_getD→aN,not_mem_nil→aQ,map_cons→aS,length_replicate→aT,mem_append_left→aU,length_range→aV,mem_singleton→aW,append_assoc→aY,mem_append→a7,lookup_cons→a8,mem_range→bd,map_map→bh,getElem?_append_left→bj,zipWith→bn,getElem?_eq_none→bq,take_length→bA,append_nil→bD,getElem?_take_of_lt→bG,getElem?_append_right→bJ,getElem?_range→bM,mem_flatMap→bO,map_congr_left→bU,length_cons→bW,length_drop→bZ,replicate_succ→b7,take_append_drop→b8,range_succ→cg,flatMap_append→ci,take_sublist→cj,pairwise_map→ck,getElem?_cons_succ→cn,mem_filter→cw,drop_eq_getElem_cons→cA,pairwise_iff_getElem→cC,getElem?_replicate→cJ,ext_getElem?→cK,nodup_iff_pairwise_ne→cU,sum_cons→cV,drop_zero→cZ,concat_eq_append→c6,mem_iff_getElem?→c7,extract_eq_take_drop→c8,flatMap_cons→dr,take_zero→dv,drop_eq_nil_of_le→dD,zip_cons_cons→dI,nodup_cons→dL,map_take→dQ,flatten_cons→dR,nodup_append→dS,getElem?_set_ne→dU,mem_of_mem_take→dY,getElem_mem→ed,eq_of_mem_replicate→ee,filterMap_cons→eg,getElem_of_mem→et,filter_cons_of_pos→eA,filter_cons_of_neg→eB,forIn_cons→eD,filter_append→eE,find?_cons→eF,getElem?_drop→eG,length→eI,drop_of_length_le→eJ,length_singleton→eL,length_filter_le→eS,eq_nil_or_concat→eY,all_eq_true→fc,getElem?_of_mem→fh,length_zipWith→fo,length_take_le→fq,mem_map_of_mem→ft,getElem?_zip_eq_some→fz,map_nil→fH,pairwise_cons→fK,getElem?_cons_zero→fS,length_eq_zero_iff→fT,getElem?_set_self→fX,nodup_range→f',flatMap_nil→gb,drop_length→gc,of_mem_zip→gf,foldl→gg,mem_of_mem_drop→gj,filter_sublist→gp,forIn_nil→gu,map_drop→gP,take_nil→gR,perm_ext_iff_of_nodup→gT,take_add_one→g8,nil_sublist→ip,sublist_nil→iq,length_set→iE,foldl_cons→iF,nil_append→iG,length_nil→iJ,filter_nil→iM,lookup→iS,range_succ_eq_map→iT,map_id→iY,filter_eq_nil_iff→iZ,length_eq_one_iff→i0,getElem?_zipWith→i3,drop_drop→i4,pairwise_append→jj,any_cons→jr,length_pos_iff→jB,mem_filterMap→jF,filterMap_map→jI,forIn_toArray→jP,getElem_take→jV,filter_congr→jX,zipIdx_cons→kh,map_flatMap→km,any_eq_true→ko,prefix_refl→kr,zipIdx_nil→kx,sum_append→kA,length_zip→kB,take_take→kH
open PySem renaming wpAny_bind→ae,wpAny_pure→am,sizeLine_eq→aX,wpAny_callSpecial?_slot→bo,wpAny_field→bw,wpAny_call_entry→bz,wpAny_setField_rec→bK,wpAny_newObj_type→bQ,wpAny_holding→bV,wpAny_rule→cb,boot_len→cq,wpAny_loadPart'→cB,builtinLookup_eq_fast→cF,wpAny_mono→cQ,wpAny_attempt→cS,wpAny_seqItems→cY,wpAny_typeNameOfWhole_keyiter→dt,call_meets→dA,wpAny_of_eq→dB,wpAny_passesOwn→dJ,typeLookup_type→dN,wpAny_setField→d6,mem_of_lookup→er,wpAny_isInstance→fe,wpAny_standAt→fk,wpAny_typeOf→fG,wpAny_pyIter_enum→fV,seqIndex_of→fZ,wpAny_pyIter_zip→f9,wpAny_execs_nil→ge,wpAny_updateSeq_pair→gi,isSubtype_type→gq,isSubtype_stop→gr,wpAny_newTuple→gv,wpAny_pyIter_tuple→gC,wpAny_Call_Name_kw→gD,tupleKind_room_in1→gG,wpAny_letOwnedTupleGo_enum→gN,wpAny_onRaise→gQ,wpAny_pyIter_list→gV,wpAny_pyIter_slot→g7,wpAny_dictEntries→g9,typeIs_int→h9,wpAny_binaryOp_repeat_ref→ic,noFill_tuple_add→ij,wpAny_comprehension_free→im,wpAny_specialOf→iI,wpAny_dictEpoch→iK,wpAny_ite_false→iL,wpAny_letGo→iU,wpAny_notOrdered_dict→i5,wpAny_isOneOf_keyiter→i7,wpAny_loadName_local→jd,wpAny_pyIter_revIter→jh,wpAny_pyIter_keyiter→jk,seq_tuple_add→jo,wpAny_handled→jp,wpAny_loadName_cell→jv,codeAny_mono→jG,concat_meets→jH,seqIndex_neg→jK,callType_new→jO,list_append→jT,wpAny_throw→j3,seqSlot_of→kq,wpAny_Name→kt,call→kw
open Nat renaming le_refl→ag,le_trans→aZ,zero_le→bi,lt_of_lt_of_le→bm,ne_of_lt→bu,lt_irrefl→cr,min_eq_left→cD,add_sub_cancel→cH,le_of_eq→df,zero_add→dh,add_sub_cancel_left→du,sub_zero→dG,lt_succ_of_lt→eK,mul_comm→eP,le_div_iff_mul_le→eZ,le_add_right→fg,le_of_lt→fC,ne_of_gt→fE,add_zero→fI,sub_self→fM,succ_le_succ→f8,le_succ→gA,lt_of_le_of_lt→gH,le_of_succ_le→gX,lt_succ_of_le→hW,le_of_not_lt→ik,succ_ne_self→il,mul_le_mul_right→jm,add_le_add_left→jC,lt_succ_self→kf,div_le_self→kC,mul_le_mul→kL
open PySem.W renaming Frag→ai,mg_of→aR,mg_none_of→bE,nsIn→bI,fnOf→db,keepIn→fO,codeIn→fP,methodObj→gU,OpenLaw→iH,cellsFrom_some→iP,WalkO→kO,mroIn→kP
open PySem.Heap renaming get?_push_of_some→ak,lt_size→aJ,get?_push_size→aL,SameBut→br,size_push→bN,get?_update_self→dM,get?_update_other→f6,get?_update_ne→jA,ExtBut→j2
open Or renaming inl→aq,inr→bP
open PyProof.Rows renaming wpS_bind→ar,wpS_pure→az,callWith_type1→bv,wpS_forRange→bX,wpS_mono→cW,slot_tuple_getitem→c9,zipApart_new→dg,wpS_modify→dC,wpS_get→eU,boot_tuple→fj,wpS_lift→gw,pairsOf_size→io,subscriptTail_builtinR→iQ,mirror_perm→iX,pairsOf_toList→i8,boot_range→je,listUpdate_at→ju,entry_tuple_getitem→jw,getElem?_mirror_all→jz,args_tuple_getitem→jJ,seqEpoch_at→j5,boot_sorted→j6,boot_zip→kg
open Int renaming emod_lt_of_pos→aC,emod_nonneg→aI,toNat_natCast→bf,le_refl→bF,le_trans→bY,emod_eq_of_lt→cu,mul_zero→cN,zero_mul→cP,mul_le_mul_of_nonneg_right→dm,pow_succ→dE,mul_comm→dF,zero_add→dH,le_of_lt→eW,natCast_mul→fw,natCast_add→fA,one_mul→gB,fdiv_eq_ediv_of_nonneg→gK,pow_zero→ir,natCast_ediv→iz,ofNat_eq_natCast→jn,sub_zero→jQ,natCast_nonneg→jR,lt_of_le_of_lt→jS,lt_trichotomy→jW,mul_one→j1,mul_pow→j7,natCast_sub→kD,mul_nonneg→kJ
open Bool renaming false_ne_true→aO,false_eq_true→bt,eq_iff_iff→da,and_eq_true→fb,and_false→kF
open Option.some renaming inj→aP,injEq→hJ
open PySem.Value renaming ref→ba,none→dz,int→fB,type→jc,str→kM,isStrOf→kN
open PySem.Builtin.SmallTypes renaming nextOf→be,ownedTupleIsFree→bT,ownedTupleHandOut→cG,newRecord→kE
open PySem.Paired renaming length→bg,snoc→bR,mono→cI
open Array renaming getElem?_toList→bp,length_toList→bC,toList_append→bL,getElem?_eq_some_iff→cT,toList_extract→dk,perm_iff_toList_perm→fm,toList_reverse→gk,toList_map→kj,size_map→kK,toList→kQ
open PySem.PassesOwn renaming never→bH
open PySem.Str renaming ofString→bS
open PySem.NameKind renaming free→b9,cell→cR
open ForInStep renaming yield→cm,done→fQ
open PySem.F renaming plainAttrs_list→cp,slot_zip_next→dj,slot_list_append→dn,type_list_append→dq,slot_dict_keyiterator_next→dw,slot_tuple_iterator_next→dP,slot_enumerate_next→eR,args_tuple_add_2→fF,entry_tuple_add→fR,args_zip_next_1→fW,slot_tuple_add→fY,entry_zip_next→ga,slot_dict_get→gd,slot_int_rmul→gh,args_dict_keyiterator_next_1→gm,entry_dict_keyiterator_next→gn,args_tuple_iterator_next_1→gt,entry_tuple_iterator_next→gE,args_tuple_mul_2→gI,entry_tuple_mul→hU,slot_tuple_mul→iw,args_enumerate_next_1→iA,args_dict_get_3→iB,entry_enumerate_next→iV,entry_dict_get→iW,slot_list_pop→i9,type_list_pop→ja,args_list_append_2→jg,args_object_init_2→ji,entry_list_append→jx,slot_list_append→jL,args_int_rmul_2→jU,entry_int_rmul→kb,slot_dict_iter→ki
open Classical renaming byContradiction→cE,em→jM
open Sum renaming inl→cL,inr→ig
open PySem.Heap.SameBut renaming update→cM
open PySem.Obj renaming data_mapFields→cX,mapSeq→de,isFreed_of_fields→eQ,mapFields→gO,cls_mapFields→gZ
open List.Perm renaming trans→dO,refl→kG
open False renaming elim→dW
open PySem.Builtin.Slice renaming slicePlaces→dX,sliceAdjust→fu,sliceApplied→gL
open Ne renaming symm→dZ
open PySem.Builtin.Tuple renaming tupleExact→d7,tupleItemsOf→gM,tupleTooMany→gS
open PySem.Builtin.List renaming listTooLong→d8
open PySem.Around renaming in1_units→d9,under_plainId→jl
open PySem.Calls renaming spliced_cons→eC,spliced_nil→fU,Name_function_global→gJ,callWith_builtin→iR,evalArgs_plain→jf
open List.Pairwise renaming sublist→eX,imp_of_mem→fJ,nil→gW,and_mem→jb,imp→jY,map→jZ
open PySem.Draws renaming list→ff
open PySem.AutoSeq1 renaming sub_tuple_tuple→fL,idx_int→iu
open List.Sublist renaming nodup→fN
open Option renaming map_eq_some_iff→f7,toList→jq,isSome_some→jN,getD_none→j9,getD_some→kd,none→kS
open PySem.Builtin.Dict_items renaming ownsTuple→gz
open PySem.SeqAt.EqAt renaming of_refs→gF,int_str→jD,str_int→jE,same→ku
open True renaming intro→ie
open PySem.Builtin.Dict renaming updateFrom→iC,showsAll→i6
open PyProof.Rows.IsTup renaming new→iD
open Sum.inl renaming inj→iN
open PyProof renaming noPylong_small→iO
open List.cons renaming inj→jt
open PySem.SeqAt.RcNeAt renaming tuples→jy
open PySem.Data renaming fields→j0,seq→kR
open PySem.Shared renaming heap→j4
open Prod renaming ext→j8
open PySem.IsL renaming update→ka
open PyProof.Rows.SortSt renaming mk'→kz
open PySem.W.KatTups renaming cons→kT
local macro_rules | `(tactic| trivial)=>`(tactic| first | exact .inl rfl | exact .inr rfl | assumption)
local macro_rules|`(#[$xs,*])=>do
 let a:=xs.getElems
 if h:a.size=0 then Lean.Macro.throwUnsupported else
 let s:=a[0].raw.getId.eraseMacroScopes.toString
 match [("_____ee","zd"),("________eee","zbj zi"),("________eeee","zR"),("_","zin zI ze zD zap zfi zK zT zC zF znK zb9 zgH zb0 zb8 zaR zdF zah zt zgK zbJ zL zfR zcT zay zkx"),("_e__f","pvx"),("_________ereeeddrr","zA zam"),("_____eer","za zj"),("___e","zm zbf zc4"),("____e","zG zY zM zaW"),("_______eeeu","zH"),("____","zf zec"),("__e____efeert","zl"),("_____e","zax"),("______e","zcQ"),("________________eefeeeneedrr","zq"),("________efeeei","zbc"),("______feer","zad"),("__e_efet","zg"),("____er","zcy"),("____________eeeeeerrrrr","zfp"),("_f","zfj zcP zdv"),("_____________efeeeeei","zO"),("__f","zZ"),("_e___________feeeeeerrrrr","zkM"),("_ef","za4 zaE zdX"),("__________eeee","za3"),("______eerrr","zbD"),("______ferr","za2"),("_____________e___efeefeeeeerit","zaz"),("___","zdo"),("______eee","zed"),("__e______efeeet","zfP"),("___fe","zy"),("_________feerr","zdW"),("_e___e_fferr","zau"),("_____________________efeeddeeeeeeeie","ziQ"),("______ee","zku"),("__","zfe"),("_e","zfY")].find? fun q=>(q.2.splitOn " ").contains s with
 |none=>Lean.Macro.throwUnsupported
 |some (p,_)=>do
  let mut r:=#[]
  let mut i:=1
  for c in p.toList do
   if c=='e' then
    r:=r.push (a[i]!)
    i:=i+1
   else r:=r.push (←match c with|'_'=>`(_)|'r'=>`((by rfl))|'d'=>`((by decide))|'f'=>`(rfl)|'t'=>`((by trivial))|'i'=>`((by intro _; rfl))|'u'=>`((fun _ _=>rfl))|'n'=>`(.nil)|'l'=>`(Or.inl rfl)|'o'=>`(Or.inr rfl)|_=>`(nomark _))
  return Lean.Syntax.mkApp (←`(@$(⟨a[0].raw⟩):ident)) r
set_option Elab.async false
set_option linter.all false
set_option maxRecDepth 100000
namespace L2
open PySem PySem.Spec PyProof.Rows
abbrev Key:=Sum Int Str
def zfc:Key→Value→Bool
 | .inl k,v=>Value.isInt k v
 | .inr x,v=>kN x v
def zpH (w:World):Key→Int
 | .inl k=>hashInt k
 | .inr x=>hashStr w x
theorem zan:∀ {k:Key} {v:Value},zfc k v=true→(∃ i t,k=cL i∧v=fB i t)∨(∃ x t,k=ig x∧v=kM x t)
 | .inl i,v,h=>by
  obtain⟨t,e⟩:=Value.isInt_shape (k:=i) (v:=v) h
  exact .inl ⟨i,t,rfl,e⟩
 | .inr x,v,h=>by
  obtain⟨t,e⟩:=Value.isStrOf_shape (x:=x) (v:=v) h
  exact .inr ⟨x,t,rfl,e⟩
theorem zjs (i:Int) (t:Tok):zfc (.inl i) (.int i t)=true:=by simp [zfc,Value.isInt]
theorem zjt (x:Str) (t:Tok):zfc (.inr x) (.str x t)=true:=by simp [zfc,kN]
theorem znZ (a b:Int):decide ((cL a:Key)=cL b)=(a == b):=by
 by_cases e:a=b
 ·subst e; simp
 ·have h:¬ (cL a:Key)=cL b:=fun q=>e (iN q)
  rw [decide_eq_false h]
  exact (beq_eq_false_iff_ne.mpr e).symm
theorem zn0 (a b:Str):decide ((ig a:Key)=ig b)=decide (a=b):=by
 by_cases e:a=b
 ·subst e; simp
 ·have h:¬ (ig a:Key)=ig b:=fun q=>e (Sum.inr.inj q)
  rw [decide_eq_false h,decide_eq_false e]
theorem zn1 (a:Int) (b:Str):decide ((cL a:Key)=ig b)=false:=decide_eq_false (fun q=>nomatch q)
theorem zn2 (a:Str) (b:Int):decide ((ig a:Key)=cL b)=false:=decide_eq_false (fun q=>nomatch q)
def zao (prog:Program) (w:World):PySem.KeyKind prog w Key where
 is:=zfc
 hash:=zpH w
 inj:=fun v a b ha hb=>by
  rcases zan ha with ⟨i,t,rfl,rfl⟩ | ⟨x,t,rfl,rfl⟩
  ·rcases zan hb with ⟨j,u,rfl,e⟩ | ⟨y,u,rfl,e⟩
   ·injection e with e1 _; rw [e1]
   ·exact nomatch e
  ·rcases zan hb with ⟨j,u,rfl,e⟩ | ⟨y,u,rfl,e⟩
   ·exact nomatch e
   ·injection e with e1 _; rw [e1]
 byValue:=fun k v h=>by
  rcases zan h with ⟨i,t,rfl,rfl⟩ | ⟨x,t,rfl,rfl⟩ <;> rfl
 pyHash:=fun hv h=>by
  rcases zan hv with ⟨i,t,rfl,rfl⟩ | ⟨x,t,rfl,rfl⟩
  ·exact wpAny_pyHash_int h
  ·exact wpAny_pyHash_str h
 eqBool:=fun hu hv h=>by
  rcases zan hu with ⟨i,t,rfl,rfl⟩ | ⟨x,t,rfl,rfl⟩
  ·rcases zan hv with ⟨j,u,rfl,rfl⟩ | ⟨y,u,rfl,rfl⟩
   ·rw [znZ] at h; exact wpAny_eqBool_int h
   ·rw [zn1] at h; exact jD i t y u _ _ _ _ h
  ·rcases zan hv with ⟨j,u,rfl,rfl⟩ | ⟨y,u,rfl,rfl⟩
   ·rw [zn2] at h; exact jE x t j u _ _ _ _ h
   ·rw [zn0] at h; exact wpAny_eqBool_str h
 «strs»:=fun k x t v h=>by
  rcases zan h with ⟨i,u,rfl,e⟩ | ⟨y,u,rfl,e⟩
  ·exact nomatch e
  ·injection e with e1 _
   subst e1
   cases v <;> rfl
theorem zgB (prog:Program) (w:World) (i:Int) (t:Tok):(zao prog w).is (.inl i) (.int i t)=true:=zjs i t
theorem zgC (prog:Program) (w:World) (x:Str) (t:Tok):(zao prog w).is (.inr x) (.str x t)=true:=zjt x t
inductive V where
 | non | bl (b:Bool) | int (i:Int) | str (x:Str) | byt (b:Array UInt8) | flt (b:UInt64) | ref (a:Addr) | ty (n:String)
 deriving DecidableEq
def RelV:V→Value→Prop
 | .non,u=>u=dz
 | .bl b,u=>u=Value.bool b
 | .int i,u=>∃ t,u=fB i t
 | .str x,u=>∃ t,u=kM x t
 | .byt b,u=>∃ t,u=Value.bytes b t
 | .flt b,u=>∃ t,u=Value.float b t
 | .ref a,u=>u=ba a
 | .ty n,u=>u=jc n
abbrev zJ:List V→List Value→Prop:=Paired RelV
theorem zJ.length {xs:List V} {us:List Value} (r:zJ xs us):xs.length=us.length:=bg r
theorem zJ.get:∀ {xs:List V} {us:List Value} {i:Nat} {x:V},zJ xs us→xs[i]? = some x→∃ u,us[i]? = some u∧RelV x u
 | _,_,_,_,.nil,e=>by simp at e
 | _,_,0,_,.cons r _,e=>by simp at e; subst e; exact⟨_,rfl,r⟩
 | _,_,i+1,x,.cons _ t,e=>by
  obtain⟨u,h1,h2⟩:=zJ.get (i:=i) (x:=x) t (by simpa using e)
  exact⟨u,by simpa using h1,h2⟩
theorem zJ.set {x:V} {u:Value} (r:RelV x u):∀ {xs:List V} {us:List Value} (i:Nat),zJ xs us→zJ (xs.set i x) (us.set i u)
 | _,_,_,.nil=>.nil
 | _,_,0,.cons _ t=>.cons r t
 | _,_,i+1,.cons q t=>.cons q (zJ.set r i t)
theorem zJ.append:∀ {xs ys:List V} {us ws:List Value},zJ xs us→zJ ys ws→zJ (xs++ys) (us++ws)
 | _,_,_,_,.nil,s=>s
 | _,_,_,_,.cons r t,s=>.cons r (zJ.append t s)
theorem zJ.take:∀ {xs:List V} {us:List Value} (n:Nat),zJ xs us→zJ (xs.take n) (us.take n)
 | _,_,0,_=>.nil
 | _,_,_+1,.nil=>.nil
 | _,_,n+1,.cons r t=>.cons r (zJ.take n t)
theorem zJ.drop:∀ {xs:List V} {us:List Value} (n:Nat),zJ xs us→zJ (xs.drop n) (us.drop n)
 | _,_,0,r=>r
 | _,_,_+1,.nil=>.nil
 | _,_,n+1,.cons _ t=>zJ.drop n t
def zgD:Option V→Option Value→Prop
 | some v,some u=>RelV v u
 | none,none=>True
 | _,_=>False
def KV {κ:Type}:List (κ×V)→List (κ×Value)→Prop:=Paired fun (p:κ×V) (q:κ×Value)=>p.1=q.1∧RelV p.2 q.2
def kV:Key→V
 | .inl i=>.int i
 | .inr x=>.str x
inductive HO where
 | lst (xs:List V)
 | tup (xs:List V)
 | dK (kvs:List (Key×V)) | dT (kvs:List (List Key×V))
 | set (S:Int→Bool) (n:Nat)
 | ins (C dx:Addr) (fs:List (Str×V))
 | own (x:Addr)
 | xd (fs:List (Str×V))
 | met (f x:Addr)
 | rng (lo hi:Int)
 | frz (o:Obj) (u:HO)
 | tbl (ps:Array Value)
 | ext (φ:Heap→Prop)
abbrev Hp:=Addr→Option HO
def upd (H:Hp) (a:Addr) (o:HO):Hp:=fun b=>if b=a then some o else H b
theorem zc {H:Hp} {a:Addr} {o:HO}:upd H a o a=some o:=by unfold upd; rw [if_pos rfl]
theorem zn {H:Hp} {a b:Addr} {o:HO} (h:b≠a):upd H a o b=H b:=by unfold upd; rw [if_neg h]
theorem zms {H:Hp} {a:Addr} {o u:HO}:upd (upd H a o) a u=upd H a u:=by
 funext b; unfold upd; split <;> rfl
theorem znJ {H:Hp} {a b:Addr} {o u:HO} (h:H a=some o) (h':H b=some u) (d:o≠u):a≠b:=by
 intro e; subst e; rw [h] at h'; exact d (aP h')
theorem zw {H:Hp} {a b:Addr} {o:HO} (h:H a=some o) (h':H b=none):a≠b:=by
 intro e; subst e; rw [h] at h'; cases h'
section
variable (P:Program) (w:World)
def zas (H:Hp) (h:Heap) (a:Addr):HO→Prop
 | .lst xs=>xs.length≤sizeLine∧∃ (its:List Value) (n:Nat),zJ xs its∧h.get? a=some { cls:=.type "list",data:=.seq its.toArray n }
 | .tup xs=>xs.length≤sizeLine∧∃ its:List Value,zJ xs its∧IsTup h a its.toArray
 | .dK kvs=>kvs.length≤sizeLine∧(a == sysModules)=false∧∃ vs,KV kvs vs∧h.DictOf (zao P w) a vs
 | .dT kvs=>kvs.length≤sizeLine∧(a == sysModules)=false∧∃ xs:List (List Key×Addr×Value),
   Paired (fun (p:List Key×V) (q:List Key×Addr×Value)=>p.1=q.1∧H q.2.1=some (.tup (p.1.map kV))∧RelV p.2 q.2.2) kvs xs ∧
   ∃ o es ep,h.get? a=some o∧o.ExactDict∧o.data = .dict es ep∧es.toList=xs.map (entryOfKey (tupleKind (zao P w)))∧(xs.map (·.1)).Nodup
 | .set S n=>h.SetOf (intKind P w) a S n
 | .ins C dx fs=>H dx=some (.own a)∧fs.length≤1000∧dx≠a∧h.get? a=some (PySem.W.instObj C dx) ∧
   ∃ mA,h.Ns1 dx mA∧(∀ f,zgD (fs.lookup f) (mA f))∧PySem.Within mA (fs.map (·.1))
 | .own _=>∃ o,h.get? a=some o
 | .xd fs=>∃ mA,h.Ns1 a mA∧∀ f,zgD (fs.lookup f) (mA f)
 | .rng lo hi=>∃ t u v,h.get? a=some { cls:=.type "range",data:=.fields #[.int lo t,.int hi u,.int 1 v] }
 | .frz o u=>h.get? a=some o∧zas H h a u
 | .tbl ps=>h.get? a=some { cls:=.none,data:=.fields ps }
 | .met f x=>h.get? a=some (gU (.ref f) (.ref x))
 | .ext φ=>φ h∧(∃ o,h.get? a=some o)∧∀ h1 h2:Heap,φ h1→(∀ o,h1.get? a=some o→h2.get? a=some o)→φ h2
def HOk (H:Hp) (h:Heap):Prop:=∀ a o,H a=some o→zas P w H h a o
end
section
variable {P:Program} {w:World} {H H':Hp} {h h':Heap} {a:Addr} {o:HO}
theorem zas.lt (x:zas P w H h a o):a < h.objs.size:=by
 cases o with
 | lst xs=>obtain⟨_,_,_,_,e⟩:=x; exact aJ e
 | tup xs=>obtain⟨_,_,_,p⟩:=x; exact p.lt
 | dK kvs=>obtain⟨_,_,_,_,o,_,_,e,_⟩:=x; exact aJ e
 | dT kvs=>obtain⟨_,_,_,_,o,_,_,e,_⟩:=x; exact aJ e
 | set S n=>obtain⟨o,_,_,_,e,_⟩:=x; exact aJ e
 | ins C dx fs=>obtain⟨_,_,_,e,_⟩:=x; exact aJ e
 | own y=>obtain⟨_,e⟩:=x; exact aJ e
 | xd fs=>obtain⟨_,⟨_,_,_,e,_⟩,_⟩:=x; exact aJ e
 | rng lo hi=>obtain⟨_,_,_,e⟩:=x; exact aJ e
 | frz ob u=>obtain⟨e,_⟩:=x; exact aJ e
 | tbl ps=>exact aJ (show h.get? a=some _ from x)
 | met f y=>exact aJ (show h.get? a=some _ from x)
 | ext φ=>obtain⟨_,⟨_,e⟩,_⟩:=x; exact aJ e
theorem Paired.mapP {α β:Type} {F G:α→β→Prop}:∀ {l₁:List α} {l₂:List β},Paired F l₁ l₂→(∀ a b,F a b→G a b)→Paired G l₁ l₂
 | _,_,.nil,_=>.nil
 | _,_,.cons r t,f=>.cons (f _ _ r) (Paired.mapP t f)
theorem zas.stay (x:zas P w H h a o) (k:∀ b u,(b=a∨H b=some (.own a))→h.get? b=some u→h'.get? b=some u)
  (ho:∀ b,H b=some (.own a)→H' b=some (.own a)) (ht:∀ b xs,H b=some (.tup xs)→H' b=some (.tup xs)):zas P w H' h' a o:=by
 induction o with
 | lst xs=>obtain⟨z,its,n,r,e⟩:=x; exact⟨z,its,n,r,k _ _ (.inl rfl) e⟩
 | tup xs=>obtain⟨z,its,r,ob,e,c⟩:=x; exact⟨z,its,r,ob,k _ _ (.inl rfl) e,c⟩
 | dK kvs=>obtain⟨z,y,vs,r,ob,es,ep,e,c⟩:=x; exact⟨z,y,vs,r,ob,es,ep,k _ _ (.inl rfl) e,c⟩
 | dT kvs =>
  obtain⟨z,y,xs,r,ob,es,ep,e,c⟩:=x
  exact⟨z,y,xs,Paired.mapP r fun p q z=>⟨z.1,ht _ _ z.2.1,z.2.2⟩,ob,es,ep,k _ _ (.inl rfl) e,c⟩
 | set S n=>obtain⟨ob,es,ep,t,e,c⟩:=x; exact⟨ob,es,ep,t,k _ _ (.inl rfl) e,c⟩
 | ins C dx fs =>
  obtain⟨d,z,ne,e,mA,⟨od,es,ep,e2,c⟩,r⟩:=x
  exact⟨ho _ d,z,ne,k _ _ (.inl rfl) e,mA,⟨od,es,ep,k _ _ (.inr d) e2,c⟩,r⟩
 | own y=>obtain⟨ob,e⟩:=x; exact⟨ob,k _ _ (.inl rfl) e⟩
 | xd fs=>obtain⟨mA,⟨od,es,ep,e,c⟩,r⟩:=x; exact⟨mA,⟨od,es,ep,k _ _ (.inl rfl) e,c⟩,r⟩
 | rng lo hi=>obtain⟨t,u,v,e⟩:=x; exact⟨t,u,v,k _ _ (.inl rfl) e⟩
 | frz ob u ih=>obtain⟨e,q⟩:=x; exact⟨k _ _ (.inl rfl) e,ih q⟩
 | tbl ps =>
  have e:h.get? a=some { cls:=.none,data:=.fields ps }:=x
  show h'.get? a=some { cls:=.none,data:=.fields ps }
  exact k a _ (.inl rfl) e
 | met f y =>
  have e:h.get? a=some (gU (.ref f) (.ref y)):=x
  show h'.get? a=some (gU (.ref f) (.ref y))
  exact k a _ (.inl rfl) e
 | ext φ=>obtain⟨p,⟨o,e⟩,st⟩:=x; exact⟨st _ _ p fun o q=>k _ _ (.inl rfl) q,⟨o,k _ _ (.inl rfl) e⟩,st⟩
theorem HOk.lt (x:HOk P w H h) (e:H a=some o):a < h.objs.size:=(x a o e).lt
theorem HOk.fresh (x:HOk P w H h) (e:h.objs.size≤a):H a=none:=by
 cases q:H a with
 | none=>rfl
 | some u=>exact absurd (bm (x.lt q) e) (cr _)
theorem HOk.kept (x:HOk P w H h) (k:∀ b u,h.get? b=some u→h'.get? b=some u):HOk P w H h':=fun a o e =>
 (x a o e).stay (fun b u _ q=>k b u q) (fun _ q=>q) fun _ _ q=>q
theorem HOk.laid (x:HOk P w H h) (k:∀ b u,h.get? b=some u→h'.get? b=some u) (hp:h.objs.size≤a) (new:zas P w (upd H a o) h' a o):HOk P w (upd H a o) h':=fun b u e=>by
 have hn:=x.fresh hp
 by_cases hb:b=a
 ·subst hb; rw [zc] at e; cases e; exact new
 ·rw [zn hb] at e
  exact (x b u e).stay (fun c v _ q=>k c v q) (fun c q=>by rw [zn (zw q hn)]; exact q) fun c xs q=>by rw [zn (zw q hn)]; exact q
end
def Rd (H:Hp) (a:Addr) (u:HO):Prop:=H a=some u∨∃ o,H a=some (.frz o u)
theorem Rd.ok {P:Program} {w:World} {H:Hp} {h:Heap} {a:Addr} {u:HO} (r:Rd H a u) (x:HOk P w H h):zas P w H h a u:=by
 rcases r with r | ⟨o,r⟩
 ·exact x a u r
 ·obtain⟨_,q⟩:=x a _ r
  exact q
def Mut:Option HO→Prop
 | some (.lst _)=>True
 | some (.dK _)=>True
 | some (.dT _)=>True
 | some (.set _ _)=>True
 | some (.ins _ _ _)=>True
 | some (.ext _)=>True
 | _=>False
section
variable {P:Program} {w:World} {H:Hp} {h h':Heap} {x e:Addr} {o':HO}
theorem HOk.write (ok:HOk P w H h) (mu:Mut (H x)) (he:e=x∨H e=some (.own x)) (k:∀ b u,b≠e→h.get? b=some u→h'.get? b=some u) (heo:∃ u,h'.get? e=some u)
  (new:zas P w (upd H x o') h' x o'):HOk P w (upd H x o') h':=fun b u q=>by
 have nown:∀ c y,H c=some (.own y)→c≠x:=fun c y r z=>by subst z; rw [r] at mu; exact mu
 have ntup:∀ c xs,H c=some (.tup xs)→c≠x:=fun c xs r z=>by subst z; rw [r] at mu; exact mu
 by_cases hb:b=x
 ·subst hb; rw [zc] at q; cases q; exact new
 ·rw [zn hb] at q
  by_cases hbe:b=e
  ·have q':H b=some (.own x):=by
    rcases he with z | z
    ·exact absurd (hbe.trans z) hb
    ·rw [hbe]; exact z
   rw [q] at q'; cases q'
   obtain⟨v,hv⟩:=heo
   exact⟨v,by rw [hbe]; exact hv⟩
  ·refine (ok b u q).stay (fun c v hc r=>k c v ?_ r) (fun c r=>by rw [zn (nown c b r)]; exact r) fun c xs r=>by rw [zn (ntup c xs r)]; exact r
   rcases hc with rfl | hc
   ·exact hbe
   ·rintro rfl
    rcases he with z | z
    ·exact nown c b hc z
    ·rw [hc] at z; cases z; exact hb rfl
end
structure Un (fs ex:List Addr) (H H':Hp) (h h':Heap):Prop where
 keep:∀ b o,h.get? b=some o→H b=none→b∉fs→b∉ex→h'.get? b=some o
 slot:∀ b o,h.get? b=some o→H b=none→b∈fs→b∉ex→∃ sl,h'.get? b=some { o with slots:=sl }
 free:∀ b o,h.get? b=some o→H b=none→b∉ex→H' b=none
 there:∀ b o,h.get? b=some o→b∉ex→∃ o',h'.get? b=some o'
 tups:∀ b xs,H b=some (.tup xs)→H' b=some (.tup xs)
 frzs:∀ b o u,H b=some (.frz o u)→H' b=some (.frz o u)
 tbls:∀ b ps,H b=some (.tbl ps)→∃ more,H' b=some (.tbl (ps++more))
section
variable {fs fs' ex ex':List Addr} {H H1 H2:Hp} {h h1 h2 h':Heap} {a x e:Addr} {o:HO}
theorem Un.any (u:Un fs ex H H1 h h1) {b:Addr} {ob:Obj} (q:h.get? b=some ob) (n:H b=none) (hx:b∉ex):∃ sl,h1.get? b=some { ob with slots:=sl }:=by
 by_cases hb:b∈fs
 ·exact u.slot b ob q n hb hx
 ·exact⟨ob.slots,u.keep b ob q n hb hx⟩
theorem Un.kept (k:∀ b u,h.get? b=some u→h'.get? b=some u):Un fs ex H H h h' :=
 ⟨fun b ob q _ _ _=>k b ob q,fun b ob q _ _ _=>⟨ob.slots,k b ob q⟩,fun _ _ _ n _=>n,fun b ob q _=>⟨ob,k b ob q⟩,fun _ _ q=>q,fun _ _ _ q=>q,fun _ ps q=>⟨#[],by rw [q]; simp⟩⟩
theorem Un.refl:Un fs ex H H h h:=Un.kept fun _ _ q=>q
theorem Un.laid (k:∀ b u,h.get? b=some u→h'.get? b=some u) (hp:h.objs.size≤a) (hn:H a=none):Un fs ex H (upd H a o) h h' where
 keep:=fun b u q _ _ _=>k b u q
 slot:=fun b u q _ _ _=>⟨u.slots,k b u q⟩
 free:=fun b u q n _=>by rw [zn (bu (bm (aJ q) hp))]; exact n
 there:=fun b u q _=>⟨u,k b u q⟩
 tups:=fun b xs q=>by rw [zn (zw q hn)]; exact q
 frzs:=fun b u xs q=>by rw [zn (zw q hn)]; exact q
 tbls:=fun b ps q=>⟨#[],by rw [zn (zw q hn),q]; simp⟩
theorem Un.write (mu:Mut (H x)) (he:e=x∨H e=some (.own x)) (k:∀ b u,b≠e→h.get? b=some u→h'.get? b=some u) (heo:∃ u,h'.get? e=some u):Un fs ex H (upd H x o) h h':=by
 have hx:∀ b,H b=none→b≠x:=fun b n z=>by subst z; rw [n] at mu; exact mu
 have hb:∀ b,H b=none→b≠e:=fun b n z=>by
  subst z
  rcases he with r | r
  ·exact hx b n r
  ·rw [n] at r; cases r
 have hm:∀ b u,H b=some u→¬ Mut (some u)→b≠x:=fun b u q nm z=>by subst z; rw [q] at mu; exact nm mu
 refine⟨fun b u q n _ _=>k b u (hb b n) q,fun b u q n _ _=>⟨u.slots,k b u (hb b n) q⟩,fun b u q n _=>by rw [zn (hx b n)]; exact n,fun b u q _=>?_,
  fun b xs q=>by rw [zn (hm b _ q fun z=>z)]; exact q,fun b u xs q=>by rw [zn (hm b _ q fun z=>z)]; exact q,fun b ps q=>⟨#[],by rw [zn (hm b _ q fun z=>z),q]; simp⟩⟩
 by_cases hbe:b=e
 ·subst hbe; exact heo
 ·exact⟨u,k b u hbe q⟩
end
def trk (h:Heap) (H:Hp):List Addr:=(aH h.objs.size).filter fun a=>(H a).isSome
def zfO (h:Heap) (H:Hp):Heap:=PySem.W.hideAll h (trk h H)
theorem zju (h:Heap) (H:Hp):(zfO h H).objs.size=h.objs.size:=PySem.W.hideAll_size _ _
theorem zko {h:Heap} {H:Hp} {b:Addr} {o:Obj} (e:h.get? b=some o) (n:H b=none):(zfO h H).get? b=some o :=
 PySem.W.hideAll_get _ e fun hm=>by
  have q:(H b).isSome=true:=(cw.mp hm).2
  rw [n] at q; simp at q
theorem zmt {h:Heap} {H:Hp} {b:Addr} {o:Obj} (e:(zfO h H).get? b=some o):h.get? b=some o∧H b=none:=by
 have e':h.get? b=some o:=PySem.W.of_hideAll (trk h H) e
 refine⟨e',?_⟩
 cases q:H b with
 | none=>rfl
 | some x =>
  have hm:b∈trk h H:=cw.mpr ⟨bd.mpr (aJ e'),by simp [q]⟩
  have z:(zfO h H).get? b=none:=PySem.W.hideAll_none (trk h H) hm
  rw [z] at e; cases e
structure Mod (K:ai) (mg:Str→Option Value) (base:Heap):Prop where
 kin:K.In base
 glob:base.Ns mainGlobals mg
 blt:∃ mb,base.Ns builtinsNs mb∧∀ x:Str,x≠"__name__"→mb x=bootBuiltins x
 nolimit:base.NoLimit
structure Cx where
 prog:Program
 w:World
 K:ai
 mg:Str→Option Value
 base:Heap
 A:Around
 N:List Str
 s₀:Shared
 H₀:Hp
 env:Env
 outer:List Env
 stack:List Env
 ex:List Addr
 fn:Str→Bool
 calm:Bool
 pn:List (Addr×Obj)
 xe:Value→Shared→Prop
def frs (l:List Env):List Addr:=l.filterMap (·.frame)
abbrev Cx.fs (X:Cx):List Addr:=frs X.outer
def Vis (sc:Scope) (x:Str):Prop:=sc.names.lookup x=some .local∨sc.names.lookup x=some .cell∨sc.names.lookup x=some .free
def Loc (sc:Scope) (x:Str):Prop:=sc.names.lookup x=some .local∨sc.names.lookup x=some .cell
def Look (env:Env) (h:Heap) (m:Str→Option Value) (x:Str) (u:Value):Prop :=
 (env.kindOf x=some .local∧m x=some u)∨((env.kindOf x=some .cell∨env.kindOf x=some .free)∧∃ c,env.cells.lookup x=some c∧h.IsCell c (some u))
structure Cx.Ok (X:Cx):Prop where
 mod:Mod X.K X.mg X.base
 kind:X.env.scope.kind = .function
 glob:X.env.globals=mainGlobals
 blt:X.env.builtins=builtinsNs
 above:X.s₀.heap.objs.size≤X.env.locals
 inj:∀ x y c,X.env.cells.lookup x=some c→X.env.cells.lookup y=some c→x=y
 has:∀ x,(X.env.kindOf x=some .cell∨X.env.kindOf x=some .free)→∃ c,X.env.cells.lookup x=some c
 cab:∀ x c,X.fn x=true→X.env.cells.lookup x=some c→X.s₀.heap.objs.size≤c
 hd:X.calm=true→X.A.handled=none
 frames:X.A.frames=some X.stack
 stk:X.stack=X.outer∨(X.stack=X.env :: X.outer∧X.env.frame=some X.env.locals)
 exf:∀ b∈X.ex,b≠X.env.locals∧∀ x c,X.env.cells.lookup x=some c→c≠b
 bs:∀ b o,X.base.get? b=some o→X.s₀.heap.get? b=some o∧X.H₀ b=none
 bsz:X.base.objs.size≤X.s₀.heap.objs.size
 noex:∀ b o,X.base.get? b=some o→b∉X.ex
 exfs:∀ b∈X.ex,b∉X.fs
 funs:X.s₀.heap.FunFrames X.base X.outer
 frf:∀ b∈X.fs,X.H₀ b=none
structure Inv (X:Cx) (pins:List (Addr×Obj)) (σ:List (Option V)) (H:Hp) (s:Shared):Prop where
 ok:X.Ok
 os:s.os=X.s₀.os
 bare:AllBare s.gens
 base:Un X.fs X.ex X.H₀ H X.s₀.heap s.heap
 loc:∃ m,s.heap.Ns X.env.locals m∧∀ (i:Nat) (x:Str) (v:V),X.N[i]? = some x→σ[i]? = some (some v)→Vis X.env.scope x→∃ u,RelV v u∧Look X.env s.heap m x u
 cell:∀ x c,X.env.cells.lookup x=some c→∃ v,s.heap.IsCell c v
 free:H X.env.locals=none
 freeC:∀ x c,X.env.cells.lookup x=some c→H c=none
 pin:∀ p∈X.pn++pins,s.heap.get? p.1=some p.2∧H p.1=none∧p.1≠X.env.locals∧p.1∉X.fs∧∀ v,p.2.data≠.cell v
 hok:HOk X.prog X.w H s.heap
 len:σ.length=X.N.length
section
variable {X:Cx} {pins:List (Addr×Obj)} {σ:List (Option V)} {H H':Hp} {s:Shared} {h':Heap}
theorem Cx.Ok.nofr (ok:X.Ok) {b:Addr} {o:Obj} (e:X.base.get? b=some o):b∉X.fs:=fun hb=>by
 have:=(ok.funs.mem hb).1
 rw [e] at this; cases this
theorem Inv.bs (I:Inv X pins σ H s):∀ b o,X.base.get? b=some o→s.heap.get? b=some o∧H b=none:=fun b o e =>
 ⟨I.base.keep b o (I.ok.bs b o e).1 (I.ok.bs b o e).2 (I.ok.nofr e) (I.ok.noex b o e),I.base.free b o (I.ok.bs b o e).1 (I.ok.bs b o e).2 (I.ok.noex b o e)⟩
theorem Inv.bk (I:Inv X pins σ H s):∀ b o,X.base.get? b=some o→s.heap.get? b=some o:=fun b o e=>(I.bs b o e).1
theorem Inv.mod (I:Inv X pins σ H s):Mod X.K X.mg X.base:=I.ok.mod
theorem Inv.kIn (I:Inv X pins σ H s):X.K.In s.heap:=I.ok.mod.kin.keeps I.bk
theorem Inv.lt (I:Inv X pins σ H s):X.env.locals < s.heap.objs.size:=let ⟨_,hn,_⟩:=I.loc; hn.lt
theorem Inv.sz (I:Inv X pins σ H s):X.s₀.heap.objs.size≤s.heap.objs.size:=aZ I.ok.above (fC I.lt)
theorem Inv.nofs (I:Inv X pins σ H s) {a:Addr} (h:s.heap.objs.size≤a):a∉X.fs:=fun hb=>by
 obtain⟨_,o,ho,_⟩:=I.ok.funs.mem hb
 exact absurd (bm (aJ ho) (aZ I.sz h)) (cr _)
theorem Inv.cne (I:Inv X pins σ H s):∀ x c,X.env.cells.lookup x=some c→c≠X.env.locals:=fun x c e z=>by
 obtain⟨v,o,ho,hd⟩:=I.cell x c e
 obtain⟨m,⟨o',es,ep,ho',hd',_⟩,_⟩:=I.loc
 rw [z,ho'] at ho; cases ho; rw [hd'] at hd; cases hd
theorem Inv.funs (I:Inv X pins σ H s):s.heap.FunFrames X.base X.outer:=by
 have all:∀ (l:List Env),(∀ b∈frs l,b∈X.fs)→X.s₀.heap.FunFrames X.base l→s.heap.FunFrames X.base l:=by
  intro l
  induction l with
  | nil=>intro _ _; trivial
  | cons env r ih =>
   intro hs hl
   obtain⟨hk,⟨L,o,hf,hn,ho,hd⟩,hr⟩:=hl
   have hL:L∈X.fs:=hs L (by unfold frs; rw [eg,hf]; exact aF)
   obtain⟨sl,e⟩:=I.base.slot L o ho (I.ok.frf L hL) hL fun z=>I.ok.exfs L z hL
   exact⟨hk,⟨L,_,hf,hn,e,hd⟩,ih (fun b hb=>hs b (by unfold frs; rw [eg,hf]; exact av _ hb)) hr⟩
 exact all X.outer (fun _ hb=>hb) I.ok.funs
theorem Inv.stack (I:Inv X pins σ H s):s.heap.FunFrames X.base X.stack:=by
 rcases I.ok.stk with e | ⟨e,hf⟩
 ·rw [e]; exact I.funs
 ·rw [e]
  obtain⟨m,hn,_⟩:=I.loc
  refine .cons (by rw [I.ok.kind]; decide) hf hn ?_ I.funs
  exact Heap.get?_none_of_le (aZ I.ok.bsz I.ok.above)
theorem Inv.stkSub (I:Inv X pins σ H s):∀ b∈frs X.stack,b∈X.env.locals :: X.fs:=fun b hb=>by
 rcases I.ok.stk with e | ⟨e,hf⟩
 ·rw [e] at hb; exact av _ hb
 ·rw [e] at hb
  unfold frs at hb
  rw [eg,hf] at hb
  exact hb
theorem Inv.stkFree (I:Inv X pins σ H s):∀ b∈frs X.stack,H b=none:=fun b hb=>by
 rcases aB.mp (I.stkSub b hb) with e | hb
 ·rw [e]; exact I.free
 ·obtain⟨_,o,ho,_⟩:=I.ok.funs.mem hb
  exact I.base.free b o ho (I.ok.frf b hb) fun z=>I.ok.exfs b z hb
theorem Inv.step {g':Array GenState} {t':Nat} {d':Drawn} {ch:List Addr} (I:Inv X pins σ H s)
  (hch:∀ b∈ch,(b∈X.ex∨X.s₀.heap.objs.size≤b)∧b≠X.env.locals∧(∀ x c,X.env.cells.lookup x=some c→c≠b)∧∀ p∈X.pn++pins,p.1≠b)
  (keep:∀ b o,b≠X.env.locals→b∉X.fs→b∉ch→s.heap.get? b=some o→H b=none→h'.get? b=some o)
  (slot:∀ b o,b≠X.env.locals→b∈X.fs→b∉ch→s.heap.get? b=some o→H b=none→∃ sl,h'.get? b=some { o with slots:=sl }) (free:∀ b o,b∉ch→s.heap.get? b=some o→H b=none→H' b=none)
  (there:∀ b o,b∉ch→s.heap.get? b=some o→∃ o',h'.get? b=some o')
  (tups:∀ b xs,H b=some (.tup xs)→H' b=some (.tup xs)) (frzs:∀ b o u,H b=some (.frz o u)→H' b=some (.frz o u)) (tbls:∀ b ps,H b=some (.tbl ps)→∃ more,H' b=some (.tbl (ps++more)))
  (ns:∀ m,s.heap.Ns X.env.locals m→h'.Ns X.env.locals m) (hok:HOk X.prog X.w H' h') (hg:AllBare g') :
  Inv X pins σ H' { s with heap:=h',gens:=g',drawn:=d',toks:=t' }:=by
 have neL:∀ b o,X.s₀.heap.get? b=some o→b≠X.env.locals:=fun b o e=>bu (bm (aJ e) I.ok.above)
 have neC:∀ b o,X.s₀.heap.get? b=some o→b∉X.ex→b∉ch:=fun b o e hx hb=>by
  rcases (hch b hb).1 with z | z
  ·exact hx z
  ·exact absurd (bm (aJ e) z) (cr _)
 have cellK:∀ x c,X.env.cells.lookup x=some c→∀ v,s.heap.IsCell c v→h'.IsCell c v:=fun x c e v ⟨o,ho,hd⟩=>by
  have nch:c∉ch:=fun z=>(hch c z).2.2.1 x c e rfl
  by_cases hc:c∈X.fs
  ·obtain⟨sl,q⟩:=slot c o (I.cne x c e) hc nch ho (I.freeC x c e)
   exact⟨_,q,hd⟩
  ·exact⟨o,keep c o (I.cne x c e) hc nch ho (I.freeC x c e),hd⟩
 refine⟨I.ok,I.os,hg,⟨fun b o e n hb hx=>?_,fun b o e n hb hx=>?_,fun b o e n hx=>?_,fun b o e hx=>?_,fun b xs e=>tups b xs (I.base.tups b xs e),fun b o xs e=>frzs b o xs (I.base.frzs b o xs e),fun b ps e=>?_⟩,?_,fun x c e=>?_,?_,fun x c e=>?_,fun p hp=>?_,hok,I.len⟩
 ·exact keep b o (neL b o e) hb (neC b o e hx) (I.base.keep b o e n hb hx) (I.base.free b o e n hx)
 ·obtain⟨sl,e1⟩:=I.base.slot b o e n hb hx
  obtain⟨sl',e2⟩:=slot b _ (neL b o e) hb (neC b o e hx) e1 (I.base.free b o e n hx)
  exact⟨sl',e2⟩
 ·obtain⟨o',e1⟩:=I.base.there b o e hx
  exact free b o' (neC b o e hx) e1 (I.base.free b o e n hx)
 ·obtain⟨o',e1⟩:=I.base.there b o e hx
  exact there b o' (neC b o e hx) e1
 ·obtain⟨m1,e1⟩:=I.base.tbls b ps e
  obtain⟨m2,e2⟩:=tbls b _ e1
  exact⟨m1++m2,by rw [e2,Array.append_assoc]⟩
 ·obtain⟨m,hn,hl⟩:=I.loc
  refine⟨m,ns m hn,fun i x v e1 e2 e3=>?_⟩
  obtain⟨u,r,l⟩:=hl i x v e1 e2 e3
  refine⟨u,r,?_⟩
  rcases l with l | ⟨k,c,e,z⟩
  ·exact .inl l
  ·exact .inr ⟨k,c,e,cellK x c e _ z⟩
 ·obtain⟨v,z⟩:=I.cell x c e
  exact⟨v,cellK x c e v z⟩
 ·obtain⟨m,⟨o,_,_,ho,_⟩,_⟩:=I.loc
  exact free _ o (fun z=>(hch _ z).2.1 rfl) ho I.free
 ·obtain⟨v,o,ho,hd⟩:=I.cell x c e
  exact free c o (fun z=>(hch c z).2.2.1 x c e rfl) ho (I.freeC x c e)
 ·obtain⟨e,n,ne,nf,d⟩:=I.pin p hp
  have nch:p.1∉ch:=fun z=>(hch p.1 z).2.2.2 p hp rfl
  exact⟨keep p.1 p.2 ne nf nch e n,free p.1 p.2 nch e n,ne,nf,d⟩
theorem Inv.un {t':Nat} (I:Inv X pins σ H s) (u:Un X.fs [] H H' s.heap h') (hok:HOk X.prog X.w H' h'):Inv X pins σ H' { s with heap:=h',toks:=t' }:=by
 obtain⟨m,⟨o,es,ep,ho,r⟩,_⟩:=id I.loc
 obtain⟨sl,hL⟩:=u.any ho I.free (by simp)
 exact I.step (g':=s.gens) (d':=s.drawn) (ch:=[]) (fun _ z=>nomatch z) (fun b o _ hb _ e n=>u.keep b o e n hb (by simp)) (fun b o _ hb _ e n=>u.slot b o e n hb (by simp)) (fun b o _ e n=>u.free b o e n (by simp)) (fun b o _ e=>u.there b o e (by simp)) u.tups u.frzs u.tbls (fun m' hm=>by
  obtain⟨o',es',ep',ho',r'⟩:=hm
  rw [ho] at ho'; cases ho'
  exact⟨_,es',ep',hL,r'⟩) hok I.bare
theorem Inv.call {g':Array GenState} {t':Nat} {d':Drawn} {ch:List Addr} (I:Inv X pins σ H s) (u:Un (frs X.stack) ch H H' s.heap h') (hok:HOk X.prog X.w H' h') (hg:AllBare g')
  (hch:∀ b∈ch,(b∈X.ex∨X.s₀.heap.objs.size≤b)∧b≠X.env.locals∧(∀ x c,X.env.cells.lookup x=some c→c≠b)∧∀ p∈X.pn++pins,p.1≠b) :
  Inv X pins σ H' { s with heap:=h',gens:=g',drawn:=d',toks:=t' }:=by
 obtain⟨m,⟨o,es,ep,ho,r⟩,_⟩:=id I.loc
 obtain⟨sl,hL⟩:=u.any ho I.free fun z=>(hch _ z).2.1 rfl
 exact I.step (ch:=ch) hch (fun b o hL hb hc e n=>u.keep b o e n (fun z=>(aB.mp (I.stkSub b z)).elim hL hb) hc) (fun b o _ _ hc e n=>u.any e n hc) (fun b o hc e n=>u.free b o e n hc) (fun b o hc e=>u.there b o e hc) u.tups u.frzs u.tbls (fun m' hm=>by
  obtain⟨o',es',ep',ho',r'⟩:=hm
  rw [ho] at ho'; cases ho'
  exact⟨_,es',ep',hL,r'⟩) hok hg
theorem Inv.turned {t':Nat} {it:Addr} (I:Inv X pins σ H s) (k:∀ b o,b≠it→s.heap.get? b=some o→h'.get? b=some o) (hn:H it=none) (hL:it≠X.env.locals)
  (h1:it∈X.ex∨X.s₀.heap.objs.size≤it) (h2:∀ x c,X.env.cells.lookup x=some c→c≠it) (h3:∀ p∈X.pn++pins,p.1≠it):Inv X pins σ H { s with heap:=h',toks:=t' }:=by
 have nit:∀ b u,H b=some u→b≠it:=fun b u e z=>by rw [z,hn] at e; cases e
 refine I.step (g':=s.gens) (d':=s.drawn) (ch:=[it]) (fun b hb=>?_) (fun b o _ _ hc e _=>k b o (fun z=>hc (by simp [z])) e) (fun b o _ _ hc e _=>⟨o.slots,k b o (fun z=>hc (by simp [z])) e⟩) (fun _ _ _ _ n=>n)
  (fun b o hc e=>⟨o,k b o (fun z=>hc (by simp [z])) e⟩) (fun _ _ e=>e) (fun _ _ _ e=>e) (fun b ps e=>⟨#[],by rw [e]; simp⟩) (fun m hm=>?_) (fun b u e=>?_) I.bare
 ·have e:b=it:=by simpa using hb
  subst e
  exact⟨h1,hL,h2,h3⟩
 ·obtain⟨o,es,ep,ho,r⟩:=hm
  exact⟨o,es,ep,k _ o (dZ hL) ho,r⟩
 ·refine (I.hok b u e).stay (fun c v hc q=>k c v ?_ q) (fun _ q=>q) fun _ _ q=>q
  rcases hc with z | z
  ·rw [z]; exact nit b u e
  ·exact nit c _ z
theorem Inv.tok (I:Inv X pins σ H s) (t:Nat):Inv X pins σ H { s with toks:=t }:=I.un (h':=s.heap) (t':=t) Un.refl I.hok
theorem Inv.kept {t':Nat} (I:Inv X pins σ H s) (k:∀ b u,s.heap.get? b=some u→h'.get? b=some u):Inv X pins σ H { s with heap:=h',toks:=t' }:=I.un (Un.kept k) (I.hok.kept k)
theorem Inv.laid {a:Addr} {o:HO} {t':Nat} (I:Inv X pins σ H s) (k:∀ b u,s.heap.get? b=some u→h'.get? b=some u) (hp:s.heap.objs.size≤a) (new:zas X.prog X.w (upd H a o) h' a o) :
  Inv X pins σ (upd H a o) { s with heap:=h',toks:=t' }:=I.un (Un.laid k hp (I.hok.fresh hp)) (I.hok.laid k hp new)
theorem Inv.write {x e:Addr} {o:HO} {t':Nat} (I:Inv X pins σ H s) (mu:Mut (H x)) (he:e=x∨H e=some (.own x)) (k:∀ b u,b≠e→s.heap.get? b=some u→h'.get? b=some u) (heo:∃ u,h'.get? e=some u)
  (new:zas X.prog X.w (upd H x o) h' x o):Inv X pins σ (upd H x o) { s with heap:=h',toks:=t' }:=I.un (Un.write mu he k heo) (I.hok.write mu he k heo new)
theorem Inv.weak {σ':List (Option V)} (I:Inv X pins σ H s) (hl:σ'.length=σ.length) (w:∀ (i:Nat) v,σ'[i]? = some (some v)→σ[i]? = some (some v)):Inv X pins σ' H s :=
 ⟨I.ok,I.os,I.bare,I.base,let ⟨m,hn,hl'⟩:=I.loc; ⟨m,hn,fun i x v e1 e2 e3=>hl' i x v e1 (w i v e2) e3⟩,I.cell,I.free,I.freeC,I.pin,I.hok,hl.trans I.len⟩
theorem Inv.pins_of {pins':List (Addr×Obj)} (I:Inv X pins σ H s) (h:∀ p∈pins',s.heap.get? p.1=some p.2∧H p.1=none∧p.1≠X.env.locals∧p.1∉X.fs∧∀ v,p.2.data≠.cell v):Inv X pins' σ H s :=
 ⟨I.ok,I.os,I.bare,I.base,I.loc,I.cell,I.free,I.freeC,fun p hp=>(a7.mp hp).elim (fun z=>I.pin p (aU _ z)) (h p),I.hok,I.len⟩
theorem zgE {N:List Str} (hN:N.Nodup) {i j:Nat} {x:Str} (a:N[i]? = some x) (b:N[j]? = some x):i=j:=by
 obtain⟨h1,e1⟩:=aA.mp a
 obtain⟨h2,e2⟩:=aA.mp b
 exact (List.getElem_inj hN).mp (e1.trans e2.symm)
theorem zfd {M:Model} {A:Around} {E:Value→Shared→Prop} {i:Nat} {x:Str} {v:V} {u:Value} {Q:Unit→Shared→Prop} (I:Inv X pins σ H s) (hN:X.N.Nodup) (hi:X.N[i]? = some x) (hx:Loc X.env.scope x) (r:RelV v u)
  (h:∀ s',Inv X pins (σ.set i (some v)) H s'→(∃ a,br a s.heap s'.heap∧(a=X.env.locals∨X.env.cells.lookup x=some a))→Q () s') (hf:X.fn x=true∨X.env.scope.names.lookup x=some .local:=by first | exact .inl rfl | exact .inr rfl | assumption):wpAny M A (storeName X.env x u) Q E s:=by
 obtain⟨m,hn,hl⟩:=id I.loc
 have hcls:(X.env.scope.kind == .class || (X.env.scope.kind == .module && X.env.locals != X.env.globals))=false:=by rw [I.ok.kind]; rfl
 have hiσ:i < σ.length:=by rw [I.len]; exact (aA.mp hi).1
 have cne:=I.cne
 have tracked:∀ {a:Addr} {h':Heap},(∃ o,s.heap.get? a=some o∧H a=none)→br a s.heap h'→HOk X.prog X.w H h':=fun {a h'} ha hs b ob e=>by
  obtain⟨_,_,hfree⟩:=ha
  refine (I.hok b ob e).stay (fun c w' hc q=>(hs.2 c ?_).trans q) (fun _ q=>q) fun _ _ q=>q
  rintro rfl
  rcases hc with rfl | hc
  ·rw [hfree] at e; cases e
  ·rw [hfree] at hc; cases hc
 rcases hx with hk | hk
 ·refine wpAny_storeName_local hk hn (fun h' hn' hs=>?_) hcls
  obtain⟨oL,_,_,hoL,_⟩:=id hn
  refine h _ ⟨I.ok,I.os,I.bare,⟨fun b o e n hb hx=>?_,fun b o e n hb hx=>?_,I.base.free,fun b o e hx=>?_,I.base.tups,I.base.frzs,I.base.tbls⟩,⟨_,hn',fun j y v' e1 e2 e3=>?_⟩,fun y c e=>?_,I.free,I.freeC,fun p hp=>?_,tracked ⟨oL,hoL,I.free⟩ hs,by simpa using I.len⟩ ⟨_,hs,.inl rfl⟩
  ·exact (hs.2 b (bu (bm (aJ e) I.ok.above))).trans (I.base.keep b o e n hb hx)
  ·obtain⟨sl,e1⟩:=I.base.slot b o e n hb hx
   exact⟨sl,(hs.2 b (bu (bm (aJ e) I.ok.above))).trans e1⟩
  ·obtain⟨o',e1⟩:=I.base.there b o e hx
   exact⟨o',(hs.2 b (bu (bm (aJ e) I.ok.above))).trans e1⟩
  ·by_cases hj:j=i
   ·subst hj
    rw [hi] at e1; cases e1
    rw [fX hiσ] at e2
    cases e2
    exact⟨u,r,.inl ⟨hk,by simp⟩⟩
   ·rw [dU (dZ hj)] at e2
    obtain⟨u',r',q⟩:=hl j y v' e1 e2 e3
    refine⟨u',r',?_⟩
    rcases q with ⟨k,e⟩ | ⟨k,c,e,z⟩
    ·refine .inl ⟨k,?_⟩
     have:y≠x:=fun e=>hj (zgE hN e1 (e ▸ hi))
     simp [this,e]
    ·exact .inr ⟨k,c,e,z.sameBut hs (cne y c e)⟩
  ·obtain⟨w',z⟩:=I.cell y c e
   exact⟨w',z.sameBut hs (cne y c e)⟩
  ·obtain⟨e,n,ne,nf,d⟩:=I.pin p hp
   exact⟨(hs.2 p.1 ne).trans e,n,ne,nf,d⟩
 ·have hfn:X.fn x=true:=by
   rcases hf with z | z
   ·exact z
   ·rw [z] at hk; cases hk
  obtain⟨c,hc⟩:=I.ok.has x (.inl hk)
  obtain⟨w',z⟩:=I.cell x c hc
  refine wpAny_storeName_cell I.ok.kind hk hc z (fun h' hc' hs=>?_)
  obtain⟨oc,hoc,hocd⟩:=id z
  refine h { s with heap:=h' } ⟨I.ok,I.os,I.bare,⟨fun b o e n hb hx=>?_,fun b o e n hb hx=>?_,I.base.free,fun b o e hx=>?_,I.base.tups,I.base.frzs,I.base.tbls⟩,⟨m,hn.sameBut hs (dZ (cne x c hc)),fun j y v' e1 e2 e3=>?_⟩,fun y c' e=>?_,I.free,I.freeC,fun p hp=>?_,tracked ⟨oc,hoc,I.freeC x c hc⟩ hs,by simpa using I.len⟩ ⟨c,hs,.inr hc⟩
  ·exact (hs.2 b (bu (bm (aJ e) (I.ok.cab x c hfn hc)))).trans (I.base.keep b o e n hb hx)
  ·obtain⟨sl,e1⟩:=I.base.slot b o e n hb hx
   exact⟨sl,(hs.2 b (bu (bm (aJ e) (I.ok.cab x c hfn hc)))).trans e1⟩
  ·obtain⟨o',e1⟩:=I.base.there b o e hx
   exact⟨o',(hs.2 b (bu (bm (aJ e) (I.ok.cab x c hfn hc)))).trans e1⟩
  ·by_cases hj:j=i
   ·subst hj
    rw [hi] at e1; cases e1
    rw [fX hiσ] at e2
    cases e2
    exact⟨u,r,.inr ⟨.inl hk,c,hc,hc'⟩⟩
   ·rw [dU (dZ hj)] at e2
    obtain⟨u',r',q⟩:=hl j y v' e1 e2 e3
    refine⟨u',r',?_⟩
    rcases q with q | ⟨k,c',e,z'⟩
    ·exact .inl q
    ·refine .inr ⟨k,c',e,z'.sameBut hs ?_⟩
     rintro rfl
     exact hj (zgE hN e1 (I.ok.inj _ _ _ e hc ▸ hi))
  ·by_cases hcc:c'=c
   ·subst hcc; exact⟨_,hc'⟩
   ·obtain⟨w2,z2⟩:=I.cell y c' e
    exact⟨w2,z2.sameBut hs hcc⟩
  ·obtain⟨e,n,ne,nf,d⟩:=I.pin p hp
   refine⟨(hs.2 p.1 ?_).trans e,n,ne,nf,d⟩
   intro q
   rw [q,hoc] at e
   have q':oc=p.2:=aP e
   exact d w' (by rw [← q']; exact hocd)
theorem zeb {M:Model} {A:Around} {E:Value→Shared→Prop} {i:Nat} {x:Str} {v:V} {u:Value} {Q:Unit→Shared→Prop} (I:Inv X pins σ H s) (hN:X.N.Nodup) (hi:X.N[i]? = some x) (hx:Loc X.env.scope x) (r:RelV v u)
  (h:∀ s',Inv X pins (σ.set i (some v)) H s'→Q () s') (hf:X.fn x=true∨X.env.scope.names.lookup x=some .local:=by first | exact .inl rfl | exact .inr rfl | assumption):wpAny M A (storeName X.env x u) Q E s :=
 zfd I hN hi hx r (fun s' I' _=>h s' I') hf
theorem Inv.call' {s':Shared} {ch:List Addr} (I:Inv X pins σ H s) (ho:s'.os=s.os) (u:Un (frs X.stack) ch H H' s.heap s'.heap) (hok:HOk X.prog X.w H' s'.heap) (hg:AllBare s'.gens)
  (hch:∀ b∈ch,(b∈X.ex∨X.s₀.heap.objs.size≤b)∧b≠X.env.locals∧(∀ x c,X.env.cells.lookup x=some c→c≠b)∧∀ p∈X.pn++pins,p.1≠b):Inv X pins σ H' s':=by
 obtain⟨h',g',d',t',o'⟩:=s'
 have e:o'=s.os:=ho
 subst e
 exact I.call (g':=g') (t':=t') (d':=d') u hok hg hch
end
abbrev XK:=Value→Option Addr→Hp→Prop
abbrev St:=List (Option V)
abbrev VK:=V→Hp→Prop
abbrev TE:=St→Hp→VK→Prop
abbrev TT:=St→Hp→(Bool→Hp→Prop)→Prop
abbrev TA:=St→Hp→(List V→Hp→Prop)→Prop
structure Ends where
 nx:St→Hp→Prop
 rt:VK
 bk:St→Hp→Prop:=fun _ _=>False
 ct:St→Hp→Prop:=fun _ _=>False
abbrev TS:=Ends→St→Hp→Prop
def EP (X:Cx) (pins:List (Addr×Obj)) (σ:St) (Q:VK) (u:Value) (s':Shared):Prop:=∃ v H',Inv X pins σ H' s'∧RelV v u∧Q v H'
def TP (X:Cx) (pins:List (Addr×Obj)) (σ:St) (Q:Bool→Hp→Prop) (b:Bool) (s':Shared):Prop:=∃ H',Inv X pins σ H' s'∧Q b H'
def AP (X:Cx) (pins:List (Addr×Obj)) (σ:St) (Q:List V→Hp→Prop) (us:List Value) (s':Shared):Prop:=∃ vs H',Inv X pins σ H' s'∧zJ vs us∧Q vs H'
def SP (X:Cx) (pins:List (Addr×Obj)) (D:Ends) (f:Flow) (s':Shared):Prop :=
 match f with
 | .next=>∃ σ' H',Inv X pins σ' H' s'∧D.nx σ' H'
 | .brk=>∃ σ' H',Inv X pins σ' H' s'∧D.bk σ' H'
 | .cont=>∃ σ' H',Inv X pins σ' H' s'∧D.ct σ' H'
 | .ret u=>∃ v σ' H',Inv X pins σ' H' s'∧RelV v u∧D.rt v H'
def PE (X:Cx) (e:Expr) (t:TE):Prop :=
 ∀ (pins:List (Addr×Obj)) (s:Shared) (σ:St) (H:Hp) (Q:VK),Inv X pins σ H s→t σ H Q→wpAny (model X.prog X.w) X.A (eval e X.env) (EP X pins σ Q) X.xe s
def PT (X:Cx) (e:Expr) (t:TT):Prop :=
 ∀ (pins:List (Addr×Obj)) (s:Shared) (σ:St) (H:Hp) (Q:Bool→Hp→Prop),Inv X pins σ H s→t σ H Q→wpAny (model X.prog X.w) X.A (isTrue e X.env (eval e X.env)) (TP X pins σ Q) X.xe s
def PW (X:Cx) (e:Expr) (t:TT):Prop :=
 ∀ (whole:Sem Value) (pins:List (Addr×Obj)) (s:Shared) (σ:St) (H:Hp) (Q:Bool→Hp→Prop),Inv X pins σ H s→t σ H Q→wpAny (model X.prog X.w) X.A (isTrue e X.env whole) (TP X pins σ Q) X.xe s
theorem PW.pt {X:Cx} {e:Expr} {t:TT} (h:PW X e t):PT X e t:=h _
def PA (X:Cx) (es:List Expr) (t:TA):Prop :=
 ∀ (pos:Pos) (pins:List (Addr×Obj)) (s:Shared) (σ:St) (H:Hp) (Q:List V→Hp→Prop),Inv X pins σ H s→t σ H Q→wpAny (model X.prog X.w) X.A (spliced (backTo pos (starEach es X.env))) (AP X pins σ Q) X.xe s
def PS (X:Cx) (st:Stmt) (t:TS):Prop :=
 ∀ (pins:List (Addr×Obj)) (s:Shared) (σ:St) (H:Hp) (D:Ends),Inv X pins σ H s→t D σ H→wpAny (model X.prog X.w) X.A (exec st X.env) (SP X pins D) X.xe s
def PSs (X:Cx) (st:List Stmt) (t:TS):Prop :=
 ∀ (pins:List (Addr×Obj)) (s:Shared) (σ:St) (H:Hp) (D:Ends),Inv X pins σ H s→t D σ H→wpAny (model X.prog X.w) X.A (execs st X.env) (SP X pins D) X.xe s
theorem thn {α:Type} {t:Sem α} {Q Q':α→Shared→Prop} {M:Model} {A:Around} {E:Value→Shared→Prop} {s:Shared} (h:wpAny M A t Q E s) (hQ:∀ a s,Q a s→Q' a s):wpAny M A t Q' E s:=cQ h hQ fun _ _ x=>x
section
variable {X:Cx}
def zo2 (i:Nat):TE:=fun σ H Q=>∃ v,σ[i]? = some (some v)∧Q v H
def tC (v:V):TE:=fun _ H Q=>Q v H
theorem zn3 {i:Nat} {x:Str} {pos:Pos} (hN:X.N[i]? = some x) (hv:Vis X.env.scope x) (hd:(x == ("__debug__" : Str))=false:=by decide) (hcd:(x == ("__classdict__" : Str))=false:=by decide):PE X (.Name x pos) (zo2 i):=by
 intro pins s σ H Q I h
 obtain⟨v,e,h⟩:=h
 obtain⟨m,hn,hl⟩:=I.loc
 obtain⟨u,r,l⟩:=hl i x v hN e hv
 have fin:EP X pins σ Q u s:=⟨v,H,I,r,h⟩
 rcases l with ⟨hk,hm⟩ | ⟨hk,c,hc,hcell⟩
 ·exact kt (jd I.ok.kind hk hn hm fin) hd
 ·rcases hk with hk | hk
  ·exact kt (jv I.ok.kind hk hc hcell fin) hd
  ·exact kt (wpAny_loadName_free I.ok.kind hk hc hcell fin hcd) hd
theorem zf {i j pos}:PE X (.Constant (.int i) j pos) (tC (.int i)):=fun _ _ _ H _ I h=>wpAny_Constant_int ⟨.int i,H,I.tok _,⟨_,rfl⟩,h⟩
theorem zec {b j pos}:PE X (.Constant (.bool b) j pos) (tC (.bl b)):=fun _ _ _ H _ I h=>Constant_bool ⟨.bl b,H,I,rfl,h⟩
theorem zdo {j pos}:PE X (.Constant .none j pos) (tC .non):=fun _ _ _ H _ I h=>Constant_none ⟨.non,H,I,rfl,h⟩
def Gl (X:Cx) (x:Str):Prop:=X.env.kindOf x=some .globalImplicit
theorem zmu {E:Value→Shared→Prop} {pins:List (Addr×Obj)} {s:Shared} {σ:St} {H:Hp} {x:Str} {u:Value} {pos:Pos} {Q:Value→Shared→Prop} (I:Inv X pins σ H s) (hg:Gl X x) (hm:X.mg x=some u) (h:Q u s)
  (hd:(x == ("__debug__" : Str))=false:=by decide):wpAny (model X.prog X.w) X.A (eval (.Name x pos) X.env) Q E s :=
 gJ I.ok.kind hg (Calls.loadGlobal_global (by rw [I.ok.glob]; exact I.mod.glob.keeps I.bk) hm h) hd
theorem zbp {E:Value→Shared→Prop} {pins:List (Addr×Obj)} {s:Shared} {σ:St} {H:Hp} {x:Str} {u:Value} {pos:Pos} {Q:Value→Shared→Prop} (I:Inv X pins σ H s) (hg:Gl X x) (hm:X.mg x=none) (hv:bootBuiltins x=some u) (h:Q u s)
  (hn:x≠"__name__":=by decide) (hd:(x == ("__debug__" : Str))=false:=by decide):wpAny (model X.prog X.w) X.A (eval (.Name x pos) X.env) Q E s:=by
 obtain⟨mb,h1,h2⟩:=I.mod.blt
 exact gJ I.ok.kind hg (Calls.loadGlobal_builtin (by rw [I.ok.glob]; exact I.mod.glob.keeps I.bk) hm (by rw [I.ok.blt]; exact h1.keeps I.bk) ((h2 x hn).trans hv) h) hd
variable {a b:Expr} {ta tb:TE} {pos:Pos}
variable {tA tB':TT} {rest:List Expr}
def zpI (t u:TT):TT:=fun σ H Q=>t σ H fun c H1=>if c=true then u σ H1 Q else Q false H1
def tOr (t u:TT):TT:=fun σ H Q=>t σ H fun c H1=>if c=true then Q true H1 else u σ H1 Q
def zpJ (t:TT):TT:=fun σ H Q=>t σ H fun c H1=>Q (!c) H1
theorem zmv (ha:PT X a tA):PW X (.BoolOp .And [a] pos) tA:=by
 intro wh pins s σ H Q I h
 refine isTrue_and (thn (ha pins s σ H Q I h) fun c s1 e=>?_)
 cases c with
 | true=>exact isTrue_and_nil e
 | false=>exact e
theorem zn4 (ha:PT X a tA):PW X (.BoolOp .Or [a] pos) tA:=by
 intro wh pins s σ H Q I h
 refine isTrue_or (thn (ha pins s σ H Q I h) fun c s1 e=>?_)
 cases c with
 | false=>exact isTrue_or_nil e
 | true=>exact e
theorem zn5 (ha:PT X a tA) (hb:PW X (.BoolOp .And (b :: rest) pos) tB'):PW X (.BoolOp .And (a :: b :: rest) pos) (zpI tA tB'):=by
 intro wh pins s σ H Q I h
 refine isTrue_and (thn (ha pins s σ H _ I h) fun c s1 ⟨H1,I1,q1⟩=>?_)
 cases c with
 | true=>exact hb wh pins s1 σ H1 Q I1 q1
 | false=>exact⟨H1,I1,q1⟩
theorem zo3 (ha:PT X a tA) (hb:PW X (.BoolOp .Or (b :: rest) pos) tB'):PW X (.BoolOp .Or (a :: b :: rest) pos) (tOr tA tB'):=by
 intro wh pins s σ H Q I h
 refine isTrue_or (thn (ha pins s σ H _ I h) fun c s1 ⟨H1,I1,q1⟩=>?_)
 cases c with
 | true=>exact⟨H1,I1,q1⟩
 | false=>exact hb wh pins s1 σ H1 Q I1 q1
theorem zn6 (ha:PT X a tA):PT X (.UnaryOp .Not a pos) (zpJ tA):=by
 intro pins s σ H Q I h
 exact isTrue_not (ha pins s σ H (fun c H1=>Q (!c) H1) I h)
def tIf (t:TT) (ta tb:TE):TE:=fun σ H Q=>t σ H fun c H1=>if c=true then ta σ H1 Q else tb σ H1 Q
theorem zkp {c:Expr} (hc:PT X c tA) (ha:PE X a ta) (hb:PE X b tb):PE X (.IfExp c a b pos) (tIf tA ta tb):=by
 intro pins s σ H Q I h
 refine wpAny_IfExp (thn (hc pins s σ H _ I h) fun d s1 ⟨H1,I1,q1⟩=>?_)
 cases d with
 | true=>exact ha pins s1 σ H1 Q I1 q1
 | false=>exact hb pins s1 σ H1 Q I1 q1
end
def SqL (K:ai) (H:Hp) (a:Addr) (xs:List V):Prop :=
 Rd H a (.lst xs) ∨
  ∃ (o:Obj) (its:Array Value) (n:Nat),K.lookup a=some o∧o.cls = .type "list"∧o.dict=none∧o.data = .seq its n∧its.size≤sizeLine∧zJ xs its.toList
def SqT (K:ai) (H:Hp) (a:Addr) (xs:List V):Prop :=
 Rd H a (.tup xs) ∨
  ∃ (o:Obj) (its:Array Value) (n:Nat),K.lookup a=some o∧o.cls = .type "tuple"∧o.data = .seq its n∧its.size≤sizeLine∧zJ xs its.toList
def zpK:Value→Option V
 | .none=>some .non
 | .bool b=>some (.bl b)
 | .int i _=>some (.int i)
 | .str x _=>some (.str x)
 | .bytes b _=>some (.byt b)
 | .float b _=>some (.flt b)
 | .ref a=>some (.ref a)
 | .type n=>some (.ty n)
 | _=>none
theorem RelV.abs {x:V} {u:Value} (r:RelV x u):zpK u=some x:=by
 cases x with
 | non=>cases r; rfl
 | bl _=>cases r; rfl
 | int _=>obtain⟨t,rfl⟩:=r; rfl
 | str _=>obtain⟨t,rfl⟩:=r; rfl
 | byt _=>obtain⟨t,rfl⟩:=r; rfl
 | flt _=>obtain⟨t,rfl⟩:=r; rfl
 | ref _=>cases r; rfl
 | ty _=>cases r; rfl
theorem RelV.inj {x y:V} {u:Value} (r:RelV x u) (q:RelV y u):x=y:=aP (r.abs.symm.trans q.abs)
theorem zJ.inj:∀ {xs ys:List V} {us:List Value},zJ xs us→zJ ys us→xs=ys
 | _,_,_,.nil,.nil=>rfl
 | _,_,_,.cons r t,.cons r' t'=>by rw [r.inj r',zJ.inj t t']
section
variable {X:Cx} {pins:List (Addr×Obj)} {σ:St} {H:Hp} {s:Shared} {a:Addr} {xs ys:List V}
theorem SqL.of {K:ai} (h:H a=some (.lst xs)):SqL K H a xs:=.inl (.inl h)
theorem SqT.of {K:ai} (h:H a=some (.tup xs)):SqT K H a xs:=.inl (.inl h)
theorem Inv.list (I:Inv X pins σ H s) (h:SqL X.K H a xs):∃ its:List Value,zJ xs its∧PlainL s.heap a its.toArray∧xs.length≤sizeLine:=by
 rcases h with h | ⟨o,its,n,hk,hc,hd,hs,hz,r⟩
 ·obtain⟨z,its,n,r,e⟩:=h.ok I.hok
  exact⟨its,r,⟨_,n,e,rfl,rfl,rfl⟩,z⟩
 ·refine⟨its.toList,r,⟨o,n,I.kIn a o hk,hc,hd,by simpa using hs⟩,?_⟩
  have e:=r.length
  simp only [bC] at e
  lia
theorem Inv.tuple (I:Inv X pins σ H s) (h:SqT X.K H a xs):∃ its:List Value,zJ xs its∧IsTup s.heap a its.toArray∧xs.length≤sizeLine:=by
 rcases h with h | ⟨o,its,n,hk,hc,hs,hz,r⟩
 ·obtain⟨z,its,r,p⟩:=h.ok I.hok
  exact⟨its,r,p,z⟩
 ·refine⟨its.toList,r,⟨o,I.kIn a o hk,hc,n,by simpa using hs⟩,?_⟩
  have e:=r.length
  simp only [bC] at e
  lia
theorem Inv.list_inj (I:Inv X pins σ H s) (h:SqL X.K H a xs) (h':SqL X.K H a ys):xs=ys:=by
 obtain⟨its,r,⟨o,n,e,_,_,d⟩,_⟩:=I.list h
 obtain⟨its',r',⟨o',n',e',_,_,d'⟩,_⟩:=I.list h'
 rw [e] at e'; cases e'
 rw [d] at d'
 injection d' with d1 _
 have:its=its':=by simpa using congrArg kQ d1
 subst this
 exact r.inj r'
theorem Inv.tuple_inj (I:Inv X pins σ H s) (h:SqT X.K H a xs) (h':SqT X.K H a ys):xs=ys:=by
 obtain⟨its,r,⟨o,e,_,n,d⟩,_⟩:=I.tuple h
 obtain⟨its',r',⟨o',e',_,n',d'⟩,_⟩:=I.tuple h'
 rw [e] at e'; cases e'
 rw [d] at d'
 injection d' with d1 _
 have:its=its':=by simpa using congrArg kQ d1
 subst this
 exact r.inj r'
end
abbrev Cx.wish (X:Cx) (E:Value→Shared→Prop):Cx:={ X with xe:=E }
abbrev Cx.nox (X:Cx):Cx:=X.wish fun _ _=>False
theorem Cx.Ok.wish {X:Cx} (ok:X.Ok) (E:Value→Shared→Prop):(X.wish E).Ok :=
 ⟨ok.mod,ok.kind,ok.glob,ok.blt,ok.above,ok.inj,ok.has,ok.cab,ok.hd,ok.frames,ok.stk,ok.exf,ok.bs,ok.bsz,ok.noex,ok.exfs,ok.funs,ok.frf⟩
theorem Cx.Ok.unwish {X:Cx} {E:Value→Shared→Prop} (ok:(X.wish E).Ok):X.Ok :=
 ⟨ok.mod,ok.kind,ok.glob,ok.blt,ok.above,ok.inj,ok.has,ok.cab,ok.hd,ok.frames,ok.stk,ok.exf,ok.bs,ok.bsz,ok.noex,ok.exfs,ok.funs,ok.frf⟩
section
variable {X:Cx} {pins:List (Addr×Obj)} {σ:St} {H:Hp} {s:Shared} {E:Value→Shared→Prop}
theorem Inv.wish (I:Inv X pins σ H s) (E:Value→Shared→Prop):Inv (X.wish E) pins σ H s:=⟨I.ok.wish E,I.os,I.bare,I.base,I.loc,I.cell,I.free,I.freeC,I.pin,I.hok,I.len⟩
theorem Inv.unwish (I:Inv (X.wish E) pins σ H s):Inv X pins σ H s:=⟨I.ok.unwish,I.os,I.bare,I.base,I.loc,I.cell,I.free,I.freeC,I.pin,I.hok,I.len⟩
theorem SP.unwish {D:Ends} {f:Flow} {s':Shared} (h:SP (X.wish E) pins D f s'):SP X pins D f s':=by
 cases f with
 | next=>obtain⟨σ',H',I,q⟩:=h; exact⟨σ',H',I.unwish,q⟩
 | brk=>obtain⟨σ',H',I,q⟩:=h; exact⟨σ',H',I.unwish,q⟩
 | cont=>obtain⟨σ',H',I,q⟩:=h; exact⟨σ',H',I.unwish,q⟩
 | ret u=>obtain⟨v,σ',H',I,r,q⟩:=h; exact⟨v,σ',H',I.unwish,r,q⟩
theorem PSs.nox {st:List Stmt} {t:TS} (h:PSs X.nox st t):PSs X st t:=fun pins s σ H D I hw =>
 cQ (h pins s σ H D (I.wish _) hw) (fun _ _ q=>q.unwish) fun _ _ z=>dW z
end
section
variable {X:Cx} {st:Stmt} {rest:List Stmt} {t u:TS} {e:Expr} {te:TE} {pos:Pos}
def zo4:TS:=fun D σ H=>D.nx σ H
def zo5 (t u:TS):TS:=fun D σ H=>t { D with nx:=u D } σ H
theorem zap:PSs X [] zo4:=fun _ _ σ H _ I h=>ge ⟨σ,H,I,h⟩
theorem zd (h1:PS X st t) (h2:PSs X rest u):PSs X (st :: rest) (zo5 t u):=by
 intro pins s σ H D I h
 refine wpAny_execs_cons (thn (h1 pins s σ H { D with nx:=u D } I h) fun f s1 q=>?_)
 cases f with
 | next =>
  obtain⟨σ',H',I',q⟩:=q
  exact h2 pins s1 σ' H' D I' q
 | ret v=>exact q
 | brk=>exact q
 | cont=>exact q
theorem zm (h1:PS X st t):PSs X [st] t:=by
 intro pins s σ H D I h
 refine wpAny_execs_cons (thn (h1 pins s σ H D I h) fun f s1 q=>?_)
 cases f with
 | next=>exact ge q
 | ret v=>exact q
 | brk=>exact q
 | cont=>exact q
theorem Inv.quiet {pins:List (Addr×Obj)} {σ:St} {H:Hp} {s:Shared} (I:Inv X pins σ H s):interactive X.env=false:=by simp [interactive,I.ok.kind]
def zo6 (te:TE):TS:=fun D σ H=>te σ H fun _ H1=>D.nx σ H1
theorem zcy (he:PE X e te) (hs:swapsWith e none pos.line X.env=pure false:=by rfl):PS X (.Expr e pos) (zo6 te):=by
 intro pins s σ H D I h
 exact wpAny_Expr_any (thn (he pins s σ H _ I h) fun v s1 ⟨x,H1,I1,r1,q1⟩=>⟨σ,H1,I1,q1⟩) I.quiet hs
def zpL (te:TE):TS:=fun D σ H=>te σ H D.rt
theorem zG (he:PE X e te):PS X (.Return (some e) pos) (zpL te):=by
 intro pins s σ H D I h
 exact wpAny_Return_some (thn (he pins s σ H _ I h) fun v s1 ⟨x,H1,I1,r1,q1⟩=>⟨x,σ,H1,I1,r1,q1⟩)
def zpM (c:TT) (t u:TS):TS:=fun D σ H=>c σ H fun b H1=>if b=true then t D σ H1 else u D σ H1
theorem zbj {c:Expr} {a b:List Stmt} {tc:TT} (hc:PT X c tc) (ha:PSs X a t) (hb:PSs X b u):PS X (.If c a b pos) (zpM tc t u):=by
 intro pins s σ H D I h
 refine wpAny_If (thn (hc pins s σ H _ I h) fun d s1 ⟨H1,I1,q1⟩=>?_)
 cases d with
 | true=>exact ha pins s1 σ H1 D I1 q1
 | false=>exact hb pins s1 σ H1 D I1 q1
def zn7:TS:=fun _ _ _=>False
theorem zfe {sts:List Stmt}:PSs X sts zn7:=fun _ _ _ _ _ _ h=>h.elim
end
abbrev TG:=V→St→Hp→(St→Hp→Prop)→Prop
abbrev TGs:=List V→St→Hp→(St→Hp→Prop)→Prop
def PG (X:Cx) (target:Expr) (t:TG):Prop :=
 ∀ (pins:List (Addr×Obj)) (s:Shared) (σ:St) (H:Hp) (v:V) (u:Value) (Q:St→Hp→Prop),Inv X pins σ H s→RelV v u→t v σ H Q →
  wpAny (model X.prog X.w) X.A (assign target X.env u) (fun _ s'=>∃ σ' H',Inv X pins σ' H' s'∧Q σ' H') X.xe s
def PGs (X:Cx) (ts:List Expr) (t:TGs):Prop :=
 ∀ (pins:List (Addr×Obj)) (s:Shared) (σ:St) (H:Hp) (vs:List V) (us:List Value) (Q:St→Hp→Prop),Inv X pins σ H s→zJ vs us→t vs σ H Q →
  wpAny (model X.prog X.w) X.A (assignInOrder ((assignEach ts X.env).map (·.2)) us) (fun _ s'=>∃ σ' H',Inv X pins σ' H' s'∧Q σ' H') X.xe s
abbrev zn8:=V→V→V→Hp→(Hp→Prop)→Prop
def zo7 (X:Cx) (t:zn8):Prop :=
 ∀ (pins:List (Addr×Obj)) (s:Shared) (σ:St) (H:Hp) (o i v:V) (ov iv u:Value) (Q:Hp→Prop),Inv X pins σ H s→RelV o ov→RelV i iv→RelV v u→t o i v H Q →
  wpAny (model X.prog X.w) X.A (setItem ov iv u) (fun _ s'=>∃ H',Inv X pins σ H' s'∧Q H') X.xe s
abbrev TIp:=V→V→Hp→VK→Prop
def PIp (X:Cx) (op:Operator) (t:TIp):Prop :=
 ∀ (pins:List (Addr×Obj)) (s:Shared) (σ:St) (H:Hp) (x y:V) (v u:Value) (Q:VK),Inv X pins σ H s→RelV x v→RelV y u→t x y H Q →
  wpAny (model X.prog X.w) X.A (inplaceOp op v u) (EP X pins σ Q) X.xe s
section
variable {X:Cx} {pos:Pos}
def zaQ (i:Nat):TG:=fun v σ H Q=>Q (σ.set i (some v)) H
theorem zg {i:Nat} {x:Str} (hN:X.N.Nodup) (hi:X.N[i]? = some x) (hx:Loc X.env.scope x) (hf:X.fn x=true∨X.env.scope.names.lookup x=some .local:=by first | exact .inl rfl | exact .inr rfl | assumption):PG X (.Name x pos) (zaQ i):=by
 intro pins s σ H v u Q I r h
 exact wpAny_assign_Name (zeb I hN hi hx r (fun s' I'=>⟨_,H,I',h⟩) hf)
def zhH:TGs:=fun vs σ H Q=>vs = []∧Q σ H
def zbV (t:TG) (u:TGs):TGs:=fun vs σ H Q=>∃ v r,vs=v :: r∧t v σ H fun σ' H'=>u r σ' H' Q
theorem zL:PGs X [] zhH:=by
 intro pins s σ H vs us Q I r h
 obtain⟨e,h⟩:=h
 subst e
 cases r
 exact assignInOrder_nil ⟨σ,H,I,h⟩
theorem zj {e:Expr} {es:List Expr} {t:TG} {u:TGs} (h1:PG X e t) (h2:PGs X es u)
  (hs:(assignEach (e :: es) X.env).map (·.2)=assign e X.env :: (assignEach es X.env).map (·.2):=by rfl):PGs X (e :: es) (zbV t u):=by
 intro pins s σ H vs us Q I r h
 obtain⟨v,vr,e1,h⟩:=h
 subst e1
 cases r with
 | cons r rr =>
  rw [hs]
  refine assignInOrder_cons (thn (h1 pins s σ H _ _ _ I r h) fun _ s1 ⟨σ1,H1,I1,q1⟩=>?_)
  exact h2 pins s1 σ1 H1 _ _ Q I1 rr q1
def zgF (K:ai) (n:Nat) (t:TGs):TG:=fun v σ H Q=>∃ a xs,v = .ref a∧SqT K H a xs∧xs.length=n∧t xs σ H Q
theorem za2 {es:List Expr} {k:Nat} {t:TGs} {n:Nat} (hc:X.calm=true) (h:PGs X es t)
  (hn:(assignEach es X.env).length=n:=by rfl) (hst:(assignEach es X.env).findIdx? (·.1)=none:=by rfl):PG X (.Tuple es k pos) (zgF X.K n t):=by
 intro pins s σ H v u Q I r hw
 obtain⟨a,xs,e1,hq,hl,hw⟩:=hw
 subst e1
 cases r
 obtain⟨its,rv,ht,hz⟩:=I.tuple hq
 refine assign_Tuple_tuple (I.ok.hd hc) ht (by simp [hn,← hl,rv.length]) hst fun h' hx=>?_
 have I1:Inv X pins σ H { s with heap:=h' }:=I.kept (t':=s.toks) fun b o e=>hx b o (bu (aJ e)) e
 exact h pins _ σ H xs _ Q I1 (by simpa using rv) hw
def zpN (to ti:TE) (t:zn8):TG:=fun v σ H Q=>to σ H fun o H1=>ti σ H1 fun i H2=>t o i v H2 fun H3=>Q σ H3
theorem zn9 {o i:Expr} {to ti:TE} {t:zn8} (ho:PE X o to) (hi:PE X i ti) (hs:zo7 X t)
  (ha:∀ v,assign (.Subscript o i pos) X.env v=(do
   let ov ← holding [v] (eval o X.env)
   let iv ← holding [v,ov] (eval i X.env)
   standAt pos
   holding [v,ov,iv] (setItem ov iv v)
   release [v,ov,iv] []):=by intro _; rfl):PG X (.Subscript o i pos) (zpN to ti t):=by
 intro pins s σ H v u Q I r h
 rw [ha]
 refine ae (bV (thn (ho pins s σ H _ I h) fun ov s1 ⟨x,H1,I1,r1,q1⟩=>?_))
 refine ae (bV (thn (hi pins s1 σ H1 _ I1 q1) fun iv s2 ⟨y,H2,I2,r2,q2⟩=>?_))
 refine ae (fk (ae (bV (thn (hs pins s2 σ H2 x y v ov iv u _ I2 r1 r2 r q2) fun _ s3 ⟨H3,I3,q3⟩=>?_))))
 exact wpAny_release ⟨σ,H3,I3,q3⟩
def zhI (te:TE) (g:TG):TS:=fun D σ H=>te σ H fun x H1=>g x σ H1 D.nx
theorem zbD {tg e:Expr} {te:TE} {g:TG} (he:PE X e te) (hg:PG X tg g) (hs:swapsWithSole [tg] e pos.line X.env=pure false:=by rfl) (hw:swappedStores [tg] e X.env=pure none:=by rfl)
  (h1:(assignEach [tg] X.env).map (·.2) = [assign tg X.env]:=by rfl):PS X (.Assign [tg] e pos) (zhI te g):=by
 intro pins s σ H D I h
 refine wpAny_Assign_stores (thn (he pins s σ H _ I h) fun v s1 ⟨x,H1,I1,r1,q1⟩=>?_) hs hw
 rw [h1]
 exact thn (hg pins s1 σ H1 x v _ I1 r1 q1) fun _ s2 q=>q
theorem zl {i:Nat} {x:Str} {e:Expr} {te:TE} {pos':Pos} (hN:X.N.Nodup) (hi:X.N[i]? = some x) (hx:Loc X.env.scope x) (he:PE X e te) (hs:swapsWith e (some (.Name x pos')) pos.line X.env=pure false:=by rfl) (hf:X.fn x=true∨X.env.scope.names.lookup x=some .local:=by first | exact .inl rfl | exact .inr rfl | assumption) :
  PS X (.Assign [.Name x pos'] e pos) (zhI te (zaQ i)):=by
 intro pins s σ H D I h
 refine wpAny_Assign_Name (thn (he pins s σ H _ I h) fun v s1 ⟨y,H1,I1,r1,q1⟩=>?_) hs
 exact zeb I1 hN hi hx r1 (fun s2 I2=>⟨_,H1,I2,q1⟩) hf
def zpO (i:Nat) (te:TE) (ti:TIp):TS:=fun D σ H=>∃ x,σ[i]? = some (some x)∧te σ H fun y H1=>ti x y H1 fun z H2=>D.nx (σ.set i (some z)) H2
theorem zfP {i:Nat} {x:Str} {e:Expr} {te:TE} {op:Operator} {ti:TIp} {pos':Pos} (hN:X.N.Nodup) (hi:X.N[i]? = some x) (hx:Loc X.env.scope x) (he:PE X e te) (ho:PIp X op ti) (hf:X.fn x=true∨X.env.scope.names.lookup x=some .local:=by first | exact .inl rfl | exact .inr rfl | assumption) :
  PS X (.AugAssign (.Name x pos') op e pos) (zpO i te ti):=by
 intro pins s σ H D I h
 obtain⟨v,e1,h⟩:=h
 obtain⟨m,hn,hl⟩:=I.loc
 have vis:Vis X.env.scope x:=by rcases hx with k | k; exact .inl k; exact .inr (.inl k)
 obtain⟨u,r,l⟩:=hl i x v hi e1 vis
 refine wpAny_AugAssign_Name ?_
 have go:wpAny (model X.prog X.w) X.A (eval e X.env) (fun w s₂=>wpAny (model X.prog X.w) X.A (inplaceOp op u w) (fun r s₃=>wpAny (model X.prog X.w) X.A (storeName X.env x r) (fun _=>SP X pins D .next) X.xe s₃) X.xe s₂) X.xe s:=by
  refine thn (he pins s σ H _ I h) fun w s1 ⟨y,H1,I1,r1,q1⟩=>?_
  refine thn (ho pins s1 σ H1 v y u w _ I1 r r1 q1) fun z s2 ⟨zv,H2,I2,r2,q2⟩=>?_
  exact zeb I2 hN hi hx r2 (fun s3 I3=>⟨_,H2,I3,q2⟩) hf
 rcases l with ⟨hk,hm⟩ | ⟨hk,c,hc,hcell⟩
 ·exact jd I.ok.kind hk hn hm go
 ·rcases hk with hk | hk
  ·exact jv I.ok.kind hk hc hcell go
  ·rcases hx with k | k
   ·have:X.env.scope.names.lookup x=some .free:=hk
    rw [k] at this; cases this
   ·have:X.env.scope.names.lookup x=some .free:=hk
    rw [k] at this; cases this
def zkq (c:TT) (tb:TS):TS:=fun D σ H=>∃ W:Nat→St→Hp→Prop,(∃ m,W m σ H)∧∀ m σ H,W m σ H →
 c σ H fun b H1=>if b=true then ∃ N:St→Hp→Prop,(∀ σ' H',N σ' H'→∃ m',m' < m∧W m' σ' H')∧tb { D with nx:=N,ct:=N,bk:=D.nx } σ H1 else D.nx σ H1
theorem zed {c:Expr} {body:List Stmt} {tc:TT} {tb:TS} (hp:PassesOwn (model X.prog X.w) X.A X.env X.xe) (hc:PT X c tc) (hb:PSs X body tb):PS X (.While c body [] pos) (zkq tc tb):=by
 intro pins s σ H D I h
 obtain⟨W,⟨m0,w0⟩,turn⟩:=h
 refine wpAny_While (codeAny_whileLoop (fun n s'=>∃ σ' H',Inv X pins σ' H' s'∧W n σ' H') ?_ m0 ⟨σ,H,I,w0⟩)
 rintro n s1 ⟨σ1,H1,I1,w1⟩
 refine dJ hp (thn (hc pins s1 σ1 H1 _ I1 (turn n σ1 H1 w1)) fun b s2 ⟨H2,I2,q2⟩=>?_)
 cases b with
 | true =>
  obtain⟨N,hN,q2⟩:=q2
  rw [if_pos rfl]
  refine dJ hp (thn (hb pins s2 σ1 H2 _ I2 q2) fun f s3 q3=>?_)
  cases f with
  | next =>
   obtain⟨σ3,H3,I3,n3⟩:=q3
   obtain⟨m',hm,w3⟩:=hN σ3 H3 n3
   exact⟨m',hm,σ3,H3,I3,w3⟩
  | cont =>
   obtain⟨σ3,H3,I3,n3⟩:=q3
   obtain⟨m',hm,w3⟩:=hN σ3 H3 n3
   exact⟨m',hm,σ3,H3,I3,w3⟩
  | brk=>exact q3
  | ret v=>exact q3
 | false =>
  rw [if_neg aO]
  exact ge ⟨σ1,H2,I2,q2⟩
end
structure It where
 go:Nat→Hp→Prop
 yld:Nat→Hp→V→Hp→Prop
 stop:Nat→Hp→Prop
def zbR (X:Cx) (pins:List (Addr×Obj)) (H:Hp) (b:Addr):Prop :=
 H b=none∧b≠X.env.locals∧b∉X.fs∧(b∈X.ex∨X.s₀.heap.objs.size≤b)∧(∀ x c,X.env.cells.lookup x=some c→c≠b)∧∀ p∈X.pn++pins,p.1≠b
theorem Inv.fpOk {X:Cx} {pins:List (Addr×Obj)} {σ:St} {H H':Hp} {s:Shared} {b:Addr} (I:Inv X pins σ H s) (hb:s.heap.objs.size≤b) (hn:H' b=none):zbR X pins H' b:=by
 refine⟨hn,fE (bm I.lt hb),I.nofs hb,.inr (aZ I.sz hb),fun x c e z=>?_,fun p hp z=>?_⟩
 ·obtain⟨v,q⟩:=I.cell x c e
  exact absurd (bm q.lt (by rw [z]; exact hb)) (cr _)
 ·exact absurd (bm (aJ (I.pin p hp).1) (by rw [z]; exact hb)) (cr _)
structure Turn (P:Program) (w:World) (K:ai) (tg:Expr) (J:It) (fp:List Addr) (it:Addr) (tn:Nat→Heap→Prop):Prop where
 mem:it∈fp
 obj:∀ i h,tn i h→∀ b∈fp,∃ o,h.get? b=some o∧∀ v,o.data≠.cell v
 keep:∀ i h h',tn i h→(∀ b∈fp,∀ o,h.get? b=some o→h'.get? b=some o)→tn i h'
 item:∀ (X:Cx),X.prog=P→X.w=w→X.K=K→X.calm=true→∀ (i:Nat) (pins:List (Addr×Obj)) (s:Shared) (σ:St) (H:Hp) (E:Value→Shared→Prop),Inv X pins σ H s→(∀ b∈fp,zbR X pins H b)→tn i s.heap→J.go i H →
  wpAny (model P w) X.A (pyNext (.ref it)) (fun r s1=>∃ u,r=some u ∧
   wpAny (model P w) X.A (letOwnedTupleGo tg (.ref it) u) (fun _ s2=>∃ x H',Inv X pins σ H' s2∧RelV x u∧J.yld i H x H'∧tn (i+1) s2.heap∧∀ b∈fp,H' b=none) E s1) E s
 done:∀ (X:Cx),X.prog=P→X.w=w→X.K=K→X.calm=true→∀ (i:Nat) (pins:List (Addr×Obj)) (s:Shared) (σ:St) (H:Hp) (E:Value→Shared→Prop),Inv X pins σ H s→(∀ b∈fp,zbR X pins H b)→tn i s.heap→J.stop i H →
  wpAny (model P w) X.A (pyNext (.ref it)) (fun r s1=>r=none∧Inv X pins σ H s1) E s
 self:∀ (A:Around) (i:Nat) (s:Shared) (Q:Value→Shared→Prop) (E:Value→Shared→Prop),tn i s.heap→Q (.ref it) s→wpAny (model P w) A (pyIter (.ref it)) Q E s
abbrev TI:=St→Hp→(It→Hp→Prop)→Prop
def PIE (X:Cx) (pins:List (Addr×Obj)) (σ:St) (tg:Expr) (R:It→Hp→Prop) (itv:Value) (s2:Shared):Prop :=
 ∃ (it:Addr) (fp:List Addr) (tn:Nat→Heap→Prop) (J:It) (H':Hp),itv = .ref it∧Inv X pins σ H' s2∧Turn X.prog X.w X.K tg J fp it tn∧tn 0 s2.heap∧(∀ b∈fp,zbR X pins H' b)∧R J H'
def PI (X:Cx) (tg iter:Expr) (wi:TI):Prop :=
 ∀ (pins:List (Addr×Obj)) (s:Shared) (σ:St) (H:Hp) (R:It→Hp→Prop),Inv X pins σ H s→wi σ H R →
  wpAny (model X.prog X.w) X.A (eval iter X.env) (fun v s1=>wpAny (model X.prog X.w) X.A (pyIter v) (PIE X pins σ tg R) X.xe s1) X.xe s
theorem zff {M:Model} {A:Around} {E:Value→Shared→Prop} {s:Shared} {tg:Expr} {it:Addr} {u:Value} {o:Obj} {n:String} {vs:Array Value} {Q:Unit→Shared→Prop} (ho:s.heap.get? it=some o) (hc:o.cls = .type n) (hd:o.data = .fields vs)
  (hn:["enumerate","zip","dict_itemiterator","dict_reverseitemiterator","odict_iterator","itertools.zip_longest","itertools.pairwise"].contains n=false) (hQ:Q () s):wpAny M A (letOwnedTupleGo tg (.ref it) u) Q E s:=by
 unfold letOwnedTupleGo
 cases tg <;> first
  | exact am hQ
  | (cases u <;> first
    | exact am hQ
    | (refine ae (wpAny_load ho ?_)
       rw [hc,hd]
       show wpAny M A (if (["enumerate","zip","dict_itemiterator","dict_reverseitemiterator","odict_iterator","itertools.zip_longest","itertools.pairwise"].contains n && vs[0]? == some (rawInt _))=true then _ else _) Q E s
       rw [if_neg (by intro h; rw [hn,Bool.false_and] at h; cases h)]
       exact am hQ))
def Itl (K:ai) (a:Addr):It :=
 ⟨fun i H=>∃ xs x,SqL K H a xs∧xs[i]? = some x,fun i H x H'=>H'=H∧∀ xs,SqL K H a xs→xs[i]? = some x,fun i H=>∃ xs,SqL K H a xs∧xs.length≤i⟩
def Itt (K:ai) (a:Addr):It :=
 ⟨fun i H=>∃ xs x,SqT K H a xs∧xs[i]? = some x,fun i H x H'=>H'=H∧∀ xs,SqT K H a xs→xs[i]? = some x,fun i H=>∃ xs,SqT K H a xs∧xs.length≤i⟩
def Itr (lo:Int) (n:Nat):It:=⟨fun i _=>i < n,fun i H x H'=>H'=H∧x = .int (lo+i),fun i _=>n≤i⟩
theorem zfg {P:Program} {w:World} {K:ai} {tg:Expr} (a it:Addr):Turn P w K tg (Itl K a) [it] it (fun i h=>h.IsListIter it a i) where
 mem:=by simp
 obj:=fun i h st b hb=>by
  have e:b=it:=by simpa using hb
  subst e
  obtain⟨o,e,c,d⟩:=st
  exact⟨o,e,fun v z=>by rw [d] at z; cases z⟩
 keep:=fun i h h' st k=>st.at fun o e=>k it (by simp) o e
 item:=by
  intro X hP hw hK hc i pins s σ H E I hf st hg
  subst hP hw hK
  obtain⟨xs,x,hq,hx⟩:=hg
  obtain⟨its,rv,p,hz⟩:=I.list hq
  obtain⟨u,hu,ru⟩:=rv.get hx
  obtain⟨f0,f1,f2,f3,f4,f5⟩:=hf it (by simp)
  refine wpAny_pyNext_list_item st p.isList (x:=u) (by simpa using hu) fun h' st' sb=>?_
  have I1:Inv X pins σ H { s with heap:=h' }:=I.turned (t':=s.toks) (fun b o hb e=>(sb.2 b hb).trans e) f0 f1 f3 f4 f5
  obtain⟨o,e,c,d⟩:=id st'
  exact⟨u,rfl,zff (s:={ s with heap:=h' }) e c d (by decide) ⟨x,H,I1,ru,⟨rfl,fun ys hy=>by rw [I.list_inj hy hq]; exact hx⟩,st',fun b hb=>(hf b hb).1⟩⟩
 done:=by
  intro X hP hw hK hc i pins s σ H E I hf st hg
  subst hP hw hK
  obtain⟨xs,hq,hx⟩:=hg
  obtain⟨its,rv,p,hz⟩:=I.list hq
  obtain⟨f0,f1,f2,f3,f4,f5⟩:=hf it (by simp)
  have hl:=rv.length
  exact wpAny_pyNext_list_end (I.ok.hd hc) st p.isList (by simp; lia) fun h' eb=>⟨rfl,I.turned (t':=s.toks) (fun b o hb e=>eb b o hb e) f0 f1 f3 f4 f5⟩
 self:=fun _ _ _ _ _ st h=>wpAny_pyIter_listiter st h
theorem zee {P:Program} {w:World} {K:ai} {tg:Expr} (a it:Addr):Turn P w K tg (Itt K a) [it] it (fun i h=>h.IsTupleIter it a i) where
 mem:=by simp
 obj:=fun i h st b hb=>by
  have e:b=it:=by simpa using hb
  subst e
  obtain⟨o,e,c,d⟩:=st
  exact⟨o,e,fun v z=>by rw [d] at z; cases z⟩
 keep:=fun i h h' st k=>st.at fun o e=>k it (by simp) o e
 item:=by
  intro X hP hw hK hc i pins s σ H E I hf st hg
  subst hP hw hK
  obtain⟨xs,x,hq,hx⟩:=hg
  obtain⟨its,rv,p,hz⟩:=I.tuple hq
  obtain⟨u,hu,ru⟩:=rv.get hx
  obtain⟨f0,f1,f2,f3,f4,f5⟩:=hf it (by simp)
  refine wpAny_pyNext_tuple_item st (show s.heap.IsTuple a its.toArray from p) (x:=u) (by simpa using hu) fun h' st' sb=>?_
  have I1:Inv X pins σ H { s with heap:=h' }:=I.turned (t':=s.toks) (fun b o hb e=>(sb.2 b hb).trans e) f0 f1 f3 f4 f5
  obtain⟨o,e,c,d⟩:=id st'
  exact⟨u,rfl,zff (s:={ s with heap:=h' }) e c d (by decide) ⟨x,H,I1,ru,⟨rfl,fun ys hy=>by rw [I.tuple_inj hy hq]; exact hx⟩,st',fun b hb=>(hf b hb).1⟩⟩
 done:=by
  intro X hP hw hK hc i pins s σ H E I hf st hg
  subst hP hw hK
  obtain⟨xs,hq,hx⟩:=hg
  obtain⟨its,rv,p,hz⟩:=I.tuple hq
  obtain⟨f0,f1,f2,f3,f4,f5⟩:=hf it (by simp)
  have hl:=rv.length
  exact wpAny_pyNext_tuple_end (I.ok.hd hc) st (show s.heap.IsTuple a its.toArray from p) (by simp; lia) fun h' eb=>⟨rfl,I.turned (t':=s.toks) (fun b o hb e=>eb b o hb e) f0 f1 f3 f4 f5⟩
 self:=fun _ _ _ _ _ st h=>wpAny_pyIter_tupleiter st h
theorem zhJ {P:Program} {w:World} {K:ai} {tg:Expr} (it:Addr) (lo:Int) (n:Nat):Turn P w K tg (Itr lo n) [it] it (fun i h=>IsRangeIter h it (lo+(i:Nat)*1) ((n:Int) - (i:Nat)) 1) where
 mem:=by simp
 obj:=fun i h st b hb=>by
  have e:b=it:=by simpa using hb
  subst e
  exact⟨_,st,fun v z=>by
   have z':j0 _=Data.cell v:=z
   cases z'⟩
 keep:=fun i h h' st k=>k it (by simp) _ st
 item:=by
  intro X hP hw hK hc i pins s σ H E I hf st hg
  subst hP hw hK
  obtain⟨f0,f1,f2,f3,f4,f5⟩:=hf it (by simp)
  have W:=Walks.range (prog:=X.prog) (w:=X.w) (I.ok.hd hc) it lo 1 n
  refine W.item i s _ _ hg st fun v h' tk hv st' kk=>?_
  obtain⟨t,rfl⟩:=hv
  have I1:Inv X pins σ H { s with heap:=h',toks:=tk }:=I.turned (fun b o hb e=>kk b o (by simpa using hb) e) f0 f1 f3 f4 f5
  refine⟨_,rfl,zff (s:={ s with heap:=h',toks:=tk }) (n:="range_iterator") st' rfl rfl (by decide) ⟨.int (lo+i),H,I1,⟨t,?_⟩,⟨rfl,rfl⟩,st',fun b hb=>(hf b hb).1⟩⟩
  rw [j1]
 done:=by
  intro X hP hw hK hc i pins s σ H E I hf st hg
  subst hP hw hK
  obtain⟨f0,f1,f2,f3,f4,f5⟩:=hf it (by simp)
  exact wpAny_pyNext_range_end (I.ok.hd hc) st (by have:n≤i:=hg; lia) fun h' eb=>⟨rfl,I.turned (t':=s.toks) (fun b o hb e=>eb b o hb e) f0 f1 f3 f4 f5⟩
 self:=fun _ _ _ _ _ st h=>wpAny_pyIter_rangeiter st h
section
variable {X:Cx} {tg:Expr}
def zo8 (K:ai) (tl:TE):TI:=fun σ H R=>tl σ H fun x H1=>∃ a,x = .ref a∧(∃ xs,SqL K H1 a xs)∧R (Itl K a) H1
def zo9 (K:ai) (tl:TE):TI:=fun σ H R=>tl σ H fun x H1=>∃ a,x = .ref a∧(∃ xs,SqT K H1 a xs)∧R (Itt K a) H1
theorem zM {l:Expr} {tl:TE} (hl:PE X l tl):PI X tg l (zo8 X.K tl):=by
 intro pins s σ H R I h
 refine thn (hl pins s σ H _ I h) fun v s1 ⟨x,H1,I1,r1,q1⟩=>?_
 obtain⟨a,e,⟨xs,hq⟩,q⟩:=q1
 subst e
 cases r1
 obtain⟨its,rv,p,hz⟩:=I1.list hq
 refine gV p.isList ?_
 refine⟨s1.heap.objs.size,[s1.heap.objs.size],_,_,H1,rfl,I1.kept (t':=s1.toks) fun b o e=>ak _ e,zfg a _,⟨_,aL _ rfl,rfl,rfl⟩,fun b hb=>?_,q⟩
 have e:b=s1.heap.objs.size:=by simpa using hb
 subst e
 exact I1.fpOk (ag _) (I1.hok.fresh (ag _))
theorem zkr {l:Expr} {tl:TE} (hl:PE X l tl):PI X tg l (zo9 X.K tl):=by
 intro pins s σ H R I h
 refine thn (hl pins s σ H _ I h) fun v s1 ⟨x,H1,I1,r1,q1⟩=>?_
 obtain⟨a,e,⟨xs,hq⟩,q⟩:=q1
 subst e
 cases r1
 obtain⟨its,rv,p,hz⟩:=I1.tuple hq
 refine gC (show s1.heap.IsTuple a its.toArray from p) ?_
 refine⟨s1.heap.objs.size,[s1.heap.objs.size],_,_,H1,rfl,I1.kept (t':=s1.toks) fun b o e=>ak _ e,zee a _,⟨_,aL _ rfl,rfl,rfl⟩,fun b hb=>?_,q⟩
 have e:b=s1.heap.objs.size:=by simpa using hb
 subst e
 exact I1.fpOk (ag _) (I1.hok.fresh (ag _))
theorem zgG {pins:List (Addr×Obj)} {σ:St} {H:Hp} {s:Shared} {R:It→Hp→Prop} {E:Value→Shared→Prop} {lo hi:Int} {t u v:Tok} {tk:Nat} (I:Inv X pins σ H s) (h1:-(2 ^ 62)≤lo) (h2:lo < 2 ^ 62) (h3:-(2 ^ 62)≤hi) (h4:hi < 2 ^ 62)
  (q:R (Itr lo (hi - lo).toNat) H):wpAny (model X.prog X.w) X.A (pyIter (.ref s.heap.objs.size)) (PIE X pins σ tg R) E { s with heap:=s.heap.push { cls:=.type "range",data:=.fields #[.int lo t,.int hi u,.int 1 v] },toks:=tk }:=by
 refine wpAny_pyIter_range (IsRange.new ..) (small_one h1 h2 h3 h4) ?_
 have I1:Inv X pins σ H { s with heap:=s.heap.push { cls:=.type "range",data:=.fields #[.int lo t,.int hi u,.int 1 v] },toks:=tk }:=I.kept fun b o e=>ak _ e
 refine⟨(s.heap.push { cls:=.type "range",data:=.fields #[.int lo t,.int hi u,.int 1 v] }).objs.size,[(s.heap.push { cls:=.type "range",data:=.fields #[.int lo t,.int hi u,.int 1 v] }).objs.size],_,_,H,rfl,
  I1.kept (t':=tk) fun b o e=>ak _ e,zhJ _ lo (hi - lo).toNat,?_,fun b hb=>?_,q⟩
 ·have e1:lo+((0:Nat):Int)*1=lo:=by simp
  have e2:(((hi - lo).toNat:Nat):Int) - ((0:Nat):Int)=Builtin.Range.rangeSize lo hi 1:=by rw [rangeSize_one]; split <;> lia
  show IsRangeIter _ _ (lo+((0:Nat):Int)*1) ((((hi - lo).toNat:Nat):Int) - ((0:Nat):Int)) 1
  rw [e1,e2]
  exact aL _ rfl
 ·have e:b=(s.heap.push { cls:=.type "range",data:=.fields #[.int lo t,.int hi u,.int 1 v] }).objs.size:=by simpa using hb
  subst e
  exact I1.fpOk (ag _) (I1.hok.fresh (ag _))
def zpa (ta:TA):TI:=fun σ H R=>ta σ H fun vs H1=>∃ j:Int,vs = [.int j]∧-(2 ^ 62)≤j∧j < 2 ^ 62∧R (Itr 0 j.toNat) H1
def zpb (ta:TA):TI:=fun σ H R=>ta σ H fun vs H1=>∃ i j:Int,vs = [.int i,.int j]∧(-(2 ^ 62)≤i∧i < 2 ^ 62∧-(2 ^ 62)≤j∧j < 2 ^ 62)∧R (Itr i (j - i).toNat) H1
theorem zad {a:Expr} {ta:TA} {p pos:Pos} (hg:Gl X "range") (hm:X.mg "range" = none) (ha:PA X [a] ta) (hs:starEach [a] X.env = [(false,eval a X.env)]:=by rfl):PI X tg (.Call (.Name "range" p) [a] [] pos) (zpa ta):=by
 intro pins s σ H R I h
 refine Call_ (zbp I hg hm je (bv (thn (ha pos pins s σ H _ I h) fun us s1 ⟨vs,H1,I1,r1,q1⟩=>?_) hs rfl))
 obtain⟨j,e,q1,q2,q⟩:=q1
 subst e
 cases r1 with
 | cons r rr =>
  cases rr
  obtain⟨t,rfl⟩:=r
  exact call_range_1 (zgG I1 (by lia) (by lia) q1 q2 (by simpa using q))
theorem zjv {a b:Expr} {ta:TA} {p pos:Pos} (hg:Gl X "range") (hm:X.mg "range" = none) (ha:PA X [a,b] ta) (hs:starEach [a,b] X.env = [(false,eval a X.env),(false,eval b X.env)]:=by rfl) (hs2:starEach [b] X.env = [(false,eval b X.env)]:=by rfl) :
  PI X tg (.Call (.Name "range" p) [a,b] [] pos) (zpb ta):=by
 intro pins s σ H R I h
 refine Call_ (zbp I hg hm je (bv (thn (ha pos pins s σ H _ I h) fun us s1 ⟨vs,H1,I1,r1,q1⟩=>?_) (by rw [hs,hs2]) (by rw [hs2]; rfl)))
 obtain⟨i,j,e,⟨q1,q2,q3,q4⟩,q⟩:=q1
 subst e
 cases r1 with
 | cons r rr =>
  cases rr with
  | cons r' rr =>
   cases rr
   obtain⟨t,rfl⟩:=r
   obtain⟨t',rfl⟩:=r'
   exact call_range_2 (zgG I1 q1 q2 q3 q4 q)
def zpP (wi:TI) (g:TG) (tb:TS):TS:=fun D σ H=>wi σ H fun J H1=>∃ W:Nat→Nat→St→Hp→Prop,(∃ m,W 0 m σ H1)∧∀ i m σ H,W i m σ H →
 (J.stop i H∧D.nx σ H)∨(J.go i H∧∃ N:St→Hp→Prop,(∀ σ' H',N σ' H'→∃ m',m' < m∧W (i+1) m' σ' H')∧∀ x H',J.yld i H x H'→g x σ H' fun σ2 H2=>tb { D with nx:=N,ct:=N,bk:=D.nx } σ2 H2)
def zco (fp:List Addr) (h:Heap):List (Addr×Obj):=fp.filterMap fun b=>(h.get? b).map fun o=>(b,o)
theorem zb7 {fp:List Addr} {h:Heap} {b:Addr} {o:Obj} (hb:b∈fp) (e:h.get? b=some o):(b,o)∈zco fp h:=jF.mpr ⟨b,hb,by rw [e]; rfl⟩
theorem zfh {fp:List Addr} {h:Heap} {p:Addr×Obj} (hp:p∈zco fp h):p.1∈fp∧h.get? p.1=some p.2:=by
 obtain⟨b,hb,e⟩:=jF.mp hp
 cases q:h.get? b with
 | none=>rw [q] at e; cases e
 | some o =>
  rw [q] at e
  have e':(b,o)=p:=aP e
  subst e'
  exact⟨hb,q⟩
theorem Inv.pinned {pins:List (Addr×Obj)} {σ:St} {H:Hp} {s:Shared} {fp:List Addr} (I:Inv X pins σ H s) (hf:∀ b∈fp,zbR X pins H b) (ho:∀ b∈fp,∃ o,s.heap.get? b=some o∧∀ v,o.data≠.cell v):Inv X (pins++zco fp s.heap) σ H s :=
 I.pins_of fun p hp=>(a7.mp hp).elim (fun z=>I.pin p (aK _ z)) fun z=>by
  obtain⟨hb,e⟩:=zfh z
  obtain⟨f0,f1,f2,_⟩:=hf p.1 hb
  obtain⟨o,e',d⟩:=ho p.1 hb
  rw [e] at e'; cases e'
  exact⟨e,f0,f1,f2,d⟩
theorem Inv.unpinned {pins pl:List (Addr×Obj)} {σ:St} {H:Hp} {s:Shared} (I:Inv X (pins++pl) σ H s):Inv X pins σ H s:=I.pins_of fun p hp=>I.pin p (aK _ (aU _ hp))
theorem zbc {iter:Expr} {body:List Stmt} {wi:TI} {g:TG} {tb:TS} {pos:Pos} (hp:PassesOwn (model X.prog X.w) X.A X.env X.xe) (hc:X.calm=true) (hi:PI X tg iter wi) (hg:PG X tg g) (hb:PSs X body tb)
  (hs:∀ x,foldedSetIterable iter X.env x=pure x:=by intro _; rfl):PS X (.For tg iter body [] pos) (zpP wi g tb):=by
 intro pins s σ H D I h
 refine wpAny_For (thn (hi pins s σ H _ I h) fun v s1 h1=>thn h1 fun itv s2 h2=>?_) hs
 obtain⟨it,fp,tn,J,H2,e,I2,T,st2,f2,W,⟨m0,w0⟩,turn⟩:=h2
 subst e
 have stat:∀ {H':Hp},(∀ b∈fp,H' b=none)→∀ b∈fp,zbR X pins H' b:=fun hn b hb=>⟨hn b hb,(f2 b hb).2⟩
 refine codeAny_forLoop_any (fun n s'=>∃ i σ' H',Inv X pins σ' H' s'∧tn i s'.heap∧(∀ b∈fp,H' b=none)∧W i n σ' H') ?_ m0 ⟨0,σ,H2,I2,st2,fun b hb=>(f2 b hb).1,w0⟩
 rintro n s3 ⟨i,σ3,H3,I3,st3,fr3,w3⟩
 rcases turn i n σ3 H3 w3 with ⟨stop,qn⟩ | ⟨go,N,hN,step⟩
 ·refine dJ hp (thn (T.done X rfl rfl rfl hc i pins s3 σ3 H3 X.xe I3 (stat fr3) st3 stop) fun r s4 ⟨hr,I4⟩=>?_)
  subst hr
  exact ge ⟨σ3,H3,I4,qn⟩
 ·refine dJ hp (thn (T.item X rfl rfl rfl hc i pins s3 σ3 H3 X.xe I3 (stat fr3) st3 go) fun r s4 ⟨u,hr,h4⟩=>?_)
  subst hr
  refine dJ hp (thn h4 fun _ s5 ⟨x,H5,I5,r5,y5,st5,fr5⟩=>?_)
  have I5':=I5.pinned (stat fr5) (T.obj _ _ st5)
  refine dJ hp (thn (hg _ s5 σ3 H5 x u _ I5' r5 (step x H5 y5)) fun _ s6 ⟨σ6,H6,I6,q6⟩=>?_)
  refine dJ hp (thn (hb _ s6 σ6 H6 _ I6 q6) fun f s7 q7=>?_)
  have again:∀ {σ7:St} {H7:Hp},Inv X (pins++zco fp s5.heap) σ7 H7 s7→N σ7 H7→∃ m,m < n∧∃ i σ' H',Inv X pins σ' H' s7∧tn i s7.heap∧(∀ b∈fp,H' b=none)∧W i m σ' H':=fun {σ7 H7} I7 n7=>by
   obtain⟨m',hm,w7⟩:=hN σ7 H7 n7
   refine⟨m',hm,i+1,σ7,H7,I7.unpinned,T.keep _ _ _ st5 fun b hb o e=>(I7.pin (b,o) (aK _ (aK _ (zb7 hb e)))).1,fun b hb=>?_,w7⟩
   obtain⟨o,e,d⟩:=T.obj _ _ st5 b hb
   exact (I7.pin (b,o) (aK _ (aK _ (zb7 hb e)))).2.1
  cases f with
  | next=>obtain⟨σ7,H7,I7,n7⟩:=q7; exact again I7 n7
  | cont=>obtain⟨σ7,H7,I7,n7⟩:=q7; exact again I7 n7
  | brk=>obtain⟨σ7,H7,I7,q7⟩:=q7; exact⟨σ7,H7,I7.unpinned,q7⟩
  | ret v=>obtain⟨x7,σ7,H7,I7,r7,q7⟩:=q7; exact⟨x7,σ7,H7,I7.unpinned,r7,q7⟩
end
theorem zbW {K:ai} {a:Addr} {xs:List V} {g:TG} {tb:TS} {D:Ends} {σ:St} {H:Hp} (Pv:Nat→St→Hp→Prop) (h0:Pv 0 σ H) (hl:∀ i σ H,i≤xs.length→Pv i σ H→SqL K H a xs)
  (hs:∀ i x σ H,xs[i]? = some x→Pv i σ H→g x σ H fun σ2 H2=>tb { D with nx:=Pv (i+1),ct:=Pv (i+1),bk:=D.nx } σ2 H2) (hd:∀ σ H,Pv xs.length σ H→D.nx σ H) :
  ∃ W:Nat→Nat→St→Hp→Prop,(∃ m,W 0 m σ H)∧∀ i m σ H,W i m σ H →
   ((Itl K a).stop i H∧D.nx σ H)∨((Itl K a).go i H∧∃ N:St→Hp→Prop,(∀ σ' H',N σ' H'→∃ m',m' < m∧W (i+1) m' σ' H')∧∀ x H',(Itl K a).yld i H x H'→g x σ H' fun σ2 H2=>tb { D with nx:=N,ct:=N,bk:=D.nx } σ2 H2):=by
 refine⟨fun i m σ H=>m=xs.length - i∧i≤xs.length∧Pv i σ H,⟨xs.length,by simp,bi _,h0⟩,?_⟩
 rintro i m σ H ⟨rfl,hi,p⟩
 have q:=hl i σ H hi p
 by_cases hlt:i < xs.length
 ·refine .inr ⟨⟨xs,xs[i],q,by simp [hlt]⟩,Pv (i+1),fun σ' H' p'=>⟨xs.length - (i+1),by lia,rfl,hlt,p'⟩,fun x H' y=>?_⟩
  obtain⟨e,y⟩:=y
  subst e
  exact hs i x σ _ (y xs q) p
 ·have e:i=xs.length:=by lia
  subst e
  exact .inl ⟨⟨xs,q,ag _⟩,hd σ H p⟩
theorem zmw {K:ai} {a:Addr} {xs:List V} {g:TG} {tb:TS} {D:Ends} {σ:St} {H:Hp} (Pv:Nat→St→Hp→Prop) (h0:Pv 0 σ H) (hl:∀ i σ H,i≤xs.length→Pv i σ H→SqT K H a xs)
  (hs:∀ i x σ H,xs[i]? = some x→Pv i σ H→g x σ H fun σ2 H2=>tb { D with nx:=Pv (i+1),ct:=Pv (i+1),bk:=D.nx } σ2 H2) (hd:∀ σ H,Pv xs.length σ H→D.nx σ H) :
  ∃ W:Nat→Nat→St→Hp→Prop,(∃ m,W 0 m σ H)∧∀ i m σ H,W i m σ H →
   ((Itt K a).stop i H∧D.nx σ H)∨((Itt K a).go i H∧∃ N:St→Hp→Prop,(∀ σ' H',N σ' H'→∃ m',m' < m∧W (i+1) m' σ' H')∧∀ x H',(Itt K a).yld i H x H'→g x σ H' fun σ2 H2=>tb { D with nx:=N,ct:=N,bk:=D.nx } σ2 H2):=by
 refine⟨fun i m σ H=>m=xs.length - i∧i≤xs.length∧Pv i σ H,⟨xs.length,by simp,bi _,h0⟩,?_⟩
 rintro i m σ H ⟨rfl,hi,p⟩
 have q:=hl i σ H hi p
 by_cases hlt:i < xs.length
 ·refine .inr ⟨⟨xs,xs[i],q,by simp [hlt]⟩,Pv (i+1),fun σ' H' p'=>⟨xs.length - (i+1),by lia,rfl,hlt,p'⟩,fun x H' y=>?_⟩
  obtain⟨e,y⟩:=y
  subst e
  exact hs i x σ _ (y xs q) p
 ·have e:i=xs.length:=by lia
  subst e
  exact .inl ⟨⟨xs,q,ag _⟩,hd σ H p⟩
theorem zbX {lo:Int} {n:Nat} {g:TG} {tb:TS} {D:Ends} {σ:St} {H:Hp} (Pv:Nat→St→Hp→Prop) (h0:Pv 0 σ H)
  (hs:∀ i σ H,i < n→Pv i σ H→g (.int (lo+i)) σ H fun σ2 H2=>tb { D with nx:=Pv (i+1),ct:=Pv (i+1),bk:=D.nx } σ2 H2) (hd:∀ σ H,Pv n σ H→D.nx σ H) :
  ∃ W:Nat→Nat→St→Hp→Prop,(∃ m,W 0 m σ H)∧∀ i m σ H,W i m σ H →
   ((Itr lo n).stop i H∧D.nx σ H)∨((Itr lo n).go i H∧∃ N:St→Hp→Prop,(∀ σ' H',N σ' H'→∃ m',m' < m∧W (i+1) m' σ' H')∧∀ x H',(Itr lo n).yld i H x H'→g x σ H' fun σ2 H2=>tb { D with nx:=N,ct:=N,bk:=D.nx } σ2 H2):=by
 refine⟨fun i m σ H=>m=n - i∧i≤n∧Pv i σ H,⟨n,by simp,bi _,h0⟩,?_⟩
 rintro i m σ H ⟨rfl,hi,p⟩
 by_cases hlt:i < n
 ·refine .inr ⟨hlt,Pv (i+1),fun σ' H' p'=>⟨n - (i+1),by lia,rfl,hlt,p'⟩,fun x H' y=>?_⟩
  obtain⟨e,y⟩:=y
  subst e y
  exact hs i σ _ hlt p
 ·have e:i=n:=by lia
  subst e
  exact .inl ⟨ag _,hd σ H p⟩
theorem zkt {c:TT} {tb:TS} {D:Ends} {σ:St} {H:Hp} (Pv:St→Hp→Prop) (μ:St→Hp→Nat) (h0:Pv σ H)
  (hs:∀ σ H,Pv σ H→c σ H fun b H1=>if b=true then tb { D with nx:=fun σ' H'=>Pv σ' H'∧μ σ' H' < μ σ H,ct:=fun σ' H'=>Pv σ' H'∧μ σ' H' < μ σ H,bk:=D.nx } σ H1 else D.nx σ H1)
  (mono:∀ σ H Q Q',(∀ b H1,Q b H1→Q' b H1)→c σ H Q→c σ H Q'):zkq c tb D σ H:=by
 refine⟨fun m σ H=>m=μ σ H∧Pv σ H,⟨_,rfl,h0⟩,?_⟩
 rintro m σ H ⟨rfl,p⟩
 refine mono σ H _ _ (fun b H1 q=>?_) (hs σ H p)
 cases b with
 | true=>exact⟨_,fun σ' H' ⟨p',l⟩=>⟨_,l,rfl,p'⟩,q⟩
 | false=>exact q
abbrev R2:=V→V→Hp→VK→Prop
def OpR (X:Cx) (f:Value→Value→Sem Value) (r:R2):Prop :=
 ∀ (pins:List (Addr×Obj)) (s:Shared) (σ:St) (H:Hp) (x y:V) (v u:Value) (Q:VK),Inv X pins σ H s→RelV x v→RelV y u→r x y H Q →
  wpAny (model X.prog X.w) X.A (f v u) (EP X pins σ Q) X.xe s
def UnR (X:Cx) (f:Value→Sem Value) (r:V→Hp→VK→Prop):Prop :=
 ∀ (pins:List (Addr×Obj)) (s:Shared) (σ:St) (H:Hp) (x:V) (v:Value) (Q:VK),Inv X pins σ H s→RelV x v→r x H Q →
  wpAny (model X.prog X.w) X.A (f v) (EP X pins σ Q) X.xe s
def zbY (X:Cx) (f:Value) (r:List V→Hp→VK→Prop):Prop :=
 ∀ (pins:List (Addr×Obj)) (s:Shared) (σ:St) (H:Hp) (xs:List V) (us:List Value) (Q:VK),Inv X pins σ H s→zJ xs us→r xs H Q →
  wpAny (model X.prog X.w) X.A (call f us) (EP X pins σ Q) X.xe s
def zpQ (X:Cx) (r:V→Hp→(Bool→Hp→Prop)→Prop):Prop :=
 ∀ (pins:List (Addr×Obj)) (s:Shared) (σ:St) (H:Hp) (x:V) (v:Value) (Q:Bool→Hp→Prop),Inv X pins σ H s→RelV x v→r x H Q →
  wpAny (model X.prog X.w) X.A (truthy v) (TP X pins σ Q) X.xe s
def tOp (r:R2) (ta tb:TE):TE:=fun σ H Q=>ta σ H fun x H1=>tb σ H1 fun y H2=>r x y H2 Q
def tUn (r:V→Hp→VK→Prop) (ta:TE):TE:=fun σ H Q=>ta σ H fun x H1=>r x H1 Q
def rI (C:Int→Int→Prop) (g:Int→Int→V):R2:=fun x y H Q=>∃ i j,x = .int i∧y = .int j∧C i j∧Q (g i j) H
def rI0 (g:Int→Int→V):R2:=fun x y H Q=>∃ i j,x = .int i∧y = .int j∧Q (g i j) H
def rU (g:Int→V):V→Hp→VK→Prop:=fun x H Q=>∃ i,x = .int i∧Q (g i) H
section
variable {X:Cx} {a b c:Expr} {ta tb tc:TE} {pos:Pos}
theorem zpc (ha:PE X a ta) (hb:PE X b tb) {pins:List (Addr×Obj)} {s:Shared} {σ:St} {H:Hp} {R:V→V→Hp→Prop} (I:Inv X pins σ H s)
  (h:ta σ H fun x H1=>tb σ H1 fun y H2=>R x y H2) {Q:Value→Shared→Prop} {f:Value→Value→Sem Value}
  (hf:∀ v u s2 x y H2,Inv X pins σ H2 s2→RelV x v→RelV y u→R x y H2→wpAny (model X.prog X.w) X.A (f v u) Q X.xe s2) :
  wpAny (model X.prog X.w) X.A (eval a X.env) (fun v s₁=>wpAny (model X.prog X.w) X.A (eval b X.env) (fun u s₂=>wpAny (model X.prog X.w) X.A (f v u) Q X.xe s₂) X.xe s₁) X.xe s:=by
 refine thn (ha pins s σ H _ I h) fun v s1 ⟨x,H1,I1,r1,q1⟩=>?_
 refine thn (hb pins s1 σ H1 _ I1 q1) fun u s2 ⟨y,H2,I2,r2,q2⟩=>?_
 exact hf v u s2 x y H2 I2 r1 r2 q2
theorem zi {op:Operator} {r:R2} (ho:OpR X (binaryOp op) r) (ha:PE X a ta) (hb:PE X b tb):PE X (.BinOp a op b pos) (tOp r ta tb):=by
 intro pins s σ H Q I h
 exact wpAny_BinOp (zpc ha hb I h fun v u s2 x y H2 I2 rx ry q=>ho pins s2 σ H2 x y v u Q I2 rx ry q)
theorem zku {op:UnaryOp} {r:V→Hp→VK→Prop} (ho:UnR X (unaryOp op) r) (ha:PE X a ta):PE X (.UnaryOp op a pos) (tUn r ta):=by
 intro pins s σ H Q I h
 exact UnaryOp_ (thn (ha pins s σ H _ I h) fun v s1 ⟨x,H1,I1,r1,q1⟩=>ho pins s1 σ H1 x v Q I1 r1 q1)
theorem opI {f:Value→Value→Sem Value} {C:Int→Int→Prop} {g:Int→Int→Int}
  (rule:∀ (i j:Int) (t u:Tok) (s:Shared) (Q:Value→Shared→Prop) (E:Value→Shared→Prop),C i j→Q (.int (g i j) s.toks) { s with toks:=s.toks+1 }→wpAny (model X.prog X.w) X.A (f (.int i t) (.int j u)) Q E s) :
  OpR X f (rI C fun i j=>.int (g i j)):=by
 intro pins s σ H x y v u Q I rx ry h
 obtain⟨i,j,rfl,rfl,hc,q⟩:=h
 obtain⟨t,rfl⟩:=rx
 obtain⟨t',rfl⟩:=ry
 exact rule i j t t' s _ _ hc ⟨.int (g i j),H,I.tok _,⟨_,rfl⟩,q⟩
theorem zoa {f:Value→Value→Sem Value} {g:Int→Int→Int}
  (rule:∀ (i j:Int) (t u:Tok) (s:Shared) (Q:Value→Shared→Prop) (E:Value→Shared→Prop),Q (.int (g i j) s.toks) { s with toks:=s.toks+1 }→wpAny (model X.prog X.w) X.A (f (.int i t) (.int j u)) Q E s) :
  OpR X f (rI0 fun i j=>.int (g i j)):=by
 intro pins s σ H x y v u Q I rx ry h
 obtain⟨i,j,rfl,rfl,q⟩:=h
 obtain⟨t,rfl⟩:=rx
 obtain⟨t',rfl⟩:=ry
 exact rule i j t t' s _ _ ⟨.int (g i j),H,I.tok _,⟨_,rfl⟩,q⟩
theorem zob {f:Value→Value→Sem Value} {g:Int→Int→Bool}
  (rule:∀ (i j:Int) (t u:Tok) (s:Shared) (Q:Value→Shared→Prop) (E:Value→Shared→Prop),Q (.bool (g i j)) s→wpAny (model X.prog X.w) X.A (f (.int i t) (.int j u)) Q E s) :
  OpR X f (rI0 fun i j=>.bl (g i j)):=by
 intro pins s σ H x y v u Q I rx ry h
 obtain⟨i,j,rfl,rfl,q⟩:=h
 obtain⟨t,rfl⟩:=rx
 obtain⟨t',rfl⟩:=ry
 exact rule i j t t' s _ _ ⟨.bl (g i j),H,I,rfl,q⟩
def zpd (i j:Int):Prop:=0 < j∧j < 1073741824
def zpR (i j:Int):Prop:=0≤j∧j≤1000000∧i.natAbs < 2 ^ 64
def zoc (i j:Int):Prop:=(-(2 ^ 64) < i∧i < 2 ^ 64)∨(-(2 ^ 64) < j∧j < 2 ^ 64)
theorem zoc.ok {i j:Int} (h:zoc i j):IntMulOk i j:=by
 rcases h with ⟨h1,h2⟩ | ⟨h1,h2⟩
 ·exact .of_left (intBits_le_64 h1 h2)
 ·exact .of_right (intBits_le_64 h1 h2)
theorem zK:OpR X (binaryOp .Add) (rI0 fun i j=>.int (i+j)):=zoa fun _ _ _ _ _ _ _ q=>add_int q
theorem zaR:OpR X (binaryOp .Sub) (rI0 fun i j=>.int (i - j)):=zoa fun _ _ _ _ _ _ _ q=>sub_int q
theorem zT:OpR X (binaryOp .Mult) (rI zoc fun i j=>.int (i*j)):=opI fun _ _ _ _ _ _ _ hc q=>mul_int q hc.ok
theorem zb8:OpR X (binaryOp .FloorDiv) (rI zpd fun i j=>.int (i / j)):=opI fun i j _ _ _ _ _ hc q=>by
 have h1:(0:Int) < j:=hc.1
 have h2:j < 1073741824:=hc.2
 exact floordiv_int (by lia) (by rw [gK i (by lia)]; exact q) (.inl (iO (by lia)))
theorem zC:OpR X (binaryOp .Mod) (rI (fun _ j=>0 < j) fun i j=>.int (i % j)):=opI fun i j _ _ _ _ _ hc q=>by
 have h1:(0:Int) < j:=hc
 exact mod_int' (by lia) (by rw [Int.fmod_eq_emod_of_nonneg i (by lia)]; exact q)
theorem zod:OpR X (binaryOp .Pow) (rI zpR fun i j=>.int (i ^ j.toNat)):=opI fun _ _ _ _ _ _ _ hc q=>pow_int_small hc.1 hc.2.1 hc.2.2 q
theorem zij:OpR X (inplaceOp .Add) (rI0 fun i j=>.int (i+j)):=zoa fun _ _ _ _ _ _ _ q=>iadd_int q
theorem zkv:OpR X (inplaceOp .FloorDiv) (rI zpd fun i j=>.int (i / j)):=opI fun i j _ _ _ _ _ hc q=>by
 have h1:(0:Int) < j:=hc.1
 have h2:j < 1073741824:=hc.2
 exact ifloordiv_int (by lia) (by rw [gK i (by lia)]; exact q) (.inl (iO (by lia)))
theorem unI {f:Value→Sem Value} {g:Int→Int}
  (rule:∀ (i:Int) (t:Tok) (s:Shared) (Q:Value→Shared→Prop) (E:Value→Shared→Prop),Q (.int (g i) s.toks) { s with toks:=s.toks+1 }→wpAny (model X.prog X.w) X.A (f (.int i t)) Q E s) :
  UnR X f (rU fun i=>.int (g i)):=by
 intro pins s σ H x v Q I rx h
 obtain⟨i,rfl,q⟩:=h
 obtain⟨t,rfl⟩:=rx
 exact rule i t s _ _ ⟨.int (g i),H,I.tok _,⟨_,rfl⟩,q⟩
theorem zhK:UnR X (unaryOp .USub) (rU fun i=>.int (-i)):=unI fun _ _ _ _ _ q=>neg_int q
end
def zoe:V→V→Bool
 | .non,.non=>true | .non,.int _=>true | .int _,.non=>true | .non,.bl _=>true | .bl _,.non=>true | .non,.str _=>true | .str _,.non=>true
 | .int _,.int _=>true | .bl _,.bl _=>true | .str _,.str _=>true | .byt _,.byt _=>true
 | .int _,.str _=>true | .str _,.int _=>true | .bl _,.str _=>true | .str _,.bl _=>true
 | _,_=>false
def rEq:R2:=fun x y H Q=>zoe x y=true∧Q (.bl (decide (x=y))) H
def rNe:R2:=fun x y H Q=>zoe x y=true∧Q (.bl (!decide (x=y))) H
theorem zik {i j:Int}:decide (V.int i=V.int j)=(i == j):=by
 rw [da]
 simp
theorem zkw {i j:Bool}:decide (V.bl i=V.bl j)=(i == j):=by
 rw [da]
 simp
theorem zil {i j:Str}:decide (V.str i=V.str j)=(i == j):=by
 rw [da]
 simp
theorem zim {i j:Array UInt8}:decide (V.byt i=V.byt j)=(i.toList == j.toList):=by
 rw [da]
 cases i
 cases j
 simp
section
variable {X:Cx} {a b c:Expr} {ta tb tc:TE} {pos:Pos}
theorem zU {pins:List (Addr×Obj)} {σ:St} {H:Hp} {s:Shared} {Q:VK} {k k':Bool} (I:Inv X pins σ H s) (q:Q (.bl k) H) (e:k=k'):EP X pins σ Q (.bool k') s:=by
 subst e
 exact⟨.bl k,H,I,rfl,q⟩
theorem zfi:OpR X (compareOp .Eq) rEq:=by
 intro pins s σ H x y v u Q I rx ry h
 obtain⟨hs,q⟩:=h
 cases x with
 | non =>
  cases rx
  cases y with
  | non=>cases ry; exact PySem.EqNone.eq_none_none (zU I q (by simp))
  | bl j=>cases ry; exact PySem.EqNone.eq_none_bool (zU I q (by simp))
  | int j=>obtain⟨t',rfl⟩:=ry; exact PySem.EqNone.eq_none_int (zU I q (by simp))
  | str j=>obtain⟨t',rfl⟩:=ry; exact PySem.EqNone.eq_none_str (zU I q (by simp))
  | _=>exact absurd (show false=true from hs) aO
 | bl i =>
  cases rx
  cases y with
  | non=>cases ry; exact PySem.EqNone.eq_bool_none (zU I q (by simp))
  | bl j=>cases ry; exact eq_bool (zU I q zkw)
  | str j=>obtain⟨t',rfl⟩:=ry; exact PySem.EqMixed.eq_bool_str (zU I q (by simp))
  | _=>exact absurd (show false=true from hs) aO
 | int i =>
  obtain⟨t,rfl⟩:=rx
  cases y with
  | non=>cases ry; exact PySem.EqNone.eq_int_none (zU I q (by simp))
  | int j=>obtain⟨t',rfl⟩:=ry; exact eq_int (zU I q zik)
  | str j=>obtain⟨t',rfl⟩:=ry; exact PySem.EqMixed.eq_int_str (zU I q (by simp))
  | _=>exact absurd (show false=true from hs) aO
 | str i =>
  obtain⟨t,rfl⟩:=rx
  cases y with
  | non=>cases ry; exact PySem.EqNone.eq_str_none (zU I q (by simp))
  | bl j=>cases ry; exact PySem.EqMixed.eq_str_bool (zU I q (by simp))
  | int j=>obtain⟨t',rfl⟩:=ry; exact PySem.EqMixed.eq_str_int (zU I q (by simp))
  | str j=>obtain⟨t',rfl⟩:=ry; exact eq_str (zU I q zil)
  | _=>exact absurd (show false=true from hs) aO
 | byt i =>
  obtain⟨t,rfl⟩:=rx
  cases y with
  | byt j=>obtain⟨t',rfl⟩:=ry; exact PySem.W.eq_bytes (zU I q zim)
  | _=>exact absurd (show false=true from hs) aO
 | _=>cases y <;> exact absurd (show false=true from hs) aO
theorem zkx:OpR X (compareOp .NotEq) rNe:=by
 intro pins s σ H x y v u Q I rx ry h
 obtain⟨hs,q⟩:=h
 cases x with
 | non =>
  cases rx
  cases y with
  | non=>cases ry; exact PySem.EqNone.ne_none_none (zU I q (by simp))
  | bl j=>cases ry; exact PySem.EqNone.ne_none_bool (zU I q (by simp))
  | int j=>obtain⟨t',rfl⟩:=ry; exact PySem.EqNone.ne_none_int (zU I q (by simp))
  | str j=>obtain⟨t',rfl⟩:=ry; exact PySem.EqNone.ne_none_str (zU I q (by simp))
  | _=>exact absurd (show false=true from hs) aO
 | bl i =>
  cases rx
  cases y with
  | non=>cases ry; exact PySem.EqNone.ne_bool_none (zU I q (by simp))
  | bl j=>cases ry; exact ne_bool (zU I q (congrArg not zkw))
  | str j=>obtain⟨t',rfl⟩:=ry; exact PySem.EqMixed.ne_bool_str (zU I q (by simp))
  | _=>exact absurd (show false=true from hs) aO
 | int i =>
  obtain⟨t,rfl⟩:=rx
  cases y with
  | non=>cases ry; exact PySem.EqNone.ne_int_none (zU I q (by simp))
  | int j=>obtain⟨t',rfl⟩:=ry; exact ne_int (zU I q (congrArg not zik))
  | str j=>obtain⟨t',rfl⟩:=ry; exact PySem.EqMixed.ne_int_str (zU I q (by simp))
  | _=>exact absurd (show false=true from hs) aO
 | str i =>
  obtain⟨t,rfl⟩:=rx
  cases y with
  | non=>cases ry; exact PySem.EqNone.ne_str_none (zU I q (by simp))
  | bl j=>cases ry; exact PySem.EqMixed.ne_str_bool (zU I q (by simp))
  | int j=>obtain⟨t',rfl⟩:=ry; exact PySem.EqMixed.ne_str_int (zU I q (by simp))
  | str j=>obtain⟨t',rfl⟩:=ry; exact ne_str (zU I q (congrArg not zil))
  | _=>exact absurd (show false=true from hs) aO
 | byt i =>
  obtain⟨t,rfl⟩:=rx
  cases y with
  | byt j=>obtain⟨t',rfl⟩:=ry; exact PySem.W.ne_bytes (zU I q (congrArg not zim))
  | _=>exact absurd (show false=true from hs) aO
 | _=>cases y <;> exact absurd (show false=true from hs) aO
theorem zin:OpR X (compareOp .Lt) (rI0 fun i j=>.bl (decide (i < j))):=zob fun _ _ _ _ _ _ _ q=>lt_int q
theorem zgH:OpR X (compareOp .Gt) (rI0 fun i j=>.bl (decide (j < i))):=zob fun _ _ _ _ _ _ _ q=>gt_int q
theorem znK:OpR X (compareOp .GtE) (rI0 fun i j=>.bl (decide (j≤i))):=zob fun _ _ _ _ _ _ _ q=>ge_int q
theorem zof:OpR X (compareOp .Is) (fun x y H Q=>y = .non∧Q (.bl (decide (x = .non))) H):=by
 intro pins s σ H x y v u Q I rx ry h
 obtain⟨rfl,q⟩:=h
 cases ry
 refine is_none_gen (zU I q ?_)
 cases x <;> first
  | (cases rx; rfl)
  | (obtain⟨t,rfl⟩:=rx; rfl)
theorem zmx:OpR X (compareOp .IsNot) (fun x y H Q=>y = .non∧Q (.bl (!decide (x = .non))) H):=by
 intro pins s σ H x y v u Q I rx ry h
 obtain⟨rfl,q⟩:=h
 cases ry
 refine isnot_none_gen (zU I q ?_)
 cases x <;> first
  | (cases rx; rfl)
  | (obtain⟨t,rfl⟩:=rx; rfl)
theorem zac (b:Expr) {op:CmpOp} (h:op≠.In:=by decide) (h2:op≠.NotIn:=by decide):behindInMarks op b=false:=by
 have e1:(op == CmpOp.In)=false:=by cases op <;> first | rfl | exact absurd rfl h
 have e2:(op == CmpOp.NotIn)=false:=by cases op <;> first | rfl | exact absurd rfl h2
 cases b <;> simp [behindInMarks,e1,e2]
def zpe (t:TE):TT:=fun σ H Q=>t σ H fun x H'=>∃ k,x = .bl k∧Q k H'
theorem zR {op:CmpOp} {r:R2} (ho:OpR X (compareOp op) r) (ha:PE X a ta) (hb:PE X b tb) (hm:behindInMarks op b=false):PT X (.Compare a [op] [b] pos) (zpe (tOp r ta tb)):=by
 intro pins s σ H Q I h
 refine wpAny_isTrue_Compare1 (thn (ha pins s σ H _ I h) fun v s1 ⟨x,H1,I1,r1,q1⟩=>thn (hb pins s1 σ H1 _ I1 q1) fun u s2 ⟨y,H2,I2,r2,q2⟩ =>
  thn (ho pins s2 σ H2 x y v u _ I2 r1 r2 q2) fun c s3 ⟨z,H3,I3,r3,k,e,q3⟩=>?_) hm
 subst e
 cases r3
 exact wpAny_truthy_bool ⟨H3,I3,q3⟩
def zpf (K:ai) (x:V) (H:Hp) (k:Bool):Prop :=
 match x with
 | .non=>k=false
 | .bl b=>k=b
 | .int i=>k=(i != 0)
 | .str y=>y.length≤sizeLine∧k=((y.length:Int) != 0)
 | .byt y=>y.size≤sizeLine∧k=((y.size:Int) != 0)
 | .ref p=>(∃ xs,SqL K H p xs∧k = !xs.isEmpty)∨(∃ xs,SqT K H p xs∧k = !xs.isEmpty)∨∃ kvs,H p=some (.dK kvs)∧k = !kvs.isEmpty
 | _=>False
theorem zhL {κ:Type} {kvs:List (κ×V)} {vs:List (κ×Value)} (r:KV kvs vs):(!vs.isEmpty) = !kvs.isEmpty:=by
 cases r <;> rfl
theorem zef {xs:List V} {its:List Value} (r:zJ xs its):(!its.toArray.isEmpty) = !xs.isEmpty:=by
 cases r <;> simp
theorem zeg:(sizeLine:Nat) < 2 ^ 63:=by rw [aX]; decide
theorem zog:zpQ X (fun x H Q=>∃ k,zpf X.K x H k∧Q k H):=by
 intro pins s σ H x v Q I rx h
 obtain⟨k,e,q⟩:=h
 have hl:=zeg
 have hs:sizeLine=16777216:=aX
 cases x with
 | non =>
  cases rx
  have e':k=false:=e
  subst e'
  exact truthy_none ⟨H,I,q⟩
 | bl b =>
  cases rx
  have e':k=b:=e
  subst e'
  exact wpAny_truthy_bool ⟨H,I,q⟩
 | int i =>
  obtain⟨t,rfl⟩:=rx
  have e':k=(i != 0):=e
  subst e'
  exact PySem.P.truthy_int ⟨H,I,q⟩
 | str y =>
  obtain⟨t,rfl⟩:=rx
  obtain⟨hy,e'⟩:y.length≤sizeLine∧k=((y.length:Int) != 0):=e
  subst e'
  exact PySem.P.truthy_str (by lia) ⟨H,I.tok _,q⟩
 | byt y =>
  obtain⟨t,rfl⟩:=rx
  obtain⟨hy,e'⟩:y.size≤sizeLine∧k=((y.size:Int) != 0):=e
  subst e'
  exact PySem.W.truthy_bytes (by lia) ⟨H,I.tok _,q⟩
 | ref p =>
  cases rx
  have e':(∃ xs,SqL X.K H p xs∧k = !xs.isEmpty)∨(∃ xs,SqT X.K H p xs∧k = !xs.isEmpty)∨∃ kvs,H p=some (.dK kvs)∧k = !kvs.isEmpty:=e
  rcases e' with ⟨xs,hx,e'⟩ | ⟨xs,hx,e'⟩ | ⟨kvs,hx,e'⟩
  ·subst e'
   obtain⟨its,r,pl,hz⟩:=I.list hx
   have hlen:=r.length
   exact wpAny_truthy_list pl.isList (by simp only [ap]; lia) ⟨H,I.tok _,by rw [zef r]; exact q⟩
  ·subst e'
   obtain⟨its,r,pl,hz⟩:=I.tuple hx
   have hlen:=r.length
   exact truthy_tuple pl (by simp only [ap]; lia) ⟨H,I.tok _,by rw [zef r]; exact q⟩
  ·subst e'
   obtain⟨hz,hS,vs,r,m⟩:kvs.length≤sizeLine∧(p == sysModules)=false∧∃ vs,KV kvs vs∧s.heap.DictOf (zao X.prog X.w) p vs:=I.hok p _ hx
   have hlen:kvs.length=vs.length:=bg r
   exact wpAny_truthy_dict hS m (by lia) ⟨H,I.tok _,by rw [zhL r]; exact q⟩
 | _=>exact (show False from e).elim
theorem zky (ha:PE X a ta) (he:∀ whole,isTrue a X.env whole=(do let v ← whole; standAt a.pos; holding [v] (truthy v))) :
  PT X a (fun σ H Q=>ta σ H fun x H'=>∃ k,zpf X.K x H' k∧Q k H'):=by
 intro pins s σ H Q I h
 exact isTrue_plain (thn (ha pins s σ H _ I h) fun v s1 ⟨x,H1,I1,r1,q1⟩=>zog pins s1 σ H1 x v Q I1 r1 q1) (he _)
theorem vals1 {x:V} {us:List Value} (r:zJ [x] us):∃ u,us = [u]∧RelV x u:=by
 cases r with
 | cons r1 r2=>cases r2; exact⟨_,rfl,r1⟩
theorem vals2 {x y:V} {us:List Value} (r:zJ [x,y] us):∃ u w',us = [u,w']∧RelV x u∧RelV y w':=by
 cases r with
 | cons r1 r2 =>
  cases r2 with
  | cons r3 r4=>cases r4; exact⟨_,_,rfl,r1,r3⟩
theorem zfj (hc:X.calm=true):zbY X (.builtin "min") (fun xs H Q=>∃ i j,xs = [.int i,.int j]∧Q (.int (if j < i then j else i)) H):=by
 intro pins s σ H xs us Q I r h
 obtain⟨i,j,rfl,q⟩:=h
 obtain⟨u,w',rfl,⟨t,rfl⟩,⟨t',rfl⟩⟩:=vals2 r
 refine min_two_ints (I.ok.hd hc) fun h' tk k=>⟨_,H,I.kept k,?_,q⟩
 by_cases hj:j < i
 ·rw [if_pos hj,if_pos hj]; exact⟨_,rfl⟩
 ·rw [if_neg hj,if_neg hj]; exact⟨_,rfl⟩
end
structure Room (k:Nat) (A:Around):Prop where
 hd:A.handled=none
 dp:A.depth+3*k+5 < recursionLimit
 un:A.units+16*k+200 < cLine
theorem Room.mono {j k:Nat} {A:Around} (r:Room k A) (h:j≤k):Room j A:=⟨r.hd,by have:=r.dp; lia,by have:=r.un; lia⟩
theorem Room.deeper {k:Nat} {A:Around} (r:Room (k+1) A) (env:Env):Room k (A.deeper env) :=
 ⟨r.hd,by have:=r.dp; show A.depth+1+3*k+5 < _; lia,by have:=r.un; show A.units+3+16*k+200 < _; lia⟩
theorem Room.depth {k:Nat} {A:Around} (r:Room k A):A.depth < recursionLimit:=by have:=r.dp; lia
theorem Room.units {k:Nat} {A:Around} (r:Room k A):A.units+64 < cLine:=by have:=r.un; lia
def zpS:TA:=fun _ H Q=>Q [] H
def znL (ta:TE) (tr:TA):TA:=fun σ H Q=>ta σ H fun x H1=>tr σ H1 fun xs H2=>Q (x :: xs) H2
section
variable {X:Cx} {e:Expr} {es:List Expr} {te:TE} {t:TA} {pos:Pos}
theorem ze:PA X [] zpS:=fun _ _ _ _ H Q I h=>fU ⟨[],H,I,.nil,h⟩
theorem za (ha:PE X e te) (hr:PA X es t) (hs:starEach (e :: es) X.env=(false,eval e X.env) :: starEach es X.env:=by rfl):PA X (e :: es) (znL te t):=by
 intro pos pins s σ H Q I h
 rw [hs]
 show wpAny _ _ (spliced ((false,eval e X.env) :: backTo pos (starEach es X.env))) _ _ s
 refine eC (thn (ha pins s σ H _ I h) fun u s1 ⟨x,H1,I1,r1,q1⟩=>?_)
 exact thn (hr pos pins s1 σ H1 _ I1 q1) fun us s2 ⟨xs,H2,I2,r2,q2⟩=>⟨x :: xs,H2,I2,.cons r1 r2,q2⟩
def zpT (t:TA):TE:=fun σ H Q=>t σ H fun xs H1=>xs.length≤sizeLine∧∀ p,H1 p=none→Q (.ref p) (upd H1 p (.tup xs))
def zmy (t:TA):TE:=fun σ H Q=>t σ H fun xs H1=>xs.length≤sizeLine∧∀ p,H1 p=none→Q (.ref p) (upd H1 p (.lst xs))
theorem zax {x1} (h:PA X es t):PE X (.Tuple es x1 pos) (zpT t):=by
 intro pins s σ H Q I hq
 refine wpAny_Tuple_spliced (thn (h pos pins s σ H _ I hq) fun us s1 ⟨xs,H1,I1,r,z,q⟩=>⟨by rw [← r.length]; exact z,?_⟩)
 have hf:H1 s1.heap.objs.size=none:=I1.hok.fresh (ag _)
 refine⟨.ref s1.heap.objs.size,upd H1 s1.heap.objs.size (.tup xs),I1.laid (t':=s1.toks) (fun b u e=>ak _ e) (ag _) ?_,rfl,q _ hf⟩
 exact⟨z,us,r,⟨_,aL _ rfl,rfl,_,rfl⟩⟩
theorem zY (h:PA X es t):PE X (.List es pos) (zmy t):=by
 intro pins s σ H Q I hq
 refine wpAny_List_spliced (thn (h pos pins s σ H _ I hq) fun us s1 ⟨xs,H1,I1,r,z,q⟩=>⟨by rw [← r.length]; exact z,?_⟩)
 have hf:H1 s1.heap.objs.size=none:=I1.hok.fresh (ag _)
 refine⟨.ref s1.heap.objs.size,upd H1 s1.heap.objs.size (.lst xs),I1.laid (t':=s1.toks) (fun b u e=>ak _ e) (ag _) ?_,rfl,q _ hf⟩
 exact⟨z,us,0,r,aL _ rfl⟩
end
abbrev Sp:=List V→Hp→VK→XK→Prop
abbrev CXT:=List Env→Hp→Shared→XK→Value→Shared→Prop
structure Env0 (P:Program) (w:World) (K:ai) (mg:Str→Option Value) (base:Heap) (A:Around) (outer:List Env) (s:Shared) (H:Hp):Prop where
 frames:A.frames=some outer
 mod:Mod K mg base
 bs:∀ b o,base.get? b=some o→s.heap.get? b=some o∧H b=none
 bsz:base.objs.size≤s.heap.objs.size
 funs:s.heap.FunFrames base outer
 frf:∀ b∈frs outer,H b=none
 hok:HOk P w H s.heap
 bare:AllBare s.gens
def CE (outer:List Env) (P:Program) (w:World) (H:Hp) (s:Shared) (Q:VK) (u:Value) (s':Shared):Prop :=
 ∃ v H',s'.os=s.os∧AllBare s'.gens∧Un (frs outer) [] H H' s.heap s'.heap∧HOk P w H' s'.heap∧RelV v u∧Q v H'
def CR (CX:CXT) (outer:List Env) (P:Program) (w:World) (H:Hp) (s:Shared) (Q:VK) (E:XK) (r:Result) (s':Shared):Prop :=
 match r with
 | .ok (.ret u)=>CE outer P w H s Q u s'
 | .ok _=>False
 | .error e=>CX outer H s E e s'
structure FnOk (P:Program) (w:World) (K:ai) (mg:Str→Option Value) (base:Heap) (CX:CXT) (k:Nat) (f:Addr) (fd:FuncData) (ps:List Str) (sp:Sp):Prop where
 len:∀ vs H Q E,sp vs H Q E→vs.length=ps.length
 run:∀ (A:Around) (outer:List Env) (s:Shared) (H:Hp) (args:Args) (us:List Value) (vs:List V) (Q:VK) (E:XK),Room k A→Env0 P w K mg base A outer s H→BindsTo s fd args (ps.zip us)→zJ vs us→sp vs H Q E →
  codeAny (model P w) A (.call (.ref f) args) (CR CX outer P w H s Q E) s
section
variable {X:Cx} {pins:List (Addr×Obj)} {σ:St} {H:Hp} {s s':Shared}
theorem Inv.env0 (I:Inv X pins σ H s):Env0 X.prog X.w X.K X.mg X.base X.A X.stack s H :=
 ⟨I.ok.frames,I.ok.mod,I.bs,aZ I.ok.bsz I.sz,I.stack,I.stkFree,I.hok,I.bare⟩
theorem Inv.after {Q:VK} {u:Value} (I:Inv X pins σ H s) (h:CE X.stack X.prog X.w H s Q u s'):EP X pins σ Q u s':=by
 obtain⟨v,H',os,bare,un,hok,r,q⟩:=h
 obtain⟨hh,g,d,t,os'⟩:=s'
 obtain rfl:os'=s.os:=os
 exact⟨v,H',I.call (h':=hh) (g':=g) (d':=d) (t':=t) (ch:=[]) un hok bare (fun b z=>absurd z (by simp)),r,q⟩
end
def zpg (sp:Sp) (dvs:List V) (E:XK) (t:TA):TE:=fun σ H Q=>t σ H fun vs H1=>sp (vs++dvs) H1 Q E
def Binds (K:ai) (fd:FuncData) (ps:List Str) (ds:List Value):Prop :=
 ∀ (s:Shared) (us:List Value),K.In s.heap→(us++ds).length=ps.length→BindsTo s fd ⟨us,[]⟩ (ps.zip (us++ds))
theorem Binds.all {K:ai} {fd:FuncData} {ps:List Str} (h:∀ us:List Value,us.length=ps.length→bindArgs fd ⟨us,[]⟩=pure (ps.zip us)):Binds K fd ps []:=fun s us _ hl=>by
 rw [bD] at hl ⊢
 exact .of_eq (h us hl)
def zhM (CX:CXT) (X:Cx) (E:XK):Prop:=∀ (pins:List (Addr×Obj)) (σ:St) (H:Hp) (s:Shared) (e:Value) (s':Shared),Inv X pins σ H s→CX X.stack H s E e s'→X.xe e s'
section
variable {X:Cx} {CX:CXT} {k:Nat} {f C:Addr} {fd:FuncData} {ps:List Str} {sp:Sp} {dvs:List V} {ds:List Value} {E:XK} {x m:Str} {p pos apos:Pos} {e o:Expr} {es:List Expr} {ta:TE} {t:TA}
theorem zoh {pins:List (Addr×Obj)} {σ:St} {H:Hp} {s:Shared} {Q:VK} {us:List Value} {vs:List V} (F:FnOk X.prog X.w X.K X.mg X.base CX k f fd ps sp) (hr:Room k X.A) (hb:Binds X.K fd ps ds) (hd:zJ dvs ds) (hx:zhM CX X E)
  (I:Inv X pins σ H s) (r:zJ vs us) (h:sp (vs++dvs) H Q E):wpAny (model X.prog X.w) X.A (call (.ref f) us) (EP X pins σ Q) X.xe s:=by
 have r2:zJ (vs++dvs) (us++ds):=r.append hd
 have hl:(us++ds).length=ps.length:=by rw [← r2.length]; exact F.len _ _ _ _ h
 refine wpAny_call (jG (F.run X.A X.stack s H ⟨us,[]⟩ (us++ds) (vs++dvs) Q E hr I.env0 (hb s us I.kIn hl) r2 h) fun r s' hq=>?_)
 cases r with
 | error e=>exact hx pins σ H s e s' I hq
 | ok fl =>
  cases fl with
  | ret u=>exact I.after hq
  | next=>exact dW hq
  | brk=>exact dW hq
  | cont=>exact dW hq
theorem zq (F:FnOk X.prog X.w X.K X.mg X.base CX k f fd ps sp) (hr:Room k X.A) (hg:Gl X x) (hm:X.mg x=some (.ref f)) (hk:fO X.K (.ref f)=true) (hb:Binds X.K fd ps ds) (hd:zJ dvs ds) (hx:zhM CX X E)
  (ha:PA X (e :: es) t) (hdb:(x == ("__debug__" : Str))=false:=by decide) (he:starEach (e :: es) X.env=(false,eval e X.env) :: starEach es X.env:=by rfl) (hpl:(backTo pos (starEach es X.env)).any (·.1)=false:=by rfl) :
  PE X (.Call (.Name x p) (e :: es) [] pos) (zpg sp dvs E t):=by
 intro pins s σ H Q I h
 refine gD (zmu I hg hm ?_ hdb)
 refine PySem.W.callWith_K (h₀:=X.base) I.ok.mod.kin hk (thn (ha pos pins s σ H _ I h) fun us s1 ⟨vs,H1,I1,r,q⟩=>⟨I1.kIn,?_⟩) he hpl
 exact zoh F hr hb hd hx I1 r q
end
structure FnScope (N P:List Str) (sc:Scope):Prop where
 kind:sc.kind = .function
 co:sc.isCoroutine=false
 gen:sc.isGenerator=false
 nd:N.Nodup
 pre:N.take P.length=P
 par:∀ x∈P,sc.names.lookup x=some .local∨sc.names.lookup x=some .cell
 nofree:∀ y∈sc.names,y.2≠.free
theorem zfk {kindOf:Str→Option NameKind} {x:Str}:∀ {binds:List (Str×Value)} {m:Str→Option Value},(∀ v,(x,v)∉binds)→bindL kindOf binds m x=m x
 | [],_,_=>rfl
 | (n,v) :: r,m,h=>by
  unfold bindL
  rw [zfk fun w hw=>h w (av _ hw)]
  split
  ·have:x≠n:=by rintro rfl; exact h v aF
   simp [this]
  ·rfl
theorem zfl {kindOf:Str→Option NameKind} {x:Str}:∀ {binds:List (Str×Value)} {m:Str→Option Value},(∀ v,(x,v)∉binds)→bindC kindOf binds m x=m x
 | [],_,_=>rfl
 | (n,v) :: r,m,h=>by
  unfold bindC
  rw [zfl fun w hw=>h w (av _ hw)]
  split
  ·rfl
  ·have:x≠n:=by rintro rfl; exact h v aF
   simp [this]
theorem zfm {kindOf:Str→Option NameKind} {x:Str} {v:Value}:∀ {P:List Str} {vs:List Value} {i:Nat} {m:Str→Option Value},P.Nodup→P[i]? = some x→vs[i]? = some v→kindOf x=some .local →
  bindL kindOf (P.zip vs) m x=some v
 | [],_,_,_,_,h,_,_=>by simp at h
 | _ :: _,[],_,_,_,_,h,_=>by simp at h
 | p :: P,w :: vs,0,m,nd,h1,h2,hk=>by
  simp at h1 h2; subst h1; subst h2
  show bindL kindOf ((p,w) :: P.zip vs) m p=_
  unfold bindL
  rw [zfk fun v hv=>(dL.mp nd).1 (gf hv).1,if_pos hk]
  simp
 | p :: P,w :: vs,i+1,m,nd,h1,h2,hk=>by
  show bindL kindOf ((p,w) :: P.zip vs) m x=_
  unfold bindL
  exact zfm (i:=i) (dL.mp nd).2 (by simpa using h1) (by simpa using h2) hk
theorem zfn {kindOf:Str→Option NameKind} {x:Str} {v:Value}:∀ {P:List Str} {vs:List Value} {i:Nat} {m:Str→Option Value},P.Nodup→P[i]? = some x→vs[i]? = some v→kindOf x≠some .local →
  bindC kindOf (P.zip vs) m x=some v
 | [],_,_,_,_,h,_,_=>by simp at h
 | _ :: _,[],_,_,_,_,h,_=>by simp at h
 | p :: P,w :: vs,0,m,nd,h1,h2,hk=>by
  simp at h1 h2; subst h1; subst h2
  show bindC kindOf ((p,w) :: P.zip vs) m p=_
  unfold bindC
  rw [zfl fun v hv=>(dL.mp nd).1 (gf hv).1,if_neg hk]
  simp
 | p :: P,w :: vs,i+1,m,nd,h1,h2,hk=>by
  show bindC kindOf ((p,w) :: P.zip vs) m x=_
  unfold bindC
  exact zfn (i:=i) (dL.mp nd).2 (by simpa using h1) (by simpa using h2) hk
def start (N:List Str) (vs:List V):St:=vs.map some++aw (N.length - vs.length) none
def zjw (CX:CXT) (P:Program) (w:World) (K:ai) (mg:Str→Option Value) (base:Heap) (N:List Str) (qual:Str) (scope:Scope) (f:Addr) (cd:Value) (A:Around) (outer:List Env) (s:Shared) (H:Hp) (E:XK):Cx where
 prog:=P
 w:=w
 K:=K
 mg:=mg
 base:=base
 A:=A.deeper (envOfC qual scope s.heap.objs.size f cd)
 N:=N
 s₀:=s
 H₀:=H
 env:=envOfC qual scope s.heap.objs.size f cd
 outer:=outer
 stack:=envOfC qual scope s.heap.objs.size f cd :: outer
 ex:=[]
 calm:=true
 fn:=fun _=>true
 pn:=[]
 xe:=fun e s'=>wpAny (model P w) (A.deeper (envOfC qual scope s.heap.objs.size f cd)) (leaving (envOfC qual scope s.heap.objs.size f cd) e) (fun _ s''=>CX outer H s E e s'') (fun e' s''=>CX outer H s E e' s'') s'
theorem zgI {sc:Scope} {n:Nat} {x:Str} (h:sc.names.lookup x=some .cell):∃ c,(cellsFrom n sc.names []).lookup x=some c:=by
 have q:=iP sc.names n [] (.inl h)
 exact Option.isSome_iff_exists.mp q
theorem zjx {CX:CXT} {P:Program} {w:World} {K:ai} {mg:Str→Option Value} {base:Heap} {N ps:List Str} {qual:Str} {scope:Scope} {f:Addr} {cd:Value} {A:Around} {outer:List Env} {s s1:Shared} {H:Hp} {E:XK} {us:List Value} {vs:List V}
  (S:FnScope N ps scope) (hd:A.handled=none) (e0:Env0 P w K mg base A outer s H) (hl:vs.length=ps.length) (r:zJ vs us)
  (x:InCallC s s.heap.objs.size (bindL (envOfC qual scope s.heap.objs.size f cd).kindOf (ps.zip us) fun _=>none) (cellsFrom (s.heap.objs.size+1) scope.names []) (bindC (envOfC qual scope s.heap.objs.size f cd).kindOf (ps.zip us) fun _=>none) s1) :
  Inv (zjw CX P w K mg base N qual scope f cd A outer s H E) [] (start N vs) H s1:=by
 have hpl:ps.length≤N.length:=by have:=congrArg eI S.pre; rw [aD] at this; lia
 obtain⟨h1,tk,rfl,hk⟩:=x.done
 have noA:∀ b:Addr,b∉(zjw CX P w K mg base N qual scope f cd A outer s H E).ex:=fun b z=>absurd (show b∈([]:List Addr) from z) (by simp)
 refine⟨⟨e0.mod,S.kind,rfl,rfl,ag _,fun y z c h1 h2=>?_,fun y hy=>?_,fun y c _ h=>?_,fun _=>hd,Around.frames_deeper e0.frames,.inr ⟨rfl,rfl⟩,fun b z=>absurd z (noA b),e0.bs,e0.bsz,fun b _ _=>noA b,fun b z=>absurd z (noA b),e0.funs,e0.frf⟩,
  rfl,e0.bare,Un.kept hk,⟨_,x.toInCall.ns,fun i y v h1 h2 h3=>?_⟩,fun y c h=>⟨_,x.cell y c h⟩,e0.hok.fresh (ag _),fun y c h=>?_,fun p hp=>absurd (show p∈([]:List (Addr×Obj)) from hp) (by simp),e0.hok.kept hk,?_⟩
 ·exact name_of_addr x.apart (er h1) (er h2)
 ·have hy:scope.names.lookup y=some .cell∨scope.names.lookup y=some .free:=hy
  rcases hy with hy | hy
  ·exact zgI hy
  ·exact absurd rfl (S.nofree _ (er hy))
 ·exact fC (x.above y c (er h))
 ·have hi:i < vs.length:=by
   unfold start at h2
   by_cases hi:i < vs.length
   ·exact hi
   ·rw [bJ (by simpa using hi)] at h2
    rw [cJ] at h2
    split at h2 <;> cases h2
  have ha:vs[i]? = some v:=by
   unfold start at h2
   rw [bj (by simpa using hi),ah] at h2
   cases e:vs[i]? with
   | none=>rw [e] at h2; cases h2
   | some a=>rw [e] at h2; cases h2; rfl
  obtain⟨u,hu,rv⟩:=r.get ha
  have hp:ps[i]? = some y:=by
   rw [← S.pre,bG (by lia)]; exact h1
  have ndP:ps.Nodup:=by rw [← S.pre]; exact S.nd.sublist (cj _ _)
  refine⟨u,rv,?_⟩
  rcases S.par y (aG hp) with k | k
  ·exact .inl ⟨k,zfm ndP hp hu k⟩
  ·obtain⟨c,e⟩:=zgI (n:=s.heap.objs.size+1) k
   refine .inr ⟨.inl k,c,e,?_⟩
   have q:=x.cell y c e
   rw [zfn ndP hp hu (by show scope.names.lookup y≠_; rw [k]; decide)] at q
   exact q
 ·exact e0.hok.fresh (fC (x.above y c (er h)))
 ·unfold start
  show _=N.length
  rw [ao,ab,aT]
  lia
theorem zph {CX:CXT} {P:Program} {w:World} {K:ai} {mg:Str→Option Value} {base:Heap} {k:Nat} {f:Addr} {name qual:Str} {params:Arguments} {body:List Stmt} {scope:Scope} {dV kV doc pm cdv ct oc:Value} {an od:Option Addr}
  {osl:Array (Option Value)} {N ps:List Str} {sp:Sp} (lk:K.lookup f=some ⟨oc,od,.func (db name qual params body scope dV kV doc pm an cdv ct),osl⟩) (hcd:fP K cdv qual=true) (S:FnScope N ps scope)
  (len:∀ vs H Q E,sp vs H Q E→vs.length=ps.length)
  (hbody:∀ (A:Around) (outer:List Env) (s:Shared) (H:Hp) (vs:List V) (Q:VK) (E:XK),Room k (A.deeper (envOfC qual scope s.heap.objs.size f cdv))→sp vs H Q E →
   ∃ t,PSs (zjw CX P w K mg base N qual scope f cdv A outer s H E) body t∧t { nx:=fun _ H'=>Q .non H',rt:=Q } (start N vs) H) :
  FnOk P w K mg base CX (k+1) f (db name qual params body scope dV kV doc pm an cdv ct) ps sp:=by
 refine⟨len,fun A outer s H args us vs Q E hr e0 hb r hsp=>?_⟩
 have hl:=len _ _ _ _ hsp
 have KX:K.In s.heap:=e0.mod.kin.keeps fun b o e=>(e0.bs b o e).1
 have lim:s.heap.NoLimit:=e0.mod.nolimit.keeps fun b o e=>(e0.bs b o e).1
 have hkind:∀ y∈ps.zip us,scope.names.lookup y.1=some .local∨(scope.names.lookup y.1=some .cell∧((cellsFrom (s.heap.objs.size+1) scope.names []).lookup y.1).isSome=true):=fun ⟨n,v⟩ hy=>by
  rcases S.par n (gf hy).1 with q | q
  ·exact .inl q
  ·exact .inr ⟨q,iP _ _ _ (.inl q)⟩
 refine codeAny_call_function hr.depth (KX _ _ lk) rfl S.co S.gen rfl (PySem.W.codeRec_of KX hcd) (hb _ _ _ _ ?_)
 refine wpAny_newFunctionEnv_cells S.kind hkind fun env he s1 x=>?_
 subst he
 refine⟨lim.keeps x.toInCall.keep,codeAny_func ?_⟩
 obtain⟨t,ht,hq⟩:=hbody A outer s H vs Q E (hr.deeper _) hsp
 have I:Inv (zjw CX P w K mg base N qual scope f cdv A outer s H E) [] (start N vs) H s1:=zjx S hr.hd e0 hl r x
 refine cQ (ht [] s1 (start N vs) H _ I hq) (fun fl s' hs=>?_) fun e s' hs=>hs
 have fin:∀ {σ':St} {H':Hp} {v:V} {u:Value},Inv (zjw CX P w K mg base N qual scope f cdv A outer s H E) [] σ' H' s'→RelV v u→Q v H'→CE outer P w H s Q u s' :=
  fun {σ' H' v u} J rv q=>⟨v,H',J.os,J.bare,J.base,J.hok,rv,q⟩
 cases fl with
 | ret u =>
  obtain⟨v,σ',H',J,rv,q⟩:=hs
  exact fin J rv q
 | next =>
  obtain⟨σ',H',J,q⟩:=hs
  exact fin (v:=V.non) (u:=dz) J rfl q
 | brk =>
  obtain⟨_,_,_,q⟩:=hs
  exact dW q
 | cont =>
  obtain⟨_,_,_,q⟩:=hs
  exact dW q
section
variable {X:Cx} {x:Str} {p pos:Pos} {e:Expr} {es:List Expr} {t:TA} {id T:String} {r:List V→Hp→VK→Prop}
def tCB (r:List V→Hp→VK→Prop) (t:TA):TE:=fun σ H Q=>t σ H fun vs H1=>r vs H1 Q
theorem zA (hc:zbY X (.builtin id) r) (hg:Gl X x) (hm:X.mg x=none) (hv:bootBuiltins x=some (.builtin id)) (ha:PA X (e :: es) t) (hn:x≠"__name__":=by decide) (hdb:(x == ("__debug__" : Str))=false:=by decide)
  (he:starEach (e :: es) X.env=(false,eval e X.env) :: starEach es X.env:=by rfl) (hpl:(backTo pos (starEach es X.env)).any (·.1)=false:=by rfl):PE X (.Call (.Name x p) (e :: es) [] pos) (tCB r t):=by
 intro pins s σ H Q I h
 refine gD (zbp I hg hm hv ?_ hn hdb)
 exact PyProof.Rows.callWith_builtin1 (thn (ha pos pins s σ H _ I h) fun us s1 ⟨vs,H1,I1,r1,q1⟩=>hc pins s1 σ H1 vs us Q I1 r1 q1) he hpl
theorem zam (hc:zbY X (.type T) r) (hg:Gl X x) (hm:X.mg x=none) (hv:bootBuiltins x=some (.type T)) (ha:PA X (e :: es) t) (hn:x≠"__name__":=by decide) (hdb:(x == ("__debug__" : Str))=false:=by decide)
  (he:starEach (e :: es) X.env=(false,eval e X.env) :: starEach es X.env:=by rfl) (hpl:(backTo pos (starEach es X.env)).any (·.1)=false:=by rfl):PE X (.Call (.Name x p) (e :: es) [] pos) (tCB r t):=by
 intro pins s σ H Q I h
 refine gD (zbp I hg hm hv ?_ hn hdb)
 exact bv (thn (ha pos pins s σ H _ I h) fun us s1 ⟨vs,H1,I1,r1,q1⟩=>hc pins s1 σ H1 vs us Q I1 r1 q1) he hpl
end
end L2
namespace HT
open PySem PyProof.Rows
section
variable {prog:Program} {w:World} {A:Around} {E:Value→Shared→Prop} {s:Shared}
theorem cat_tup {t b:Addr} {vs ws:List Value} {Q:Value→Shared→Prop} (ht:IsTup s.heap t vs.toArray) (hb:IsTup s.heap b ws.toArray) (hv:vs≠[])
  (h1:ws = []→Q (.ref t) s) (h2:ws≠[]→Q (.ref s.heap.objs.size) { s with heap:=s.heap.push { cls:=.type "tuple",data:=.seq (vs++ws).toArray } })
  (hsz:vs.length+ws.length≤sizeLine):wpAny (model prog w) A (binaryOp .Add (.ref t) (.ref b)) Q E s:=by
 obtain⟨⟨cls,dd,data,sl⟩,ho,hc,n,hd⟩:=id ht
 obtain⟨⟨cls2,dd2,data2,sl2⟩,ho2,hc2,n2,hd2⟩:=id hb
 simp only at hc hd hc2 hd2
 subst hc hd hc2 hd2
 have e:vs.toArray++ws.toArray=(vs++ws).toArray:=by simp
 by_cases hw:ws = []
 ·exact jH ⟨_,ho,rfl⟩ ⟨_,ho2,rfl⟩ ij jo fY fR (fF _ _)
   (tuple_addW1 t b vs.toArray ws.toArray n n2 dd dd2 sl sl2 (by simpa using hv) (by simp [hw])) ⟨ho,ho2,h1 hw⟩
 ·refine jH ⟨_,ho,rfl⟩ ⟨_,ho2,rfl⟩ ij jo fY fR (fF _ _)
   (tuple_addW2 t b vs.toArray ws.toArray n n2 dd dd2 sl sl2 (by simpa using hv) (by simpa using hw) (by rw [ap,ap]; exact hsz)) ⟨ho,ho2,?_⟩
  rw [e]
  exact h2 hw
def sIx (n d:Nat):Option Int→Nat
 | none=>d
 | some v=>if v < 0 then (v+(n:Int)).toNat else min v.toNat n
theorem sIx_none (n d:Nat):sIx n d none=d:=rfl
theorem sIx_nat (n d k:Nat):sIx n d (some (k:Int))=min k n:=by
 show (if (k:Int) < 0 then ((k:Int)+(n:Int)).toNat else min (k:Int).toNat n)=min k n
 rw [if_neg (by lia),bf]
theorem zoi (n d:Nat) (hd:d≤n) (o:Option Int):sIx n d o≤n:=by
 cases o with
 | none=>exact hd
 | some v =>
  show (if v < 0 then (v+(n:Int)).toNat else min v.toNat n)≤n
  by_cases hv:v < 0
  ·rw [if_pos hv]; lia
  ·rw [if_neg hv]; exact Nat.min_le_right _ _
theorem zio (v:Int) (n d:Nat):(if v < 0 then max (v+(n:Int)) 0 else min v (n:Int))=((sIx n d (some v):Nat):Int):=by
 show (if v < 0 then max (v+(n:Int)) 0 else min v (n:Int))=(((if v < 0 then (v+(n:Int)).toNat else min v.toNat n):Nat):Int)
 by_cases hv:v < 0
 ·simp only [if_pos hv]; lia
 ·simp only [if_neg hv]; lia
theorem zhN (lo hi:Option Int) (n:Nat):fu lo hi 1 (n:Int)=(((sIx n 0 lo:Nat):Int),((sIx n n hi:Nat):Int)):=by
 have h1:¬ ((1:Int) < 0):=by lia
 unfold fu
 simp only [h1,if_false]
 refine j8 ?_ ?_
 ·cases lo with
  | none=>rfl
  | some v=>exact zio v n 0
 ·cases hi with
  | none=>rfl
  | some v=>exact zio v n n
theorem zhO (i j:Nat):dX (i:Int) (j:Int) 1=j - i:=by
 unfold dX
 have h1:(1:Int) > 0:=by lia
 simp only [h1,if_true,Int.ediv_one]
 split <;> lia
theorem zeh {v:Value} {o:Option Int} {Q:Option Int→Shared→Prop} (p:IsPart v o) (h:Q o s):wpAny (model prog w) A (Builtin.Slice.slicePartIndex v) Q E s:=by
 cases p with
 | none=>exact slicePart_none h
 | int i t=>exact slicePart_int h
theorem zbZ {sl:Addr} {vl vu:Value} {lo hi:Option Int} {n:Nat} {Q:Int×Int×Nat→Shared→Prop} (hs:s.heap.IsSliceOf sl vl vu .none) (pl:IsPart vl lo) (pu:IsPart vu hi)
  (h:Q (((sIx n 0 lo:Nat):Int),1,sIx n n hi - sIx n 0 lo) s):wpAny (model prog w) A (gL (.ref sl) (pure (n:Int))) Q E s:=by
 obtain⟨os,hos,hcs,hds⟩:=id hs
 unfold gL Builtin.Slice.sliceFields
 refine ae (ae (bw hos hds (x:=vl) rfl (ae (bw hos hds (x:=vu) rfl (ae (bw hos hds (x:=.none) rfl (am ?_)))))))
 refine ae (slicePart_none ?_)
 show wpAny _ _ (if ((1:Int) == 0)=true then _ else _) _ _ s
 rw [if_neg (by decide)]
 refine ae (zeh pl (ae (zeh pu (ae (am ?_)))))
 show wpAny _ _ (match fu lo hi 1 (n:Int) with | (lo,hi)=>pure (lo,(1:Int),dX lo hi 1)) _ _ s
 rw [zhN lo hi n]
 show wpAny _ _ (pure (((sIx n 0 lo:Nat):Int),(1:Int),dX ((sIx n 0 lo:Nat):Int) ((sIx n n hi:Nat):Int) 1)) _ _ s
 rw [zhO]
 exact am h
theorem zkz (xs:Array Value) (i k:Nat):((aH k).filterMap fun (m:Nat)=>xs[((i:Int)+(m:Int)*1).toNat]?).toArray=((xs.toList.drop i).take k).toArray:=by
 have e:(fun (m:Nat)=>xs[((i:Int)+(m:Int)*1).toNat]?)=fun m=>xs[i+m]?:=by
  funext m
  have:((i:Int)+(m:Int)*1).toNat=i+m:=by lia
  rw [this]
 rw [e]
 have:=pick_run xs i k
 rw [jI] at this
 have e2:((fun x=>xs[x]?) ∘ fun x=>i+x)=fun m=>xs[i+m]?:=rfl
 rw [e2] at this
 rw [this]
theorem getItem_tuple_cut {t sl:Addr} {items:Array Value} {vl vu:Value} {lo hi:Option Int} {Q:Value→Shared→Prop} (ht:IsTup s.heap t items) (hs:s.heap.IsSliceOf sl vl vu .none) (pl:IsPart vl lo) (pu:IsPart vu hi)
  (hw:¬ (sIx items.size 0 lo=0∧sIx items.size items.size hi=items.size))
  (h:Q (.ref s.heap.objs.size) { s with heap:=s.heap.push { cls:=.type "tuple",data:=.seq ((items.toList.drop (sIx items.size 0 lo)).take (sIx items.size items.size hi - sIx items.size 0 lo)).toArray } })
  (hsz:items.size≤sizeLine):wpAny (model prog w) A (getItem (.ref t) (.ref sl)) Q E s:=by
 have htake:sizeOk (.seq ((items.toList.drop (sIx items.size 0 lo)).take (sIx items.size items.size hi - sIx items.size 0 lo)).toArray):=by
  show ((items.toList.drop (sIx items.size 0 lo)).take (sIx items.size items.size hi - sIx items.size 0 lo)).toArray.size≤sizeLine
  rw [ap,aD,bZ,bC]
  lia
 have hj:sIx items.size items.size hi≤items.size:=zoi _ _ (ag _) hi
 obtain⟨os,hos,hcs,hds⟩:=id hs
 have hTs:s.TypeIs (.ref sl) "slice":=⟨os,hos,hcs⟩
 unfold getItem
 try with_reducible refine bV ?_
 first | refine ae (am ?_) | skip
 refine ae (wpAny_sequenceKey ht.typeIs (by decide) ?_)
 refine ae (bo (name:=bS "__getitem__") ht.typeIs c9
  (bz c9 ht.typeIs jw ?_ (jJ _ _)))
 show wpAny _ _ (gM (.ref t) >>= _) _ _ s
 refine ae (tupleItemsOf_ ht ?_)
 refine ae (fG hTs ?_)
 rw [if_pos (by decide)]
 refine ae (zbZ hs pl pu ?_)
 have hno:¬ ((((sIx items.size 0 lo:Nat):Int) == 0 && (1:Int) == 1 && (sIx items.size items.size hi - sIx items.size 0 lo) == items.size)=true):=by
  intro q
  rw [fb,fb] at q
  have q1:((sIx items.size 0 lo:Nat):Int)=0:=eq_of_beq q.1.1
  have q2:sIx items.size items.size hi - sIx items.size 0 lo=items.size:=eq_of_beq q.2
  exact hw ⟨by lia,by lia⟩
 show wpAny _ _ (if (((sIx items.size 0 lo:Nat):Int) == 0 && (1:Int) == 1 && (sIx items.size items.size hi - sIx items.size 0 lo) == items.size)=true then _ else _) _ _ s
 rw [if_neg hno,zkz]
 first
  | exact ae (m:=d7 _) (bQ (am ⟨_,rfl,am h⟩) htake)
  | exact ae (m:=d7 _) (bQ (ae (am (am ⟨_,rfl,am h⟩))) htake)
  | exact ae (ae (m:=d7 _) (bQ (am (am ⟨_,rfl,am h⟩)) htake))
  | exact ae (ae (m:=d7 _) (bQ (am ⟨_,rfl,am h⟩) htake))
end
end HT
namespace L2
open PySem PySem.Spec PyProof.Rows
abbrev TO:=St→Hp→(Option Int→Hp→Prop)→Prop
def PO (X:Cx) (e:Option Expr) (t:TO):Prop :=
 ∀ (pins:List (Addr×Obj)) (s:Shared) (σ:St) (H:Hp) (Q:Option Int→Hp→Prop),Inv X pins σ H s→t σ H Q →
  wpAny (model X.prog X.w) X.A (evalPart e X.env) (fun u s'=>∃ o H',Inv X pins σ H' s'∧IsPart u o∧Q o H') X.xe s
def zmz:TO:=fun _ H Q=>Q none H
def zpi (t:TE):TO:=fun σ H Q=>t σ H fun x H1=>∃ i,x = .int i∧Q (some i) H1
theorem intsAre_of {ns:List Int}:∀ {us:List Value},zJ (ns.map V.int) us→IntsAre us ns:=by
 induction ns with
 | nil=>intro us r; rw [fH] at r; cases r; exact .nil
 | cons n ns ih =>
  intro us r
  rw [aS] at r
  cases r with
  | cons r1 r2 =>
   obtain⟨t,e⟩:=r1
   subst e
   exact .cons n t (ih r2)
section
variable {X:Cx} {e:Expr} {te:TE} {lo hi:Option Expr} {tl th:TO} {pos p2:Pos}
theorem zbJ:PO X none zmz:=by
 intro pins s σ H Q I h
 rw [evalPart_none]
 exact am ⟨none,H,I,.none,h⟩
theorem zbf (h:PE X e te):PO X (some e) (zpi te):=by
 intro pins s σ H Q I hw
 rw [evalPart_some]
 refine thn (h pins s σ H _ I hw) fun u s1 ⟨x,H1,I1,r1,q1⟩=>?_
 obtain⟨i,rfl,q⟩:=q1
 obtain⟨t,rfl⟩:=r1
 exact⟨some i,H1,I1,.int i t,q⟩
def SlR (X:Cx) (r:V→Option Int→Option Int→Hp→VK→Prop):Prop :=
 ∀ (pins:List (Addr×Obj)) (s:Shared) (σ:St) (H:Hp) (x:V) (v vl vu:Value) (lo hi:Option Int) (sl:Addr) (Q:VK),Inv X pins σ H s→RelV x v→s.heap.IsSliceOf sl vl vu .none→IsPart vl lo→IsPart vu hi→r x lo hi H Q →
  ∃ T id,typeLookup (.type T) "__getitem__" = pure (some (.builtin id))∧s.TypeIs v T∧wpAny (model X.prog X.w) X.A (getItem v (.ref sl)) (EP X pins σ Q) X.xe s
def tSl (r:V→Option Int→Option Int→Hp→VK→Prop) (te:TE) (tl th:TO):TE:=fun σ H Q=>te σ H fun x H1=>tl σ H1 fun l H2=>th σ H2 fun u H3=>r x l u H3 Q
theorem za3 {r:V→Option Int→Option Int→Hp→VK→Prop} (hr:SlR X r) (he:PE X e te) (hl:PO X lo tl) (hu:PO X hi th):PE X (.Subscript e (.Slice lo hi none p2) pos) (tSl r te tl th):=by
 intro pins s σ H Q I h
 refine Subscript_ (thn (he pins s σ H _ I h) fun v s1 ⟨x,H1,I1,r1,q1⟩=>?_)
 refine wpAny_Slice (thn (hl pins s1 σ H1 _ I1 q1) fun vl s2 ⟨l,H2,I2,pl,q2⟩=>thn (hu pins s2 σ H2 _ I2 q2) fun vu s3 ⟨u,H3,I3,pu,q3⟩=>?_)
 rw [evalPart_none]
 refine am ?_
 have I4:Inv X pins σ H3 { s3 with heap:=s3.heap.push { cls:=.type "slice",data:=.fields #[vl,vu,.none] } }:=I3.kept (t':=s3.toks) fun b ob q=>ak _ q
 obtain⟨T,id,hT,ht,hg⟩:=hr pins { s3 with heap:=s3.heap.push { cls:=.type "slice",data:=.fields #[vl,vu,.none] } } σ H3 x v vl vu l u s3.heap.objs.size Q I4 r1 (Heap.IsSliceOf.new ..) pl pu q3
 show wpAny (model X.prog X.w) X.A (subscriptTail e (.Slice lo hi none p2) v (.ref s3.heap.objs.size)) (EP X pins σ Q) X.xe { s3 with heap:=s3.heap.push { cls:=.type "slice",data:=.fields #[vl,vu,.none] } }
 exact tail_any (ops:=[.ref s3.heap.objs.size,v]) ht hT hg (by with_unfolding_all rfl)
def za1 (xs:List V) (lo hi:Option Int):List V:=(xs.drop (HT.sIx xs.length 0 lo)).take (HT.sIx xs.length xs.length hi - HT.sIx xs.length 0 lo)
theorem zdC (xs:List V) (lo hi:Option Int):(za1 xs lo hi).length≤xs.length:=by
 unfold za1
 rw [aD,bZ]
 lia
def zpU (K:ai):V→Option Int→Option Int→Hp→VK→Prop:=fun x lo hi H Q=>∃ a xs,x = .ref a∧SqT K H a xs ∧
 ¬ (HT.sIx xs.length 0 lo=0∧HT.sIx xs.length xs.length hi=xs.length)∧∀ p,H p=none→Q (.ref p) (upd H p (.tup (za1 xs lo hi)))
theorem zkA:SlR X (zpU X.K):=by
 intro pins s σ H x v vl vu lo hi sl Q I rx hs pl pu h
 obtain⟨a,xs,rfl,hx,hw,q⟩:=h
 cases rx
 obtain⟨its,r,ht,hz⟩:=I.tuple hx
 have hlen:its.toArray.size=xs.length:=by rw [ap]; exact r.length.symm
 refine⟨"tuple",_,PyProof.Rows.slot_tuple_getitem.lookup,ht.typeIs,?_⟩
 refine HT.getItem_tuple_cut ht hs pl pu (by rw [hlen]; exact hw) ?_ (by rw [hlen]; exact hz)
 rw [hlen]
 refine⟨.ref s.heap.objs.size,_,I.laid (t':=s.toks) (o:=.tup (za1 xs lo hi)) (fun b ob q=>ak _ q) (ag _) ?_,rfl,q _ (I.hok.fresh (ag _))⟩
 exact⟨aZ (zdC xs lo hi) hz,_,(r.drop (HT.sIx xs.length 0 lo)).take (HT.sIx xs.length xs.length hi - HT.sIx xs.length 0 lo),iD _ _⟩
def zpj (K:ai):R2:=fun x y H Q=>∃ a b xs ys,x = .ref a∧y = .ref b∧SqT K H a xs∧SqT K H b ys∧xs≠[]∧xs.length+ys.length≤sizeLine ∧
 (ys = []→Q (.ref a) H)∧(ys≠[]→∀ p,H p=none→Q (.ref p) (upd H p (.tup (xs++ys))))
theorem zJ.nil_iff {xs:List V} {us:List Value} (r:zJ xs us):us = []↔xs = []:=by
 cases r with
 | nil=>simp
 | cons _ _=>simp
theorem zmA:OpR X (binaryOp .Add) (zpj X.K):=by
 intro pins s σ H x y v u Q I rx ry h
 obtain⟨a,b,xs,ys,rfl,rfl,ha,hb,hx,hz,q1,q2⟩:=h
 cases rx
 cases ry
 obtain⟨its,r1,p1,_⟩:=I.tuple ha
 obtain⟨its2,r2,p2,_⟩:=I.tuple hb
 refine HT.cat_tup p1 p2 (fun z=>hx (r1.nil_iff.mp z)) (fun z=>⟨.ref a,H,I,rfl,q1 (r2.nil_iff.mp z)⟩) (fun z=>?_) (by rw [← r1.length,← r2.length]; exact hz)
 refine⟨.ref s.heap.objs.size,_,I.laid (t':=s.toks) (o:=.tup (xs++ys)) (fun b ob q=>ak _ q) (ag _) ?_,rfl,q2 (fun w=>z (r2.nil_iff.mpr w)) _ (I.hok.fresh (ag _))⟩
 exact⟨by rw [ao]; exact hz,_,r1.append r2,iD _ _⟩
end
def ixN (n:Nat) (i:Int):Option Nat:=if 0≤i then (if i < n then some i.toNat else none) else if -(n:Int)≤i then some (i+n).toNat else none
def atI {α:Type} (xs:List α) (i:Int):Option α:=(ixN xs.length i).bind fun j=>xs[j]?
theorem ziq {n:Nat} {i:Int} {j:Nat} (h:ixN n i=some j):seqIndex? i n=some j∧j < n∧-(n:Int)≤i∧i < n:=by
 unfold ixN at h
 by_cases h0:0≤i
 ·rw [if_pos h0] at h
  by_cases h1:i < n
  ·rw [if_pos h1] at h
   have e:i.toNat=j:=aP h
   exact⟨by rw [fZ h0 h1,e],by lia,by lia,h1⟩
  ·rw [if_neg h1] at h; cases h
 ·rw [if_neg h0] at h
  by_cases h1:-(n:Int)≤i
  ·rw [if_pos h1] at h
   have e:(i+n).toNat=j:=aP h
   exact⟨by rw [jK (by lia) h1,e],by lia,h1,by lia⟩
  ·rw [if_neg h1] at h; cases h
theorem zir {α:Type} {xs:List α} {i:Int} {v:α} (h:atI xs i=some v):∃ j,seqIndex? i xs.length=some j∧xs[j]? = some v∧j < xs.length∧-(xs.length:Int)≤i∧i < xs.length:=by
 unfold atI at h
 cases e:ixN xs.length i with
 | none=>rw [e] at h; cases h
 | some j =>
  rw [e] at h
  obtain⟨h1,h2,h3,h4⟩:=ziq e
  exact⟨j,h1,h,h2,h3,h4⟩
theorem zaG {α:Type} {xs:List α} {j:Nat} {v:α} (h:xs[j]? = some v):atI xs (j:Int)=some v:=by
 have hj:j < xs.length:=(aA.mp h).1
 have e:ixN xs.length (j:Int)=some j:=by
  unfold ixN
  rw [if_pos (by lia),if_pos (by lia)]; simp
 unfold atI; rw [e]; exact h
def zmB (b:Expr):Prop:=∀ o i,subscripted b false o i=operate [o,i] (getItem o i)
def IxR (X:Cx) (r:R2):Prop :=
 ∀ (value slice:Expr) (pins:List (Addr×Obj)) (s:Shared) (σ:St) (H:Hp) (x y:V) (v u:Value) (Q:VK),Inv X pins σ H s→RelV x v→RelV y u→r x y H Q →
  subscripted slice false v u=operate [v,u] (getItem v u)→wpAny (model X.prog X.w) X.A (subscriptTail value slice v u) (EP X pins σ Q) X.xe s
def MtR (X:Cx) (id:String) (r:V→List V→Hp→VK→Prop):Prop :=
 ∀ (pins:List (Addr×Obj)) (s:Shared) (σ:St) (H:Hp) (x:V) (xs:List V) (v:Value) (us:List Value) (Q:VK),Inv X pins σ H s→RelV x v→zJ xs us→r x xs H Q →
  wpAny (model X.prog X.w) X.A (call (.builtin id) (v :: us)) (EP X pins σ Q) X.xe s
section
variable {X:Cx} {a b:Expr} {ta tb:TE} {pos:Pos}
theorem zH {r:R2} (hr:IxR X r) (ha:PE X a ta) (hb:PE X b tb) (hs:zmB b):PE X (.Subscript a b pos) (tOp r ta tb):=by
 intro pins s σ H Q I h
 exact Subscript_ (zpc ha hb I h fun v u s2 x y H2 I2 rx ry q=>hr a b pins s2 σ H2 x y v u Q I2 rx ry q (hs _ _))
def zpk (K:ai):R2:=fun x y H Q=>∃ p xs i v,x = .ref p∧y = .int i∧SqL K H p xs∧atI xs i=some v∧Q v H
def zpl (K:ai):R2:=fun x y H Q=>∃ p xs i v,x = .ref p∧y = .int i∧SqT K H p xs∧atI xs i=some v∧Q v H
theorem zD:IxR X (zpk X.K):=by
 intro value slice pins s σ H x y v u Q I rx ry h hs
 obtain⟨p,xs,i,z,rfl,rfl,hq,he,q⟩:=h
 cases rx
 obtain⟨t,rfl⟩:=ry
 obtain⟨its,r,pl,hz⟩:=I.list hq
 obtain⟨j,h1,h2,h3,h4,h5⟩:=zir he
 obtain⟨w,ew,rw'⟩:=r.get h2
 have hl:=r.length
 have hn:=zeg
 have fin:EP X pins σ Q w s:=⟨z,H,I,rw',q⟩
 by_cases h0:0≤i
 ·have hj:i.toNat=j:=by
   rw [fZ h0 h5] at h1
   exact aP h1
  exact item_listR pl.isList h0 (by lia) (by rw [hj]; simpa using ew) fin hs
 ·have hj:(i+(its.toArray.size:Int)).toNat=j:=by
   rw [jK (by lia) h4] at h1
   rw [ap,← hl]
   exact aP h1
  exact iQ (x:=w) pl.isList.typeIs slot_list_getitem.lookup
   (wpAny_getItem_list_neg (Q:=fun r s'=>r=w∧EP X pins σ Q r s') pl.isList (by lia) (by rw [ap] <;> lia) (by lia) (by rw [hj]; simpa using ew) ⟨rfl,fin⟩) hs
theorem zb9:IxR X (zpl X.K):=by
 intro value slice pins s σ H x y v u Q I rx ry h hs
 obtain⟨p,xs,i,z,rfl,rfl,hq,he,q⟩:=h
 cases rx
 obtain⟨t,rfl⟩:=ry
 obtain⟨its,r,pl,hz⟩:=I.tuple hq
 obtain⟨j,h1,h2,h3,h4,h5⟩:=zir he
 obtain⟨w,ew,rw'⟩:=r.get h2
 have hl:=r.length
 have hn:=zeg
 have fin:EP X pins σ Q w s:=⟨z,H,I,rw',q⟩
 exact iQ (x:=w) pl.typeIs slot_tuple_getitem.lookup
  (getItem_tuple (j:=j) (Q:=fun r s'=>r=w∧EP X pins σ Q r s') pl (by lia) (by lia) (by rw [ap,← hl]; exact h1) (by simpa using ew) ⟨rfl,fin⟩) hs
theorem zhP (its:List Value) (n j:Nat) (u:Value):de (·.setIfInBounds j u) { cls:=.type "list",data:=.seq its.toArray n } = { cls:=.type "list",data:=.seq (its.set j u).toArray n }:=by
 simp [de]
theorem Inv.lst {pins:List (Addr×Obj)} {σ:St} {H:Hp} {s:Shared} {p:Addr} {xs:List V} (I:Inv X pins σ H s) (h:H p=some (.lst xs)) :
  ∃ (its:List Value) (n:Nat),zJ xs its∧s.heap.get? p=some { cls:=.type "list",data:=.seq its.toArray n }∧xs.length≤sizeLine:=by
 obtain⟨z,its,n,r,e⟩:=I.hok p _ h
 exact⟨its,n,r,e,z⟩
theorem Inv.lstUpd {pins:List (Addr×Obj)} {σ:St} {H:Hp} {s:Shared} {p:Addr} {xs ys:List V} {its its':List Value} {n n':Nat} {f:Obj→Obj} (I:Inv X pins σ H s) (h:H p=some (.lst xs))
  (ho:s.heap.get? p=some { cls:=.type "list",data:=.seq its.toArray n }) (hf:f { cls:=.type "list",data:=.seq its.toArray n } = { cls:=.type "list",data:=.seq its'.toArray n' }) (r:zJ ys its') (hz:ys.length≤sizeLine) (t:Nat) :
  Inv X pins σ (upd H p (.lst ys)) { s with heap:=s.heap.update p f,toks:=t }:=by
 have e:(s.heap.update p f).get? p=some { cls:=.type "list",data:=.seq its'.toArray n' }:=by
  rw [dM f ho (by rw [hf] <;> rfl),hf]
 refine I.write (x:=p) (e:=p) (by rw [h]; trivial) (.inl rfl) (fun b u hb q=>(f6 _ _ (dZ hb)).trans q) ⟨_,e⟩ ?_
 exact⟨hz,its',n',r,e⟩
def zpm:V→V→V→Hp→(Hp→Prop)→Prop:=fun o i v H Q=>∃ p xs k j,o = .ref p∧i = .int k∧H p=some (.lst xs)∧ixN xs.length k=some j∧Q (upd H p (.lst (xs.set j v)))
theorem set_list:zo7 X zpm:=by
 intro pins s σ H o i v ov iv u Q I ro ri rv h
 obtain⟨p,xs,k,j,rfl,rfl,hp,hj,q⟩:=h
 cases ro
 obtain⟨t,rfl⟩:=ri
 obtain⟨its,n,r,ho,hz⟩:=I.lst hp
 obtain⟨h1,h2,h3,h4⟩:=ziq hj
 have hl:=r.length
 have hn:=zeg
 have I':Inv X pins σ (upd H p (.lst (xs.set j v))) { s with heap:=s.heap.update p (de (·.setIfInBounds j u)) } :=
  I.lstUpd hp ho (zhP its n j u) (r.set rv j) (by rw [iE]; exact hz) s.toks
 by_cases h0:0≤k
 ·have hk:k.toNat=j:=by
   rw [fZ h0 h4] at h1
   exact aP h1
  exact PySem.W.ki_setAt ho h0 (by lia) (by rw [ap,← hl]; exact h4) (by rw [hk]; exact⟨_,I',q⟩)
 ·have hk:(k+(its.toArray.size:Int)).toNat=j:=by
   rw [jK (by lia) h3] at h1
   rw [ap,← hl]
   exact aP h1
  exact PySem.W.ki_setBack ho (by lia) (by rw [ap,← hl]; exact h3) (by lia) (by rw [hk]; exact⟨_,I',q⟩)
theorem zfQ (lo hi:Option Int) (n:Nat):(sliceBounds lo hi none n).1=((HT.sIx n 0 lo:Nat):Int)∧(sliceBounds lo hi none n).2.1=((HT.sIx n n hi:Nat):Int)∧(sliceBounds lo hi none n).2.2=1:=by
 refine⟨?_,?_,rfl⟩
 ·cases lo with
  | none=>simp [sliceBounds,HT.sIx]
  | some i =>
   simp only [sliceBounds,HT.sIx,j9,show (1:Int) > 0 by decide,if_true]
   by_cases h:i < 0
   ·simp only [h,if_true] <;> lia
   ·simp only [h,if_false] <;> lia
 ·cases hi with
  | none=>simp [sliceBounds,HT.sIx]
  | some i =>
   simp only [sliceBounds,HT.sIx,j9,show (1:Int) > 0 by decide,if_true]
   by_cases h:i < 0
   ·simp only [h,if_true] <;> lia
   ·simp only [h,if_false] <;> lia
theorem ze1 (its:List Value) (lo hi:Option Int):slicePick its.toArray lo hi none=((its.drop (HT.sIx its.length 0 lo)).take (HT.sIx its.length its.length hi - HT.sIx its.length 0 lo)).toArray:=by
 obtain⟨h1,h2,h3⟩:=zfQ lo hi its.toArray.size
 unfold slicePick
 rw [h1,h2,h3]
 simp only [sliceRange_one,pick_run,ap] <;> rfl
def zpn (K:ai):V→Option Int→Option Int→Hp→VK→Prop:=fun x lo hi H Q=>∃ a xs,x = .ref a∧SqL K H a xs∧∀ p,H p=none→Q (.ref p) (upd H p (.lst (za1 xs lo hi)))
theorem zca:SlR X (zpn X.K):=by
 intro pins s σ H x v vl vu lo hi sl Q I rx hs pl pu h
 obtain⟨a,xs,rfl,hx,q⟩:=h
 cases rx
 obtain⟨its,r,ht,hz⟩:=I.list hx
 have hlen:=r.length
 refine⟨"list",_,slot_list_getitem.lookup,ht.isList.typeIs,?_⟩
 refine wpAny_getItem_list_slice ht.isList hs pl pu .none (by simp) ?_ (by rw [ap] <;> lia)
 rw [ze1,← hlen]
 refine⟨.ref s.heap.objs.size,_,I.laid (t':=s.toks) (o:=.lst (za1 xs lo hi)) (fun b ob q=>ak _ q) (ag _) ?_,rfl,q _ (I.hok.fresh (ag _))⟩
 exact⟨aZ (zdC xs lo hi) hz,_,0,(r.drop (HT.sIx xs.length 0 lo)).take (HT.sIx xs.length xs.length hi - HT.sIx xs.length 0 lo),aL _ rfl⟩
def zfo:V→Bool
 | .non=>true
 | .bl _=>true
 | .int _=>true
 | .str _=>true
 | _=>false
def eqV:V→V→Bool
 | .non,.non=>true
 | .bl a,.bl b=>a == b
 | .bl a,.int b=>(if a then 1 else 0) == b
 | .int a,.bl b=>a == (if b then 1 else 0)
 | .int a,.int b=>a == b
 | .str a,.str b=>a == b
 | _,_=>false
theorem zoj {A:Around} {s:Shared} {y x:V} {u v:Value} (ry:RelV y u) (rx:RelV x v) (fy:zfo y=true) (fx:zfo x=true):SeqAt.EqAt A s u v (eqV y x):=by
 cases y with
 | non =>
  cases ry
  cases x with
  | non=>cases rx; exact ku _
  | bl b=>cases rx; exact SeqAt.EqAt.none_bool b
  | int b=>obtain⟨t,rfl⟩:=rx; exact SeqAt.EqAt.none_int b t
  | str b=>obtain⟨t,rfl⟩:=rx; exact SeqAt.EqAt.none_str b t
  | _=>exact absurd (show false=true from fx) aO
 | bl a =>
  cases ry
  cases x with
  | non=>cases rx; exact SeqAt.EqAt.bool_none a
  | bl b=>cases rx; exact SeqAt.EqAt.bool_bool a b
  | int b=>obtain⟨t,rfl⟩:=rx; exact SeqAt.EqAt.bool_int a b t
  | str b=>obtain⟨t,rfl⟩:=rx; exact SeqAt.EqAt.bool_str a b t
  | _=>exact absurd (show false=true from fx) aO
 | int a =>
  obtain⟨t',rfl⟩:=ry
  cases x with
  | non=>cases rx; exact SeqAt.EqAt.int_none a t'
  | bl b=>cases rx; exact SeqAt.EqAt.int_bool a t' b
  | int b=>obtain⟨t,rfl⟩:=rx; exact SeqAt.EqAt.int_int a t' b t
  | str b=>obtain⟨t,rfl⟩:=rx; exact jD a t' b t
  | _=>exact absurd (show false=true from fx) aO
 | str a =>
  obtain⟨t',rfl⟩:=ry
  cases x with
  | non=>cases rx; exact SeqAt.EqAt.str_none a t'
  | bl b=>cases rx; exact SeqAt.EqAt.str_bool a t' b
  | int b=>obtain⟨t,rfl⟩:=rx; exact jE a t' b t
  | str b=>obtain⟨t,rfl⟩:=rx; exact SeqAt.EqAt.str_str a t' b t
  | _=>exact absurd (show false=true from fx) aO
 | _=>exact absurd (show false=true from fy) aO
theorem zI:zbY X (.builtin "len") (fun xs H Q=>∃ p ys,xs = [.ref p]∧(SqL X.K H p ys∨SqT X.K H p ys)∧Q (.int ys.length) H):=by
 intro pins s σ H xs us Q I r h
 obtain⟨p,ys,rfl,hq,q⟩:=h
 obtain⟨u,rfl,rx⟩:=vals1 r
 cases rx
 have hn:=zeg
 rcases hq with hq | hq
 ·obtain⟨its,r',pl,hz⟩:=I.list hq
  have hlen:=r'.length
  exact Calls.call_len_list pl.isList (by simp only [ap] <;> lia) ⟨.int ys.length,H,I.tok _,⟨s.toks+1,by rw [ap,hlen]⟩,q⟩
 ·obtain⟨its,r',pl,hz⟩:=I.tuple hq
  have hlen:=r'.length
  exact len_tuple pl (by simp only [ap] <;> lia) ⟨.int ys.length,H,I.tok _,⟨s.toks+1,by rw [ap,hlen]⟩,q⟩
theorem zah:zbY X (.type "tuple") (fun xs H Q=>∃ p ys,xs = [.ref p]∧((SqL X.K H p ys∧∀ l,H l=none→Q (.ref l) (upd H l (.tup ys)))∨(SqT X.K H p ys∧Q (.ref p) H))):=by
 intro pins s σ H xs us Q I r h
 obtain⟨p,ys,rfl,h⟩:=h
 obtain⟨u,rfl,rx⟩:=vals1 r
 cases rx
 rcases h with ⟨hq,q⟩ | ⟨hq,q⟩
 ·obtain⟨its,r',pl,hz⟩:=I.list hq
  have hlen:=r'.length
  refine call_tuple_list pl.isList (fun h' kp=>?_) (by simp only [ap] <;> lia)
  have I1:Inv X pins σ H { s with heap:=h' }:=I.kept (t':=s.toks) kp
  have I2:Inv X pins σ (upd H h'.objs.size (.tup ys)) { s with heap:=h'.push { cls:=.type "tuple",data:=.seq its.toArray } } :=
   I1.laid (t':=s.toks) (fun b o e=>ak _ e) (ag _) (show zas X.prog X.w _ _ _ (.tup ys) from ⟨hz,its,r',iD _ _⟩)
  exact⟨.ref h'.objs.size,_,I2,rfl,q _ (I1.hok.fresh (ag _))⟩
 ·obtain⟨its,r',pl,hz⟩:=I.tuple hq
  exact call_tuple_same pl ⟨.ref p,H,I,rfl,q⟩
def tyV (K:ai) (T:String) (x:V) (H:Hp):Prop:=match x with
 | .str _=>T = "str"
 | .int _=>T = "int"
 | .ref p=>(T = "list"∧∃ xs,SqL K H p xs)∨(T = "tuple"∧∃ o,K.lookup p=some o∧o.cls = .type "tuple"∧o.dict=none) ∨
   (T = "dict"∧((∃ kvs,H p=some (.dK kvs))∨∃ kvs,H p=some (.dT kvs)))∨(T = "set"∧∃ S n,H p=some (.set S n))
 | _=>False
theorem zok {pins:List (Addr×Obj)} {σ:St} {H:Hp} {s:Shared} {T:String} {x:V} {v:Value} (I:Inv X pins σ H s) (r:RelV x v) (ty:tyV X.K T x H) :
  s.TypeIs v T∧∀ a,v = .ref a→∃ ob,s.heap.get? a=some ob∧ob.dict=none:=by
 cases x with
 | str z =>
  obtain⟨t,rfl⟩:=r
  cases (show T = "str" from ty)
  exact⟨typeIs_str s z t,fun _ e=>nomatch e⟩
 | int i =>
  obtain⟨t,rfl⟩:=r
  cases (show T = "int" from ty)
  exact⟨h9 s i t,fun _ e=>nomatch e⟩
 | ref p =>
  cases r
  rcases ty with ⟨rfl,xs,hq⟩ | ⟨rfl,o,hk,hc,hd⟩ | ⟨rfl,hk⟩ | ⟨rfl,S,n,hk⟩
  ·obtain⟨its,_,pl,_⟩:=I.list hq
   refine⟨pl.isList.typeIs,fun a e=>?_⟩
   cases e
   obtain⟨o,n,e,c,hd,_⟩:=pl
   exact⟨o,e,hd⟩
  ·refine⟨⟨o,I.kIn p o hk,hc⟩,fun a e=>?_⟩
   cases e
   exact⟨o,I.kIn _ o hk,hd⟩
  ·have z:∃ o,s.heap.get? p=some o∧o.ExactDict:=by
    rcases hk with ⟨kvs,hk⟩ | ⟨kvs,hk⟩
    ·obtain⟨_,_,_,_,o,_,_,e,ex,_⟩:=I.hok p _ hk
     exact⟨o,e,ex⟩
    ·obtain⟨_,_,_,_,o,_,_,e,ex,_⟩:=I.hok p _ hk
     exact⟨o,e,ex⟩
   obtain⟨o,e,ex⟩:=z
   refine⟨⟨o,e,ex.1⟩,fun a e2=>?_⟩
   cases e2
   exact⟨o,e,ex.2.1⟩
  ·obtain⟨o,_,_,_,e,ex,_⟩:=I.hok p _ hk
   refine⟨⟨o,e,ex.1⟩,fun a e2=>?_⟩
   cases e2
   exact⟨o,e,ex.2.1⟩
 | _=>exact dW ty
def tBM (K:ai) (T:String) (r:V→List V→Hp→VK→Prop) (to:TE) (t:TA):TE:=fun σ H Q=>to σ H fun x H1=>tyV K T x H1∧t σ H1 fun xs H2=>r x xs H2 Q
variable {o e:Expr} {es:List Expr} {to:TE} {t:TA} {name:Str} {apos cpos:Pos} {T id:String} {r:V→List V→Hp→VK→Prop}
theorem zfp (pa:PlainAttrs T) (slot:Slot T name id) (hty:typeOf (.builtin id)=pure (.type "method_descriptor")) (hm:MtR X id r) (ho:PE X o to) (ha:PA X (e :: es) t)
  (hbase:attributeBase o name X.env (eval o X.env)=eval o X.env:=by rfl)
  (hfew:((backTo cpos (starEach (e :: es) X.env)).all (fun x=>!x.1) && (backToKw cpos (keywordEach [] X.env)).all (fun x=>x.1.isSome)
   && decide ((e :: es).length+([]:List Keyword).length+(if ([]:List Keyword).isEmpty then 0 else 1) < 30))=true:=by rfl)
  (hline:(apos.endLine == cpos.line)=true:=by rfl) (hs:starEach (e :: es) X.env=(false,eval e X.env) :: starEach es X.env:=by rfl) (hplain:(backTo cpos (starEach es X.env)).any (·.1)=false:=by rfl) :
  PE X (.Call (.Attribute o name apos) (e :: es) [] cpos) (tBM X.K T r to t):=by
 intro pins s σ H Q I h
 refine wpAny_Call_method_late hbase hfew hline rfl (thn (ho pins s σ H _ I h) fun v s1 ⟨x,H1,I1,r1,ty,q1⟩=>?_)
 obtain⟨h1,h2⟩:=zok I1 r1 ty
 refine⟨T,id,pa,slot,hty,h1,h2,?_⟩
 have hA:=ha cpos pins s1 σ H1 _ I1 q1
 rw [hs] at hA ⊢
 refine iR (by show (false || (backTo cpos (starEach es X.env)).any (·.1))=false; rw [hplain] <;> rfl) (jf ?_)
 exact thn hA fun us s2 ⟨vs,H2,I2,r2,q2⟩=>hm pins s2 σ H2 x vs v us Q I2 r1 r2 q2
end
def MtM (X:Cx) (id:String) (r:V→List V→Hp→VK→Prop):Prop :=
 ∀ (pins:List (Addr×Obj)) (s:Shared) (σ:St) (H:Hp) (x:V) (xs:List V) (v:Value) (us:List Value) (Q:VK),Inv X pins σ H s→RelV x v→zJ xs us→r x xs H Q →
  wpAny (model X.prog X.w) X.A (call (.builtin id) (v :: us)) (EP X pins σ Q) X.xe s
theorem zJ.one:∀ {x:V} {us:List Value},zJ [x] us→∃ u,us = [u]∧RelV x u
 | _,_,.cons r .nil=>⟨_,rfl,r⟩
theorem zJ.eraseIdx:∀ {xs:List V} {us:List Value} (i:Nat),zJ xs us→zJ (xs.eraseIdx i) (us.eraseIdx i)
 | _,_,_,.nil=>.nil
 | _,_,0,.cons _ t=>t
 | _,_,i+1,.cons r t=>.cons r (zJ.eraseIdx i t)
theorem zJ.rep {xs:List V} {us:List Value} (h:zJ xs us):∀ k:Nat,zJ (aw k xs).flatten (aw k us).flatten
 | 0=>.nil
 | k+1=>by
  rw [b7,b7,dR,dR]
  exact zJ.append h (zJ.rep h k)
theorem zfq {α:Type}:∀ (l:List α) (i:Nat),(l.eraseIdx i).length≤l.length
 | [],_=>ag _
 | _ :: _,0=>gA _
 | _ :: r,i+1=>f8 (zfq r i)
theorem foldl_rep (its:List Value):∀ (k:Nat) (acc:List Value),
  gg (fun x1 x2=>x1++x2) acc.toArray (aw k its.toArray)=(acc++(aw k its).flatten).toArray
 | 0,acc=>by simp
 | k+1,acc=>by
  have e:acc.toArray++its.toArray=(acc++its).toArray:=by simp
  have e2:(acc++its)++(aw k its).flatten=acc++(aw (k+1) its).flatten:=by
   rw [b7,dR,aY]
  rw [← e2,← foldl_rep its k (acc++its),← e,b7,iF]
section
variable {X:Cx} {pins:List (Addr×Obj)} {σ:St} {H:Hp} {s:Shared} {l b:Addr} {xs ys zs:List V}
theorem Inv.lset {its its':List Value} {n:Nat} {f:Array Value→Array Value} {t':Nat} (I:Inv X pins σ H s) (hH:H l=some (.lst xs))
  (e:s.heap.get? l=some { cls:=.type "list",data:=.seq its.toArray n }) (hf:f its.toArray=its'.toArray) (hv:zJ ys its') (hz:ys.length≤sizeLine) :
  Inv X pins σ (upd H l (.lst ys)) { s with heap:=s.heap.update l (de f),toks:=t' }:=by
 have q:=ka e f
 rw [hf] at q
 refine I.write (x:=l) (e:=l) (by rw [hH]; exact trivial) (.inl rfl) (fun b' u hb hu=>(f6 s.heap (de f) (dZ hb)).trans hu) ⟨_,q⟩ ?_
 exact⟨hz,its',_,hv,q⟩
theorem Inv.lnew {its:List Value} {t':Nat} (I:Inv X pins σ H s) (hv:zJ ys its) (hz:ys.length≤sizeLine) :
  Inv X pins σ (upd H s.heap.objs.size (.lst ys)) { s with heap:=s.heap.push { cls:=.type "list",data:=.seq its.toArray },toks:=t' } :=
 I.laid (fun _ _ q=>ak _ q) (ag _) ⟨hz,its,0,hv,aL _ rfl⟩
theorem Inv.fresh (I:Inv X pins σ H s):H s.heap.objs.size=none:=I.hok.fresh (ag _)
theorem Inv.lstM (I:Inv X pins σ H s) (hH:H l=some (.lst xs)):xs.length≤sizeLine∧∃ (its:List Value) (n:Nat),zJ xs its∧xs.length=its.length∧s.heap.get? l=some { cls:=.type "list",data:=.seq its.toArray n }:=by
 obtain⟨z,its,n,r,e⟩:=I.hok l _ hH
 exact⟨z,its,n,r,r.length,e⟩
theorem zgJ {n:Nat} (h:n≤sizeLine):d8 n=false:=by
 unfold d8
 exact decide_eq_false (by lia)
end
section
variable {X:Cx}
def zmC:V→List V→Hp→VK→Prop:=fun x vs H Q=>∃ l xs y,x = .ref l∧vs = [y]∧H l=some (.lst xs)∧xs.length < sizeLine∧Q .non (upd H l (.lst (xs++[y])))
theorem zb0:MtM X "list.append" zmC:=by
 intro pins s σ H x vs v us Q I rx rv h
 obtain⟨l,xs,y,rfl,rfl,hH,hz,q⟩:=h
 cases rx
 obtain⟨u,rfl,ru⟩:=rv.one
 obtain⟨z,its,n,r,hl,e⟩:=I.lstM hH
 refine dA jL ⟨_,e,rfl⟩ jx (jg _ _) (jT l its.toArray n u (by rw [ap]; lia)) ⟨e,?_⟩
 refine⟨.non,_,I.lset (its':=its++[u]) hH e (by simp) (r.append (.cons ru .nil)) ?_,rfl,q⟩
 rw [ao,eL]
 lia
def zol:V→List V→Hp→VK→Prop:=fun x vs H Q=>∃ l xs i k y,x = .ref l∧vs = [.int i]∧H l=some (.lst xs)∧-(2 ^ 63)≤i∧i < 2 ^ 63∧seqIndex? i xs.length=some k∧xs[k]? = some y∧Q y (upd H l (.lst (xs.eraseIdx k)))
theorem zgK:MtM X "list.pop" zol:=by
 intro pins s σ H x vs v us Q I rx rv h
 obtain⟨l,xs,i,k,y,rfl,rfl,hH,h1,h2,hk,hy,q⟩:=h
 cases rx
 obtain⟨u,rfl,ru⟩:=rv.one
 obtain⟨t,rfl⟩:=ru
 obtain⟨z,its,n,r,hl,e⟩:=I.lstM hH
 obtain⟨w,hw,rw'⟩:=r.get hy
 refine dA F.slot_list_pop ⟨_,e,rfl⟩ F.entry_list_pop (F.args_list_pop_2 _ _)
  (MeetsSeq.list_pop_at l its.toArray n i t k w (fitsIndex_both h1 h2) (by rw [ap,← hl]; exact hk) (by rw [← bp]; exact hw) (by rw [ap]; lia)) ⟨e,?_⟩
 refine⟨y,_,I.lset (its':=its.eraseIdx k) hH e ?_ (r.eraseIdx k) ?_,rw',q⟩
 ·show its.toArray.eraseIdxIfInBounds k=(its.eraseIdx k).toArray
  rw [List.eraseIdxIfInBounds_toArray]
 ·have:=zfq xs k
  lia
def zpV:R2:=fun x y H Q=>∃ l b xs zs,x = .ref l∧y = .ref b∧H l=some (.lst xs)∧H b=some (.lst zs)∧xs.length+zs.length≤sizeLine∧∀ p,H p=none→Q (.ref p) (upd H p (.lst (xs++zs)))
theorem zcT:OpR X (binaryOp .Add) zpV:=by
 intro pins s σ H x y v u Q I rx ry h
 obtain⟨l,b,xs,zs,rfl,rfl,hH,hB,hz,q⟩:=h
 cases rx
 cases ry
 obtain⟨z,its,n,r,hl,e⟩:=I.lstM hH
 obtain⟨z2,its2,n2,r2,hl2,e2⟩:=I.lstM hB
 refine PySem.P.add_list e e2 ?_ (by rw [ap,ap]; lia)
 have ea:its.toArray++its2.toArray=(its++its2).toArray:=by simp
 rw [ea]
 exact⟨.ref _,_,I.lnew (t':=s.toks) (r.append r2) (by rw [ao]; lia),rfl,q _ I.fresh⟩
def zpW:R2:=fun x y H Q=>∃ l k xs,x = .ref l∧y = .int k∧H l=some (.lst xs)∧-(2 ^ 63)≤k∧k < 2 ^ 63∧xs.length*k.toNat≤sizeLine ∧
 ∀ p,H p=none→Q (.ref p) (upd H p (.lst (aw k.toNat xs).flatten))
theorem len_rep {α:Type} (xs:List α) (k:Nat):(aw k xs).flatten.length=k*xs.length:=by
 induction k with
 | zero=>simp
 | succ k ih=>rw [b7,dR,ao,ih,Nat.succ_mul,Nat.add_comm]
theorem zfR:OpR X (binaryOp .Mult) zpW:=by
 intro pins s σ H x y v u Q I rx ry h
 obtain⟨l,k,xs,rfl,rfl,hH,h1,h2,hz,q⟩:=h
 cases rx
 obtain⟨t,rfl⟩:=ry
 obtain⟨z,its,n,r,hl,e⟩:=I.lstM hH
 have hlen:its.toArray.size*k.toNat≤sizeLine:=by rw [ap,← hl]; exact hz
 have hcap:¬ its.toArray.size*k.toNat > (2 ^ 63 - 1) / 8:=by
  have:(sizeLine:Nat)≤(2 ^ 63 - 1) / 8:=by decide
  lia
 have hfit:¬ (!Builtin.List.listFitsIndex k)=true:=by
  rw [fitsIndex_both h1 h2]
  exact aO
 have hlong:¬ d8 (its.toArray.size*k.toNat)=true:=by
  rw [zgJ hlen]
  exact aO
 have hnew:gg (fun x1 x2=>x1++x2) #[] (aw (if its.toArray.isEmpty=true then 0 else k.toNat) its.toArray)=(aw k.toNat its).flatten.toArray:=by
  have f0:∀ m:Nat,gg (fun x1 x2=>x1++x2) #[] (aw m its.toArray)=(aw m its).flatten.toArray:=fun m=>by
   have:=foldl_rep its m []
   rw [iG] at this
   exact this
  rw [f0]
  cases its with
  | nil=>simp
  | cons a r'=>rw [if_neg (by simp)]
 refine ic (T:="list") (U:="int") (by decide) ⟨_,e,rfl⟩ (fun s'=>h9 s' k t) noFill_list_mul F.fills_int_mul gh repeat_list F.slot_int_index.lookup
  (dA gh (h9 s k t) kb (jU _ _) (int___rmul___int_list k t l its.toArray n)
   ⟨e,rfl,⟨_,e,rfl⟩,dA F.slot_list_mul ⟨_,e,rfl⟩ F.entry_list_mul (F.args_list_mul_2 _ _) (AutoListH.list___mul___list_int_3 l its.toArray n k t hfit hcap hlong) ⟨e,?_⟩⟩)
 rw [hnew]
 exact⟨.ref _,_,I.lnew (t':=s.toks) (r.rep k.toNat) (by rw [len_rep,eP]; exact hz),rfl,q _ I.fresh⟩
end
end L2
namespace Att
open PySem PySem.W PySem.Calls PyProof.Rows
theorem zdK {P:Params} {h:Heap}:∀ (ns:List Int) (vs:List Value),WellAll P h vs (ns.map WData.int)→IntsAre vs ns:=by
 intro ns
 induction ns with
 | nil =>
  intro vs w
  rw [fH] at w
  cases w
  exact .nil
 | cons n ns ih =>
  intro vs w
  rw [aS] at w
  cases w with
  | cons a b =>
   cases a
   exact .cons _ _ (ih _ b)
theorem zjy {l:OpenLaw} {n:Nat} (hn:l.most=some n) {P:Params} {h:Heap} {args:List WData} {vals:List Value}
  (hpre:l.row.toRowW.claim.pre args=true) (hwl:WellAll P h vals args) :
  ∃ a vs ns,vals = [ba a]∧args = [WData.list (ns.map WData.int)]∧h.get? a=some { cls:=.type "list",data:=.seq vs.toArray }∧IntsAre vs ns∧ns.length≤n:=by
 have hsh:WShape.hasAll [] args [.list .int]=true:=(pre_splitW hpre).1
 have hc:l.pre.holds [] { args:=args }=true:=(pre_splitW hpre).2
 obtain⟨d,r,rfl,h1,h2⟩:=hasAllW_cons hsh
 obtain rfl:=hasAllW_nil h2
 obtain⟨xs,rfl,h3⟩:=hasW_list h1
 obtain⟨ns,rfl⟩:=items_int h3
 have hlen:ns.length≤n:=by
  unfold OpenLaw.pre at hc
  have h4:(WTm.not (.lt (.lit (.int (n:Int))) (.len (.arg 0)))).holds [] { args:=[.list (ns.map .int)] }=true:=by
   have h4:=(holds_andW hc).1
   rw [hn] at h4
   exact h4
  have h5:=condW_of h4 (w_not (w_lt w_lit (w_len_list (w_arg rfl))))
  rw [ab] at h5
  refine ik fun q=>?_
  have q':(n:Int) < ((ns.length:Nat):Int):=by lia
  first
   | (rw [decide_eq_true q'] at h5; exact absurd h5 (by decide))
   | (simp at h5; lia)
 cases hwl with
 | cons w1 w2 =>
  cases w2
  cases w1 with
  | list ho hall=>exact⟨_,_,ns,rfl,rfl,ho,zdK ns _ hall,hlen⟩
theorem zjz (l:OpenLaw) (args:List WData):l.row.toRowW.claim.post args (.bool true) args=true :=
 postW_of (r:=l.row.toRowW) (X:=(true == true))
  (show WShape.has [] (.bool true) .bool=true by first | rfl | decide | simp [WShape.has,WShape.arms,WShape.armsAll])
  (show (WTm.eq .res (.lit (.bool true))).value [] { args:=args,res:=some (.bool true),after:=args }=some (.bool (true == true)) from w_eq_bool (w_res rfl) w_lit) rfl
theorem attach_call {l:OpenLaw} {n:Nat} {q:Program} {loose:List Str} {XP:(Str→Option Value)→Heap→Prop} {YP:World→Heap→Prop} {d:DefRec}
  (hn:l.most=some n) (hdf:d.params.defaults = [])
  (call:∀ (w:World) (s₀ s₁:Shared) (mg mb:Str→Option Value) (fa:Addr) (o:Obj) (pm cd doc:Value) (a:Addr) (vs:List Value) (ns:List Int),
   Ground q loose [] XP w s₀ mg mb s₁.heap→YP w s₁.heap →
   s₁.heap.get? fa=some o→o.data = .func (docDef d.name d.params d.body d.scope pm cd doc)→s₁.heap.CodeRec cd d.name→mg d.name=some (.ref fa) →
   s₁.heap.get? a=some { cls:=.type "list",data:=.seq vs.toArray }→IntsAre vs ns→ns.length≤n→s₁.gens = #[] →
   codeAny (model l.prog w) callerA (.call (.ref fa) ⟨[.ref a],[]⟩) (fun r s'=>r = .ok (.ret (.bool true))∧OldK s₁.heap s'.heap∧s'.os=s₁.os∧AllBare s'.gens) s₁) :
  WalkO q loose XP YP l.row.toRowW d [] (fun f vs=>kw f vs):=by
 intro w s₀ s₁ mg mb G Y fa o pm cd doc dV kV ho hd hcd hD hmg hg args vals as hpre hlay hrd hwl hlo
 obtain rfl:dV = .none:=Dflts.none hD hdf
 obtain rfl:kV = .none:=Dflts.noKw hD
 obtain⟨a,vs,ns,rfl,rfl,hobj,hints,hlen⟩:=zjy hn hpre hwl
 refine enter_call (jG (call w s₀ s₁ mg mb fa o pm cd doc a vs ns G Y ho (fd_plain hd) hcd hmg hobj hints hlen hg) fun r s' hq=>?_)
 obtain⟨rfl,h2,h3,h4⟩:=hq
 exact⟨.inl ⟨.bool true,.bool true,[],rfl,fun _=>rfl,.bool true,zjz l _,fun _=>⟨gW,fun _ hm=>(nomatch hm)⟩⟩,h2,h3,h4⟩
end Att
namespace L2
open PySem PySem.Spec PyProof.Rows
theorem zfr:∀ {vs:List Value} {ns:List Int},IntsAre vs ns→zJ (ns.map V.int) vs
 | _,_,.nil=>.nil
 | _,_,.cons n t h=>.cons ⟨t,rfl⟩ (zfr h)
def zom (H:Hp):Prop:=∀ b,H b=none∨∃ o xs,H b=some (.frz o (.lst xs))
theorem zkB {P:Program} {w:World} {K:ai} {mg mb:Str→Option Value} {CX:CXT} {k:Nat} {fa a:Addr} {fd:FuncData} {x:Str} {sp:Sp} {s₁:Shared} {vs:List Value} {ns:List Int}
  (KX:K.In s₁.heap) (hns:s₁.heap.Ns mainGlobals mg) (hb:s₁.heap.Ns builtinsNs mb) (hbb:∀ x:Str,x≠"__name__"→mb x=bootBuiltins x) (hlim:s₁.heap.NoLimit) (hg:s₁.gens = #[])
  (ha:s₁.heap.get? a=some { cls:=.type "list",data:=.seq vs.toArray }) (hi:IntsAre vs ns) (hl:ns.length≤sizeLine) (hr:Room k callerA)
  (F:∀ base:Heap,K.In base→base.Ns mainGlobals mg→FnOk P w K mg base CX k fa fd [x] sp) (hbind:∀ (s:Shared) (u:Value),BindsTo s fd ⟨[u],[]⟩ [(x,u)])
  (hsp:∀ H:Hp,zom H→SqL K H a (ns.map V.int)→sp [.ref a] H (fun v _=>v = .bl true) fun _ _ _=>False)
  (hCX:∀ H e s',CX [] H s₁ (fun _ _ _=>False) e s'→False) :
  codeAny (model P w) callerA (.call (.ref fa) ⟨[.ref a],[]⟩) (fun r s'=>r = .ok (.ret (.bool true))∧OldK s₁.heap s'.heap∧s'.os=s₁.os∧AllBare s'.gens) s₁:=by
 have rv:=zfr hi
 have lenV:=hi.length
 have core:∀ H:Hp,zom H→SqL K H a (ns.map V.int)→HOk P w H s₁.heap→(∀ b,H b≠none→b=a)→(H a≠none→K.lookup a=none) →
   codeAny (model P w) callerA (.call (.ref fa) ⟨[.ref a],[]⟩) (fun r s'=>r = .ok (.ret (.bool true))∧OldK s₁.heap s'.heap∧s'.os=s₁.os∧AllBare s'.gens) s₁:=by
  intro H hO hS hok hA hK
  have base_of:∀ {b:Addr} {o:Obj},s₁.heap.get? b=some o→H b=none→(zfO s₁.heap H).get? b=some o:=fun e n=>zko e n
  have noA:∀ {b:Addr} {o:Obj} {es:Array DictEntry} {ep:Nat},s₁.heap.get? b=some o→o.data = .dict es ep→H b=none:=fun {b o es ep} e d=>by
   cases q:H b with
   | none=>rfl
   | some u =>
    have e':b=a:=hA b (by rw [q]; simp)
    subst e'
    rw [ha] at e; cases e
    have d':kR vs.toArray _=Data.dict es ep:=d
    cases d'
  have nsK:∀ {b:Addr} {m:Str→Option Value},s₁.heap.Ns b m→(zfO s₁.heap H).Ns b m:=fun {b m} ⟨o,es,ep,e,d,r⟩=>⟨o,es,ep,base_of e (noA e d),d,r⟩
  have hKb:K.In (zfO s₁.heap H):=fun b o e=>base_of (KX b o e) (by
   cases q:H b with
   | none=>rfl
   | some u =>
    have e':b=a:=hA b (by rw [q]; simp)
    subst e'
    rw [hK (by rw [q]; simp)] at e; cases e)
  have hM:Mod K mg (zfO s₁.heap H):=⟨hKb,nsK hns,⟨mb,nsK hb,hbb⟩,let ⟨mc,h1,h2⟩:=hlim; ⟨mc,nsK h1,h2⟩⟩
  have e0:Env0 P w K mg (zfO s₁.heap H) callerA [] s₁ H:=⟨rfl,hM,fun b o e=>zmt e,df (zju _ _),trivial,fun b hb=>absurd (show b∈([]:List Addr) from hb) (by simp),hok,.of_eq hg⟩
  refine jG ((F _ hKb (nsK hns)).run callerA [] s₁ H ⟨[.ref a],[]⟩ [.ref a] [.ref a] _ _ hr e0 (hbind s₁ (.ref a)) (.cons rfl .nil) (hsp H hO hS)) fun r s' h=>?_
  cases r with
  | error e=>exact (hCX H e s' h).elim
  | ok fl =>
   cases fl with
   | next=>exact dW h
   | brk=>exact dW h
   | cont=>exact dW h
   | ret u =>
    obtain⟨v,H',os,bare,un,hok',r',q⟩:=h
    have q':v = .bl true:=q
    subst q'
    obtain rfl:u=Value.bool true:=r'
    refine⟨rfl,OldK.of_keep fun b o e=>?_,os,bare⟩
    cases q:H b with
    | none=>exact un.keep b o e q (by intro z; exact absurd (show b∈([]:List Addr) from z) (by simp)) (by simp)
    | some u =>
     rcases hO b with z | ⟨ob,xs,z⟩
     ·rw [q] at z; cases z
     ·have z2:=un.frzs b ob _ z
      obtain⟨e1,_⟩:=hok b _ z
      obtain⟨e2,_⟩:=hok' b _ z2
      rw [e] at e1; cases e1
      exact e2
 cases hk:K.lookup a with
 | some o =>
  have e:=KX a o hk
  rw [ha] at e
  cases e
  refine core (fun _=>none) (fun _=>.inl rfl) (.inr ⟨_,vs.toArray,_,hk,rfl,rfl,rfl,by rw [ap,lenV]; exact hl,by simpa using rv⟩) (fun b u z=>by have z':(none:Option HO)=some u:=z; cases z') (fun b z=>absurd rfl z) fun z=>absurd rfl z
 | none =>
  refine core (fun b=>if b=a then some (.frz { cls:=.type "list",data:=.seq vs.toArray } (.lst (ns.map V.int))) else none) (fun b=>?_) (.inl (.inr ⟨{ cls:=.type "list",data:=.seq vs.toArray },if_pos rfl⟩)) (fun b u z=>?_) (fun b z=>?_) fun _=>hk
  ·by_cases hb:b=a
   ·exact .inr ⟨_,_,if_pos hb⟩
   ·exact .inl (if_neg hb)
  ·by_cases hb:b=a
   ·have z':=(if_pos hb).symm.trans z
    cases z'
    subst hb
    exact⟨ha,by rw [ab]; exact hl,vs,_,rv,ha⟩
   ·have z':=(if_neg hb).symm.trans z
    cases z'
  ·by_cases hb:b=a
   ·exact hb
   ·exact absurd (if_neg hb) z
theorem zmD {l:iH} {n k:Nat} {q:Program} {loose:List Str} {XP:(Str→Option Value)→Heap→Prop} {YP:World→Heap→Prop} {d:DefRec} {K:Params→ai} {CX:World→CXT} {sp:World→Sp} {x:Str}
  (hn:l.most=some n) (hn2:n≤sizeLine) (hdf:d.params.defaults = []) (hr:Room k callerA)
  (hY:∀ (w:World) (h:Heap),YP w h→(K w.params).In h)
  (F:∀ (w:World) (mg:Str→Option Value) (fa:Addr) (h:Heap),(K w.params).In h→h.Ns mainGlobals mg→mg d.name=some (.ref fa) →
   ∃ fd:FuncData,(∀ (s:Shared) (u:Value),BindsTo s fd ⟨[u],[]⟩ [(x,u)]) ∧
    ∀ base:Heap,(K w.params).In base→base.Ns mainGlobals mg→FnOk l.prog w (K w.params) mg base (CX w) k fa fd [x] (sp w))
  (hsp:∀ (w:World) (H:Hp) (a:Addr) (ns:List Int),ns.length≤n→zom H→SqL (K w.params) H a (ns.map V.int)→sp w [.ref a] H (fun v _=>v = .bl true) fun _ _ _=>False)
  (hCX:∀ (w:World) (H:Hp) (s:Shared) (e:Value) (s':Shared),CX w [] H s (fun _ _ _=>False) e s'→False) :
  kO q loose XP YP l.row.toRowW d [] (fun f vs=>kw f vs):=by
 refine Att.attach_call hn hdf fun w s₀ s₁ mg mb fa o pm cd doc a vs ns G Y ho hd hcd hmg hobj hints hlen hg=>?_
 have KX:=hY w _ Y
 obtain⟨fd,hb,hF⟩:=F w mg fa _ KX G.T.g hmg
 exact zkB KX G.T.g G.T.b G.T.builtins G.T.nolimit hg hobj hints (aZ hlen hn2) hr hF hb (fun H hO hS=>hsp w H a ns hlen hO hS) fun H e s'=>hCX w H s₁ e s'
def zbK (s:Stmt):Arguments:=match s with
 | .FunctionDef _ a _ _ _ _ _ _ _ _=>a
 | _=>{ posonlyargs:=[],args:=[],vararg:=none,kwonlyargs:=[],kw_defaults:=[],kwarg:=none,defaults:=[] }
def zbx (s:Stmt):List Stmt:=match s with
 | .FunctionDef _ _ b _ _ _ _ _ _ _=>b
 | _=>[]
def zh (s:Stmt):Scope:=match s with
 | .FunctionDef _ _ _ _ _ _ sc _ _ _=>sc
 | _=>{ kind:=.function,names:=[],isGenerator:=false,isCoroutine:=false }
abbrev CX0:CXT:=fun _ _ _ _ _ _=>False
abbrev E0:XK:=fun _ _ _=>False
theorem zF {X:Cx}:zhM CX0 X E0:=fun _ _ _ _ _ _ _ h=>h.elim
structure Fun (K:ai) (x qual:Str) (st:Stmt) (f:Addr) (fd:FuncData):Prop where
 ex:∃ (oc:Value) (od:Option Addr) (kV doc pm:Value) (an:Option Addr) (cdv ct:Value) (osl:Array (Option Value)),
  fd=db x qual (zbK st) (zbx st) (zh st) .none kV doc pm an cdv ct∧K.lookup f=some ⟨oc,od,.func fd,osl⟩∧fP K cdv qual=true
 kp:fO K (.ref f)=true
section
variable {P:Program} {w:World} {K:ai} {mg:Str→Option Value} {base:Heap}
theorem Fun.ok {x qual:Str} {st:Stmt} {f:Addr} {fd:FuncData} {N ps:List Str} {k:Nat} {sp:Sp} (F:Fun K x qual st f fd) (S:FnScope N ps (zh st)) (len:∀ vs H Q E,sp vs H Q E→vs.length=ps.length)
  (hbody:∀ (cdv:Value) (A:Around) (outer:List Env) (s:Shared) (H:Hp) (vs:List V) (Q:VK) (E:XK),Room k (A.deeper (envOfC qual (zh st) s.heap.objs.size f cdv))→sp vs H Q E →
   ∃ t,PSs (zjw CX0 P w K mg base N qual (zh st) f cdv A outer s H E).nox (zbx st) t∧t { nx:=fun _ H'=>Q .non H',rt:=Q } (start N vs) H):FnOk P w K mg base CX0 (k+1) f fd ps sp:=by
 obtain⟨oc,od,kV,doc,pm,an,cdv,ct,osl,rfl,lk,hcd⟩:=F.ex
 refine zph lk hcd S len fun A outer s H vs Q E hr hsp=>?_
 obtain⟨t,h,q⟩:=hbody cdv A outer s H vs Q E hr hsp
 exact⟨t,h.nox,q⟩
theorem Fun.binds {x qual:Str} {st:Stmt} {f:Addr} {fd:FuncData} {ps:List Str} (F:Fun K x qual st f fd)
  (h:∀ (kV doc pm:Value) (an:Option Addr) (cdv ct:Value) (us:List Value),us.length=ps.length→bindArgs (db x qual (zbK st) (zbx st) (zh st) .none kV doc pm an cdv ct) ⟨us,[]⟩=pure (ps.zip us)):Binds K fd ps []:=by
 obtain⟨oc,od,kV,doc,pm,an,cdv,ct,osl,rfl,lk,hcd⟩:=F.ex
 exact .all (h kV doc pm an cdv ct)
theorem zkC {x qual:Str} {st:Stmt} {f:Addr} {oc:Value} {od an:Option Addr} {osl:Array (Option Value)} {kV doc pm cdv ct:Value} (l:K.lookup f=some ⟨oc,od,.func (db x qual (zbK st) (zbx st) (zh st) .none kV doc pm an cdv ct),osl⟩)
  (c:fP K cdv qual=true) (k:fO K (.ref f)=true):Fun K x qual st f (db x qual (zbK st) (zbx st) (zh st) .none kV doc pm an cdv ct):=⟨⟨oc,od,kV,doc,pm,an,cdv,ct,osl,rfl,l,c⟩,k⟩
end
theorem zjA {A B:Prop} (h:B):if false=true then A else B:=by
 rw [if_neg aO]
 exact h
theorem zpX {A B:Prop} (h:A):if true=true then A else B:=by
 rw [if_pos rfl]
 exact h
theorem zbq {c A B:Prop} [Decidable c] (h1:c→A) (h2:¬ c→B):if c then A else B:=by
 by_cases h:c
 ·rw [if_pos h]
  exact h1 h
 ·rw [if_neg h]
  exact h2 h
def zu (H H':Hp):Prop:=∀ b o,H b=some o→H' b=some o
theorem zu.trans {H H1 H2:Hp} (a:zu H H1) (b:zu H1 H2):zu H H2:=fun c o h=>b c o (a c o h)
theorem zu.free {H H':Hp} (e:zu H H') {l:Addr} (h:H' l=kS):H l=kS:=by
 cases q:H l with
 | none=>rfl
 | some o =>
  rw [e l o q] at h
  cases h
theorem zu.seq {K:ai} {H H':Hp} {a:Addr} {xs:List V} (e:zu H H') (h:SqL K H a xs):SqL K H' a xs:=by
 rcases h with (h | ⟨o,h⟩) | h
 ·exact .inl (.inl (e _ _ h))
 ·exact .inl (.inr ⟨o,e _ _ h⟩)
 ·exact .inr h
end L2
section
namespace L2
open PySem PySem.Spec PyProof.Rows
def zaf (cs:List (Str×Addr)):List (Str×NameKind)→List (Str×Addr)→List (Str×Addr)
 | [],acc=>acc
 | (n,k) :: r,acc=>if k == .free then zaf cs r ((n,(cs.lookup n).getD 0) :: acc) else zaf cs r acc
theorem zcN {scope:Scope} {env:Env} (h:∀ y∈scope.names,y.2 = .free→∃ c,env.cells.lookup y.1=some c) :
  closureFor scope env=pure (zaf env.cells scope.names []):=by
 have go:∀ (names:List (Str×NameKind)) (acc:List (Str×Addr)),(∀ y∈names,y.2 = .free→∃ c,env.cells.lookup y.1=some c) →
   (forIn names acc (fun (x:Str×NameKind) (cs:List (Str×Addr))=>(if (x.2 == b9)=true then do
    let a ← cellOf env x.1
    pure (cm ((x.1,a) :: cs)) else pure (cm cs):Sem (ForInStep (List (Str×Addr))))))=(pure (zaf env.cells names acc):Sem _):=by
  intro names
  induction names with
  | nil=>intro acc _; rfl
  | cons y r ih =>
   intro acc hy
   obtain⟨n,k⟩:=y
   rw [eD]
   cases hk:(k == b9) with
   | true =>
    obtain⟨c,hc⟩:=hy (n,k) aF (by simpa using hk)
    have hcell:cellOf env n=pure c:=by
     unfold cellOf
     have hc':env.cells.lookup n=some c:=hc
     rw [hc']
    simp only [hk,if_true,hcell]
    have e:=ih ((n,c) :: acc) fun y hy'=>hy y (av _ hy')
    have hc':env.cells.lookup n=some c:=hc
    simp only [zaf,hk,if_true,hc',kd]
    exact e
   | false =>
    simp only [hk,bt,if_false]
    have e:=ih acc fun y hy'=>hy y (av _ hy')
    simp only [zaf,hk,bt,if_false]
    exact e
 have e:=go scope.names [] h
 unfold closureFor
 show (forIn scope.names [] _ >>= fun cs=>pure cs)=_
 first
  | (rw [e]; rfl)
  | (simp only []; rw [e]; rfl)
  | (have e':=e; simp at e' ⊢; exact e')
theorem zbS {cs:List (Str×Addr)}:∀ (names:List (Str×NameKind)) (acc:List (Str×Addr)),
  (∀ y∈names,y.2 = .free→∃ c,cs.lookup y.1=some c)→(∀ x c,acc.lookup x=some c→cs.lookup x=some c) →
  ∀ x c,(zaf cs names acc).lookup x=some c→cs.lookup x=some c
 | [],acc,_,h,x,c,e=>h x c e
 | (n,k) :: r,acc,hy,h,x,c,e=>by
  have hr:∀ y∈r,y.2 = .free→∃ c,cs.lookup y.1=some c:=fun y hy'=>hy y (av _ hy')
  unfold zaf at e
  cases hk:(k == b9) with
  | false =>
   rw [hk] at e
   exact zbS r acc hr h x c e
  | true =>
   rw [hk] at e
   obtain⟨d,hd⟩:=hy (n,k) aF (by simpa using hk)
   have hd':cs.lookup n=some d:=hd
   refine zbS r _ hr (fun x c e'=>?_) x c e
   rw [hd',kd,a8] at e'
   cases hx:(x == n) with
   | true =>
    rw [hx] at e'
    have:x=n:=by simpa using hx
    subst this
    rw [hd']
    exact e'
   | false =>
    rw [hx] at e'
    exact h x c e'
theorem zcb {cs:List (Str×Addr)}:∀ (names:List (Str×NameKind)) (acc:List (Str×Addr)) (x:Str),
  ((∃ c,acc.lookup x=some c)∨(x,b9)∈names)→∃ c,(zaf cs names acc).lookup x=some c
 | [],acc,x,h=>by
  rcases h with h | h
  ·exact h
  ·cases h
 | (n,k) :: r,acc,x,h=>by
  unfold zaf
  cases hk:(k == b9) with
  | false =>
   refine zcb r acc x ?_
   rcases h with h | h
   ·exact .inl h
   ·rcases aB.mp h with h | h
    ·cases h
     exact absurd hk (by decide)
    ·exact .inr h
  | true =>
   refine zcb r _ x ?_
   cases hx:(x == n) with
   | true=>exact .inl ⟨_,by rw [a8,hx]⟩
   | false =>
    rcases h with ⟨c,h⟩ | h
    ·exact .inl ⟨c,by rw [a8,hx]; exact h⟩
    ·rcases aB.mp h with h | h
     ·cases h
      simp at hx
     ·exact .inr h
theorem lookup_mem {α:Type}:∀ {l:List (Str×α)} {x:Str} {k:α},l.lookup x=some k→(x,k)∈l
 | [],x,k,h=>by simp at h
 | (n,j) :: r,x,k,h=>by
  rw [a8] at h
  cases hx:(x == n) with
  | true =>
   rw [hx] at h
   have:x=n:=by simpa using hx
   subst this
   cases h
   exact aF
  | false =>
   rw [hx] at h
   exact av _ (lookup_mem h)
theorem zbw {env:Env}:∀ {names:List (Str×NameKind)} {x:Str},names.lookup x=some .free →
  (names.map fun (n,k)=>if (k == b9 && env.scope.kind == .function && env.kindOf n == some .cell) then (n,cR) else (n,k)).lookup x=some .cell ∨
  (names.map fun (n,k)=>if (k == b9 && env.scope.kind == .function && env.kindOf n == some .cell) then (n,cR) else (n,k)).lookup x=some .free
 | [],_,h=>by simp at h
 | (n,k) :: r,x,h=>by
  have ih:=@zbw env r x
  simp only [aS]
  cases hx:x == n with
  | true =>
   simp only [a8,hx] at h; cases h
   by_cases hc:(b9 == b9 && env.scope.kind == .function && env.kindOf n == some .cell)=true
   ·rw [if_pos hc]; left; simp only [a8,hx]
   ·rw [if_neg hc]; right; simp only [a8,hx]
  | false =>
   simp only [a8,hx] at h; rcases jM ((k == b9 && env.scope.kind == .function && env.kindOf n == some .cell)=true) with hc | hc
   ·exact (by rw [if_pos hc]; simp only [a8,hx]; exact ih h)
   ·exact (by rw [if_neg hc]; simp only [a8,hx]; exact ih h)
theorem zc2 {env:Env}:∀ {names:List (Str×NameKind)} {x:Str},
  ((names.map fun (n,k)=>if (k == b9 && env.scope.kind == .function && env.kindOf n == some .cell) then (n,cR) else (n,k)).lookup x=some .cell ∨
  (names.map fun (n,k)=>if (k == b9 && env.scope.kind == .function && env.kindOf n == some .cell) then (n,cR) else (n,k)).lookup x=some .free) →
  names.lookup x=some .free∨names.lookup x=some .cell
 | [],_,h=>by simp at h
 | (n,k) :: r,x,h=>by
  have ih:=@zc2 env r x
  simp only [aS] at h
  cases hx:x == n with
  | true =>
   rcases jM ((k == b9 && env.scope.kind == .function && env.kindOf n == some .cell)=true) with hc | hc
   ·have hk:k = .free:=by
     simp only [fb] at hc; simpa using hc.1.1
    subst hk
    exact .inl (by simp only [a8,hx])
   ·rw [if_neg hc] at h
    simp only [a8,hx] at h ⊢
    rcases h with h | h
    ·exact .inr h
    ·exact .inl h
  | false =>
   rcases jM ((k == b9 && env.scope.kind == .function && env.kindOf n == some .cell)=true) with hc | hc
   ·rw [if_pos hc] at h
    simp only [a8,hx] at h ⊢
    exact ih h
   ·rw [if_neg hc] at h
    simp only [a8,hx] at h ⊢
    exact ih h
end L2
end
section
namespace L2
open PySem PySem.Spec PyProof.Rows
theorem zfS:∀ (names:List (Str×NameKind)) (n:Nat) (acc:List (Str×Addr)) (x:Str),(x,cR)∉names→(cellsFrom n names acc).lookup x=acc.lookup x
 | [],_,_,_,_=>rfl
 | (y,k) :: r,n,acc,x,h=>by
  have hr:(x,cR)∉r:=fun z=>h (av _ z)
  unfold cellsFrom
  split
  ·rename_i hk
   have hk':k = .cell:=by simpa using hk
   rw [zfS r _ _ x hr,a8]
   cases hx:(x == y) with
   | true =>
    have:x=y:=by simpa using hx
    subst this
    subst hk'
    exact absurd aF h
   | false=>rfl
  ·exact zfS r _ _ x hr
theorem zfT:∀ (names:List (Str×NameKind)) (n:Nat) (acc:List (Str×Addr)) (x:Str),(x,cR)∈names→∃ c,(cellsFrom n names acc).lookup x=some c∧n≤c
 | (y,k) :: r,n,acc,x,h=>by
  by_cases hr:(x,cR)∈r
  ·unfold cellsFrom
   split
   ·obtain⟨c,e,l⟩:=zfT r (n+1) ((y,n) :: acc) x hr
    exact⟨c,e,by lia⟩
   ·exact zfT r n acc x hr
  ·rcases aB.mp h with e | e
   ·cases e
    unfold cellsFrom
    rw [if_pos (by decide),zfS r _ _ _ hr,a8,beq_self_eq_true]
    exact⟨n,rfl,ag _⟩
   ·exact absurd e hr
structure CO (h:Heap) (lo:Nat) (old cs:List (Str×Addr)):Prop where
 each:∀ x c,cs.lookup x=some c→(h.IsCell c none∧lo≤c)∨(old.lookup x=some c∧c < lo)
 inj:∀ x y c,cs.lookup x=some c→cs.lookup y=some c→x=y
theorem zkD {lo:Nat} {old:List (Str×Addr)}:∀ (names:List (Str×NameKind)) (h:Heap) (acc:List (Str×Addr)),CO h lo old acc→lo≤h.objs.size→CO (pushCells h names) lo old (cellsFrom h.objs.size names acc)
 | [],_,_,a,_=>a
 | (y,k) :: r,h,acc,a,hl=>by
  unfold pushCells cellsFrom
  split
  ·have lt:∀ x c,acc.lookup x=some c→c < h.objs.size:=fun x c e=>(a.each x c e).elim (fun z=>z.1.lt) fun z=>bm z.2 hl
   have key:∀ x c,iS x ((y,h.objs.size) :: acc)=some c→(x=y∧c=h.objs.size)∨acc.lookup x=some c:=fun x c e=>by
    rw [a8] at e
    cases hx:(x == y) with
    | true =>
     rw [hx] at e
     exact .inl ⟨by simpa using hx,(aP e).symm⟩
    | false =>
     rw [hx] at e
     exact .inr e
   have:=zkD (lo:=lo) (old:=old) r (h.push { cls:=.type "cell",data:=.cell none }) ((y,h.objs.size) :: acc) ⟨fun x c e=>?_,fun x z c e1 e2=>?_⟩ (by rw [bN]; lia)
   ·rw [bN] at this
    exact this
   ·rcases key x c e with ⟨_,rfl⟩ | e
    ·exact .inl ⟨⟨_,aL _ rfl,rfl⟩,hl⟩
    ·rcases a.each x c e with z | z
     ·exact .inl ⟨z.1.keeps fun b o e=>ak _ e,z.2⟩
     ·exact .inr z
   ·rcases key x c e1 with ⟨p1,q1⟩ | f1 <;> rcases key z c e2 with ⟨p2,q2⟩ | f2
    ·exact p1.trans p2.symm
    ·exact absurd (lt _ _ f2) (by rw [q1]; exact cr _)
    ·exact absurd (lt _ _ f1) (by rw [q2]; exact cr _)
    ·exact a.inj x z c f1 f2
  ·exact zkD r h acc a hl
theorem zjB {M:Model} {A:Around} {E:Value→Shared→Prop} {s:Shared} {scope:Scope} {globals:Addr} {closure:List (Str×Addr)} {qual:Str} {env:Env} {Q:Env→Shared→Prop}
  (h:Q (newEnv scope s.heap.objs.size globals (cellsFrom (s.heap.objs.size+1) scope.names closure) qual none .none (some env) builtinsNs) { s with heap:=pushCells (s.heap.push { cls:=.type "dict",data:=.dict #[] }) scope.names }) :
  wpAny M A (newFunctionEnv scope globals closure [] qual none .none (some env)) Q E s:=by
 (simp only [newFunctionEnv,jN,if_true])
 (refine ae (wpAny_alloc ?_))
 (refine ae (wpAny_layCells _ (fun name kind cells=>by cases hkc:kind == cR <;> simp [hkc]) _ _ _ _ ?_))
 rw [show ({ s with heap:=s.heap.push { cls:=.type "dict",data:=.dict #[] } }:Shared).heap.objs.size=s.heap.objs.size+1 from bN ..]
 (exact ae (am (am h)))
abbrev zE (X:Cx) (N':List Str) (scope:Scope) (s₃:Shared) (H₃:Hp) (ex:List Addr) (pins:List (Addr×Obj)):Cx :=
 { X with N:=N',s₀:=s₃,H₀:=H₃,env:=compEnvC scope (cellsFrom (s₃.heap.objs.size+1) scope.names (zaf X.env.cells scope.names [])) s₃.heap.objs.size X.env,outer:=X.stack,stack:=X.stack,ex:=ex,fn:=fun x=>scope.names.lookup x == some .cell,pn:=X.pn++pins,xe:=fun _ _=>False }
def zhQ (ifs:List Expr) (env:Env):Sem Bool :=
 forIn ifs true fun c r=>if r=true then do let ok ← isTrue c env (eval c env); pure (cm ok) else pure (cm r)
def zc3 (X:Cx) (ifs:List Expr) (t:TT):Prop :=
 ∀ (pins:List (Addr×Obj)) (s:Shared) (σ:St) (H:Hp) (Q:Bool→Hp→Prop),Inv X pins σ H s→t σ H Q→wpAny (model X.prog X.w) X.A (zhQ ifs X.env) (TP X pins σ Q) X.xe s
def zmE:TT:=fun _ H Q=>Q true H
theorem zt {X:Cx}:zc3 X [] zmE:=fun _ _ _ H _ I h=>am ⟨H,I,h⟩
theorem zc4 {X:Cx} {c:Expr} {t:TT} (h:PT X c t):zc3 X [c] t:=by
 intro pins s σ H Q I hw
 unfold zhQ
 rw [eD]
 simp only [if_true]
 exact ae (ae (thn (h pins s σ H _ I hw) fun b s1 q=>am (am q)))
structure CompSc (X:Cx) (N':List Str) (ix:List (Option Nat)) (scope:Scope):Prop where
 kind:scope.kind = .function
 cells:∀ y∈scope.names,y.2 = .cell→scope.names.lookup y.1=some .cell
 names:∀ y∈scope.names,y.2 = .local→scope.names.lookup y.1=some .local
 free:∀ y∈scope.names,y.2 = .free→X.env.kindOf y.1=some .cell∨X.env.kindOf y.1=some .free
 len:N'.length=ix.length
 cap:∀ j i:Nat,ix[j]? = some (some i)→∃ x,N'[j]? = some x∧X.N[i]? = some x∧scope.names.lookup x=some .free
def zis (osc:Scope) (oN N':List Str) (ix:List (Option Nat)) (scope:Scope):Bool :=
 (scope.kind == .function) && (scope.names.all fun y=>y.2 != .cell || scope.names.lookup y.1 == some .cell) && (scope.names.all fun y=>y.2 != .local || scope.names.lookup y.1 == some .local) &&
 (scope.names.all fun y=>y.2 != .free || (osc.names.lookup y.1 == some .cell || osc.names.lookup y.1 == some .free)) && (N'.length == ix.length) &&
 ((aH ix.length).all fun j=>match ix[j]? with
  | some (some i)=>(match N'[j]? with
   | some x=>oN[i]? == some x && scope.names.lookup x == some .free
   | none=>false)
  | _=>true)
theorem CompSc.of {X:Cx} {N':List Str} {ix:List (Option Nat)} {scope:Scope} (osc:Scope) (oN:List Str) (h1:X.env.scope=osc) (h2:X.N=oN) (hb:zis osc oN N' ix scope=true):CompSc X N' ix scope:=by
 unfold zis at hb
 simp only [fb,fc] at hb
 obtain⟨⟨⟨⟨⟨a,b⟩,c⟩,d⟩,e⟩,f⟩:=hb
 refine⟨?_,fun y hy hl=>?_,fun y hy hl=>?_,fun y hy hf=>?_,by simpa using e,fun j i hj=>?_⟩
 ·revert a
  cases scope.kind <;> first | (intro _; rfl) | (intro h; exact absurd h (by decide))
 ·have:=b y hy
  rw [hl] at this
  simpa using this
 ·have:=c y hy
  rw [hl] at this
  simpa using this
 ·have:=d y hy
  rw [hf] at this
  have e1:X.env.kindOf y.1=osc.names.lookup y.1:=by rw [← h1]; rfl
  rw [e1]
  simpa using this
 ·have hlt:j < ix.length:=(aA.mp hj).1
  have:=f j (bd.mpr hlt)
  rw [hj] at this
  cases hN:N'[j]? with
  | none =>
   rw [hN] at this
   simp at this
  | some x =>
   rw [hN] at this
   refine⟨x,rfl,?_⟩
   rw [h2]
   simpa using this
def zc5 (ix:List (Option Nat)) (σ:St):St:=ix.map fun o=>match o with
 | none=>none
 | some i=>(σ[i]?).join
theorem Inv.track {X:Cx} {pins:List (Addr×Obj)} {σ:St} {H:Hp} {s:Shared} {D:Addr} {o:HO} (I:Inv X pins σ H s) (hn:H D=none) (hs:X.s₀.heap.objs.size≤D) (hL:X.env.locals≠D)
  (hC:∀ x c,X.env.cells.lookup x=some c→c≠D) (hp:∀ p∈X.pn++pins,p.1≠D) (ok:zas X.prog X.w (upd H D o) s.heap D o):Inv X pins σ (upd H D o) s:=by
 have ne:∀ b u,H b=some u→b≠D:=fun b u e=>zw e hn
 refine⟨I.ok,I.os,I.bare,⟨I.base.keep,I.base.slot,fun b u e n hx=>?_,I.base.there,fun b xs e=>?_,fun b u xs e=>?_,fun b ps e=>?_⟩,I.loc,I.cell,?_,fun x c e=>?_,fun p hp'=>?_,fun b u e=>?_,I.len⟩
 ·have:b≠D:=bu (bm (aJ e) hs)
  rw [zn this]
  exact I.base.free b u e n hx
 ·have:=I.base.tups b xs e
  rw [zn (ne b _ this)]
  exact this
 ·have:=I.base.frzs b u xs e
  rw [zn (ne b _ this)]
  exact this
 ·obtain⟨more,q⟩:=I.base.tbls b ps e
  exact⟨more,by rw [zn (ne b _ q)]; exact q⟩
 ·rw [zn hL]
  exact I.free
 ·rw [zn (hC x c e)]
  exact I.freeC x c e
 ·obtain⟨a1,a2,a3⟩:=I.pin p hp'
  exact⟨a1,by rw [zn (hp p hp')]; exact a2,a3⟩
 ·by_cases hb:b=D
  ·subst hb
   rw [zc] at e
   cases e
   exact ok
  ·rw [zn hb] at e
   exact (I.hok b u e).stay (fun c v _ q=>q) (fun c q=>by rw [zn (ne c _ q)]; exact q) fun c xs q=>by rw [zn (ne c _ q)]; exact q
def cGo (g:TG) (ts:TT) (te:TE) (σ0:St) (J:It) (Q:VK) (H1:Hp):Prop :=
 ∃ W:Nat→Nat→List V→Hp→Prop,(∃ m,W 0 m [] H1)∧∀ i m ys H,W i m ys H →
  (J.stop i H∧∀ D,H D=none→Q (.ref D) (upd H D (.lst ys))) ∨
  (J.go i H∧∃ N:List V→Hp→Prop,(∀ ys' H',N ys' H'→∃ m',m' < m∧W (i+1) m' ys' H')∧∀ x H',J.yld i H x H'→g x σ0 H' fun σ2 H2=>ts σ2 H2 fun b H3 =>
   if b=true then te σ2 H3 fun y H4=>ys.length < sizeLine∧N (ys++[y]) H4 else N ys H3)
def znM (ix:List (Option Nat)) (wi:TI) (g:TG) (ts:TT) (te:TE):TE:=fun σ H Q=>wi σ H fun J H1=>cGo g ts te (zc5 ix σ) J Q H1
theorem zS {J:It} {n:Nat} {g:TG} {ts:TT} {te:TE} {σ0:St} {Q:VK} {H:Hp} (Pv:Nat→List V→Hp→Prop) (h0:Pv 0 [] H) (hgo:∀ i ys H,i < n→Pv i ys H→J.go i H) (hst:∀ ys H,Pv n ys H→J.stop n H)
  (hs:∀ i x ys H H',i < n→Pv i ys H→J.yld i H x H'→g x σ0 H' fun σ2 H2=>ts σ2 H2 fun b H3=>if b=true then te σ2 H3 fun y H4=>ys.length < sizeLine∧Pv (i+1) (ys++[y]) H4 else Pv (i+1) ys H3)
  (hd:∀ ys H D,Pv n ys H→H D=none→Q (.ref D) (upd H D (.lst ys))):cGo g ts te σ0 J Q H:=by
 refine⟨fun i m ys H=>m=n - i∧i≤n∧Pv i ys H,⟨n,by simp,bi _,h0⟩,?_⟩
 rintro i m ys H ⟨rfl,hi,p⟩
 by_cases hlt:i < n
 ·exact .inr ⟨hgo i ys H hlt p,Pv (i+1),fun ys' H' p'=>⟨n - (i+1),by lia,rfl,hlt,p'⟩,fun x H' y=>hs i x ys H H' hlt p y⟩
 ·have e:i=n:=by lia
  subst e
  exact .inl ⟨hst ys H p,fun D hD=>hd ys H D p hD⟩
theorem zhR {J:It} {n:Nat} {g:TG} {tb:TS} {D:Ends} {σ:St} {H:Hp} (Pv:Nat→St→Hp→Prop) (h0:Pv 0 σ H) (hgo:∀ i σ H,i < n→Pv i σ H→J.go i H) (hst:∀ σ H,Pv n σ H→J.stop n H)
  (hs:∀ i x σ H H',i < n→Pv i σ H→J.yld i H x H'→g x σ H' fun σ2 H2=>tb { D with nx:=Pv (i+1),ct:=Pv (i+1),bk:=D.nx } σ2 H2) (hd:∀ σ H,Pv n σ H→D.nx σ H) :
  ∃ W:Nat→Nat→St→Hp→Prop,(∃ m,W 0 m σ H)∧∀ i m σ H,W i m σ H →
   (J.stop i H∧D.nx σ H)∨(J.go i H∧∃ N:St→Hp→Prop,(∀ σ' H',N σ' H'→∃ m',m' < m∧W (i+1) m' σ' H')∧∀ x H',J.yld i H x H'→g x σ H' fun σ2 H2=>tb { D with nx:=N,ct:=N,bk:=D.nx } σ2 H2):=by
 refine⟨fun i m σ H=>m=n - i∧i≤n∧Pv i σ H,⟨n,by simp,bi _,h0⟩,?_⟩
 rintro i m σ H ⟨rfl,hi,p⟩
 by_cases hlt:i < n
 ·exact .inr ⟨hgo i σ H hlt p,Pv (i+1),fun σ' H' p'=>⟨n - (i+1),by lia,rfl,hlt,p'⟩,fun x H' y=>hs i x σ H H' hlt p y⟩
 ·have e:i=n:=by lia
  subst e
  exact .inl ⟨hst σ H p,hd σ H p⟩
end L2
end
section
namespace L2
open PySem PySem.Spec PyProof.Rows
abbrev TM:=List V→St→Hp→(List V→Hp→Prop)→Prop
abbrev zdL (its:List Value) (nn:Nat):Obj:={ cls:=.type "list",data:=.seq its.toArray nn }
structure AccAt (Y:Cx) (pins:List (Addr×Obj)) (H:Hp) (s:Shared) (D:Addr) (ys:List V) (its:List Value) (nn:Nat):Prop where
 fp:zbR Y pins H D
 here:s.heap.get? D=some (zdL its nn)
 vals:zJ ys its
 len:ys.length≤sizeLine
def zfU (js:List Nat) (σ:St):Prop:=∀ j∈js,∀ v,σ[j]?≠some (some v)
def Kp (js:List Nat) (σ σ2:St):Prop:=σ2.length=σ.length∧∀ j,j∉js→σ2[j]? = σ[j]?
theorem Kp.refl {js:List Nat} {σ:St}:Kp js σ σ:=⟨rfl,fun _ _=>rfl⟩
theorem Kp.set {js:List Nat} {σ σ2:St} {i:Nat} {v:Option V} (hi:i∈js) (h:Kp js σ σ2):Kp js σ (σ2.set i v):=by
 refine⟨by rw [iE]; exact h.1,fun j hj=>?_⟩
 rw [dU (fun z=>hj (by rw [← z]; exact hi))]
 exact h.2 j hj
def GS (js:List Nat) (g:TG):Prop:=∀ (σ σ1:St) (x:V) (H:Hp) (Q:St→Hp→Prop),Kp js σ σ1→g x σ1 H Q→g x σ1 H fun σ2 H2=>Kp js σ σ2∧Q σ2 H2
def GSs (js:List Nat) (g:TGs):Prop:=∀ (σ σ1:St) (xs:List V) (H:Hp) (Q:St→Hp→Prop),Kp js σ σ1→g xs σ1 H Q→g xs σ1 H fun σ2 H2=>Kp js σ σ2∧Q σ2 H2
theorem zcz {js:List Nat} {i:Nat} (hi:i∈js):GS js (zaQ i):=fun σ σ1 x H Q hw h=>⟨hw.set hi,h⟩
theorem zit {js:List Nat}:GSs js zhH:=fun σ σ1 xs H Q hw h=>⟨h.1,hw,h.2⟩
theorem zei {js:List Nat} {i:Nat} {u:TGs} (hi:i∈js) (h2:GSs js u):GSs js (zbV (zaQ i) u):=fun σ σ1 xs H Q hw h=>by
 obtain⟨v,r,e,h⟩:=h
 exact⟨v,r,e,h2 σ _ r H Q (hw.set hi) h⟩
theorem zkE {js:List Nat} {K:ai} {n:Nat} {t:TGs} (h:GSs js t):GS js (zgF K n t):=fun σ σ1 x H Q hw hg=>by
 obtain⟨a,xs,e,hq,hl,hg⟩:=hg
 exact⟨a,xs,e,hq,hl,h σ σ1 xs H Q hw hg⟩
theorem Inv.fewer {X:Cx} {pins pins':List (Addr×Obj)} {σ:St} {H:Hp} {s:Shared} (I:Inv X pins σ H s) (h:∀ p∈pins',p∈pins):Inv X pins' σ H s :=
 I.pins_of fun p hp=>I.pin p (aK _ (h p hp))
section
variable {Y:Cx} {pins:List (Addr×Obj)} {σ:St} {H:Hp} {s:Shared} {D:Addr} {ys:List V} {its:List Value} {nn:Nat}
theorem AccAt.pin (a:AccAt Y pins H s D ys its nn) (I:Inv Y pins σ H s):Inv Y (pins++[(D,zdL its nn)]) σ H s :=
 I.pins_of fun p hp=>by
  rcases (a7.mp hp) with hp | hp
  ·exact I.pin p (aK _ hp)
  ·obtain rfl:p=(D,zdL its nn):=by simpa using hp
   obtain⟨a0,a1,a2,_⟩:=a.fp
   exact⟨a.here,a0,a1,a2,fun v z=>by cases z⟩
theorem AccAt.back {pins':List (Addr×Obj)} {σ':St} {H':Hp} {s':Shared} (a:AccAt Y pins H s D ys its nn) (I:Inv Y pins' σ' H' s') (hm:(D,zdL its nn)∈pins'):AccAt Y pins H' s' D ys its nn:=by
 have p:=I.pin (D,zdL its nn) (aK _ hm)
 exact⟨⟨p.2.1,a.fp.2⟩,p.1,a.vals,a.len⟩
end
def PM (Y:Cx) (D:Addr) (js:List Nat) (mk:Sem Fin→Sem Fin) (tm:TM):Prop :=
 ∀ (last:Sem Fin) (pins:List (Addr×Obj)) (s:Shared) (σ:St) (H:Hp) (ys:List V) (its:List Value) (nn:Nat) (Q:List V→Hp→Prop) (Φ:Fin→Shared→Prop),Inv Y pins σ H s→AccAt Y pins H s D ys its nn→zfU js σ→tm ys σ H Q →
  (∀ (s':Shared) (ys':List V) (its':List Value) (nn':Nat) (H':Hp),Inv Y pins σ H' s'→AccAt Y pins H' s' D ys' its' nn'→Q ys' H'→wpAny (model Y.prog Y.w) Y.A last Φ (fun _ _=>False) s') →
  wpAny (model Y.prog Y.w) Y.A (mk last) Φ (fun _ _=>False) s
def zfs (elt:Expr) (acc:Value) (env:Env) (last:Sem Fin):Sem Fin:=(eval elt env >>= fun x=>call (.builtin "list.append") [acc,x] >>= fun _=>pure ()) >>= fun _=>last
def ziu (e iter:Expr) (d:Nat) (acc:Value) (env:Env) (last:Sem Fin):Sem Fin :=
 eval iter env >>= fun x=>standAt iter.pos >>= fun _=>foldedSetIterable iter env x >>= fun x=>holding [x] (pyIter x) >>= fun itv=>runOwn (.compStart e d itv acc env) env >>= fun _=>last
def ziv (te:TE):TM:=fun ys σ H Q=>te σ H fun y H4=>ys.length < sizeLine∧Q (ys++[y]) H4
def cIn (g:TG) (ts:TT) (tm:TM) (σ:St) (J:It) (Q:List V→Hp→Prop) (ys:List V) (H1:Hp):Prop :=
 ∃ W:Nat→Nat→List V→Hp→Prop,(∃ m,W 0 m ys H1)∧∀ i m ys H,W i m ys H →
  (J.stop i H∧Q ys H) ∨
  (J.go i H∧∃ N:List V→Hp→Prop,(∀ ys' H',N ys' H'→∃ m',m' < m∧W (i+1) m' ys' H')∧∀ x H',J.yld i H x H'→g x σ H' fun σ2 H2=>ts σ2 H2 fun b H3 =>
   if b=true then tm ys σ2 H3 N else N ys H3)
def ziw (wi:TI) (g:TG) (ts:TT) (tm:TM):TM:=fun ys σ H Q=>wi σ H fun J H1=>cIn g ts tm σ J Q ys H1
def zfV (ix:List (Option Nat)) (wi:TI) (g:TG) (ts:TT) (tm:TM):TE:=fun σ H Q=>wi σ H fun J H1=>cIn g ts tm (zc5 ix σ) J (fun ys H'=>∀ D,H' D=none→Q (.ref D) (upd H' D (.lst ys))) [] H1
theorem thx {α:Type} {X:Cx} {m:Sem α} {P Q:α→Shared→Prop} {E:Value→Shared→Prop} {s:Shared} (hx:X.xe=fun _ _=>False) (h:wpAny (model X.prog X.w) X.A m P X.xe s) (k:∀ a s',P a s'→Q a s'):wpAny (model X.prog X.w) X.A m Q E s :=
 cQ h k fun _ _ z=>by rw [hx] at z; exact z.elim
theorem zhS {Y:Cx} {D:Addr} {elt:Expr} {te:TE} (hx:Y.xe=fun _ _=>False) (he:PE Y elt te):PM Y D [] (zfs elt (.ref D) Y.env) (ziv te):=by
 intro last pins s σ H ys its nn Q Φ I a no h k
 unfold zfs
 refine ae (ae (thx hx (he (pins++[(D,zdL its nn)]) s σ H _ (a.pin I) h) fun yv s1 ⟨y,H1,I1,r1,hz,q1⟩=>ae ?_))
 have a1:=a.back I1 (aK _ aF)
 have J1:Inv Y pins σ H1 s1:=I1.fewer fun p hp=>aU _ hp
 have hvl:=a1.vals.length
 refine dA jL ⟨_,a1.here,rfl⟩ jx (jg _ _) (jT D its.toArray nn yv (by rw [ap]; lia)) ⟨a1.here,?_⟩
 refine am ?_
 have q:=ka a1.here (·.push yv)
 have k10:∀ b o,b≠D→s1.heap.get? b=some o→(s1.heap.update D (de (·.push yv))).get? b=some o:=fun b o hb e=>(f6 s1.heap (de (·.push yv)) (dZ hb)).trans e
 obtain⟨b0,b1,b2,b3,b4,b5⟩:=a1.fp
 have I11:Inv Y pins σ H1 { s1 with heap:=s1.heap.update D (de (·.push yv)) }:=J1.turned (t':=s1.toks) k10 b0 b1 b3 b4 b5
 have e1:its.toArray.push yv=(its++[yv]).toArray:=by simp
 rw [e1] at q
 refine k _ (ys++[y]) (its++[yv]) _ H1 I11 ⟨a1.fp,q,a1.vals.append (.cons r1 .nil),?_⟩ q1
 rw [ao,eL]
 lia
section
variable {Y:Cx} {D:Addr} {js js':List Nat} {elt:Expr} {gens:List Comprehension} {scope:Scope} {pos:Pos} {d:Nat} {tg:Expr} {ifs:List Expr} {p:Pos} {mk:Sem Fin→Sem Fin} {g:TG} {ts:TT} {tm:TM}
def zcc (tg:Expr) (ifs:List Expr) (p:Pos) (mk:Sem Fin→Sem Fin) (c:Code) (it:Value) (env:Env):Sem Fin :=
 standAt p >>= fun _=>pyNext it >>= fun r=>match r with
  | none=>pure (.done .next)
  | some v=>letOwnedTupleGo tg it v >>= fun _=>assign tg env v >>= fun _=>zhQ ifs env >>= fun ok=>if ok=true then mk (again c) else again c
theorem zix (hc:Y.calm=true) (hx:Y.xe=fun _ _=>False) (hgs:GS js g) (hdis:∀ j∈js,j∉js') (hg:PG Y tg g) (ht:zc3 Y ifs ts) (hm:PM Y D js' mk tm)
  (hturn:∀ it,compTurn (.ListComp elt gens scope pos) d it (.ref D) Y.env=zcc tg ifs p mk (.compLoop (.ListComp elt gens scope pos) d it (.ref D) Y.env) it Y.env)
  {pins:List (Addr×Obj)} {σ:St} {H2:Hp} {s2:Shared} {it:Addr} {fp:List Addr} {tn:Nat→Heap→Prop} {J:It} {Q:List V→Hp→Prop} {R:Result→Shared→Prop} {ys:List V} {its:List Value} {nn:Nat}
  (I2:Inv Y pins σ H2 s2) (a2:AccAt Y pins H2 s2 D ys its nn) (no:zfU (js++js') σ) (T:Turn Y.prog Y.w Y.K tg J fp it tn) (st2:tn 0 s2.heap) (f2:∀ b∈fp,zbR Y pins H2 b) (fD:∀ b∈fp,b≠D) (q:cIn g ts tm σ J Q ys H2)
  (hR:∀ (s':Shared) (ys':List V) (its':List Value) (nn':Nat) (H':Hp),Inv Y pins σ H' s'→AccAt Y pins H' s' D ys' its' nn'→Q ys' H'→R (.ok .next) s') :
  codeAny (model Y.prog Y.w) Y.A (.compLoop (.ListComp elt gens scope pos) d (.ref it) (.ref D) Y.env) R s2:=by
 obtain⟨W,⟨m0,w0⟩,turn⟩:=q
 have fpY:∀ {H':Hp} {its:List Value} {nn:Nat},(∀ b∈fp,H' b=none)→∀ b∈fp,zbR Y (pins++[(D,zdL its nn)]) H' b:=fun {H' its nn} hn b hb=>by
  obtain⟨_,a1,a2,a3,a4,a5⟩:=f2 b hb
  refine⟨hn b hb,a1,a2,a3,a4,fun p hp=>?_⟩
  rcases (a7.mp hp) with hp | hp
  ·exact a5 p (aU _ hp)
  ·rcases (a7.mp hp) with hp | hp
   ·exact a5 p (aK _ hp)
   ·obtain rfl:p=(D,zdL its nn):=by simpa using hp
    exact (fD b hb).symm
 refine codeAny_loop rfl (fun n s'=>∃ i ys H' its nn,Inv Y pins σ H' s'∧tn i s'.heap∧(∀ b∈fp,H' b=none)∧AccAt Y pins H' s' D ys its nn∧W i n ys H') ?_ m0
  ⟨0,ys,H2,its,nn,I2,st2,fun b hb=>(f2 b hb).1,a2,w0⟩
 rintro n s5 ⟨i,ys,H5,its,nn,I5,st5,fr5,a5,w5⟩
 show wpAny _ Y.A ((compTurn (.ListComp elt gens scope pos) d (.ref it) (.ref D) Y.env).onRaise (fun x=>do noteFrame x Y.env; theTreesLotGoes x)) _ _ s5
 refine wpAny_noted ?_
 rw [hturn]
 unfold zcc
 have I5p:=a5.pin I5
 (refine ae (fk (ae ?_)))
 rcases turn i n ys H5 w5 with ⟨stop,qn⟩ | ⟨go,N,hN,step⟩
 ·refine cQ (T.done Y rfl rfl rfl hc i _ s5 _ H5 (fun _ _=>False) I5p (fpY fr5) st5 stop) (fun r s6 ⟨hr,I6⟩=>?_) fun _ _ z=>z.elim
  subst hr
  exact am (hR s6 ys its nn H5 (I6.fewer fun p hp=>aU _ hp) (a5.back I6 (aK _ aF)) qn)
 ·refine cQ (T.item Y rfl rfl rfl hc i _ s5 _ H5 (fun _ _=>False) I5p (fpY fr5) st5 go) (fun r s6 ⟨u,hr,h6⟩=>?_) fun _ _ z=>z.elim
  subst hr
  refine ae (cQ h6 (fun _ s7 ⟨x,H7,I7,r7,y7,st7,fr7⟩=>?_) fun _ _ z=>z.elim)
  have I7':=I7.pinned (fpY fr7) (T.obj _ _ st7)
  refine ae (thx hx (hg _ s7 _ H7 x u _ I7' r7 (hgs σ σ x H7 _ Kp.refl (step x H7 y7))) fun _ s8 ⟨σ8,H8,I8,kp,q8⟩=>?_)
  refine ae (thx hx (ht _ s8 σ8 H8 _ I8 q8) fun ok s9 ⟨H9,I9,q9⟩=>?_)
  have mD:(D,zdL its nn)∈(pins++[(D,zdL its nn)])++zco fp s7.heap:=aU _ (aK _ aF)
  have a9:=a5.back I9 mD
  have K9:Inv Y (pins++zco fp s7.heap) σ8 H9 s9:=I9.fewer fun p hp=>(a7.mp hp).elim (fun z=>aU _ (aU _ z)) fun z=>aK _ z
  have wk:∀ (j:Nat) v,σ[j]? = some (some v)→σ8[j]? = some (some v):=fun j v e=>by
   have hj:j∉js:=fun z=>no j (aU _ z) v e
   rw [kp.2 j hj]
   exact e
  have back:∀ {H':Hp} {s':Shared},Inv Y (pins++zco fp s7.heap) σ8 H' s'→Inv Y pins σ H' s'∧tn (i+1) s'.heap∧∀ b∈fp,H' b=none:=fun {H' s'} I'=>by
   refine⟨(I'.fewer fun p hp=>aU _ hp).weak kp.1.symm wk,T.keep _ _ _ st7 fun b hb o e=>(I'.pin (b,o) (aK _ (aK _ (zb7 hb e)))).1,fun b hb=>?_⟩
   obtain⟨o,e,d⟩:=T.obj _ _ st7 b hb
   exact (I'.pin (b,o) (aK _ (aK _ (zb7 hb e)))).2.1
  cases ok with
  | false =>
   rw [if_neg aO] at q9 ⊢
   obtain⟨m',hm',w9⟩:=hN _ _ q9
   obtain⟨b1,b2,b3⟩:=back K9
   exact am ⟨rfl,m',hm',i+1,ys,H9,its,nn,b1,b2,b3,a9,w9⟩
  | true =>
   rw [if_pos rfl] at q9 ⊢
   have a9':AccAt Y (pins++zco fp s7.heap) H9 s9 D ys its nn:=by
    obtain⟨b0,b1,b2,b3,b4,b5⟩:=a9.fp
    refine⟨⟨b0,b1,b2,b3,b4,fun p hp=>?_⟩,a9.here,a9.vals,a9.len⟩
    rcases (a7.mp hp) with hp | hp
    ·exact b5 p (aU _ hp)
    ·rcases (a7.mp hp) with hp | hp
     ·exact b5 p (aK _ hp)
     ·exact fD _ (zfh hp).1
   have no':zfU js' σ8:=fun j hj v e=>by
    have hj':j∉js:=fun z=>hdis j z hj
    rw [kp.2 j hj'] at e
    exact no j (aK _ hj) v e
   refine cQ (hm (again _) _ s9 σ8 H9 ys its nn N (fun fin s'=>match fin with | .done f=>R (.ok f) s' | .again c'=>c'=_∧∃ m,m < n∧_) K9 a9' no' q9 fun s' ys' its' nn' H' I' a' n'=>?_) (fun _ _ z=>z) fun _ _ z=>z.elim
   obtain⟨m',hm',w'⟩:=hN _ _ n'
   obtain⟨b1,b2,b3⟩:=back I'
   obtain⟨c0,c1,c2,c3,c4,c5⟩:=a'.fp
   refine am ⟨rfl,m',hm',i+1,ys',H',its',nn',b1,b2,b3,⟨⟨c0,c1,c2,c3,c4,fun p hp=>?_⟩,a'.here,a'.vals,a'.len⟩,w'⟩
   rcases (a7.mp hp) with hp | hp
   ·exact c5 p (aU _ hp)
   ·exact c5 p (aK _ (aU _ hp))
theorem zgL {prog:Program} {w:World} {A:Around} {R:Result→Shared→Prop} {s:Shared} {iter:Expr} {it acc:Value} {env:Env} (hd:gens[d]? = some ⟨tg,iter,ifs,0⟩)
  (h0:codeAny (model prog w) A (.compLoop (.ListComp elt gens scope pos) d it acc env) R s)
  (h:wpAny (model prog w) A (pyIter it) (fun it' s'=>codeAny (model prog w) A (.compLoop (.ListComp elt gens scope pos) d it' acc env) R s') (fun _ _=>False) s) :
  codeAny (model prog w) A (.compStart (.ListComp elt gens scope pos) d it acc env) R s:=by
 refine codeAny_of_tree ?_
 show wpAny _ _ ((compStart (.ListComp elt gens scope pos) d it acc env).onRaise (fun x=>do noteFrame x env; standAt theWindowsPlace)) _ _ s
 refine wpAny_notedAt ?_
 unfold compStart
 have e1:(clausesOf (.ListComp elt gens scope pos))[d]? = some ⟨tg,iter,ifs,0⟩:=hd
 rw [e1]
 (show wpAny _ _ (ask >>= _) _ _ s)
 (refine ae (wpAny_askSetting (wpAny_ite ?_)))
 split
 ·first
   | (exact ae (am (am ⟨rfl,h0⟩)))
   | (exact am ⟨rfl,h0⟩)
 ·first
   | exact ae (cb (ae (fk (ae (cQ h (fun it' s' h'=>am (And.intro rfl h')) fun _ _ x=>x.elim)))))
   | (refine ae (cb ?_); show wpAny _ _ (standAt iter.pos >>= _) _ _ s; exact ae (fk (ae (cQ h (fun it' s' h'=>am (And.intro rfl h')) fun _ _ x=>x.elim))))
theorem zon {iter:Expr} {wi:TI} (hc:Y.calm=true) (hx:Y.xe=fun _ _=>False) (hgs:GS js g) (hdis:∀ j∈js,j∉js') (hi:PI Y tg iter wi) (hg:PG Y tg g) (ht:zc3 Y ifs ts) (hm:PM Y D js' mk tm) (hd:gens[d]? = some ⟨tg,iter,ifs,0⟩)
  (hturn:∀ it,compTurn (.ListComp elt gens scope pos) d it (.ref D) Y.env=zcc tg ifs p mk (.compLoop (.ListComp elt gens scope pos) d it (.ref D) Y.env) it Y.env)
  (hs:∀ x,foldedSetIterable iter Y.env x=pure x:=by intro _; rfl) :
  PM Y D (js++js') (ziu (.ListComp elt gens scope pos) iter d (.ref D) Y.env) (ziw wi g ts tm):=by
 intro last pins s σ H ys its nn Q Φ I a no h k
 unfold ziu
 refine ae (thx hx (hi (pins++[(D,zdL its nn)]) s σ H _ (a.pin I) h) fun v s1 h1=>ae (fk (ae ?_)))
 rw [hs v]
 refine am (ae (bV (thx hx h1 fun itv s2 h2=>?_)))
 obtain⟨it,fp,tn,J,H2,e,I2,T,st2,f2,q⟩:=h2
 subst e
 have a2:=a.back I2 (aK _ aF)
 have J2:Inv Y pins σ H2 s2:=I2.fewer fun p hp=>aU _ hp
 have f2':∀ b∈fp,zbR Y pins H2 b:=fun b hb=>by
  obtain⟨c0,c1,c2,c3,c4,c5⟩:=f2 b hb
  refine⟨c0,c1,c2,c3,c4,fun p hp=>?_⟩
  rcases (a7.mp hp) with hp | hp
  ·exact c5 p (aU _ hp)
  ·exact c5 p (aK _ (aU _ hp))
 have fD:∀ b∈fp,b≠D:=fun b hb=>((f2 b hb).2.2.2.2.2 (D,zdL its nn) (aK _ (aK _ aF))).symm
 have loop:codeAny (model Y.prog Y.w) Y.A (.compLoop (.ListComp elt gens scope pos) d (.ref it) (.ref D) Y.env) (fun r s'=>match r with | .ok f=>wpAny (model Y.prog Y.w) Y.A last Φ (fun _ _=>False) s' | .error e=>cameBackBy (model Y.prog Y.w) Y.A Y.env (fun _ _=>False) e s') s2 :=
  zix hc hx hgs hdis hg ht hm hturn J2 a2 no T st2 f2' fD q fun s' ys' its' nn' H' I' a' q'=>k s' ys' its' nn' H' I' a' q'
 exact ae (wpAny_runOwn (zgL hd loop (T.self _ 0 _ _ _ st2 loop)))
end
section
variable {X:Cx} {elt tg iter:Expr} {ifs:List Expr} {gs:List Comprehension} {scope:Scope} {pos:Pos} {N':List Str} {ix:List (Option Nat)} {js js':List Nat} {g:TG} {ts:TT} {tm:TM} {mk:Addr→Env→Sem Fin→Sem Fin}
theorem zdD {pins:List (Addr×Obj)} {σ:St} {H2:Hp} {s2:Shared} {it:Addr} {fp:List Addr} {tn:Nat→Heap→Prop} {J:It} {Q:VK} {E:Value→Shared→Prop} {RR:Value→Addr→Result→Shared→Prop}
  (SC:CompSc X N' ix scope) (hc:X.calm=true) (hgs:GS js g) (hdis:∀ j∈js,j∉js') (hjs:∀ j∈js++js',ix[j]? = some none)
  (hg:∀ s₃ H₃ ex pins,PG (zE X N' scope s₃ H₃ ex pins) tg g) (ht:∀ s₃ H₃ ex pins,zc3 (zE X N' scope s₃ H₃ ex pins) ifs ts) (hm:∀ s₃ H₃ ex pins D,PM (zE X N' scope s₃ H₃ ex pins) D js' (mk D (zE X N' scope s₃ H₃ ex pins).env) tm)
  (hturn:∀ it D env,compTurn (.ListComp elt (⟨tg,iter,ifs,0⟩ :: gs) scope pos) 0 it (.ref D) env=zcc tg ifs iter.pos (mk D env) (.compLoop (.ListComp elt (⟨tg,iter,ifs,0⟩ :: gs) scope pos) 0 it (.ref D) env) it env)
  (I2:Inv X pins σ H2 s2) (T:Turn X.prog X.w X.K tg J fp it tn) (st2:tn 0 s2.heap) (f2:∀ b∈fp,zbR X pins H2 b) (q:cIn g ts tm (zc5 ix σ) J (fun ys H'=>∀ D,H' D=none→Q (.ref D) (upd H' D (.lst ys))) [] H2)
  (hRR:∀ (D C:Addr) (s':Shared) (ys:List V) (H':Hp) (m:Str→Option Value),Inv X pins σ (upd H' D (.lst ys)) s'→zbR X pins (upd H' D (.lst ys)) C→s'.heap.Ns C m→Q (.ref D) (upd H' D (.lst ys))→RR (.ref D) C (.ok .next) s') :
  wpAny (model X.prog X.w) X.A (newList []) (fun acc s₃=>wpAny (model X.prog X.w) X.A (newFunctionEnv scope X.env.globals (zaf X.env.cells scope.names []) [] X.env.qual none .none (some X.env)) (fun cenv s₄ =>
   codeAny (model X.prog X.w) X.A (.compStart (.ListComp elt (⟨tg,iter,ifs,0⟩ :: gs) scope pos) 0 (.ref it) acc { cenv with scope:=relabel scope X.env }) (RR acc cenv.locals) s₄) E s₃) E s2:=by
 have hfr:∀ y∈scope.names,y.2 = .free→∃ c,X.env.cells.lookup y.1=some c:=fun y hy hf=>I2.ok.has y.1 (SC.free y hy hf)
 have hcl:∀ x c,(zaf X.env.cells scope.names []).lookup x=some c→X.env.cells.lookup x=some c:=zbS scope.names [] hfr (fun x c e=>by simp at e)
 refine bQ (zjB ?_)
 have I3:Inv X pins σ H2 { s2 with heap:=s2.heap.push { cls:=.type "list",dict:=none,data:=.seq ([]:List Value).toArray } }:=I2.kept (t':=s2.toks) fun b o e=>ak _ e
 have hD3:(s2.heap.push { cls:=.type "list",dict:=none,data:=.seq ([]:List Value).toArray }).get? s2.heap.objs.size=some { cls:=.type "list",dict:=none,data:=.seq ([]:List Value).toArray }:=aL _ rfl
 have hst3:tn 0 (s2.heap.push { cls:=.type "list",dict:=none,data:=.seq ([]:List Value).toArray }):=T.keep _ _ _ st2 fun b hb o e=>ak _ e
 have hsz3:(s2.heap.push { cls:=.type "list",dict:=none,data:=.seq ([]:List Value).toArray }).objs.size=s2.heap.objs.size+1:=bN _ _
 generalize hh3:s2.heap.push { cls:=.type "list",dict:=none,data:=.seq ([]:List Value).toArray }=h3 at *
 have hfpO:=T.obj _ _ st2
 have hfpLt:∀ b∈fp,b < s2.heap.objs.size:=fun b hb=>by obtain⟨o,e,_⟩:=hfpO b hb; exact aJ e
 have stk:∀ b∈frs X.stack,b=X.env.locals∨b∈X.fs:=fun b hb=>aB.mp (I2.stkSub b hb)
 have hDok:zbR X pins H2 s2.heap.objs.size:=I2.fpOk (ag _) I2.fresh
 have exOk:∀ b∈s2.heap.objs.size :: fp,zbR X pins H2 b:=fun b hb=>by
  rcases (aB.mp hb) with e | hb
  ·rw [e]; exact hDok
  ·exact f2 b hb
 have exLt:∀ b∈s2.heap.objs.size :: fp,b < h3.objs.size:=fun b hb=>by
  rw [hsz3]
  rcases (aB.mp hb) with e | hb; · rw [e]; exact kf _
  ·exact eK (hfpLt b hb)
 have exStk:∀ b∈s2.heap.objs.size :: fp,b∉frs X.stack:=fun b hb z=>by
  obtain⟨_,a1,a2,_⟩:=exOk b hb
  rcases stk b z with e | e
  ·exact a1 e
  ·exact a2 e
 have hns₁:(pushCells (h3.push { cls:=.type "dict",data:=.dict #[] }) scope.names).Ns h3.objs.size (fun _=>none):=(Heap.Ns.new h3 (.type "dict")).keeps (pushCells_keeps _ _)
 have old:∀ b o,h3.get? b=some o→(pushCells (h3.push { cls:=.type "dict",data:=.dict #[] }) scope.names).get? b=some o:=fun b o e=>pushCells_keeps _ _ b o (ak _ e)
 have cOld:∀ x c,X.env.cells.lookup x=some c→c < h3.objs.size:=fun x c e=>by
  obtain⟨v,q⟩:=I3.cell x c e
  exact q.lt
 have co:CO (pushCells (h3.push { cls:=.type "dict",data:=.dict #[] }) scope.names) (h3.objs.size+1) (zaf X.env.cells scope.names []) (cellsFrom (h3.objs.size+1) scope.names (zaf X.env.cells scope.names [])):=by
  have:=zkD (lo:=h3.objs.size+1) (old:=zaf X.env.cells scope.names []) scope.names (h3.push { cls:=.type "dict",data:=.dict #[] }) (zaf X.env.cells scope.names [])
   ⟨fun x c e=>.inr ⟨e,eK (cOld x c (hcl x c e))⟩,fun x y c e1 e2=>I2.ok.inj x y c (hcl x c e1) (hcl y c e2)⟩ (by rw [bN]; exact ag _)
  rw [bN] at this
  exact this
 generalize pushCells (h3.push { cls:=.type "dict",data:=.dict #[] }) scope.names=h₁ at hns₁ old co ⊢
 have clo:∀ {x c},(cellsFrom (h3.objs.size+1) scope.names (zaf X.env.cells scope.names [])).lookup x=some c→(h₁.IsCell c none∧h3.objs.size+1≤c)∨X.env.cells.lookup x=some c:=fun {x c} e=>(co.each x c e).elim .inl fun z=>.inr (hcl x c z.1)
 have cfr:∀ x,scope.names.lookup x=some .free→(cellsFrom (h3.objs.size+1) scope.names (zaf X.env.cells scope.names [])).lookup x=(zaf X.env.cells scope.names []).lookup x:=fun x hx=>zfS _ _ _ _ fun z=>by
  have:=SC.cells _ z rfl
  rw [hx] at this
  cases this
 let s3:Shared:={ s2 with heap:=h3 }
 let Y:Cx:=zE X N' scope s3 H2 (s2.heap.objs.size :: fp) pins
 have I3':Inv X pins σ H2 s3:=I3
 have okY:Y.Ok:=by
  refine⟨I2.ok.mod,SC.kind,I2.ok.glob,I2.ok.blt,ag _,co.inj,fun x hx=>?_,fun x c z e=>?_,I2.ok.hd,I2.ok.frames,.inl rfl,fun b hb=>?_,fun b o e=>I3'.bs b o e,?_,fun b o e hb=>?_,exStk,I3'.stack,I3'.stkFree⟩
  ·have hx':=zc2 (env:=X.env) (names:=scope.names) (x:=x) hx
   rcases hx' with hx' | hx'
   ·obtain⟨c,e⟩:=zcb (cs:=X.env.cells) scope.names [] x (.inr (lookup_mem hx'))
    exact⟨c,(cfr x hx').trans e⟩
   ·obtain⟨c,e,_⟩:=zfT scope.names (h3.objs.size+1) (zaf X.env.cells scope.names []) x (lookup_mem hx')
    exact⟨c,e⟩
  ·obtain⟨c',e',l'⟩:=zfT scope.names (h3.objs.size+1) (zaf X.env.cells scope.names []) x (lookup_mem (by have z':(scope.names.lookup x == some cR)=true:=z; simpa using z'))
   have e2:(cellsFrom (h3.objs.size+1) scope.names (zaf X.env.cells scope.names [])).lookup x=some c:=e
   rw [e'] at e2
   cases e2
   exact gX l'
  ·refine⟨bu (exLt b hb),fun x c e=>(clo e).elim (fun z y=>?_) fun z=>(exOk b hb).2.2.2.2.1 x c z⟩
   subst y
   exact cr _ (bm (exLt _ hb) (gX z.2))
  ·exact aZ I2.ok.bsz I3'.sz
  ·obtain⟨_,_,_,a3,_⟩:=exOk b hb
   rcases a3 with z | z
   ·exact I2.ok.noex b o e z
   ·have:=(I2.ok.bs b o e).1
    exact absurd (bm (aJ this) z) (cr _)
 have inv4:Inv Y [] (zc5 ix σ) H2 { s3 with heap:=h₁ }:=by
  refine⟨okY,rfl,I2.bare,Un.kept old,⟨_,hns₁,fun j x v e1 e2 e3=>?_⟩,fun x c e=>?_,I3'.fresh,fun x c e=>(clo e).elim (fun z=>I3'.hok.fresh (gX z.2)) fun z=>I2.freeC x c z,fun p hp=>?_,I3'.hok.kept old,?_⟩
  ·unfold zc5 at e2
   rw [ah] at e2
   cases hj:ix[j]? with
   | none=>rw [hj] at e2; simp at e2
   | some oi =>
    rw [hj] at e2
    cases oi with
    | none=>simp at e2
    | some i =>
     obtain⟨y,h1,h2,h3'⟩:=SC.cap j i hj
     have hxy:y=x:=by
      have e1':N'[j]? = some x:=e1
      rw [h1] at e1'
      exact aP e1'
     subst hxy
     have e2':(σ[i]?).join=some v:=by simpa using e2
     have e2'':σ[i]? = some (some v):=by
      cases hs:σ[i]? with
      | none=>rw [hs] at e2'; simp at e2'
      | some w=>rw [hs] at e2'; simp at e2'; rw [e2']
     obtain⟨m,hn,hl⟩:=I3'.loc
     have hk:=SC.free (y,.free) (lookup_mem h3') rfl
     have hvis:Vis X.env.scope y:=hk.elim (fun z=>.inr (.inl z)) fun z=>.inr (.inr z)
     obtain⟨u,r,l⟩:=hl i y v h2 e2'' hvis
     refine⟨u,r,.inr ⟨zbw h3',?_⟩⟩
     obtain⟨c,hcc⟩:=zcb (cs:=X.env.cells) scope.names [] y (.inr (lookup_mem h3'))
     refine⟨c,(cfr y h3').trans hcc,?_⟩
     rcases l with ⟨hk',_⟩ | ⟨_,c',hc',hcell⟩
     ·rcases hk with hk | hk
      ·have hk2:X.env.kindOf y=some .cell:=hk
       rw [hk2] at hk'; cases hk'
      ·have hk2:X.env.kindOf y=some .free:=hk
       rw [hk2] at hk'; cases hk'
     ·have:=hcl y c hcc
      rw [hc'] at this
      cases this
      obtain⟨o,ho,hd⟩:=hcell
      exact⟨o,old _ _ ho,hd⟩
  ·rcases clo e with z | z
   ·exact⟨_,z.1⟩
   ·obtain⟨v,o,ho,hd⟩:=I3'.cell x c z
    exact⟨v,o,old _ _ ho,hd⟩
  ·have hp':p∈X.pn++pins:=by
    have:p∈(X.pn++pins)++([]:List (Addr×Obj)):=hp
    simpa using this
   obtain⟨a1,a2,a3,a4,a5⟩:=I3'.pin p hp'
   exact⟨old _ _ a1,a2,bu (aJ a1),fun z=>(stk _ z).elim a3 a4,a5⟩
  ·unfold zc5
   rw [ab]
   exact SC.len.symm
 have fpY:∀ {H':Hp},(∀ b∈s2.heap.objs.size :: fp,H' b=none)→∀ b∈s2.heap.objs.size :: fp,zbR Y [] H' b:=fun {H'} hn b hb=>by
  obtain⟨_,a1,a2,a3,a4,a5⟩:=exOk b hb
  refine⟨hn b hb,bu (exLt b hb),exStk b hb,.inl hb,(okY.exf b hb).2,fun p hp=>?_⟩
  have:p∈(X.pn++pins)++([]:List (Addr×Obj)):=hp
  exact a5 p (by simpa using this)
 have nn2:∀ b∈s2.heap.objs.size :: fp,H2 b=none:=fun b hb=>(exOk b hb).1
 have noA:zfU (js++js') (zc5 ix σ):=fun j hj v e=>by
  unfold zc5 at e
  rw [ah,hjs j hj] at e
  simp at e
 have loop:∀ s₅:Shared,s₅ = { s2 with heap:=h₁ } →
   codeAny (model X.prog X.w) X.A (.compLoop (.ListComp elt (⟨tg,iter,ifs,0⟩ :: gs) scope pos) 0 (.ref it) (.ref s2.heap.objs.size) (compEnvC scope (cellsFrom (h3.objs.size+1) scope.names (zaf X.env.cells scope.names [])) h3.objs.size X.env)) (RR (.ref s2.heap.objs.size) h3.objs.size) s₅:=by
  rintro s₅ rfl
  refine zix (Y:=Y) (pins:=[]) (σ:=zc5 ix σ) (its:=[]) (nn:=0) hc rfl hgs hdis (hg s3 H2 _ pins) (ht s3 H2 _ pins) (hm s3 H2 _ pins s2.heap.objs.size) (fun it=>hturn it _ _) inv4 ⟨fpY nn2 _ aF,old _ _ hD3,.nil,bi _⟩ noA T (T.keep _ _ _ hst3 fun b hb o e=>old b o e)
   (fun b hb=>fpY nn2 b (av _ hb)) (fun b hb=>bu (hfpLt b hb)) q fun s6 ys its nn H5 I6 a6 qn=>?_
  have dn5:H5 s2.heap.objs.size=none:=a6.fp.1
  have I7:Inv X pins σ H5 s6:=by
   refine I3'.call' (s':=s6) (ch:=s2.heap.objs.size :: fp) I6.os I6.base I6.hok I6.bare fun b hb=>?_
   obtain⟨_,a1,a2,a3,a4,a5⟩:=exOk b hb
   exact⟨a3,a1,a4,a5⟩
  have I8:Inv X pins σ (upd H5 s2.heap.objs.size (.lst ys)) s6:=by
   obtain⟨_,a1,a2,a3,a4,a5⟩:=hDok
   exact I7.track dn5 I2.sz (dZ a1) a4 a5 ⟨a6.len,its,nn,a6.vals,a6.here⟩
  obtain⟨mm,hmm,_⟩:=I6.loc
  have dne:h3.objs.size≠s2.heap.objs.size:=by rw [hsz3]; exact il _
  refine hRR _ _ s6 ys H5 mm I8 (I3'.fpOk (H':=upd H5 s2.heap.objs.size (.lst ys)) (ag _) ?_) hmm (qn _ dn5)
  show upd H5 s2.heap.objs.size (.lst ys) h3.objs.size=none
  rw [zn dne]
  exact I6.free
 exact zgL rfl (loop _ rfl) (T.self _ 0 _ _ _ (T.keep _ _ _ hst3 fun b hb o e=>old b o e) (loop _ rfl))
theorem zgM {wi:TI} (SC:CompSc X N' ix scope) (hc:X.calm=true) (hgs:GS js g) (hdis:∀ j∈js,j∉js') (hjs:∀ j∈js++js',ix[j]? = some none) (hi:PI X tg iter wi)
  (hg:∀ s₃ H₃ ex pins,PG (zE X N' scope s₃ H₃ ex pins) tg g) (ht:∀ s₃ H₃ ex pins,zc3 (zE X N' scope s₃ H₃ ex pins) ifs ts) (hm:∀ s₃ H₃ ex pins D,PM (zE X N' scope s₃ H₃ ex pins) D js' (mk D (zE X N' scope s₃ H₃ ex pins).env) tm)
  (hturn:∀ it D env,compTurn (.ListComp elt (⟨tg,iter,ifs,0⟩ :: gs) scope pos) 0 it (.ref D) env=zcc tg ifs iter.pos (mk D env) (.compLoop (.ListComp elt (⟨tg,iter,ifs,0⟩ :: gs) scope pos) 0 it (.ref D) env) it env)
  (hs:∀ x,foldedSetIterable iter X.env x=pure x:=by intro _; rfl):PE X (.ListComp elt (⟨tg,iter,ifs,0⟩ :: gs) scope pos) (zfV ix wi g ts tm):=by
 intro pins s σ H Q I h
 rw [eval_ListComp]
 have hfr:∀ y∈scope.names,y.2 = .free→∃ c,X.env.cells.lookup y.1=some c:=fun y hy hf=>I.ok.has y.1 (SC.free y hy hf)
 refine im (use:=none) rfl hs (zcN hfr) SC.kind SC.names (thn (hi pins s σ H _ I h) fun v s1 h1=>thn h1 fun itv s2 h2=>?_)
 obtain⟨it,fp,tn,J,H2,e,I2,T,st2,f2,q⟩:=h2
 subst e
 refine zdD (RR:=fun acc C=>compPost (model X.prog X.w) X.A X.xe none (EP X pins σ Q) acc C) SC hc hgs hdis hjs hg ht hm hturn I2 T st2 f2 q ?_
 intro D C s' ys H' m I' fpC hm q'
 refine⟨m,hm,fun h'' hs''=>⟨.ref D,_,?_,rfl,q'⟩⟩
 obtain⟨f0,f1,f2',f3,f4,f5⟩:=fpC
 exact I'.turned (t':=s'.toks) (fun b o hb e=>hs''.extBut b o hb e) f0 f1 f3 f4 f5
theorem zdE {wi:TI} {i:Nat} {x:Str} {pos' spos:Pos} (hN:X.N.Nodup) (hxi:X.N[i]? = some x) (hx:Loc X.env.scope x) (SC:CompSc X N' ix scope) (hc:X.calm=true) (hgs:GS js g) (hdis:∀ j∈js,j∉js') (hjs:∀ j∈js++js',ix[j]? = some none) (hi:PI X tg iter wi)
  (hg:∀ s₃ H₃ ex pins,PG (zE X N' scope s₃ H₃ ex pins) tg g) (ht:∀ s₃ H₃ ex pins,zc3 (zE X N' scope s₃ H₃ ex pins) ifs ts) (hm:∀ s₃ H₃ ex pins D,PM (zE X N' scope s₃ H₃ ex pins) D js' (mk D (zE X N' scope s₃ H₃ ex pins).env) tm)
  (hturn:∀ it D env,compTurn (.ListComp elt (⟨tg,iter,ifs,0⟩ :: gs) scope pos) 0 it (.ref D) env=zcc tg ifs iter.pos (mk D env) (.compLoop (.ListComp elt (⟨tg,iter,ifs,0⟩ :: gs) scope pos) 0 it (.ref D) env) it env)
  (hsw:swapsWith (.ListComp elt (⟨tg,iter,ifs,0⟩ :: gs) scope pos) (some (.Name x pos')) spos.line X.env=pure true:=by rfl)
  (hs:∀ x,foldedSetIterable iter X.env x=pure x:=by intro _; rfl) (hf:X.fn x=true∨X.env.scope.names.lookup x=some .local:=by first | exact .inl rfl | exact .inr rfl | assumption) :
  PS X (.Assign [.Name x pos'] (.ListComp elt (⟨tg,iter,ifs,0⟩ :: gs) scope pos) spos) (zhI (zfV ix wi g ts tm) (zaQ i)):=by
 intro pins s σ H D I h
 have hfr:∀ y∈scope.names,y.2 = .free→∃ c,X.env.cells.lookup y.1=some c:=fun y hy hf=>I.ok.has y.1 (SC.free y hy hf)
 rw [exec_Assign_Name_used _ _ _ _ hsw]; refine ae (fk (ae ?_))
 show wpAny _ X.A (do let _ ← comprehension (.ListComp elt (⟨tg,iter,ifs,0⟩ :: gs) scope pos) scope X.env _ (newList []) false (eval iter X.env) (some (assign (.Name x pos') X.env))) _ _ s
 refine ae (cQ (im (use:=some (assign (.Name x pos') X.env)) (Q:=fun _ s'=>SP X pins D .next s') rfl hs (zcN hfr) SC.kind SC.names
  (thn (hi pins s σ H _ I h) fun v s1 h1=>thn h1 fun itv s2 h2=>?_)) (fun _ s' hq=>am (am hq)) fun _ _ e=>e)
 obtain⟨it,fp,tn,J,H2,e,I2,T,st2,f2,q⟩:=h2
 subst e
 refine zdD (Q:=fun x H1=>zaQ i x σ H1 D.nx) (RR:=fun acc C=>compPost (model X.prog X.w) X.A X.xe (some (assign (.Name x pos') X.env)) (fun _ s'=>SP X pins D .next s') acc C) SC hc hgs hdis hjs hg ht hm hturn I2 T st2 f2 q ?_
 intro Da C s' ys H' m I' fpC hm q'
 show wpAny _ X.A (assign (.Name x pos') X.env (.ref Da)) _ _ _
 refine wpAny_assign_Name (zfd I' hN hxi hx (show RelV (.ref Da) (.ref Da) from rfl) (fun s'' I'' ⟨a,hsb,ha⟩=>?_) hf)
 obtain⟨f0,f1,f2',f3,f4,f5⟩:=fpC
 have hCa:C≠a:=by
  rcases ha with e | e
  ·rw [e]; exact f1
  ·exact dZ (f4 x a e)
 refine⟨m,hm.sameBut hsb hCa,fun h₃ hs₃=>⟨_,_,?_,q'⟩⟩
 exact I''.turned (t':=s''.toks) (fun b o hb e=>hs₃.extBut b o hb e) f0 f1 f3 f4 f5
end
theorem zkF {elt t1 i1 t2 i2:Expr} {f1 f2:List Expr} {scope:Scope} {pos:Pos} (it:Value) (D:Addr) (env:Env):compTurn (.ListComp elt [⟨t1,i1,f1,0⟩,⟨t2,i2,f2,0⟩] scope pos) 0 it (.ref D) env =
  zcc t1 f1 i1.pos (ziu (.ListComp elt [⟨t1,i1,f1,0⟩,⟨t2,i2,f2,0⟩] scope pos) i2 1 (.ref D) env) (.compLoop (.ListComp elt [⟨t1,i1,f1,0⟩,⟨t2,i2,f2,0⟩] scope pos) 0 it (.ref D) env) it env:=by rfl
theorem zoo {elt t1 i1 t2 i2:Expr} {f1 f2:List Expr} {scope:Scope} {pos:Pos} (it:Value) (D:Addr) (env:Env):compTurn (.ListComp elt [⟨t1,i1,f1,0⟩,⟨t2,i2,f2,0⟩] scope pos) 1 it (.ref D) env =
  zcc t2 f2 i2.pos (zfs elt (.ref D) env) (.compLoop (.ListComp elt [⟨t1,i1,f1,0⟩,⟨t2,i2,f2,0⟩] scope pos) 1 it (.ref D) env) it env:=by rfl
def zdp (ix:List (Option Nat)):List Nat:=(aH ix.length).filter fun j=>ix[j]? == some none
theorem zcd {ix:List (Option Nat)} {i:Nat}:i∈zdp ix↔ix[i]? = some none:=by
 unfold zdp
 rw [cw,bd,beq_iff_eq]
 exact⟨fun h=>h.2,fun h=>⟨(aA.mp h).1,h⟩⟩
def GK (ix:List (Option Nat)) (g:TG):Prop:=GS (zdp ix) g
def GKs (ix:List (Option Nat)) (g:TGs):Prop:=GSs (zdp ix) g
theorem zZ {ix:List (Option Nat)} {i:Nat} (hi:ix[i]? = some none):GK ix (zaQ i):=zcz (zcd.2 hi)
theorem zay {ix:List (Option Nat)}:GKs ix zhH:=zit
theorem zy {ix:List (Option Nat)} {i:Nat} {u:TGs} (hi:ix[i]? = some none) (h2:GKs ix u):GKs ix (zbV (zaQ i) u):=zei (zcd.2 hi) h2
theorem zaW {ix:List (Option Nat)} {K:ai} {n:Nat} {t:TGs} (h:GKs ix t):GK ix (zgF K n t):=zkE h
theorem zjC {ix:List (Option Nat)} {g:TG} {u:TGs} (h1:GK ix g) (h2:GKs ix u) (mono:∀ (x:V) (σ:St) (H:Hp) (Q Q':St→Hp→Prop),(∀ σ' H',Q σ' H'→Q' σ' H')→g x σ H Q→g x σ H Q'):GKs ix (zbV g u):=fun σ σ1 xs H Q hw h=>by
 obtain⟨v,r,e,h⟩:=h
 refine⟨v,r,e,mono v σ1 H _ _ (fun σ' H' q=>?_) (h1 σ σ1 v H _ hw h)⟩
 exact h2 σ σ' r H' Q q.1 q.2
theorem znN {elt t1 i1:Expr} {f1:List Expr} {scope:Scope} {pos:Pos} (it:Value) (D:Addr) (env:Env):compTurn (.ListComp elt [⟨t1,i1,f1,0⟩] scope pos) 0 it (.ref D) env =
  zcc t1 f1 i1.pos (zfs elt (.ref D) env) (.compLoop (.ListComp elt [⟨t1,i1,f1,0⟩] scope pos) 0 it (.ref D) env) it env:=by rfl
section
variable {X:Cx} {elt tg iter:Expr} {ifs:List Expr} {scope:Scope} {pos:Pos} {N':List Str} {ix:List (Option Nat)} {g:TG} {ts:TT} {te:TE}
theorem zO {wi:TI} (SC:CompSc X N' ix scope) (hc:X.calm=true) (hk:GK ix g) (hi:PI X tg iter wi)
  (hg:∀ s₃ H₃ ex pins,PG (zE X N' scope s₃ H₃ ex pins) tg g) (ht:∀ s₃ H₃ ex pins,zc3 (zE X N' scope s₃ H₃ ex pins) ifs ts) (he:∀ s₃ H₃ ex pins,PE (zE X N' scope s₃ H₃ ex pins) elt te)
  (hs:∀ x,foldedSetIterable iter X.env x=pure x:=by intro _; rfl):PE X (.ListComp elt [⟨tg,iter,ifs,0⟩] scope pos) (znM ix wi g ts te) :=
 zgM (mk:=fun D env=>zfs elt (.ref D) env) (js:=zdp ix) (js':=[]) SC hc hk (fun _ _ h=>nomatch h) (fun j h=>zcd.1 (by simpa using h)) hi hg ht (fun s₃ H₃ ex pins D=>zhS rfl (he s₃ H₃ ex pins)) (fun _ _ _=>znN _ _ _) hs
theorem zaz {wi:TI} {i:Nat} {x:Str} {pos' spos:Pos} (hN:X.N.Nodup) (hxi:X.N[i]? = some x) (hx:Loc X.env.scope x) (SC:CompSc X N' ix scope) (hc:X.calm=true) (hk:GK ix g) (hi:PI X tg iter wi)
  (hg:∀ s₃ H₃ ex pins,PG (zE X N' scope s₃ H₃ ex pins) tg g) (ht:∀ s₃ H₃ ex pins,zc3 (zE X N' scope s₃ H₃ ex pins) ifs ts) (he:∀ s₃ H₃ ex pins,PE (zE X N' scope s₃ H₃ ex pins) elt te)
  (hsw:swapsWith (.ListComp elt [⟨tg,iter,ifs,0⟩] scope pos) (some (.Name x pos')) spos.line X.env=pure true:=by rfl)
  (hs:∀ x,foldedSetIterable iter X.env x=pure x:=by intro _; rfl) (hf:X.fn x=true∨X.env.scope.names.lookup x=some .local:=by first | exact .inl rfl | exact .inr rfl | assumption) :
  PS X (.Assign [.Name x pos'] (.ListComp elt [⟨tg,iter,ifs,0⟩] scope pos) spos) (zhI (znM ix wi g ts te) (zaQ i)) :=
 zdE (mk:=fun D env=>zfs elt (.ref D) env) (js:=zdp ix) (js':=[]) hN hxi hx SC hc hk (fun _ _ h=>nomatch h) (fun j h=>zcd.1 (by simpa using h)) hi hg ht (fun s₃ H₃ ex pins D=>zhS rfl (he s₃ H₃ ex pins)) (fun _ _ _=>znN _ _ _) hsw hs hf
end
end L2
end
section
namespace L2
open PySem PySem.Spec PyProof.Rows
section
variable {X:Cx} {pins:List (Addr×Obj)} {σ:St} {H:Hp} {s:Shared} {h':Heap}
theorem Inv.turnedL {t':Nat} {ch:List Addr} (I:Inv X pins σ H s) (k:∀ b o,b∉ch→s.heap.get? b=some o→h'.get? b=some o) (hf:∀ b∈ch,zbR X pins H b)
  (th:∀ b∈ch,∃ o,h'.get? b=some o):Inv X pins σ H { s with heap:=h',toks:=t' }:=by
 have nit:∀ b u,H b=some u→b∉ch:=fun b u e z=>by rw [(hf b z).1] at e; cases e
 refine I.step (g':=s.gens) (d':=s.drawn) (ch:=ch) (fun b hb=>?_) (fun b o _ _ hc e _=>k b o hc e) (fun b o _ _ hc e _=>⟨o.slots,k b o hc e⟩) (fun _ _ _ _ n=>n)
  (fun b o hc e=>⟨o,k b o hc e⟩) (fun _ _ e=>e) (fun _ _ _ e=>e) (fun b ps e=>⟨#[],by rw [e]; simp⟩) (fun m hm=>?_) (fun b u e=>?_) I.bare
 ·obtain⟨_,a1,_,a3,a4,a5⟩:=hf b hb
  exact⟨a3,a1,a4,a5⟩
 ·obtain⟨o,es,ep,ho,r⟩:=hm
  exact⟨o,es,ep,k _ o (fun z=>(hf _ z).2.1 rfl) ho,r⟩
 ·refine (I.hok b u e).stay (fun c v hc q=>k c v ?_ q) (fun _ q=>q) fun _ _ q=>q
  rcases hc with z | z
  ·rw [z]; exact nit b u e
  ·exact nit c _ z
theorem Inv.turnedNew {t':Nat} {ch:List Addr} {T:Addr} {o:HO} (I:Inv X pins σ H s) (k:∀ b o,b∉ch→s.heap.get? b=some o→h'.get? b=some o) (hf:∀ b∈ch,zbR X pins H b)
  (th:∀ b∈ch,∃ o,h'.get? b=some o) (hT:s.heap.objs.size≤T) (ok:zas X.prog X.w (upd H T o) h' T o):Inv X pins σ (upd H T o) { s with heap:=h',toks:=t' }:=by
 have I1:Inv X pins σ H { s with heap:=h',toks:=t' }:=I.turnedL k hf th
 have hn:H T=none:=I.hok.fresh hT
 obtain⟨_,a1,a2,a3,a4,a5⟩:=I.fpOk (H':=H) hT hn
 exact I1.track hn (aZ I.sz hT) (dZ a1) a4 a5 ok
end
def zop (Sq:Hp→Addr→List V→Prop) (a:Addr):It :=
 ⟨fun i H=>∃ xs x,Sq H a xs∧xs[i]? = some x,fun i H x H'=>∃ T v,H T=none∧x = .ref T∧H'=upd H T (.tup [.int i,v])∧∀ xs,Sq H a xs→xs[i]? = some v,fun i H=>∃ xs,Sq H a xs∧xs.length≤i⟩
theorem zbE {h:Heap} {T:Addr} {a b:Value} (e:h.get? T=some { cls:=.type "tuple",data:=.seq #[a,b] }):IsTup h T ([a,b]:List Value).toArray:=⟨_,e,rfl,_,rfl⟩
theorem zaH:2≤sizeLine:=by rw [aX]; decide
theorem zhT {P:Program} {w:World} {K:ai} {es:List Expr} {k:Nat} {pos:Pos} (a it e:Addr) (hei:e≠it):Turn P w K (.Tuple es k pos) (zop (SqL K) a) [e,it] e (fun i h=>(∃ old,IsEnum h e it i old)∧h.IsListIter it a i) where
 mem:=by simp
 obj:=fun i h st b hb=>by
  obtain⟨⟨old,he⟩,o,ho,hc,hd⟩:=st
  rcases aB.mp hb with z | z
  ·subst z
   exact⟨_,he,fun v z=>by cases z⟩
  ·have z:b=it:=by simpa using z
   subst z
   exact⟨o,ho,fun v z=>by rw [hd] at z; cases z⟩
 keep:=fun i h h' st kk=>⟨st.1.imp fun old he=>kk e (by simp) _ he,st.2.at fun o eo=>kk it (by simp) o eo⟩
 item:=by
  intro X hP hw hK hc i pins s σ H E I hf st hg
  subst hP hw hK
  obtain⟨xs,x,hq,hx⟩:=hg
  obtain⟨⟨old,he⟩,hit⟩:=st
  obtain⟨its,rv,p,hz⟩:=I.list hq
  obtain⟨u,hu,ru⟩:=rv.get hx
  have hes:e < s.heap.objs.size:=aJ he
  have hits:it < s.heap.objs.size:=by obtain⟨o,ho,_⟩:=hit; exact aJ ho
  refine wpAny_pyNext_enum_item he hit p.isList (x:=u) (by simpa using hu) hei fun h' ho' hit' hT hsz kk=>?_
  have k1:∀ b o,b∉[e,it]→s.heap.get? b=some o→h'.get? b=some o:=fun b o hb eo=>kk b o (fun z=>hb (by simp [z])) (fun z=>hb (by simp [z])) eo
  have th1:∀ b∈[e,it],∃ o,h'.get? b=some o:=fun b hb=>by
   rcases aB.mp hb with z | z
   ·subst z; exact⟨_,ho'⟩
   ·have z:b=it:=by simpa using z
    subst z
    obtain⟨o,eo,_⟩:=hit'
    exact⟨o,eo⟩
  have I1:Inv X pins σ (upd H s.heap.objs.size (.tup [.int i,x])) { s with heap:=h',toks:=s.toks+1 } :=
   I.turnedNew k1 hf th1 (ag _) ⟨zaH,_,.cons ⟨s.toks,rfl⟩ (.cons ru .nil),zbE hT⟩
  refine⟨_,rfl,gN ho' fun h'' he'' hs''=>?_⟩
  have fr:∀ b∈[e,it],upd H s.heap.objs.size (.tup [.int i,x]) b=none:=fun b hb=>by
   have hlt:b < s.heap.objs.size:=by
    rcases aB.mp hb with z | z
    ·subst z; exact hes
    ·have z:b=it:=by simpa using z
     subst z; exact hits
   rw [zn (bu hlt)]
   exact (hf b hb).1
  have I2:Inv X pins σ (upd H s.heap.objs.size (.tup [.int i,x])) { s with heap:=h'',toks:=s.toks+1 } :=
   Inv.turnedL (s:={ s with heap:=h',toks:=s.toks+1 }) (ch:=[e]) (t':=s.toks+1) I1 (fun b o hb eo=>hs''.extBut b o (by simpa using hb) eo) (fun b hb=>by
    have z:b=e:=by simpa using hb
    subst z
    exact⟨fr b (by simp),(hf b (by simp)).2⟩) (fun b hb=>by
    have z:b=e:=by simpa using hb
    subst z
    exact⟨_,he''⟩)
  refine⟨.ref s.heap.objs.size,_,I2,rfl,⟨_,x,I.fresh,rfl,rfl,fun ys hy=>by rw [I.list_inj hy hq]; exact hx⟩,⟨⟨_,by simpa using he''⟩,hit'.extBut hs''.extBut (dZ hei)⟩,fr⟩
 done:=by
  intro X hP hw hK hc i pins s σ H E I hf st hg
  subst hP hw hK
  obtain⟨xs,hq,hx⟩:=hg
  obtain⟨⟨old,he⟩,hit⟩:=st
  obtain⟨its,rv,p,hz⟩:=I.list hq
  have hl:=rv.length
  obtain⟨f0,f1,f2,f3,f4,f5⟩:=hf it (by simp)
  exact wpAny_pyNext_enum_end (I.ok.hd hc) he hit p.isList (by simp; lia) fun h' eb=>⟨rfl,I.turned (t':=s.toks) (fun b o hb e=>eb b o hb e) f0 f1 f3 f4 f5⟩
 self:=fun _ _ _ _ _ st h=>by
  obtain⟨⟨old,he⟩,_⟩:=st
  exact fV he h
def iEn (Sq:Hp→Addr→List V→Prop) (ta:TA):TI:=fun σ H R=>ta σ H fun vs H1=>∃ a xs,vs = [.ref a]∧Sq H1 a xs∧R (zop Sq a) H1
theorem zkG {X:Cx} {es:List Expr} {k:Nat} {tpos p pos:Pos} {a:Expr} {ta:TA} (hg:Gl X "enumerate") (hm:X.mg "enumerate" = none) (ha:PA X [a] ta) (hs:starEach [a] X.env = [(false,eval a X.env)]:=by rfl) :
  PI X (.Tuple es k tpos) (.Call (.Name "enumerate" p) [a] [] pos) (iEn (SqL X.K) ta):=by
 intro pins s σ H R I h
 refine Call_ (zbp I hg hm boot_enumerate (bv (thn (ha pos pins s σ H _ I h) fun us s1 ⟨vs,H1,I1,r1,q1⟩=>?_) hs rfl))
 obtain⟨l,xs,e,hq,q⟩:=q1
 subst e
 cases r1 with
 | cons r rr =>
  cases rr
  cases r
  obtain⟨its,rv,pl,hz⟩:=I1.list hq
  refine call_enumerate_list pl.isList fun h' he hi hsz kk=>?_
  have I2:Inv X pins σ H1 { s1 with heap:=h' }:=I1.kept (t':=s1.toks) kk
  refine fV he ?_; refine⟨_,[s1.heap.objs.size+1,s1.heap.objs.size],_,zop (SqL X.K) l,H1,rfl,I2,zhT l s1.heap.objs.size (s1.heap.objs.size+1) (il _),⟨⟨_,he⟩,hi⟩,fun b hb=>?_,q⟩
  have hle:s1.heap.objs.size≤b:=by
   rcases aB.mp hb with z | z
   ·rw [z]; exact gA _
   ·have z:b=s1.heap.objs.size:=by simpa using z
    rw [z]; exact ag _
  exact I1.fpOk hle (I1.hok.fresh hle)
def zjD (Sq1 Sq2:Hp→Addr→List V→Prop) (a b:Addr):It :=
 ⟨fun i H=>∃ xs ys x y,Sq1 H a xs∧Sq2 H b ys∧xs[i]? = some x∧ys[i]? = some y,
  fun i H x H'=>∃ T u v,H T=none∧x = .ref T∧H'=upd H T (.tup [u,v])∧(∀ xs,Sq1 H a xs→xs[i]? = some u)∧∀ ys,Sq2 H b ys→ys[i]? = some v,
  fun i H=>∃ xs ys,Sq1 H a xs∧Sq2 H b ys∧(xs.length≤i∨ys.length≤i)⟩
theorem zjE {P:Program} {w:World} {K:ai} {es:List Expr} {k:Nat} {pos:Pos} (a b:Addr) (n:Nat) (ha:a < n) (hb:b < n):Turn P w K (.Tuple es k pos) (zjD (SqL K) (SqL K) a b) [n+4,n+2,n+3,n,n+1] (n+4)
  (fun i h=>IsZip h (n+4) (n+2) (n+3) .none∧IsPair h (n+2) (.ref n) (.ref (n+1))∧(∃ u v,IsPair h (n+3) u v)∧h.IsListIter n a i∧h.IsListIter (n+1) b i) where
 mem:=by simp
 obj:=fun i h st c hc=>by
  obtain⟨h1,h2,⟨u,v,h3⟩,⟨o4,e4,_,d4⟩,⟨o5,e5,_,d5⟩⟩:=st
  simp only [aB,aQ,or_false] at hc
  rcases hc with z | z | z | z | z <;> subst z
  ·exact⟨_,h1,fun v z=>by cases z⟩
  ·exact⟨_,h2,fun v z=>by cases z⟩
  ·exact⟨_,h3,fun v z=>by cases z⟩
  ·exact⟨_,e4,fun v z=>by rw [d4] at z; cases z⟩
  ·exact⟨_,e5,fun v z=>by rw [d5] at z; cases z⟩
 keep:=fun i h h' st kk=>by
  obtain⟨h1,h2,⟨u,v,h3⟩,h4,h5⟩:=st
  exact⟨kk _ (by simp) _ h1,kk _ (by simp) _ h2,⟨u,v,kk _ (by simp) _ h3⟩,h4.at fun o eo=>kk _ (by simp) o eo,h5.at fun o eo=>kk _ (by simp) o eo⟩
 item:=by
  intro X hP hw hK hc i pins s σ H E I hf st hg
  subst hP hw hK
  obtain⟨xs,ys,x,y,hq1,hq2,hx,hy⟩:=hg
  obtain⟨h1,h2,⟨u0,v0,h3⟩,h4,h5⟩:=st
  obtain⟨its1,rv1,p1,hz1⟩:=I.list hq1
  obtain⟨its2,rv2,p2,hz2⟩:=I.list hq2
  obtain⟨u,hu,ru⟩:=rv1.get hx
  obtain⟨v,hv,rv⟩:=rv2.get hy
  have hzs:n+4 < s.heap.objs.size:=aJ h1
  refine wpAny_pyNext_zip_item (dg ha hb) h1 h2 h3 h4 h5 p1.isList p2.isList (x:=u) (y:=v) (by simpa using hu) (by simpa using hv) fun h' a1 a2 a3 a4 a5 a6 kk=>?_
  have k1:∀ c o,c∉[n+4,n+3,n,n+1]→s.heap.get? c=some o→h'.get? c=some o:=fun c o hc' eo =>
   kk c o (fun z=>hc' (by simp [z])) (fun z=>hc' (by simp [z])) (fun z=>hc' (by simp [z])) (fun z=>hc' (by simp [z])) eo
  have sub:∀ c∈[n+4,n+3,n,n+1],c∈[n+4,n+2,n+3,n,n+1]:=fun c hc'=>by
   simp only [aB,aQ,or_false] at hc' ⊢
   rcases hc' with z | z | z | z <;> subst z <;> simp
  have th1:∀ c∈[n+4,n+3,n,n+1],∃ o,h'.get? c=some o:=fun c hc'=>by
   simp only [aB,aQ,or_false] at hc'
   rcases hc' with z | z | z | z <;> subst z
   ·exact⟨_,a1⟩
   ·exact⟨_,a2⟩
   ·obtain⟨o,e,_⟩:=a3; exact⟨o,e⟩
   ·obtain⟨o,e,_⟩:=a4; exact⟨o,e⟩
  have I1:Inv X pins σ (upd H s.heap.objs.size (.tup [x,y])) { s with heap:=h' } :=
   I.turnedNew (t':=s.toks) k1 (fun c hc'=>hf c (sub c hc')) th1 (ag _) ⟨zaH,_,.cons ru (.cons rv .nil),zbE a5⟩
  refine⟨_,rfl,wpAny_letOwnedTupleGo_zip a1 fun h'' hz'' hs''=>?_⟩
  have fr:∀ c∈[n+4,n+2,n+3,n,n+1],upd H s.heap.objs.size (.tup [x,y]) c=none:=fun c hc'=>by
   have hlt:c < s.heap.objs.size:=by
    simp only [aB,aQ,or_false] at hc'
    rcases hc' with z | z | z | z | z <;> subst z <;> lia
   rw [zn (bu hlt)]
   exact (hf c hc').1
  have I2:Inv X pins σ (upd H s.heap.objs.size (.tup [x,y])) { s with heap:=h'' } :=
   Inv.turnedL (s:={ s with heap:=h' }) (ch:=[n+4]) (t':=s.toks) I1 (fun c o hc' eo=>hs''.extBut c o (by simpa using hc') eo) (fun c hc'=>by
    have z:c=n+4:=by simpa using hc'
    subst z
    exact⟨fr _ (by simp),(hf _ (by simp)).2⟩) (fun c hc'=>by
    have z:c=n+4:=by simpa using hc'
    subst z
    exact⟨_,hz''⟩)
  refine⟨.ref s.heap.objs.size,_,I2,rfl,⟨_,x,y,I.fresh,rfl,rfl,fun zs hz=>by rw [I.list_inj hz hq1]; exact hx,fun zs hz=>by rw [I.list_inj hz hq2]; exact hy⟩,
   ⟨hz'',hs''.extBut _ _ (dg ha hb).TIz (kk _ _ (dg ha hb).TIz (dg ha hb).TITO (dg ha hb).TIi1 (dg ha hb).TIi2 h2),⟨_,_,hs''.extBut _ _ (dg ha hb).TOz a2⟩,a3.extBut hs''.extBut (dg ha hb).i1z,a4.extBut hs''.extBut (dg ha hb).i2z⟩,fr⟩
 done:=by
  intro X hP hw hK hc i pins s σ H E I hf st hg
  subst hP hw hK
  obtain⟨xs,ys,hq1,hq2,hx⟩:=hg
  obtain⟨h1,h2,⟨u0,v0,h3⟩,h4,h5⟩:=st
  obtain⟨its1,rv1,p1,hz1⟩:=I.list hq1
  obtain⟨its2,rv2,p2,hz2⟩:=I.list hq2
  have hl1:=rv1.length
  have hl2:=rv2.length
  refine wpAny_pyNext_zip_end (I.ok.hd hc) (dg ha hb) h1 h2 h3 h4 h5 p1.isList p2.isList ?_ fun h' kk=>⟨rfl,?_⟩
  ·rcases hx with z | z
   ·exact .inl (by simp; lia)
   ·exact .inr (by simp; lia)
  ·have hth:∀ c∈[n+4,n+3,n,n+1],c∈[n+4,n+2,n+3,n,n+1]:=fun c hc'=>by
    simp only [aB,aQ,or_false] at hc' ⊢
    rcases hc' with z | z | z | z <;> subst z <;> simp
   refine I.step (g':=s.gens) (d':=s.drawn) (t':=s.toks) (ch:=[n+4,n+3,n,n+1]) (fun c hc'=>?_) (fun c o _ _ hcc e _=>kk c o (fun z=>hcc (by simp [z])) (fun z=>hcc (by simp [z])) (fun z=>hcc (by simp [z])) (fun z=>hcc (by simp [z])) e)
    (fun c o _ _ hcc e _=>⟨o.slots,kk c o (fun z=>hcc (by simp [z])) (fun z=>hcc (by simp [z])) (fun z=>hcc (by simp [z])) (fun z=>hcc (by simp [z])) e⟩) (fun _ _ _ _ n=>n)
    (fun c o hcc e=>⟨o,kk c o (fun z=>hcc (by simp [z])) (fun z=>hcc (by simp [z])) (fun z=>hcc (by simp [z])) (fun z=>hcc (by simp [z])) e⟩) (fun _ _ e=>e) (fun _ _ _ e=>e) (fun c ps e=>⟨#[],by rw [e]; simp⟩) (fun m hm=>?_) (fun c u e=>?_) I.bare
   ·obtain⟨_,a1,_,a3,a4,a5⟩:=hf c (hth c hc')
    exact⟨a3,a1,a4,a5⟩
   ·obtain⟨o,es',ep,ho,r⟩:=hm
    have ne:∀ c∈[n+4,n+2,n+3,n,n+1],X.env.locals≠c:=fun c hc'=>dZ (hf c hc').2.1
    exact⟨o,es',ep,kk _ o (ne _ (by simp)) (ne _ (by simp)) (ne _ (by simp)) (ne _ (by simp)) ho,r⟩
   ·have nit:∀ d u',H d=some u'→∀ c∈[n+4,n+2,n+3,n,n+1],d≠c:=fun d u' e' c hc' z=>by rw [z,(hf c hc').1] at e'; cases e'
    refine (I.hok c u e).stay (fun d v' hd q=>kk d v' ?_ ?_ ?_ ?_ q) (fun _ q=>q) fun _ _ q=>q
    all_goals
     rcases hd with z | z
     ·rw [z]; exact nit c u e _ (by simp)
     ·exact nit d _ z _ (by simp)
 self:=fun _ _ _ _ _ st h=>f9 st.1 h
def iZp (Sq1 Sq2:Hp→Addr→List V→Prop) (ta:TA):TI:=fun σ H R=>ta σ H fun vs H1=>∃ a b xs ys,vs = [.ref a,.ref b]∧Sq1 H1 a xs∧Sq2 H1 b ys∧R (zjD Sq1 Sq2 a b) H1
theorem zdW {X:Cx} {es:List Expr} {k:Nat} {tpos p pos:Pos} {a b:Expr} {ta:TA} (hg:Gl X "zip") (hm:X.mg "zip" = none) (ha:PA X [a,b] ta) (hs:starEach [a,b] X.env = [(false,eval a X.env),(false,eval b X.env)]:=by rfl) (hs2:starEach [b] X.env = [(false,eval b X.env)]:=by rfl) :
  PI X (.Tuple es k tpos) (.Call (.Name "zip" p) [a,b] [] pos) (iZp (SqL X.K) (SqL X.K) ta):=by
 intro pins s σ H R I h
 refine Call_ (zbp I hg hm kg (bv (thn (ha pos pins s σ H _ I h) fun us s1 ⟨vs,H1,I1,r1,q1⟩=>?_) (by rw [hs,hs2]) (by rw [hs2]; rfl)))
 obtain⟨l1,l2,xs,ys,e,hq1,hq2,q⟩:=q1
 subst e
 cases r1 with
 | cons r rr =>
  cases rr with
  | cons r' rr =>
   cases rr
   cases r
   cases r'
   obtain⟨its1,rv1,pl1,hz1⟩:=I1.list hq1
   obtain⟨its2,rv2,pl2,hz2⟩:=I1.list hq2
   have hlt1:l1 < s1.heap.objs.size:=by obtain⟨_,_,e,_⟩:=pl1; exact aJ e
   have hlt2:l2 < s1.heap.objs.size:=by obtain⟨_,_,e,_⟩:=pl2; exact aJ e
   refine call_zip_2 pl1.isList pl2.isList fun h' b1 b2 b3 b4 b5 b6 kk=>?_
   have I2:Inv X pins σ H1 { s1 with heap:=h' }:=I1.kept (t':=s1.toks) kk
   refine f9 b1 ?_
   refine⟨_,_,_,zjD (SqL X.K) (SqL X.K) l1 l2,H1,rfl,I2,zjE l1 l2 s1.heap.objs.size hlt1 hlt2,⟨b1,b2,⟨_,_,b3⟩,b4,b5⟩,fun c hc=>?_,q⟩
   have hle:s1.heap.objs.size≤c:=by
    simp only [aB,aQ,or_false] at hc
    rcases hc with z | z | z | z | z <;> subst z <;> lia
   exact I1.fpOk hle (I1.hok.fresh hle)
def zgN (Sq:Hp→Addr→List V→Prop) (a:Addr) (n:Nat):It :=
 ⟨fun i H=>i < n∧∃ xs,Sq H a xs∧xs.length=n,fun i H x H'=>H'=H∧∀ xs,Sq H a xs→xs[n - 1 - i]? = some x,fun i H=>n≤i⟩
theorem zjF {P:Program} {w:World} {K:ai} {tg:Expr} (a it:Addr) (n:Nat):Turn P w K tg (zgN (SqL K) a n) [it] it (fun i h=>i≤n∧h.IsRevIter it a ((n:Int) - 1 - (i:Int))) where
 mem:=by simp
 obj:=fun i h st b hb=>by
  have z:b=it:=by simpa using hb
  subst z
  obtain⟨_,o,e,c,d⟩:=st
  exact⟨o,e,fun v z=>by rw [d] at z; cases z⟩
 keep:=fun i h h' st k=>⟨st.1,st.2.at fun o e=>k it (by simp) o e⟩
 item:=by
  intro X hP hw hK hc i pins s σ H E I hf st hg
  subst hP hw hK
  obtain⟨hin,xs,hq,hl⟩:=hg
  obtain⟨its,rv,p,hz⟩:=I.list hq
  have hlen:=rv.length
  obtain⟨x,hx⟩:∃ x,xs[n - 1 - i]? = some x:=⟨xs[n - 1 - i]'(by lia),by simp⟩
  obtain⟨u,hu,ru⟩:=rv.get hx
  obtain⟨f0,f1,f2,f3,f4,f5⟩:=hf it (by simp)
  have e:(n:Int) - 1 - (i:Int)=((n - 1 - i:Nat):Int):=by lia
  have hit:=st.2
  rw [e] at hit
  refine wpAny_pyNext_rev_item hit p.isList (x:=u) (by simpa using hu) fun h' st' sb=>?_
  have I1:Inv X pins σ H { s with heap:=h' }:=I.turned (t':=s.toks) (fun b o hb e=>(sb.2 b hb).trans e) f0 f1 f3 f4 f5
  have e2:((n - 1 - i:Nat):Int) - 1=(n:Int) - 1 - ((i+1:Nat):Int):=by lia
  rw [e2] at st'
  obtain⟨o,eo,c,d⟩:=id st'
  exact⟨u,rfl,zff (s:={ s with heap:=h' }) eo c d (by decide) ⟨x,H,I1,ru,⟨rfl,fun ys hy=>by rw [I.list_inj hy hq]; exact hx⟩,⟨hin,st'⟩,fun b hb=>(hf b hb).1⟩⟩
 done:=by
  intro X hP hw hK hc i pins s σ H E I hf st hg
  subst hP hw hK
  obtain⟨f0,f1,f2,f3,f4,f5⟩:=hf it (by simp)
  have hin:n≤i:=hg
  have e:(n:Int) - 1 - (i:Int) = -1:=by have:=st.1; lia
  have hit:=st.2
  rw [e] at hit
  exact wpAny_pyNext_rev_end (I.ok.hd hc) hit fun h' eb=>⟨rfl,I.turned (t':=s.toks) (fun b o hb e=>eb b o hb e) f0 f1 f3 f4 f5⟩
 self:=fun _ _ _ _ _ st h=>jh st.2 h
end L2
end
section
namespace PySem
namespace F
theorem zft:Manifest.owners.lookup (String.ofList ['d','e','s','r','e','v','e','r'].reverse)=some Manifest.sig_reversed:=by kernel_rfl
theorem slot_rvd_next:Slot "reversed" "__next__" "reversed.__next__" :=
 .of (owner:="reversed") (n:="__next__") (by rw [dN,cF]; kernel_rfl) (by decide +kernel) (by decide +kernel) (by decide +kernel) (by first | exact .inl (by decide +kernel) | exact .inr (by decide +kernel)) (by rw [gq]; kernel_rfl)
theorem entry_rvd_next:entryFor table "reversed.__next__" = some Builtin.«reversed.__next__»:=entryFor_of_tree (by kernel_rfl)
theorem args_rvd_next_1 (a:Value):argsOk "reversed.__next__" ⟨[a],[]⟩:=by
 unfold argsOk; rw [signature?_of (id:="reversed.__next__") (n:=['_','_','t','x','e','n','_','_']) (o:=['d','e','s','r','e','v','e','r']) (by kernel_rfl) zft]; kernel_rfl
theorem slot_rvd_iter:Slot "reversed" "__iter__" "reversed.__iter__" :=
 .of (owner:="reversed") (n:="__iter__") (by rw [dN,cF]; kernel_rfl) (by decide +kernel) (by decide +kernel) (by decide +kernel) (by first | exact .inl (by decide +kernel) | exact .inr (by decide +kernel)) (by rw [gq]; kernel_rfl)
theorem args_rvd_iter_1 (a:Value):argsOk "reversed.__iter__" ⟨[a],[]⟩:=by
 unfold argsOk; rw [signature?_of (id:="reversed.__iter__") (n:=['_','_','r','e','t','i','_','_']) (o:=['d','e','s','r','e','v','e','r']) (by kernel_rfl) zft]; kernel_rfl
theorem entry_rvd_iter:entryFor table "reversed.__iter__" = some Builtin.«dict_keyiterator.__iter__»:=entryFor_alias (id':="dict_keyiterator.__iter__") (by kernel_rfl) (by first | rfl | decide +kernel | (unfold String.splitOn; simp +decide [String.splitOnAux])) (by decide +kernel) (by kernel_rfl)
theorem ze2:Slot "reversed" "__init__" "object.__init__":=.of (owner:="object") (n:="__init__") (by rw [dN,cF]; kernel_rfl) (by decide +kernel) (by decide +kernel) (by decide +kernel) (by first | exact .inl (by decide +kernel) | exact .inr (by decide +kernel)) (by rw [gq]; kernel_rfl)
theorem called_rvd:TypeCalled "reversed" "reversed.__new__" "object.__init__" :=
 ⟨by decide +kernel,by decide +kernel,⟨_,_,mro_reversed⟩,made_reversed,by decide +kernel,by rw [gq]; kernel_rfl,ze2⟩
theorem noRev_tuple:typeLookup (.type "tuple") "__reversed__" = pure none:=by rw [dN,cF]; kernel_rfl
end F
def zfW (l:Addr) (i:Int):Obj:={ cls:=.type "reversed",data:=.fields #[.ref l,rawInt i] }
def Heap.IsRvd (h:Heap) (a l:Addr) (i:Int):Prop:=∃ o,h.get? a=some o∧o.cls = .type "reversed"∧o.data = .fields #[.ref l,rawInt i]
theorem Heap.IsRvd.typeIs {s:Shared} {a l:Addr} {i:Int} (x:s.heap.IsRvd a l i):s.TypeIs (.ref a) "reversed":=let ⟨o,ho,hc,_⟩:=x; ⟨o,ho,hc⟩
theorem Heap.IsRvd.at {h h':Heap} {a l:Addr} {i:Int} (x:h.IsRvd a l i) (e:∀ o,h.get? a=some o→h'.get? a=some o):h'.IsRvd a l i:=let ⟨o,ho,r⟩:=x; ⟨o,e _ ho,r⟩
open PyProof.Rows in
theorem ze3 (l:Addr) (items:Array Value) :
  Meets (Builtin.«reversed.__new__» ⟨[.type "reversed",.ref l],[]⟩) (fun _ R s=>IsTup s.heap l items∧(items.size:Int) < 2 ^ 63 ∧
   R (.ok (.ret (.ref s.heap.objs.size))) { s with heap:=s.heap.push (zfW l ((items.size:Int) - 1)),toks:=s.toks+1+1 }) :=
 .of_wp fun prog w A R s h=>by
  obtain⟨hl,hsz,h⟩:=h
  unfold Builtin.«reversed.__new__»; refine ae (dB (newClass_reversed _) ?_)
  try dsimp only
  iterate 2 refine ae (dB (a:=()) (by first | rfl | kernel_rfl) ?_)
  try dsimp only
  refine ae (iI hl.typeIs F.noRev_tuple ?_)
  try dsimp only
  refine ae (ae (m:=isInstance (.ref l) (.type "dict")) (fe hl.typeIs F.sub_tuple_dict ?_))
  simp only [bt,if_false]; refine ae (m:=specialOf (.ref l) "__getitem__") (iI hl.typeIs slot_tuple_getitem.lookup ?_)
  refine am ?_
  try dsimp only
  try simp only [Bool.not_true,bt,if_false]
  refine ae (len_tuple hl hsz ?_)
  refine ae (m:=asInt? _) (dB (a:=some (items.size:Int)) rfl ?_)
  try dsimp only
  refine ae (m:=kE _ _) ?_
  show wpAny _ _ (newObj (.type "reversed") (.fields #[.ref l,rawInt ((items.size:Int) - 1)]) none) _ _ _
  refine bQ ?_
  exact am ⟨_,rfl,h⟩
section
variable {prog:Program} {w:World} {A:Around} {E:Value→Shared→Prop} {s:Shared}
open PyProof.Rows
theorem zej {l:Addr} {items:Array Value} {Q:Value→Shared→Prop} (hl:IsTup s.heap l items) (hsz:(items.size:Int) < 2 ^ 63)
  (h:Q (.ref s.heap.objs.size) { s with heap:=s.heap.push (zfW l ((items.size:Int) - 1)),toks:=s.toks+1+1 }):wpAny (model prog w) A (call (.type "reversed") [.ref l]) Q E s:=by
 refine jO F.called_rvd (by decide) (F.typeCall_reversed_1 _) (F.newCall_reversed_1 _) (fun obj=>ji obj _) F.entry_reversed_new (ze3 l items) ⟨hl,hsz,?_⟩; exact⟨⟨_,aL _ rfl,rfl⟩,h⟩
theorem zcn {it l:Addr} {i:Nat} {items:Array Value} {x:Value} {Q:Option Value→Shared→Prop} (hit:s.heap.IsRvd it l (i:Int)) (hl:IsTup s.heap l items) (hx:items[i]? = some x) (hi:(i:Int) < 2 ^ 62)
  (hQ:∀ h',h'.IsRvd it l ((i:Int) - 1)→br it s.heap h'→Q (some x) { s with heap:=h',toks:=s.toks+1 }):wpAny (model prog w) A (pyNext (.ref it)) Q E s:=by
 obtain⟨o,ho,hc,hd⟩:=id hit; unfold pyNext
 refine ae (cS (bo (name:=bS "__next__") hit.typeIs F.slot_rvd_next
  (bz F.slot_rvd_next hit.typeIs F.entry_rvd_next ?_ (F.args_rvd_next_1 _))))
 unfold Builtin.«reversed.__next__»
 refine ae (dB (a:=(ba it,[])) rfl ?_); try dsimp only
 refine ae (bw ho hd (x:=.ref l) rfl ?_); refine ae (bw ho hd (x:=rawInt (i:Int)) rfl ?_)
 show wpAny _ _ (if (i:Int) < 0 then _ else _) _ _ s; rw [if_neg (by lia)]
 refine ae (iI hl.typeIs slot_tuple_getitem.lookup ?_)
 try simp only [Option.isNone_some,bt,if_false]
 refine ae (wpAny_mkInt ?_); have hlt:i < items.size:=by
  obtain⟨h1,_⟩:=cT.mp hx
  exact h1
 refine ae (cS (getItem_tuple (j:=i) hl (by lia) (by lia) (by rw [fZ (by lia) (by lia)]; simp) hx ?_))
 try dsimp only
 refine ae (bw (s:={ s with toks:=s.toks+1 }) ho hd (x:=rawInt (i:Int)) rfl ?_)
 show wpAny _ _ (setField (.ref it) 1 (rawInt ((i:Int) - 1)) >>= _) _ _ _
 refine ae (d6 (s:={ s with toks:=s.toks+1 }) ho hd (by simp) (am ⟨x,rfl,am (hQ _ ?_ (cM ..))⟩))
 exact⟨_,dM _ ho (eQ (cX hd _)),(gZ ..).trans hc,by rw [cX hd]; simp⟩
theorem zcp {it l:Addr} {Q:Option Value→Shared→Prop} (hh:A.handled=none) (hit:s.heap.IsRvd it l (-1)) (hQ:∀ h',j2 it s.heap h'→Q none { s with heap:=h' }):wpAny (model prog w) A (pyNext (.ref it)) Q E s:=by
 obtain⟨o,ho,hc,hd⟩:=id hit; unfold pyNext
 refine ae (cS (bo (name:=bS "__next__") hit.typeIs F.slot_rvd_next
  (bz F.slot_rvd_next hit.typeIs F.entry_rvd_next ?_ (F.args_rvd_next_1 _))))
 unfold Builtin.«reversed.__next__»
 refine ae (dB (a:=(ba it,[])) rfl ?_); try dsimp only
 refine ae (bw ho hd (x:=.ref l) rfl ?_); refine ae (bw ho hd (x:=rawInt (-1)) rfl ?_)
 show wpAny _ _ (if (-1:Int) < 0 then _ else _) _ _ s; rw [if_pos (by decide)]
 refine ae (cb ?_)
 refine ae (ae (m:=setField (.ref it) 1 (rawInt (-1))) (d6 ho hd (by simp) ?_))
 have hd2:=cX hd (·.setIfInBounds 1 (rawInt (-1)))
 have ho2:=dM (gO (·.setIfInBounds 1 (rawInt (-1)))) ho (eQ hd2)
 refine d6 ho2 hd2 (by simp) ?_
 try dsimp only
 refine ae ?_; show wpAny _ _ (newExc (.type "StopIteration") [] >>= _) _ _ _
 refine ae ?_
 simp only [newExc,newTuple]
 refine ae (bQ ?_ (by size_fits)); refine ae (m:=firstArgMember _ _) (dB (a:=dz) (by first | rfl | (simp only [firstArgMember]; rfl)) ?_)
 refine bQ ?_ (by size_fits); simp only [raiseNew]
 refine ae (jp ?_); first | rw [show A.in1.handled=none from hh] | rw [hh]
 refine ae (am (j3 ?_)); refine ae (fe (T:="StopIteration") (b:=true) ⟨_,aL _ rfl,rfl⟩ gr ?_)
 exact am (hQ _ ((((cM ..).extBut.trans (cM ..).extBut).push _).push _))
theorem zb1 {it l:Addr} {i:Int} {Q:Value→Shared→Prop} (hit:s.heap.IsRvd it l i) (h:Q (.ref it) s):wpAny (model prog w) A (pyIter (.ref it)) Q E s:=by
 refine g7 hit.typeIs F.slot_rvd_iter (bz F.slot_rvd_iter hit.typeIs F.entry_rvd_iter ?_ (F.args_rvd_iter_1 _))
 show wpAny _ _ (ret (.ref it)) _ _ s; exact am ⟨_,rfl,"reversed",_,hit.typeIs,F.slot_rvd_next.lookup,h⟩
end
section
variable {prog:Program} {w:World} {A:Around} {E:Value→Shared→Prop} {s:Shared}
theorem zgO {it t:Addr} {i:Nat} {items:Array Value} {x:Value} {Q:Value→Shared→Prop} (hit:s.heap.IsTupleIter it t i) (ht:s.heap.IsTuple t items) (hx:items[i]? = some x)
  (hQ:∀ h',h'.IsTupleIter it t (i+1)→br it s.heap h'→Q x { s with heap:=h' }):wpAny (model prog w) A (be (.ref it)) Q E s:=by
 obtain⟨o,ho,hc,hd⟩:=id hit; obtain⟨ot,hot,_,nt,hdt⟩:=ht
 unfold be; refine ae (bo (name:=bS "__next__") hit.typeIs dP (bz dP hit.typeIs gE ?_ (gt _)))
 show wpAny _ _ (field (.ref it) 0 >>= _) _ _ s; refine ae (bw ho hd (x:=.ref t) rfl ?_); show wpAny _ _ (if (ba t == dz)=true then _ else _) _ _ _; rw [if_neg (by exact aO)]
 refine ae (bw ho hd (x:=.int _ 0) rfl ?_); refine ae (m:=seqItems? _) (cY hot hdt ?_); simp only [bf,hx]
 have hn:=dM (gO (·.setIfInBounds 1 (rawInt ((i+1:Nat):Int)))) ho (eQ (cX hd _))
 refine ae (d6 ho hd (by simp) (am ⟨x,rfl,am (hQ _ ⟨_,hn,(gZ ..).trans hc,?_⟩ (cM ..))⟩)); rw [cX hd]; simp [rawInt]
theorem zgP {it t:Addr} {i:Nat} {items:Array Value} {Q:Value→Shared→Prop} (hh:A.handled=none) (hit:s.heap.IsTupleIter it t i) (ht:s.heap.IsTuple t items) (hx:items[i]? = none)
  (hE:∀ h' e,j2 it s.heap h'→(∃ o,h'.get? e=some o∧o.cls = .type "StopIteration")→E (.ref e) { s with heap:=h' }):wpAny (model prog w) A (be (.ref it)) Q E s:=by
 obtain⟨o,ho,hc,hd⟩:=id hit; obtain⟨ot,hot,_,nt,hdt⟩:=ht
 unfold be; refine ae (bo (name:=bS "__next__") hit.typeIs dP (bz dP hit.typeIs gE ?_ (gt _)))
 show wpAny _ _ (field (.ref it) 0 >>= _) _ _ s; refine ae (bw ho hd (x:=.ref t) rfl ?_); show wpAny _ _ (if (ba t == dz)=true then _ else _) _ _ _; rw [if_neg (by exact aO)]
 refine ae (bw ho hd (x:=.int _ 0) rfl ?_); refine ae (m:=seqItems? _) (cY hot hdt ?_); simp only [bf,hx]
 refine ae (cb (ae (d6 ho hd (by simp) ?_))); show wpAny _ _ (newExc (.type "StopIteration") [] >>= _) _ _ _; refine ae ?_
 simp only [newExc,newTuple]; refine ae (bQ ?_ (by size_fits)); refine ae (m:=firstArgMember _ _) (dB (a:=dz) (by first | rfl | (simp only [firstArgMember]; rfl)) ?_)
 refine bQ ?_ (by size_fits); simp only [raiseNew]; refine ae (jp ?_); first | rw [show A.in1.handled=none from hh] | rw [hh]
 refine ae (am (j3 ?_)); exact hE _ _ (((cM ..).extBut.push _).push _) ⟨_,aL _ rfl,rfl⟩
end
theorem Draws.tuple {prog:Program} {w:World} {A:Around} (hh:A.handled=none) (it t:Addr) (hne:t≠it) (items:Array Value):Draws prog w A it [it,t] items.size (fun i v=>items[i]? = some v) (fun i h=>h.IsTupleIter it t i∧h.IsTuple t items) where
 live:=fun i h st=>st.1.imp fun o r=>r.1
 frame:=fun i h h' st kk=>⟨st.1.at fun o=>kk it (by simp) o,st.2.at fun o=>kk t (by simp) o⟩
 item:=fun i s Q E hi st hQ=>zgO st.1 st.2 (x:=items[i]) (by simp [hi]) fun h' a b=>hQ _ h' s.toks (by simp [hi]) ⟨a,st.2.extBut b.extBut hne⟩ b
 done:=fun s Q E st hE=>zgP hh st.1 st.2 (by simp) hE
def zcm (t:Addr):Obj:={ cls:=.type "tuple_iterator",data:=.fields #[.ref t,.int 0 0] }
def zkH (it:Addr):Obj:={ cls:=.type "enumerate",data:=.fields #[.none,.bool false,.ref it,rawInt 0,.none,.none] }
end PySem
namespace L2
open PySem PySem.Spec PyProof.Rows
theorem zjG {P:Program} {w:World} {K:ai} {tg:Expr} (a it:Addr) (n:Nat):Turn P w K tg (zgN (SqT K) a n) [it] it (fun i h=>i≤n∧h.IsRvd it a ((n:Int) - 1 - (i:Int))) where
 mem:=by simp
 obj:=fun i h st b hb=>by
  have z:b=it:=by simpa using hb
  subst z
  obtain⟨_,o,e,c,d⟩:=st
  exact⟨o,e,fun v z=>by rw [d] at z; cases z⟩
 keep:=fun i h h' st k=>⟨st.1,st.2.at fun o e=>k it (by simp) o e⟩
 item:=by
  intro X hP hw hK hc i pins s σ H E I hf st hg
  subst hP hw hK
  obtain⟨hin,xs,hq,hl⟩:=hg
  obtain⟨its,rv,p,hz⟩:=I.tuple hq
  have hlen:=rv.length
  have hsl:=aX
  obtain⟨x,hx⟩:∃ x,xs[n - 1 - i]? = some x:=⟨xs[n - 1 - i]'(by lia),by simp⟩
  obtain⟨u,hu,ru⟩:=rv.get hx
  obtain⟨f0,f1,f2,f3,f4,f5⟩:=hf it (by simp)
  have e:(n:Int) - 1 - (i:Int)=((n - 1 - i:Nat):Int):=by lia
  have hit:=st.2
  rw [e] at hit
  refine zcn hit p (x:=u) (by simpa using hu) (by lia) fun h' st' sb=>?_
  have I1:Inv X pins σ H { s with heap:=h',toks:=s.toks+1 }:=I.turned (t':=s.toks+1) (fun b o hb e=>(sb.2 b hb).trans e) f0 f1 f3 f4 f5
  have e2:((n - 1 - i:Nat):Int) - 1=(n:Int) - 1 - ((i+1:Nat):Int):=by lia
  rw [e2] at st'
  obtain⟨o,eo,c,d⟩:=id st'
  exact⟨u,rfl,zff (s:={ s with heap:=h',toks:=s.toks+1 }) eo c d (by decide) ⟨x,H,I1,ru,⟨rfl,fun ys hy=>by rw [I.tuple_inj hy hq]; exact hx⟩,⟨hin,st'⟩,fun b hb=>(hf b hb).1⟩⟩
 done:=by
  intro X hP hw hK hc i pins s σ H E I hf st hg
  subst hP hw hK
  obtain⟨f0,f1,f2,f3,f4,f5⟩:=hf it (by simp)
  have hin:n≤i:=hg
  have e:(n:Int) - 1 - (i:Int) = -1:=by have:=st.1; lia
  have hit:=st.2
  rw [e] at hit
  exact zcp (I.ok.hd hc) hit fun h' eb=>⟨rfl,I.turned (t':=s.toks) (fun b o hb e=>eb b o hb e) f0 f1 f3 f4 f5⟩
 self:=fun _ _ _ _ _ st h=>zb1 st.2 h
theorem zfX {X:Cx} {tg:Expr} {pins:List (Addr×Obj)} {σ:St} {H1:Hp} {s1:Shared} {R:It→Hp→Prop} {l:Addr} {xs:List V} (I1:Inv X pins σ H1 s1) (hq:SqT X.K H1 l xs) (q:R (zgN (SqT X.K) l xs.length) H1) :
  wpAny (model X.prog X.w) X.A (call (.type "reversed") [.ref l]) (fun v s2=>wpAny (model X.prog X.w) X.A (pyIter v) (PIE X pins σ tg R) X.xe s2) X.xe s1:=by
 obtain⟨its,rv,pl,hz⟩:=I1.tuple hq
 have hlen:=rv.length
 have hsl:=aX
 refine zej pl (by rw [ap]; lia) ?_
 have I2:Inv X pins σ H1 { s1 with heap:=s1.heap.push (zfW l ((its.toArray.size:Int) - 1)),toks:=s1.toks+1+1 }:=I1.kept fun b o e=>ak _ e
 have hr:(s1.heap.push (zfW l ((its.toArray.size:Int) - 1))).IsRvd s1.heap.objs.size l ((xs.length:Int) - 1 - ((0:Nat):Int)):=by
  refine⟨_,aL _ rfl,rfl,?_⟩
  have e1:(its.toArray.size:Int) - 1=(xs.length:Int) - 1 - ((0:Nat):Int):=by rw [ap,hlen]; lia
  show j0 #[.ref l,rawInt ((its.toArray.size:Int) - 1)]=_
  rw [e1]
 refine zb1 hr ?_
 refine⟨_,[s1.heap.objs.size],_,zgN (SqT X.K) l xs.length,H1,rfl,I2,zjG l s1.heap.objs.size xs.length,⟨bi _,hr⟩,fun b hb=>?_,q⟩
 have z:b=s1.heap.objs.size:=by simpa using hb
 subst z
 exact I1.fpOk (ag _) (I1.hok.fresh (ag _))
theorem zgQ {X:Cx} {tg:Expr} {pins:List (Addr×Obj)} {σ:St} {H1:Hp} {s1:Shared} {R:It→Hp→Prop} {l:Addr} {xs:List V} (I1:Inv X pins σ H1 s1) (hq:SqL X.K H1 l xs) (q:R (zgN (SqL X.K) l xs.length) H1) :
  wpAny (model X.prog X.w) X.A (call (.type "reversed") [.ref l]) (fun v s2=>wpAny (model X.prog X.w) X.A (pyIter v) (PIE X pins σ tg R) X.xe s2) X.xe s1:=by
 obtain⟨its,rv,pl,hz⟩:=I1.list hq
 have hlen:=rv.length
 refine call_reversed_list pl.isList ?_
 have I2:Inv X pins σ H1 { s1 with heap:=s1.heap.push (revObj l ((its.toArray.size:Int) - 1)) }:=I1.kept (t':=s1.toks) fun b o e=>ak _ e
 have hr:(s1.heap.push (revObj l ((its.toArray.size:Int) - 1))).IsRevIter s1.heap.objs.size l ((xs.length:Int) - 1 - ((0:Nat):Int)):=by
  refine⟨_,aL _ rfl,rfl,?_⟩
  have e1:(its.toArray.size:Int) - 1=(xs.length:Int) - 1 - ((0:Nat):Int):=by rw [ap,hlen]; lia
  show j0 #[.ref l,rawInt ((its.toArray.size:Int) - 1)]=_
  rw [e1]
 refine jh hr ?_
 refine⟨_,[s1.heap.objs.size],_,zgN (SqL X.K) l xs.length,H1,rfl,I2,zjF l s1.heap.objs.size xs.length,⟨bi _,hr⟩,fun b hb=>?_,q⟩
 have z:b=s1.heap.objs.size:=by simpa using hb
 subst z
 exact I1.fpOk (ag _) (I1.hok.fresh (ag _))
def zpY (K:ai) (ta:TA):TI:=fun σ H R=>ta σ H fun vs H1=>∃ a xs,vs = [.ref a]∧((SqL K H1 a xs∧R (zgN (SqL K) a xs.length) H1)∨(SqT K H1 a xs∧R (zgN (SqT K) a xs.length) H1))
theorem zoq {X:Cx} {tg:Expr} {p pos:Pos} {a:Expr} {ta:TA} (hg:Gl X "reversed") (hm:X.mg "reversed" = none) (ha:PA X [a] ta) (hs:starEach [a] X.env = [(false,eval a X.env)]:=by rfl) :
  PI X tg (.Call (.Name "reversed" p) [a] [] pos) (zpY X.K ta):=by
 intro pins s σ H R I h
 refine Call_ (zbp I hg hm boot_reversed (bv (thn (ha pos pins s σ H _ I h) fun us s1 ⟨vs,H1,I1,r1,q1⟩=>?_) hs rfl))
 obtain⟨l,xs,e,hq⟩:=q1
 subst e
 cases r1 with
 | cons r rr =>
  cases rr
  cases r
  rcases hq with ⟨hq,q⟩ | ⟨hq,q⟩
  ·exact zgQ I1 hq q
  ·exact zfX I1 hq q
end L2
end
section
namespace L2
open PySem PySem.Spec PyProof.Rows
inductive EqD (K:ai) (H:Hp):Nat→V→V→Bool→Prop where
 | flat {d:Nat} {x y:V} (hx:zfo x=true) (hy:zfo y=true):EqD K H d x y (eqV x y)
 | same {d:Nat} {a:Addr}:EqD K H d (.ref a) (.ref a) true
 | lists {d:Nat} {a b:Addr} {xs ys:List V} {e:Nat→Bool} (hne:a≠b) (ha:SqL K H a xs) (hb:SqL K H b ys) (hl:xs.length=ys.length)
   (he:∀ (j:Nat) x y,xs[j]? = some x→ys[j]? = some y→EqD K H d x y (e j)):EqD K H (d+1) (.ref a) (.ref b) ((aH xs.length).all e)
 | lens {d:Nat} {a b:Addr} {xs ys:List V} (hne:a≠b) (ha:SqL K H a xs) (hb:SqL K H b ys) (hl:xs.length≠ys.length):EqD K H (d+1) (.ref a) (.ref b) false
 | tups {d:Nat} {a b:Addr} {xs ys:List V} {e:Nat→Bool} (hne:a≠b) (ha:SqT K H a xs) (hb:SqT K H b ys)
   (he:∀ (j:Nat) x y,xs[j]? = some x→ys[j]? = some y→EqD K H d x y (e j)):EqD K H (d+1) (.ref a) (.ref b) ((aH (min xs.length ys.length)).all e && xs.length == ys.length)
theorem zJ.getE {xs:List V} {us:List Value} (r:zJ xs us) {j:Nat} (h:j < us.toArray.size):∃ x,xs[j]? = some x∧RelV x us.toArray[j]:=by
 have hl:=r.length
 have hj:j < xs.length:=by rw [hl]; simpa using h
 obtain⟨u,hu,ru⟩:=r.get (i:=j) (x:=xs[j]) (by simp)
 refine⟨xs[j],by simp,?_⟩
 have:us.toArray[j]=u:=by
  have h2:j < us.length:=by simpa using h
  rw [aj h2] at hu
  simpa using aP hu
 rw [this]
 exact ru
theorem EqD.at {X:Cx} {pins:List (Addr×Obj)} {σ:St} {H:Hp} {s:Shared} (I:Inv X pins σ H s) {d:Nat} {x y:V} {b:Bool} (h:EqD X.K H d x y b) :
  ∀ (A:Around) (u v:Value),RelV x u→RelV y v→A.units+d < cLine→SeqAt.EqAt A s u v b:=by
 induction h with
 | flat hx hy=>exact fun A u v rx ry _=>zoj rx ry hx hy
 | same=>intro A u v rx ry _; cases rx; cases ry; exact ku _
 | lists hne ha hb hl he ih =>
  intro A u v rx ry hu
  cases rx; cases ry
  obtain⟨is1,r1,p1,_⟩:=I.list ha
  obtain⟨is2,r2,p2,_⟩:=I.list hb
  have l1:=r1.length
  have l2:=r2.length
  refine gF hne ?_
  have q:=SeqAt.RcAt.lists (A:=A) p1.isList p2.isList (by simp only [ap]; lia) (by lia) fun j h1 h2=>by
   obtain⟨x,hx,rx⟩:=r1.getE h1
   obtain⟨y,hy,ry⟩:=r2.getE h2
   exact ih j x y hx hy A.in1 _ _ rx ry (by simp only [d9]; lia)
  rw [ap,← l1] at q
  exact q
 | lens hne ha hb hl =>
  intro A u v rx ry hu
  cases rx; cases ry
  obtain⟨is1,r1,p1,_⟩:=I.list ha
  obtain⟨is2,r2,p2,_⟩:=I.list hb
  have l1:=r1.length
  have l2:=r2.length
  exact gF hne (SeqAt.RcAt.lists_lengths p1.isList p2.isList (by simp only [ap,bne_iff_ne]; lia) (by lia))
 | tups hne ha hb he ih =>
  intro A u v rx ry hu
  cases rx; cases ry
  obtain⟨is1,r1,p1,_⟩:=I.tuple ha
  obtain⟨is2,r2,p2,_⟩:=I.tuple hb
  have l1:=r1.length
  have l2:=r2.length
  refine gF hne ?_
  have q:=SeqAt.RcAt.tuples (A:=A) (s:=s) p1 p2 (by lia) fun j h1 h2=>by
   obtain⟨x,hx,rx⟩:=r1.getE h1
   obtain⟨y,hy,ry⟩:=r2.getE h2
   exact ih j x y hx hy A.in1 _ _ rx ry (by simp only [d9]; lia)
  rw [ap,ap,← l1,← l2] at q
  exact q
def zmF (K:ai) (neg:Bool):R2:=fun x y H Q=>∃ a b xs ys,x = .ref a∧y = .ref b∧((SqL K H a xs∧SqL K H b ys)∨(SqT K H a xs∧SqT K H b ys)) ∧
 ((xs.length≠ys.length∧(∀ (j:Nat) x y,xs[j]? = some x→ys[j]? = some y→∃ c,EqD K H 8 x y c)∧Q (.bl neg) H) ∨
  (xs.length=ys.length∧∃ e:Nat→Bool,(∀ (j:Nat) x y,xs[j]? = some x→ys[j]? = some y→EqD K H 8 x y (e j))∧Q (.bl (if neg then !(aH xs.length).all e else (aH xs.length).all e)) H))
theorem zfY {X:Cx} (hu:X.A.units+20 < cLine):OpR X (compareOp .NotEq) (zmF X.K true):=by
 intro pins s σ H x y v u Q I rx ry h
 obtain⟨a,b,xs,ys,rfl,rfl,hk,h⟩:=h
 cases rx; cases ry
 rcases hk with ⟨ha,hb⟩ | ⟨ha,hb⟩
 ·obtain⟨is1,r1,p1,_⟩:=I.list ha
  obtain⟨is2,r2,p2,_⟩:=I.list hb
  have l1:=r1.length
  have l2:=r2.length
  rcases h with ⟨hl,_,q⟩ | ⟨hl,e,he,q⟩
  ·exact SeqAt.RcNeAt.lists_lengths p1.isList p2.isList (by simp only [ap,bne_iff_ne]; lia) (by lia) _ _ _ _ ⟨.bl true,H,I,rfl,q⟩
  ·refine SeqAt.RcNeAt.lists p1.isList p2.isList (e:=e) (by simp only [ap]; lia) (by lia) (fun j h1 h2=>?_) _ _ _ _ ⟨.bl _,H,I,rfl,?_⟩
   ·obtain⟨x,hx,rx⟩:=r1.getE h1
    obtain⟨y,hy,ry⟩:=r2.getE h2
    exact (he j x y hx hy).at I _ _ _ rx ry (by simp only [d9]; lia)
   ·rw [ap,← l1]
    exact q
 ·obtain⟨is1,r1,p1,_⟩:=I.tuple ha
  obtain⟨is2,r2,p2,_⟩:=I.tuple hb
  have l1:=r1.length
  have l2:=r2.length
  rcases h with ⟨hl,he,q⟩ | ⟨hl,e,he,q⟩
  ·have he':∀ j:Nat,∃ c:Bool,∀ x y,xs[j]? = some x→ys[j]? = some y→EqD X.K H 8 x y c:=fun j=>by
    cases hx:xs[j]? with
    | none=>exact⟨true,fun x y z=>by cases z⟩
    | some x =>
     cases hy:ys[j]? with
     | none=>exact⟨true,fun x y _ z=>by cases z⟩
     | some y =>
      obtain⟨c,hc⟩:=he j x y hx hy
      exact⟨c,fun x' y' z1 z2=>by cases z1; cases z2; exact hc⟩
   obtain⟨e,he''⟩:=Classical.axiomOfChoice he'
   refine jy (s:=s) p1 p2 (e:=e) (by lia) (fun j h1 h2=>?_) _ _ _ _ ⟨.bl _,H,I,rfl,?_⟩
   ·obtain⟨x,hx,rx⟩:=r1.getE h1
    obtain⟨y,hy,ry⟩:=r2.getE h2
    exact (he'' j x y hx hy).at I _ _ _ rx ry (by simp only [d9]; lia)
   ·have hb':(is1.toArray.size == is2.toArray.size)=false:=by
     rw [ap,ap]; exact beq_eq_false_iff_ne.mpr (by lia)
    rw [hb',kF]
    exact q
  ·refine jy (s:=s) p1 p2 (e:=e) (by lia) (fun j h1 h2=>?_) _ _ _ _ ⟨.bl _,H,I,rfl,?_⟩
   ·obtain⟨x,hx,rx⟩:=r1.getE h1
    obtain⟨y,hy,ry⟩:=r2.getE h2
    exact (he j x y hx hy).at I _ _ _ rx ry (by simp only [d9]; lia)
   ·have hb':(is1.toArray.size == is2.toArray.size)=true:=by
     rw [ap,ap]; exact beq_iff_eq.mpr (by lia)
    have hmin:min is1.toArray.size is2.toArray.size=xs.length:=by rw [ap,ap]; lia
    rw [hb',Bool.and_true,hmin]
    exact q
theorem zgR {K:ai} {H:Hp} {ms ns:List Int}:∀ (j:Nat) x y,(ms.map V.int)[j]? = some x→(ns.map V.int)[j]? = some y→EqD K H 8 x y ((fun j=>decide (ms[j]? = ns[j]?)) j):=fun j x y hx hy=>by
 rw [ah] at hx hy
 cases h1:ms[j]? with
 | none=>rw [h1] at hx; cases hx
 | some m =>
  cases h2:ns[j]? with
  | none=>rw [h2] at hy; cases hy
  | some n =>
   rw [h1] at hx; rw [h2] at hy
   cases hx; cases hy
   have e:eqV (.int m) (.int n)=decide (some m=some n):=by
    show (m == n)=_
    rw [da]; simp
   show EqD K H 8 (.int m) (.int n) (decide (ms[j]? = ns[j]?))
   rw [h1,h2,← e]
   exact EqD.flat rfl rfl
theorem zkI {α:Type} [DecidableEq α] {ms ns:List α} (hl:ms.length=ns.length):(aH ms.length).all (fun j=>decide (ms[j]? = ns[j]?))=decide (ms=ns):=by
 rw [da]
 simp only [fc,bd,decide_eq_true_eq]
 constructor
 ·intro h
  apply cK
  intro j
  by_cases hj:j < ms.length
  ·exact h j hj
  ·rw [bq (by lia),bq (by lia)]
 ·intro h j _
  rw [h]
theorem zjH {K:ai} {neg:Bool} {H:Hp} {Q:VK} {a b:Addr} {ms ns:List Int} (hk:(SqL K H a (ms.map V.int)∧SqL K H b (ns.map V.int))∨(SqT K H a (ms.map V.int)∧SqT K H b (ns.map V.int)))
  (q:Q (.bl (if neg then !decide (ms=ns) else decide (ms=ns))) H):zmF K neg (.ref a) (.ref b) H Q:=by
 refine⟨a,b,_,_,rfl,rfl,hk,?_⟩
 rw [ab,ab]
 by_cases hl:ms.length=ns.length
 ·refine .inr ⟨hl,_,zgR,?_⟩
  rw [zkI hl]
  exact q
 ·refine .inl ⟨hl,fun j x y hx hy=>⟨_,zgR j x y hx hy⟩,?_⟩
  have hne:ms≠ns:=fun z=>hl (by rw [z])
  cases neg with
  | true=>simpa [hne] using q
  | false=>simpa [hne] using q
theorem zdF {X:Cx}:zbY X (.type "range") (fun xs H Q=>∃ j:Int,xs = [.int j]∧∀ l,H l=none→Q (.ref l) (upd H l (.rng 0 j))):=by
 intro pins s σ H xs us Q I r h
 obtain⟨j,rfl,q⟩:=h
 obtain⟨u,rfl,t,rfl⟩:=vals1 r
 refine call_range_1 ?_
 exact⟨.ref s.heap.objs.size,_,I.laid (o:=.rng 0 j) (fun b o e=>ak _ e) (ag _) ⟨_,_,_,aL _ rfl⟩,rfl,q _ I.fresh⟩
def zbr (lo:Int) (n:Nat):List Int:=(aH n).map fun (i:Nat)=>lo+(i:Int)
theorem zcO (lo:Int) (n:Nat):(zbr lo n).length=n:=by simp [zbr]
theorem ze4 {acc:Array Value} {lo:Int} {n:Nat} (h:ItemsOf (fun i v=>∃ t,v = .int (lo+(i:Nat)*1) t) acc n):zJ ((zbr lo n).map V.int) acc.toList:=by
 obtain⟨hsz,hv⟩:=h
 have go:∀ (us:List Value) (k:Nat),(∀ (j:Nat) v,us[j]? = some v→∃ t,v = .int (lo+((k+j:Nat):Int)) t)→zJ (((aH us.length).map fun (i:Nat)=>V.int (lo+((k+i:Nat):Int)))) us:=by
  intro us
  induction us with
  | nil=>intro k _; exact .nil
  | cons u us ih =>
   intro k hu
   rw [bW,iT,aS,bh]
   refine .cons ?_ ?_
   ·obtain⟨t,e⟩:=hu 0 u rfl
    exact⟨t,e⟩
   ·have:=ih (k+1) fun j v e=>by
     obtain⟨t,z⟩:=hu (j+1) v (by simpa using e)
     exact⟨t,by rw [z]; congr 1; lia⟩
    have e2:(fun (i:Nat)=>V.int (lo+((k+1+i:Nat):Int)))=((fun (i:Nat)=>V.int (lo+((k+i:Nat):Int))) ∘ Nat.succ):=by
     funext i
     show V.int _=V.int _
     congr 2
     show ((k+1+i:Nat):Int)=((k+(i+1):Nat):Int)
     lia
    rw [← e2]
    exact this
 have h1:=go acc.toList 0 fun j v e=>by
  obtain⟨t,z⟩:=hv j v (by simpa using e)
  exact⟨t,by rw [z]; simp⟩
 have e1:acc.toList.length=n:=by simpa using hsz
 rw [e1] at h1
 unfold zbr
 rw [bh]
 have e2:(V.int ∘ fun (i:Nat)=>lo+(i:Int))=fun (i:Nat)=>V.int (lo+((0+i:Nat):Int)):=by
  funext i
  show V.int (lo+(i:Int))=V.int (lo+((0+i:Nat):Int))
  rw [dh]
 rw [e2]
 exact h1
theorem zcP {X:Cx} (hc:X.calm=true):zbY X (.type "list") (fun xs H Q=>∃ p hi,xs = [.ref p]∧H p=some (.rng 0 hi)∧0≤hi∧hi≤1000∧∀ l,H l=none→Q (.ref l) (upd H l (.lst ((zbr 0 hi.toNat).map V.int)))):=by
 intro pins s σ H xs us Q I r h
 obtain⟨p,hi,rfl,hp,h0,h1,q⟩:=h
 obtain⟨u,rfl,rx⟩:=vals1 r
 cases rx
 obtain⟨t,u',v,e⟩:=(show zas X.prog X.w H s.heap p (.rng 0 hi) from I.hok p _ hp)
 have hsl:=aX
 refine call_list_range (n:=hi.toNat) (I.ok.hd hc) (show IsRange s.heap p 0 hi 1 t u' v from e) (small_one (by lia) (by lia) (by lia) (by lia)) (by rw [rangeSize_one]; split <;> lia) (by lia) fun h' tk acc' c' kk ho hacc=>?_
 have hv:=ze4 (lo:=0) (n:=hi.toNat) hacc
 refine⟨.ref s.heap.objs.size,_,I.laid kk (ag _) ?_,rfl,q _ I.fresh⟩
 exact⟨by rw [ab,zcO]; lia,acc'.toList,c',hv,by simpa using ho⟩
def zpZ (K:ai) (tl:TE):TI:=fun σ H R=>tl σ H fun x H1=>∃ a,x = .ref a∧(((∃ xs,SqL K H1 a xs)∧R (Itl K a) H1)∨((∃ xs,SqT K H1 a xs)∧R (Itt K a) H1))
theorem zor {X:Cx} {tg l:Expr} {tl:TE} (hl:PE X l tl):PI X tg l (zpZ X.K tl):=by
 intro pins s σ H R I h
 refine thn (hl pins s σ H _ I h) fun v s1 ⟨x,H1,I1,r1,q1⟩=>?_
 obtain⟨a,e,q⟩:=q1
 subst e
 cases r1
 rcases q with ⟨⟨xs,hq⟩,q⟩ | ⟨⟨xs,hq⟩,q⟩
 ·obtain⟨its,rv,p,hz⟩:=I1.list hq
  refine gV p.isList ?_
  refine⟨s1.heap.objs.size,[s1.heap.objs.size],_,_,H1,rfl,I1.kept (t':=s1.toks) fun b o e=>ak _ e,zfg a _,⟨_,aL _ rfl,rfl,rfl⟩,fun b hb=>?_,q⟩
  have e:b=s1.heap.objs.size:=by simpa using hb
  subst e
  exact I1.fpOk (ag _) (I1.hok.fresh (ag _))
 ·obtain⟨its,rv,p,hz⟩:=I1.tuple hq
  refine gC (show s1.heap.IsTuple a its.toArray from p) ?_
  refine⟨s1.heap.objs.size,[s1.heap.objs.size],_,_,H1,rfl,I1.kept (t':=s1.toks) fun b o e=>ak _ e,zee a _,⟨_,aL _ rfl,rfl,rfl⟩,fun b hb=>?_,q⟩
  have e:b=s1.heap.objs.size:=by simpa using hb
  subst e
  exact I1.fpOk (ag _) (I1.hok.fresh (ag _))
def intsOf:List Expr→Option (List Int)
 | []=>some []
 | .Constant (.int i) _ _ :: r=>(intsOf r).map (i :: ·)
 | _=>none
def zfu (ns:List Int):TA:=fun _ H Q=>Q (ns.map V.int) H
theorem zkJ {X:Cx}:∀ (es:List Expr) (ns:List Int),intsOf es=some ns→PA X es (zfu ns):=by
 intro es
 induction es with
 | nil =>
  intro ns h
  have e:ns = []:=(aP h).symm
  subst e
  exact ze
 | cons e r ih =>
  intro ns h
  unfold intsOf at h
  split at h
  ·rename_i heq
   cases heq
  ·rename_i i j p r' heq
   injection heq with e1 e2
   subst e1 e2
   cases hr:intsOf r with
   | none=>rw [hr] at h; cases h
   | some ms =>
    rw [hr] at h
    have e:i :: ms=ns:=aP h
    subst e
    exact za zf (ih ms hr)
  ·cases h
theorem zmG {X:Cx} {es:List Expr} {ns:List Int} (h:intsOf es=some ns):PA X es (zfu ns):=zkJ es ns h
theorem zcQ {X:Cx} {i:Int} {j:Nat} {p:Pos} {es:List Expr} {t:TA} (hr:PA X es t):PA X (.Constant (.int i) j p :: es) (znL (tC (.int i)) t):=za zf hr
theorem zkK {X:Cx} {i:Nat} {x:Str} {pos' pos2 spos:Pos} {rest:List Stmt} {u:TS} {es:List Expr} {ns:List Int} (h:intsOf es=some ns) (hN:X.N.Nodup) (hi:X.N[i]? = some x) (hx:Loc X.env.scope x)
  (hf:X.fn x=true∨X.env.scope.names.lookup x=some .local) (hr:PSs X rest u):PSs X (.Assign [.Name x pos'] (.List es pos2) spos :: rest) (zo5 (zhI (zmy (zfu ns)) (zaQ i)) u):=by
 have h1:PE X (.List es pos2) (zmy (zfu ns)):=@zY X es (zfu ns) pos2 (@zmG X es ns h)
 have h2:PS X (.Assign [.Name x pos'] (.List es pos2) spos) (zhI (zmy (zfu ns)) (zaQ i)):=zl hN hi hx h1 (by rfl) hf
 exact zd h2 hr
section
variable {X:Cx} {K:ai}
theorem za4 (hK:X.K=K):IxR X (zpk K):=by subst hK; exact zD
theorem zdX (hK:X.K=K):IxR X (zpl K):=by subst hK; exact zb9
theorem zkL (hK:X.K=K):SlR X (zpn K):=by subst hK; exact zca
def zpo (K:ai):List V→Hp→VK→Prop:=fun xs H Q=>∃ p ys,xs = [.ref p]∧(SqL K H p ys∨SqT K H p ys)∧Q (.int ys.length) H
theorem zaE (hK:X.K=K):zbY X (.builtin "len") (zpo K):=by subst hK; exact zI
theorem zau {es:List Expr} {k:Nat} {t:TGs} {n:Nat} {pos:Pos} (hK:X.K=K) (hc:X.calm=true) (h:PGs X es t)
  (hn:(assignEach es X.env).length=n:=by rfl) (hst:(assignEach es X.env).findIdx? (·.1)=none:=by rfl):PG X (.Tuple es k pos) (zgF K n t):=by subst hK; exact za2 hc h hn hst
theorem zkM {o e:Expr} {es:List Expr} {to:TE} {t:TA} {name:Str} {apos cpos:Pos} {T id:String} {r:V→List V→Hp→VK→Prop} (hK:X.K=K) (pa:PlainAttrs T) (slot:Slot T name id) (hty:typeOf (.builtin id)=pure (.type "method_descriptor")) (hm:MtR X id r) (ho:PE X o to) (ha:PA X (e :: es) t)
  (hbase:attributeBase o name X.env (eval o X.env)=eval o X.env:=by rfl)
  (hfew:((backTo cpos (starEach (e :: es) X.env)).all (fun x=>!x.1) && (backToKw cpos (keywordEach [] X.env)).all (fun x=>x.1.isSome)
   && decide ((e :: es).length+([]:List Keyword).length+(if ([]:List Keyword).isEmpty then 0 else 1) < 30))=true:=by rfl)
  (hline:(apos.endLine == cpos.line)=true:=by rfl) (hs:starEach (e :: es) X.env=(false,eval e X.env) :: starEach es X.env:=by rfl) (hplain:(backTo cpos (starEach es X.env)).any (·.1)=false:=by rfl) :
  PE X (.Call (.Attribute o name apos) (e :: es) [] cpos) (tBM K T r to t):=by subst hK; exact zfp pa slot hty hm ho ha hbase hfew hline hs hplain
end
end L2
end
section
namespace My
def Cg (p a b:Int):Prop:=∃ k,a=b+p*k
theorem Cg.refl (p a:Int):Cg p a a:=⟨0,by grind⟩
theorem Cg.symm {p a b:Int} (h:Cg p a b):Cg p b a:=by obtain⟨k,e⟩:=h; exact⟨-k,by grind⟩
theorem Cg.trans {p a b c:Int} (h:Cg p a b) (h':Cg p b c):Cg p a c:=by
 obtain⟨k,e⟩:=h; obtain⟨l,e'⟩:=h'; exact⟨k+l,by grind⟩
theorem Cg.add {p a b c d:Int} (h:Cg p a b) (h':Cg p c d):Cg p (a+c) (b+d):=by
 obtain⟨k,e⟩:=h; obtain⟨l,e'⟩:=h'; exact⟨k+l,by grind⟩
theorem Cg.sub {p a b c d:Int} (h:Cg p a b) (h':Cg p c d):Cg p (a - c) (b - d):=by
 obtain⟨k,e⟩:=h; obtain⟨l,e'⟩:=h'; exact⟨k - l,by grind⟩
theorem Cg.mul {p a b c d:Int} (h:Cg p a b) (h':Cg p c d):Cg p (a*c) (b*d):=by
 obtain⟨k,e⟩:=h; obtain⟨l,e'⟩:=h'
 exact⟨k*d+b*l+p*k*l,by subst e e'; grind⟩
theorem Cg.of_eq {p a b:Int} (h:a=b):Cg p a b:=h ▸ Cg.refl p a
theorem Cg.emod (p a:Int):Cg p (a % p) a:=⟨-(a / p),by have:=Int.emod_add_mul_ediv a p; grind⟩
theorem Cg.mod_eq {p a b:Int} (h:Cg p a b):a % p=b % p:=by
 obtain⟨k,e⟩:=h; rw [e,Int.add_mul_emod_self_left]
theorem Cg.of_mod {p a b:Int} (h:a % p=b % p):Cg p a b:=(Cg.emod p a).symm.trans (h ▸ Cg.emod p b)
theorem Cg.eq {p a b:Int} (h:Cg p a b) (ha:0≤a) (ha':a < p) (hb:0≤b) (hb':b < p):a=b:=by
 have:=h.mod_eq
 rwa [cu ha ha',cu hb hb'] at this
def zp (p x:Int):List Int→Int
 | []=>0
 | c :: r=>(c+x*zp p x r) % p
theorem zaA {p x:Int} (hp:0 < p):∀ l,0≤zp p x l
 | []=>bF 0
 | _ :: _=>aI _ (by lia)
theorem zaB {p x:Int} (hp:0 < p):∀ l,zp p x l < p
 | []=>hp
 | _ :: _=>aC _ hp
theorem z9 (p x c:Int) (r:List Int):Cg p (zp p x (c :: r)) (c+x*zp p x r):=Cg.emod _ _
theorem zhU {p x:Int} (m:Nat):zp p x (aw m 0)=0:=by
 induction m with
 | zero=>rfl
 | succ m ih=>rw [b7]; show (0+x*zp p x (aw m 0)) % p=0; rw [ih]; simp
theorem zgS {p x:Int} (m:Nat):∀ l,zp p x (l++aw m 0)=zp p x l
 | []=>zhU m
 | c :: r=>by show (c+x*zp p x (r++aw m 0)) % p=(c+x*zp p x r) % p; rw [zgS m r]
def lv (p x:Int):Int→Int→List Int→Int
 | total,_,[]=>total
 | total,power,c :: r=>lv p x ((total+c*power) % p) (power*x % p) r
theorem znO {p x:Int}:∀ (l:List Int) (total power:Int),Cg p (lv p x total power l) (total+power*zp p x l)
 | [],total,power=>Cg.of_eq (by show total=total+power*0; grind)
 | c :: r,total,power=>by
  have h1:=znO (p:=p) (x:=x) r ((total+c*power) % p) (power*x % p)
  refine h1.trans ?_
  have h2:Cg p ((total+c*power) % p+power*x % p*zp p x r) (total+c*power+power*x*zp p x r):=(Cg.emod p _).add ((Cg.emod p (power*x)).mul (Cg.refl p _))
  refine h2.trans ?_
  have h3:Cg p (total+power*(c+x*zp p x r)) (total+power*zp p x (c :: r)):=(Cg.refl p _).add ((Cg.refl p _).mul (z9 p x c r).symm)
  refine (Cg.of_eq ?_).trans h3
  grind
theorem zkN {p x:Int} (hp:0 < p):∀ (l:List Int) (total power:Int),0≤total→total < p→0≤lv p x total power l∧lv p x total power l < p
 | [],total,power,h1,h2=>⟨h1,h2⟩
 | c :: r,total,power,h1,h2=>zkN hp r _ _ (aI _ (by lia)) (aC _ hp)
theorem ziy {p x:Int} (hp:0 < p) (l:List Int):lv p x 0 1 l=zp p x l:=by
 obtain⟨a,b⟩:=zkN (x:=x) hp l 0 1 (bF _) hp
 exact ((znO l 0 1).trans (Cg.of_eq (by grind))).eq a b (zaA hp l) (zaB hp l)
def zo:List Int:=[5,7,11,13,17,19,23,29,31,37,41,43,47,53,59,61,67,71,73,79,83,89,97]
def zcA (p:Int):Nat→Int→Int→Int→Int
 | 0,prod,_,_=>prod
 | n+1,prod,sq,left=>if 0 < left then zcA p n (if left % 2=1 then prod*sq % p else prod) (sq*sq % p) (left / 2) else prod
def inv (p h:Int):Int:=zcA p 7 1 (h % p) (p - 2)
def zp0:Bool:=zo.all fun p=>(aH p.toNat).all fun h=>h == 0 || (inv p h*h) % p == 1
theorem zjI:zp0=true:=by decide +kernel
theorem zr {p:Int} (hp:p∈zo):5≤p∧p≤97:=by
 have:zo.all (fun p=>decide (5≤p∧p≤97))=true:=by decide +kernel
 have:=fc.mp this p hp
 simpa using this
theorem zek {p h:Int} (hp:p∈zo) (h0:0 < h) (h1:h < p):Cg p (inv p h*h) 1:=by
 have e:=fc.mp (fc.mp zjI p hp) h.toNat (bd.mpr (by lia))
 have hh:((h.toNat:Nat):Int)=h:=by lia
 have:h.toNat≠0:=by lia
 simp only [Bool.or_eq_true,beq_iff_eq,hh,this,false_or] at e
 have hr:=zr hp
 exact Cg.of_mod (by rw [e,cu (by lia) (by lia)])
theorem zgT {p a b:Int} (hp:p∈zo) (h:Cg p (a*b) 0):Cg p a 0∨Cg p b 0:=by
 have hr:=zr hp
 by_cases ha:a % p=0
 ·exact .inl (Cg.of_mod (by rw [ha]; simp))
 ·right
  have h0:0 < a % p:=by have:=aI a (show p≠0 by lia); lia
  have hi:=zek hp h0 (aC a (by lia))
  have h1:Cg p (inv p (a % p)*(a*b)) 0:=((Cg.refl p _).mul h).trans (Cg.of_eq (by grind))
  have h2:Cg p (inv p (a % p)*(a % p)*b) (1*b):=hi.mul (Cg.refl p b)
  have h3:Cg p (inv p (a % p)*(a*b)) (inv p (a % p)*(a % p)*b):=by
   have:=((Cg.refl p (inv p (a % p))).mul (Cg.emod p a).symm).mul (Cg.refl p b)
   exact (Cg.of_eq (by grind)).trans this
  exact ((Cg.of_eq (by grind)).trans (h2.symm.trans (h3.symm.trans h1)))
def trF (p r:Int) (high low:Int):Int:=(high - r*low) % p
def zbL (p r:Int) (v:List Int):List Int:=bn (trF p r) (0 :: v) (v++[0])
theorem znP {p r z:Int}:∀ (v:List Int) (h:Int),Cg p (zp p z (bn (trF p r) (h :: v) (v++[0]))) (h+(z - r)*zp p z v)
 | [],h=>by
  show Cg p ((trF p r h 0+z*0) % p) (h+(z - r)*0)
  refine (Cg.emod p _).trans ?_
  have:Cg p (trF p r h 0) (h - r*0):=Cg.emod p _
  exact (this.add (Cg.refl p (z*0))).trans (Cg.of_eq (by grind))
 | c :: w,h=>by
  show Cg p ((trF p r h c+z*zp p z (bn (trF p r) (c :: w) (w++[0]))) % p) (h+(z - r)*zp p z (c :: w))
  have ih:=znP (p:=p) (r:=r) (z:=z) w c
  have h1:Cg p (trF p r h c) (h - r*c):=Cg.emod p _
  refine (Cg.emod p _).trans ((h1.add ((Cg.refl p z).mul ih)).trans ?_)
  have h2:Cg p (h+(z - r)*(c+z*zp p z w)) (h+(z - r)*zp p z (c :: w)):=(Cg.refl p h).add ((Cg.refl p _).mul (z9 p z c w).symm)
  exact (Cg.of_eq (by grind)).trans h2
theorem zmH {p r z:Int} (v:List Int):Cg p (zp p z (zbL p r v)) ((z - r)*zp p z v):=(znP v 0).trans (Cg.of_eq (by grind))
theorem zb2 (p r:Int) (v:List Int):(zbL p r v).length=v.length+1:=by simp [zbL]
theorem zel {α β γ:Type} {f:α→β→γ}:∀ {as:List α} {bs:List β} {c:γ},c∈bn f as bs→∃ a b,c=f a b
 | [],_,c,h=>by simp at h
 | _ :: _,[],c,h=>by simp at h
 | a :: as,b :: bs,c,h=>by
  rcases aB.mp h with e | e
  ·exact⟨a,b,e⟩
  ·exact zel e
theorem zos {p r:Int} (hp:0 < p) (v:List Int):∀ c∈zbL p r v,0≤c∧c < p:=by
 intro c hc
 obtain⟨a,b,e⟩:=zel hc
 rw [e]; exact⟨aI _ (by lia),aC _ hp⟩
def ad (p f:Int):List Int→List Int→List Int
 | c :: cs,v :: vs=>(c+f*v) % p :: ad p f cs vs
 | cs,[]=>cs
 | [],_ :: _=>[]
theorem zfv (p f:Int):∀ (cs vs:List Int),(ad p f cs vs).length=cs.length
 | _ :: cs,_ :: vs=>by show (ad p f cs vs).length+1=_; rw [zfv p f cs vs]; rfl
 | [],[]=>rfl
 | _ :: _,[]=>rfl
 | [],_ :: _=>rfl
theorem zkO {p f:Int} (hp:0 < p):∀ (cs vs:List Int),(∀ c∈cs,0≤c∧c < p)→∀ c∈ad p f cs vs,0≤c∧c < p
 | c :: cs,v :: vs,h,d,hd=>by
  rcases aB.mp hd with e | e
  ·rw [e]; exact⟨aI _ (by lia),aC _ hp⟩
  ·exact zkO hp cs vs (fun c hc=>h c (av _ hc)) d e
 | [],[],h,d,hd=>h d hd
 | _ :: _,[],h,d,hd=>h d hd
 | [],_ :: _,h,d,hd=>by cases hd
theorem ziz {p f z:Int}:∀ (cs vs:List Int),vs.length≤cs.length→Cg p (zp p z (ad p f cs vs)) (zp p z cs+f*zp p z vs)
 | c :: cs,v :: vs,h=>by
  have ih:=ziz (p:=p) (f:=f) (z:=z) cs vs (by simpa using h)
  show Cg p (((c+f*v) % p+z*zp p z (ad p f cs vs)) % p) (zp p z (c :: cs)+f*zp p z (v :: vs))
  refine (Cg.emod p _).trans (((Cg.emod p (c+f*v)).add ((Cg.refl p z).mul ih)).trans ?_)
  have h2:Cg p ((c+z*zp p z cs)+f*(v+z*zp p z vs)) (zp p z (c :: cs)+f*zp p z (v :: vs)):=(z9 p z c cs).symm.add ((Cg.refl p f).mul (z9 p z v vs).symm)
  exact (Cg.of_eq (by grind)).trans h2
 | [],[],_=>Cg.of_eq (by show (0:Int)=0+f*0; grind)
 | c :: cs,[],_=>Cg.of_eq (by show zp p z (c :: cs)=zp p z (c :: cs)+f*0; grind)
 | [],_ :: _,h=>by simp at h
def zcq (p:Int) (s:List Int×List Int) (q:Int×Int):List Int×List Int :=
 (ad p ((q.2 - zp p q.1 s.1)*inv p (zp p q.1 s.2) % p) s.1 s.2,zbL p q.1 s.2)
def zpp (p:Int) (n:Nat) (pts:List (Int×Int)):List Int×List Int:=pts.foldl (zcq p) (aw n 0,[1])
def thr (p:Int) (pts:List (Int×Int)):List Int:=(zpp p pts.length pts).1
def zcr (z:Int):List (Int×Int)→Int
 | []=>1
 | q :: r=>(z - q.1)*zcr z r
theorem zem (z:Int) (q:Int×Int):∀ l,zcr z (l++[q])=zcr z l*(z - q.1)
 | []=>by show (z - q.1)*1=1*(z - q.1); grind
 | a :: l=>by show (z - a.1)*zcr z (l++[q])=(z - a.1)*zcr z l*(z - q.1); rw [zem z q l]; grind
theorem zen {z:Int}:∀ {l:List (Int×Int)},(∃ q∈l,q.1=z)→zcr z l=0
 | [],h=>by obtain⟨q,hq,_⟩:=h; cases hq
 | a :: l,h=>by
  show (z - a.1)*zcr z l=0
  obtain⟨q,hq,e⟩:=h
  rcases aB.mp hq with hq | hq
  ·subst hq; rw [e]; simp
  ·rw [zen ⟨q,hq,e⟩]; simp
theorem zgU {p z:Int} (hp:p∈zo) (hz:0≤z) (hz':z < p):∀ {l:List (Int×Int)},(∀ q∈l,0≤q.1∧q.1 < p∧q.1≠z)→¬ Cg p (zcr z l) 0
 | [],_,h=>by
  have hr:=zr hp
  have:=h.mod_eq
  have e1:(zcr z []:Int)=1:=rfl
  rw [e1,cu (by lia) (by lia)] at this
  simp at this
 | a :: l,hl,h=>by
  rcases zgT hp (show Cg p ((z - a.1)*zcr z l) 0 from h) with h | h
  ·obtain⟨h1,h2,h3⟩:=hl a aF
   have:Cg p z a.1:=by
    have:=h.add (Cg.refl p a.1)
    exact (Cg.of_eq (by grind)).trans (this.trans (Cg.of_eq (by grind)))
   exact h3 (this.eq hz hz' h1 h2).symm
  ·exact zgU hp hz hz' (fun q hq=>hl q (av _ hq)) h
structure Nw (p:Int) (n:Nat) (done:List (Int×Int)) (s:List Int×List Int):Prop where
 lc:s.1.length=n
 lv:s.2.length=done.length+1
 rc:∀ c∈s.1,0≤c∧c < p
 rv:∀ c∈s.2,0≤c∧c < p
 van:∀ z,Cg p (zp p z s.2) (zcr z done)
 hit:∀ q∈done,zp p q.1 s.1=q.2
theorem zgV {p:Int} (hp:p∈zo) (n:Nat):Nw p n [] (aw n 0,[1]):=by
 have hr:=zr hp
 refine⟨by simp,rfl,fun c hc=>?_,fun c hc=>?_,fun z=>?_,fun q hq=>by cases hq⟩
 ·obtain⟨_,e⟩:=List.mem_replicate.mp hc
  lia
 ·have:c=1:=by simpa using hc
  lia
 ·show Cg p ((1+z*0) % p) 1
  exact (Cg.emod p _).trans (Cg.of_eq (by grind))
theorem ziA {p:Int} {n:Nat} {done:List (Int×Int)} {s:List Int×List Int} (hp:p∈zo) (h:Nw p n done s) {q:Int×Int} (q0:0≤q.1) (q1:q.1 < p) (hd:∀ a∈done,0≤a.1∧a.1 < p∧a.1≠q.1) :
  0 < zp p q.1 s.2∧zp p q.1 s.2 < p:=by
 have hr:=zr hp
 refine⟨?_,zaB (by lia) _⟩
 have h0:=zaA (x:=q.1) (show 0 < p by lia) s.2
 by_cases e:zp p q.1 s.2=0
 ·exact absurd ((h.van q.1).symm.trans (Cg.of_eq e)) (zgU hp q0 q1 hd)
 ·lia
theorem zjJ {p:Int} {n:Nat} {done:List (Int×Int)} {s:List Int×List Int} (hp:p∈zo) (h:Nw p n done s) {q:Int×Int} (q0:0≤q.1) (q1:q.1 < p) (hd:∀ a∈done,0≤a.1∧a.1 < p∧a.1≠q.1) :
  Cg p ((q.2 - zp p q.1 s.1)*inv p (zp p q.1 s.2) % p*zp p q.1 s.2) (q.2 - zp p q.1 s.1):=by
 obtain⟨h0,h1⟩:=ziA hp h q0 q1 hd
 have hi:=zek hp h0 h1
 refine ((Cg.emod p _).mul (Cg.refl p _)).trans ?_
 have:=(Cg.refl p (q.2 - zp p q.1 s.1)).mul hi
 exact (Cg.of_eq (by grind)).trans (this.trans (Cg.of_eq (by grind)))
theorem ziB {p:Int} {n:Nat} {done:List (Int×Int)} {s:List Int×List Int} (hp:p∈zo) (h:Nw p n done s) {q:Int×Int} (hn:done.length < n) (q0:0≤q.1) (q1:q.1 < p) (q2:0≤q.2) (q3:q.2 < p)
  (hd:∀ a∈done,0≤a.1∧a.1 < p∧a.1≠q.1∧0≤a.2∧a.2 < p):Nw p n (done++[q]) (zcq p s q):=by
 have hr:=zr hp
 have hd':∀ a∈done,0≤a.1∧a.1 < p∧a.1≠q.1:=fun a ha=>⟨(hd a ha).1,(hd a ha).2.1,(hd a ha).2.2.1⟩
 have hlv:=h.lv
 have hlc:=h.lc
 have hle:s.2.length≤s.1.length:=by lia
 refine⟨by show (ad _ _ _ _).length=n; rw [zfv,h.lc],by show (zbL _ _ _).length=_; rw [zb2,h.lv,ao,eL],zkO (by lia) _ _ h.rc,zos (by lia) _,fun z=>?_,fun a ha=>?_⟩
 ·rw [zem]
  exact (zmH s.2).trans (((Cg.refl p _).mul (h.van z)).trans (Cg.of_eq (by grind)))
 ·have hv:=ziz (p:=p) (f:=(q.2 - zp p q.1 s.1)*inv p (zp p q.1 s.2) % p) (z:=a.1) s.1 s.2 hle; rcases a7.mp ha with ha | ha
  ·obtain⟨b0,b1,b2,b3,b4⟩:=hd a ha
   have hz:Cg p (zp p a.1 s.2) 0:=(h.van a.1).trans (Cg.of_eq (zen ⟨a,ha,rfl⟩))
   have h2:Cg p (zp p a.1 (ad p ((q.2 - zp p q.1 s.1)*inv p (zp p q.1 s.2) % p) s.1 s.2)) (zp p a.1 s.1):=hv.trans (((Cg.refl p (zp p a.1 s.1)).add ((Cg.refl p _).mul hz)).trans (Cg.of_eq (by rw [cN,Int.add_zero])))
   rw [h.hit a ha] at h2
   exact h2.eq (zaA (by lia) _) (zaB (by lia) _) b3 b4
  ·have e:a=q:=by simpa using ha
   subst e
   have h2:Cg p (zp p a.1 (ad p ((a.2 - zp p a.1 s.1)*inv p (zp p a.1 s.2) % p) s.1 s.2)) a.2:=hv.trans (((Cg.refl p (zp p a.1 s.1)).add (zjJ hp h q0 q1 hd')).trans (Cg.of_eq (by lia)))
   exact h2.eq (zaA (by lia) _) (zaB (by lia) _) q2 q3
structure Pts (p:Int) (pts:List (Int×Int)):Prop where
 nd:(pts.map (·.1)).Nodup
 rg:∀ q∈pts,0≤q.1∧q.1 < p∧0≤q.2∧q.2 < p
theorem Pts.apart {p:Int} {done rest:List (Int×Int)} {q:Int×Int} (h:Pts p (done++q :: rest)):∀ a∈done,0≤a.1∧a.1 < p∧a.1≠q.1∧0≤a.2∧a.2 < p:=fun a ha=>by
 obtain⟨r1,r2,r3,r4⟩:=h.rg a (aU _ ha)
 refine⟨r1,r2,fun e=>?_,r3,r4⟩
 have nd:=h.nd
 rw [au,dS] at nd
 exact nd.2.2 a.1 (aE.mpr ⟨a,ha,rfl⟩) q.1 (by simp) e
theorem zkP {p:Int} (hp:p∈zo) {n:Nat}:∀ (rest done:List (Int×Int)) (s:List Int×List Int),Pts p (done++rest)→(done++rest).length=n→Nw p n done s→Nw p n (done++rest) (rest.foldl (zcq p) s)
 | [],done,s,_,_,h=>by rw [bD]; exact h
 | q :: rest,done,s,hP,hn,h=>by
  have hn':done.length < n:=by rw [← hn]; simp
  obtain⟨a,b,c,d⟩:=hP.rg q (by simp)
  have hs:=ziB hp h (q:=q) hn' a b c d hP.apart
  have e:done++q :: rest=(done++[q])++rest:=by simp
  rw [e] at hP hn ⊢
  exact zkP hp rest (done++[q]) _ hP hn hs
theorem zeo {p:Int} (hp:p∈zo) {pts:List (Int×Int)} (hP:Pts p pts):(thr p pts).length=pts.length∧(∀ c∈thr p pts,0≤c∧c < p)∧∀ q∈pts,zp p q.1 (thr p pts)=q.2:=by
 have h:=zkP hp (n:=pts.length) pts [] _ (by simpa using hP) (by simp) (zgV hp pts.length)
 exact⟨h.lc,h.rc,h.hit⟩
end My
end
section
namespace My
open PySem L2 PyProof.Rows
section
variable {K:ai}
theorem zkQ {ns:List Int} {k:Int} (h0:0≤k) (h1:k < ns.length):∃ c:Int,ns[k.toNat]? = some c∧atI (ns.map V.int) k=some (.int c):=by
 have hlt:k.toNat < ns.length:=by lia
 have e:atI (ns.map V.int) ((k.toNat:Nat):Int)=some (.int ns[k.toNat]):=zaG (by simp [ah,aj hlt])
 have hk:((k.toNat:Nat):Int)=k:=by lia
 rw [hk] at e
 exact⟨ns[k.toNat],by simp,e⟩
theorem zdY {ns:List Int} {k:Int} (h0:0≤k) (h1:k < ns.length):∃ c:Int,atI (ns.map V.int) k=some (.int c):=let ⟨c,_,e⟩:=zkQ h0 h1; ⟨c,e⟩
theorem zb {H:Hp} {a:Addr} {o:HO} (h:H a=none):zu H (upd H a o):=fun b u e=>by rw [zn (zw e h)]; exact e
theorem zae {H H':Hp} {a:Addr} {o:HO} (s:zu H H') (h:H a=none):zu H (upd H' a o):=fun b u e=>by rw [zn (zw e h)]; exact s b u e
theorem zaa {n:Nat} (h:n≤10000):n < sizeLine:=by rw [aX]; lia
def zjK (K:ai):Sp:=fun vs H Q _=>∃ (a:Addr) (ns:List Int) (k:Int),vs = [.ref a,.int k]∧SqL K H a (ns.map V.int)∧ns.length≤63∧0≤k∧k≤1000∧∀ c:Int,Q (.int c) H
def zfZ (many:Nat) (base:Int) (ds:List Int):Prop:=ds.length=many∧∀ d∈ds,0≤d∧d < base
def zhV (K:ai):Sp:=fun vs H Q _=>∃ (a:Addr) (ns:List Int) (k many base:Int),vs = [.ref a,.int k,.int many,.int base]∧SqL K H a (ns.map V.int)∧ns.length≤63∧0≤k∧k≤1000∧0≤many∧many≤1000∧0 < base∧base < 1073741824 ∧
 ∀ (l:Addr) (ds:List Int) (H':Hp),H l=none→zu H H'→zfZ many.toNat base ds→H' l=some (.lst (ds.map V.int))→Q (.ref l) H'
abbrev zmI:List V:=[.int 2147483647,.int 2147483629,.int 2147483587,.int 2147483579,.int 2147483563,.int 2147483549,.int 2147483543,.int 2147483497]
theorem zmJ {m:Int} (h0:0≤m) (h1:m < 8):∃ q:Int,atI zmI m=some (.int q)∧0 < q∧q < 2147483648:=by
 have:m=0∨m=1∨m=2∨m=3∨m=4∨m=5∨m=6∨m=7:=by lia
 rcases this with e | e | e | e | e | e | e | e <;> subst e <;> exact⟨_,rfl,by decide,by decide⟩
theorem zep (j:Int):∃ q:Int,atI zmI (j % 8)=some (.int q)∧0 < q∧q < 2147483648:=zmJ (aI _ (by decide)) (aC _ (by decide))
theorem gY {i:Nat} {x:V} {σ:L2.St} {H:Hp} {A B:L2.St→Hp→Prop} (h:A (σ.set i (some x)) H):zaQ i x σ H (fun σ2 H2=>zmE σ2 H2 fun b H3=>if b=true then A σ2 H3 else B σ2 H3):=by
 show (if true=true then A (σ.set i (some x)) H else B (σ.set i (some x)) H)
 rw [if_pos rfl]
 exact h
structure CodeOk (mk mn p k:Int) (pl:List Int):Prop where
 pr:p∈zo
 k1:1≤k
 kk:k≤mk
 kl:k≤pl.length
 ln:(pl.length:Int)≤mn
 nd:pl.Nodup
 rg:∀ x∈pl,0≤x∧x < p
def zjL (K:ai):Sp:=fun vs H Q _=>∃ (a:Addr) (ns:List Int) (at' mk mn:Int),vs = [.ref a,.int at',.int mk,.int mn]∧SqL K H a (ns.map V.int)∧ns.length≤63∧0≤at'∧at'≤1000∧1≤mk∧mk≤5∧mk≤mn∧mn≤16 ∧
 ∀ (c tt:Addr) (p k:Int) (pl:List Int) (H':Hp),H c=none→zu H H'→CodeOk mk mn p k pl→H' c=some (.tup [.int p,.int k,.ref tt])→H' tt=some (.tup (pl.map V.int))→Q (.ref c) H'
theorem zot {x y m:Int} (h0:0≤m) (h1:m < 2):∃ z:Int,atI [V.int x,V.int y] m=some (.int z)∧(z=x∨z=y):=by
 have:m=0∨m=1:=by lia
 rcases this with e | e <;> subst e
 ·exact⟨x,rfl,.inl rfl⟩
 ·exact⟨y,rfl,.inr rfl⟩
theorem zkR {ns:List Int} {k:Int} (h0:0≤k) (h1:k < ns.length):∃ c:Int,c∈ns∧atI (ns.map V.int) k=some (.int c):=by
 obtain⟨c,e,h⟩:=zkQ h0 h1
 exact⟨c,aG e,h⟩
theorem zdq {α β:Type} (f:α→β):∀ (l:List α) (k:Nat),(l.map f).eraseIdx k=(l.eraseIdx k).map f
 | [],_=>rfl
 | _ :: _,0=>rfl
 | a :: l,k+1=>by show f a :: (l.map f).eraseIdx k=f a :: (l.eraseIdx k).map f; rw [zdq f l k]
theorem zcU {α:Type}:∀ {l:List α} {k:Nat} {x:α},l[k]? = some x→(x :: l.eraseIdx k).Perm l
 | [],_,_,h=>by simp at h
 | a :: l,0,x,h=>by
  have e:a=x:=by simpa using h
  subst e
  exact kG _
 | a :: l,k+1,x,h=>by
  have ih:=zcU (l:=l) (k:=k) (x:=x) (by simpa using h)
  exact (List.Perm.swap a x _).trans (ih.cons a)
theorem zmK {p:Int} {xs ls:List Int} {k:Nat} {x:Int} (h:ls[k]? = some x) (nd:(xs++ls).Nodup) (rg:∀ y∈xs++ls,0≤y∧y < p):((xs++[x])++ls.eraseIdx k).Nodup∧∀ y∈(xs++[x])++ls.eraseIdx k,0≤y∧y < p:=by
 have hp:((xs++[x])++ls.eraseIdx k).Perm (xs++ls):=by
  rw [aY]
  exact (zcU h).append_left xs
 exact⟨hp.nodup_iff.mpr nd,fun y hy=>rg y (hp.mem_iff.mp hy)⟩
theorem zjM (p:Int):(zbr 0 p.toNat).Nodup∧∀ y∈zbr 0 p.toNat,0≤y∧y < p:=by
 unfold zbr
 constructor
 ·rw [cU,ck]
  exact (cU.mp (f' (n:=p.toNat))).imp fun {a b} hab=>by lia
 ·intro y hy
  obtain⟨i,hi,e⟩:=aE.mp hy
  have:=bd.mp hi
  lia
def zdG (K:ai):Sp:=fun vs H Q _=>∃ (p x:Int) (a:Addr) (cs:List Int),vs = [.int p,.ref a,.int x]∧(SqL K H a (cs.map V.int)∨SqT K H a (cs.map V.int))∧0 < p∧p≤97∧0≤x∧x < p∧Q (.int (zp p x cs)) H
def zhW (K:ai):Sp:=zdG K
theorem zfw {cs:List Int} {i:Nat} {c:Int} (hi:i < cs.length) (h:cs[cs.length - 1 - i]? = some c):cs.drop (cs.length - (i+1))=c :: cs.drop (cs.length - i):=by
 have e:cs.length - (i+1)=cs.length - 1 - i:=by lia
 have hlt:cs.length - 1 - i < cs.length:=by lia
 rw [e,cA hlt]
 have:cs[cs.length - 1 - i]=c:=by
  rw [aj hlt] at h
  exact aP h
 rw [this]
 congr 2
 lia
theorem zag {cs:List Int} {j:Nat} {x:V} (h:(cs.map V.int)[j]? = some x):∃ c,x = .int c∧cs[j]? = some c:=by
 rw [ah] at h
 cases e:cs[j]? with
 | none=>rw [e] at h; cases h
 | some c=>rw [e] at h; exact⟨c,(aP h).symm,rfl⟩
theorem ziC {p x total power c:Int} {cs:List Int} {i:Nat} (h:cs[i]? = some c):lv p x total power (cs.drop i)=lv p x ((total+c*power) % p) (power*x % p) (cs.drop (i+1)):=by
 obtain⟨hlt,e⟩:=aA.mp h
 rw [cA hlt,e]
 rfl
def zhX (K:ai):Sp:=fun vs H Q _=>∃ (p h:Int),vs = [.int p,.int h]∧p∈zo∧0≤h∧h < p∧Q (.int (inv p h)) H
def zou (σ:L2.St):Nat:=match (σ[4]?:Option (Option V)) with
 | some (some (V.int l))=>l.toNat
 | _=>0
theorem zf0 {p prod sq left:Int} {n:Nat} (h0:0 < left) (h1:left < 2 ^ (n+1)):zcA p (n+1) prod sq left=zcA p n (if left % 2=1 then prod*sq % p else prod) (sq*sq % p) (left / 2):=by
 show (if 0 < left then _ else _)=_
 rw [if_pos h0]
theorem zgW {p prod sq:Int}:∀ n,zcA p n prod sq 0=prod
 | 0=>rfl
 | n+1=>by show (if (0:Int) < 0 then _ else prod)=prod; rw [if_neg (by decide)]
theorem gY2 {K:ai} {i j:Nat} {T:Addr} {x y:V} {σ:L2.St} {H:Hp} {A B:L2.St→Hp→Prop} (hT:SqT K H T [x,y]) (h:A ((σ.set i (some x)).set j (some y)) H) :
  zgF K 2 (zbV (zaQ i) (zbV (zaQ j) zhH)) (.ref T) σ H (fun σ2 H2=>zmE σ2 H2 fun b H3=>if b=true then A σ2 H3 else B σ2 H3):=by
 refine⟨T,_,rfl,hT,rfl,x,_,rfl,y,_,rfl,rfl,?_⟩
 show (if true=true then A ((σ.set i (some x)).set j (some y)) H else B ((σ.set i (some x)).set j (some y)) H)
 rw [if_pos rfl]
 exact h
theorem zgX {f:Int→Int→Int} {as bs:List Int} {i:Nat} {x y:Int} (hx:as[i]? = some x) (hy:bs[i]? = some y):(bn f as bs).take (i+1)=(bn f as bs).take i++[f x y]:=by
 have e:(bn f as bs)[i]? = some (f x y):=by rw [i3,hx,hy]
 rw [g8,e,jq]
def zkS (K:ai) (H:Hp) (a:Addr) (pts:List (Int×Int)):Prop:=∃ bs:List Addr,SqL K H a (bs.map V.ref)∧bs.length=pts.length∧∀ (i:Nat) (b:Addr) (q:Int×Int),bs[i]? = some b→pts[i]? = some q→H b=some (.tup [.int q.1,.int q.2])
theorem zc6 (n:Nat):(aw n [V.int 0]).flatten=(aw n (0:Int)).map V.int:=by
 induction n with
 | zero=>rfl
 | succ n ih=>rw [b7,dR,ih,b7]; rfl
theorem zmL {n j:Nat} (h:j < n):ixN n (j:Int)=some j:=by
 unfold ixN
 rw [if_pos (by lia),if_pos (by lia)]
 rfl
theorem zX {bs:List Addr} {i:Nat} {x:V} (h:(bs.map V.ref)[i]? = some x):∃ b,x = .ref b∧bs[i]? = some b:=by
 rw [ah] at h
 cases e:bs[i]? with
 | none=>rw [e] at h; cases h
 | some b=>rw [e] at h; exact⟨b,(aP h).symm,rfl⟩
theorem take_snoc {α:Type} {l:List α} {i:Nat} {x:α} (h:l[i]? = some x):l.take (i+1)=l.take i++[x]:=by
 rw [g8,h,jq]
theorem zeq {α:Type} {l:List α} {i:Nat} {x:α} (h:l[i]? = some x):l=l.take i++x :: l.drop (i+1):=by
 obtain⟨hi,e⟩:=aA.mp h; have:=b8 i l
 rw [cA hi,e] at this
 exact this.symm
theorem zkT {f:Int→Int→Int} {as bs:List Int} {n:Nat} (h1:n≤as.length) (h2:n≤bs.length) (h3:as.length≤n∨bs.length≤n):(bn f as bs).length=n:=by
 rw [fo]
 lia
theorem zfx {a b:Addr} {as bs:List Int} {n:Nat} {f:Int→Int→Int} {g:TG} {ts:TT} {te:TE} {σ0:L2.St} {Q:VK} {H:Hp} (ha:H a=some (.lst (as.map V.int))) (hb:H b=some (.lst (bs.map V.int))) (h1:n≤as.length) (h2:n≤bs.length) (h3:as.length≤n∨bs.length≤n) (hn:n≤10000)
  (hs:∀ (i:Nat) (x y:Int) (H1:Hp) (T:Addr) (R:VK) (B:L2.St→Hp→Prop),as[i]? = some x→bs[i]? = some y→zu H H1→H1 T=none→R (.int (f x y)) (upd H1 T (.tup [.int x,.int y]))→g (.ref T) σ0 (upd H1 T (.tup [.int x,.int y])) fun σ2 H2=>ts σ2 H2 fun b H3=>if b=true then te σ2 H3 R else B σ2 H3)
  (hd:∀ D H1,zu H H1→H1 D=none→Q (.ref D) (upd H1 D (.lst ((bn f as bs).map V.int)))):cGo g ts te σ0 (zjD (SqL K) (SqL K) a b) Q H:=by
 have hl:=zkT (f:=f) h1 h2 h3
 refine zS (n:=n) (fun i ys H'=>ys=((bn f as bs).take i).map V.int∧zu H H') ⟨by simp,fun _ _ e=>e⟩ ?_ ?_ ?_ ?_
 ·rintro i ys H3 hi ⟨_,s3⟩
  obtain⟨x,hx⟩:∃ x,as[i]? = some x:=⟨as[i]'(by lia),by simp⟩
  obtain⟨y,hy⟩:∃ y,bs[i]? = some y:=⟨bs[i]'(by lia),by simp⟩
  exact⟨_,_,.int x,.int y,SqL.of (s3 _ _ ha),SqL.of (s3 _ _ hb),by rw [ah,hx]; rfl,by rw [ah,hy]; rfl⟩
 ·rintro ys H3 ⟨_,s3⟩
  exact⟨_,_,SqL.of (s3 _ _ ha),SqL.of (s3 _ _ hb),by rw [ab,ab]; exact h3⟩
 ·rintro i x ys H3 H4 hi ⟨rfl,s3⟩ ⟨T,u,v,hT,rfl,rfl,hu,hv⟩
  obtain⟨x,rfl,hx⟩:=zag (hu _ (SqL.of (s3 _ _ ha)))
  obtain⟨y,rfl,hy⟩:=zag (hv _ (SqL.of (s3 _ _ hb)))
  refine hs i x y H3 T _ _ hx hy s3 hT ⟨zaa ?_,?_,s3.trans (zb hT)⟩
  ·rw [ab]
   exact aZ (fq _ _) (by lia)
  ·rw [zgX hx hy,au]
   rfl
 ·rintro ys H3 D ⟨rfl,s3⟩ hD
  rw [aM (by lia)]
  exact hd D H3 s3 hD
theorem zbB {a:Addr} {xs fs:List V} {g:TG} {ts:TT} {te:TE} {σ0:L2.St} {Q:VK} {H:Hp} (ha:SqL K H a xs) (hl:fs.length=xs.length) (hn:xs.length≤10000)
  (hs:∀ (i:Nat) (x y:V) (R:VK) (B:L2.St→Hp→Prop),xs[i]? = some x→fs[i]? = some y→R y H→g x σ0 H fun σ2 H2=>ts σ2 H2 fun b H3=>if b=true then te σ2 H3 R else B σ2 H3)
  (hd:∀ D,H D=none→Q (.ref D) (upd H D (.lst fs))):cGo g ts te σ0 (Itl K a) Q H:=by
 refine zS (n:=xs.length) (fun i ys H'=>ys=fs.take i∧H'=H) ⟨by simp,rfl⟩ ?_ ?_ ?_ ?_
 ·rintro i ys H3 hi ⟨_,rfl⟩
  exact⟨_,xs[i],ha,by simp⟩
 ·rintro ys H3 ⟨_,rfl⟩
  exact⟨_,ha,ag _⟩
 ·rintro i x ys H3 H4 hi ⟨rfl,rfl⟩ ⟨rfl,hx⟩
  have hy:fs[i]? = some fs[i]:=by simp
  refine hs i x fs[i] _ _ (hx _ ha) hy ⟨zaa (aZ (fq _ _) (by lia)),?_,rfl⟩
  rw [take_snoc hy]
 ·rintro ys H3 D ⟨rfl,rfl⟩ hD
  rw [aM (by lia)]
  exact hd D hD
theorem zjN {a:Addr} {xs fs:List V} {g:TG} {ts:TT} {te:TE} {σ0:L2.St} {Q:VK} {H:Hp} (ha:SqT K H a xs) (hl:fs.length=xs.length) (hn:xs.length≤10000)
  (hs:∀ (i:Nat) (x y:V) (R:VK) (B:L2.St→Hp→Prop),xs[i]? = some x→fs[i]? = some y→R y H→g x σ0 H fun σ2 H2=>ts σ2 H2 fun b H3=>if b=true then te σ2 H3 R else B σ2 H3)
  (hd:∀ D,H D=none→Q (.ref D) (upd H D (.lst fs))):cGo g ts te σ0 (Itt K a) Q H:=by
 refine zS (n:=xs.length) (fun i ys H'=>ys=fs.take i∧H'=H) ⟨by simp,rfl⟩ ?_ ?_ ?_ ?_
 ·rintro i ys H3 hi ⟨_,rfl⟩
  exact⟨_,xs[i],ha,by simp⟩
 ·rintro ys H3 ⟨_,rfl⟩
  exact⟨_,ha,ag _⟩
 ·rintro i x ys H3 H4 hi ⟨rfl,rfl⟩ ⟨rfl,hx⟩
  have hy:fs[i]? = some fs[i]:=by simp
  refine hs i x fs[i] _ _ (hx _ ha) hy ⟨zaa (aZ (fq _ _) (by lia)),?_,rfl⟩
  rw [take_snoc hy]
 ·rintro ys H3 D ⟨rfl,rfl⟩ hD
  rw [aM (by lia)]
  exact hd D hD
theorem zgY (ds:List Int) (lo hi:Option Int):∃ ms:List Int,za1 (ds.map V.int) lo hi=ms.map V.int∧ms.length≤ds.length:=by
 refine⟨(ds.drop (HT.sIx (ds.map V.int).length 0 lo)).take (HT.sIx (ds.map V.int).length (ds.map V.int).length hi - HT.sIx (ds.map V.int).length 0 lo),?_,?_⟩
 ·unfold za1; rw [dQ,gP]
 ·rw [aD,bZ]
  lia
theorem zgZ {ms:List Int} {f:Int→V} {i:Nat} {x y:V} (hx:(ms.map V.int)[i]? = some x) (hy:(ms.map f)[i]? = some y):∃ c,ms[i]? = some c∧x = .int c∧y=f c:=by
 obtain⟨c,rfl,hc⟩:=zag hx
 rw [ah,hc] at hy
 exact⟨c,hc,rfl,(aP hy).symm⟩
def zf1 (K:ai):Sp:=fun vs H Q _=>∃ (a:Addr) (ns:List Int),vs = [.ref a]∧SqL K H a (ns.map V.int)∧ns.length≤63∧∀ H',Q (.bl true) H'
end
end My
end
section
namespace PySem
abbrev IsZ (h:Heap) (z TI TO:Addr) (f0 f1:Value):Prop:=h.get? z=some { cls:=.type "zip",dict:=none,data:=.fields #[f0,f1,.bool false,.ref TI,.ref TO],slots:=#[] }
def ZF (f0 f1:Value):Prop:=(f0 = .none∨∃ a t,f0 = .int a t)∧∃ b,f1 = .bool b
structure Zap (z TI TO i1 i2:Addr) (fp1 fp2:List Addr):Prop where
 zTI:TI≠z
 zTO:TO≠z
 z1:i1≠z
 z2:i2≠z
 TT:TI≠TO
 T1:TI≠i1
 T2:TI≠i2
 O1:TO≠i1
 O2:TO≠i2
 ii:i1≠i2
 a1:z∉fp1
 a2:TO∉fp1
 a3:i2∉fp1
 b1:z∉fp2
 b2:TO∉fp2
 b3:i1∉fp2
section
variable {prog:Program} {w:World} {A:Around} {E:Value→Shared→Prop} {s:Shared}
theorem zjO {a:Addr} {Q:Option Obj→Shared→Prop} (h:Q (s.heap.get? a) s):wpAny (model prog w) A (loadIfAlive a) Q E s:=fun _ _ _=>h
theorem zkU {z TI TO:Addr} {f0 f1:Value} {Q:Bool→Shared→Prop} (hz:IsZ s.heap z TI TO f0 f1) (hf:ZF f0 f1) (h1:Q true s)
  (h2:∀ h',IsZ h' z TI TO f0 (.bool true)→br z s.heap h'→Q false { s with heap:=h' }):wpAny (model prog w) A (bT (.ref z)) Q E s:=by
 obtain⟨hf,b,rfl⟩:=hf
 unfold bT; rcases hf with rfl | ⟨a,t,rfl⟩
 ·exact ae (bw hz rfl (x:=.none) rfl (am h1))
 ·refine ae (bw hz rfl (x:=.int a t) rfl ?_)
  refine ae (zjO ?_)
  cases s.heap.get? a.toNat with
  | none=>exact am h1
  | some o =>
   refine ae (bw hz rfl (x:=.bool b) rfl ?_)
   cases b with
   | true=>exact am (h2 s.heap hz ⟨rfl,fun _ _=>rfl⟩)
   | false=>exact ae (bK hz (by simp) fun h' a' b'=>am (h2 h' a' b'))
theorem ziD {z TI TO i1 i2:Addr} {fp1 fp2:List Addr} {n1 n2 k1 k2:Nat} {P1 P2:Nat→Value→Prop} {S1 S2:Nat→Heap→Prop} {f0 f1 a b:Value} {Q:Value→Shared→Prop} (D1:Draws prog w A i1 fp1 n1 P1 S1) (D2:Draws prog w A i2 fp2 n2 P2 S2) (Z:Zap z TI TO i1 i2 fp1 fp2)
  (hz:IsZ s.heap z TI TO f0 f1) (hf:ZF f0 f1) (hTI:IsPair s.heap TI (.ref i1) (.ref i2)) (hTO:IsPair s.heap TO a b) (st1:S1 k1 s.heap) (st2:S2 k2 s.heap) (l1:k1 < n1) (l2:k2 < n2)
  (hQ:∀ x y h' tk g0 g1 a' b',P1 k1 x→P2 k2 y→IsZ h' z TI TO g0 g1→ZF g0 g1→IsPair h' TI (.ref i1) (.ref i2)→IsPair h' TO a' b'→S1 (k1+1) h'→S2 (k2+1) h'→IsPair h' s.heap.objs.size x y→h'.objs.size=s.heap.objs.size+1 →
   (∀ c o,c≠z→c≠TO→c≠i1→c≠i2→s.heap.get? c=some o→h'.get? c=some o)→Q (.ref s.heap.objs.size) { s with heap:=h',toks:=tk }):wpAny (model prog w) A (Builtin.«zip.__next__» ⟨[.ref z],[]⟩) (fun fin s'=>∃ v,fin = .done (.ret v)∧Q v s') E s:=by
 obtain⟨hp,g,d,tk0,os⟩:=s
 show wpAny _ _ (field (.ref z) 2 >>= _) _ _ _; refine ae (bw hz rfl (x:=.bool false) rfl ?_); show wpAny _ _ (field (.ref z) 3 >>= _) _ _ _
 refine ae (bw hz rfl (x:=.ref TI) rfl ?_); refine ae (cY hTI rfl ?_)
 show wpAny _ _ (bT (.ref z) >>= _) _ _ _; refine ae (zkU hz hf ?_ fun h0 hz0 hs0=>?_)
 ·simp only [if_true]
  refine ae (cb (ae (bw hz rfl (x:=.ref TO) rfl ?_)))
  refine ae (bK hz (by simp) fun ha hza hsa=>?_)
  replace hza:IsZ ha z TI TO .ellipsis f1:=hza
  replace hsa:br z hp ha:=hsa
  refine ae ?_
  simp only [kh,kx,eD,gu]; refine ae (ae (gQ ?_)); show wpAny _ _ (be (.ref i1) >>= _) _ _ _
  refine ae (D1.item k1 _ _ _ l1 (D1.frame _ _ _ st1 fun c hc o e=>hsa.extBut c o (fun q=>Z.a1 (q ▸ hc)) e) fun x hb tkb px stb hsb=>am ?_)
  replace hsb:br i1 ha hb:=hsb
  have hTOb:IsPair hb TO a b:=hsb.extBut _ _ Z.O1 (hsa.extBut _ _ Z.zTO hTO)
  refine ae (cY hTOb rfl (ae (gi hTOb fun hc hTOc hsc=>?_)))
  replace hTOc:IsPair hc TO x b:=hTOc
  replace hsc:br TO hb hc:=hsc
  refine ae (iU (am (ae (ae (gQ ?_))))); show wpAny _ _ (be (.ref i2) >>= _) _ _ _
  refine ae (D2.item k2 _ _ _ l2 (D2.frame _ _ _ st2 fun c hcf o e=>hsc.extBut c o (fun q=>Z.b2 (q ▸ hcf)) (hsb.extBut c o (fun q=>Z.b3 (q ▸ hcf)) (hsa.extBut c o (fun q=>Z.b1 (q ▸ hcf)) e))) fun y hd tkd py std hsd=>am ?_)
  replace hsd:br i2 hc hd:=hsd
  have hTOd:IsPair hd TO x b:=hsd.extBut _ _ Z.O2 hTOc
  refine ae (cY hTOd rfl (ae (gi hTOd fun he hTOe hse=>?_)))
  replace hTOe:IsPair he TO x y:=hTOe
  replace hse:br TO hd he:=hse
  refine ae (iU (am (am ?_))); refine ae (cY hTOe rfl (ae (gv ?_)))
  have hsz:he.objs.size=hp.objs.size:=by rw [hse.1,hsd.1,hsc.1,hsb.1,hsa.1]
  have hze:IsZ he z TI TO .ellipsis f1:=hse.extBut _ _ Z.zTO.symm (hsd.extBut _ _ Z.z2.symm (hsc.extBut _ _ Z.zTO.symm (hsb.extBut _ _ Z.z1.symm hza)))
  have kk:∀ c o,c≠z→c≠TO→c≠i1→c≠i2→hp.get? c=some o→he.get? c=some o:=fun c o c1 c2 c3 c4 e=>hse.extBut _ _ c2 (hsd.extBut _ _ c4 (hsc.extBut _ _ c2 (hsb.extBut _ _ c3 (hsa.extBut _ _ c1 e))))
  have st1e:S1 (k1+1) he:=D1.frame _ _ _ stb fun c hcf o e=>hse.extBut c o (fun q=>Z.a2 (q ▸ hcf)) (hsd.extBut c o (fun q=>Z.a3 (q ▸ hcf)) (hsc.extBut c o (fun q=>Z.a2 (q ▸ hcf)) e))
  have st2e:S2 (k2+1) he:=D2.frame _ _ _ std fun c hcf o e=>hse.extBut c o (fun q=>Z.b2 (q ▸ hcf)) e
  have zlt:z < he.objs.size:=aJ hze
  show wpAny _ _ (cG (.ref z) (.ref he.objs.size) >>= _) _ _ _
  refine ae ?_
  unfold cG; have hzf:IsZ (he.push { cls:=.type "tuple",data:=.seq #[x,y] }) z TI TO .ellipsis f1:=ak _ hze
  refine ae (bK hzf (by simp) fun h7 hz7 hs7=>?_)
  replace hz7:IsZ h7 z TI TO (rawInt he.objs.size) f1:=hz7
  refine bK hz7 (by simp) fun h8 hz8 hs8=>am ⟨_,rfl,?_⟩
  replace hz8:IsZ h8 z TI TO (rawInt he.objs.size) (.bool false):=hz8
  have up:∀ c o,c≠z→he.get? c=some o→h8.get? c=some o:=fun c o c1 e=>hs8.extBut _ _ c1 (hs7.extBut _ _ c1 (ak _ e))
  have hT8:IsPair h8 he.objs.size x y:=hs8.extBut _ _ (fE zlt) (hs7.extBut _ _ (fE zlt) (aL _ rfl))
  have hs8':h8.objs.size=he.objs.size+1:=by rw [hs8.1,hs7.1,bN]
  show Q (.ref he.objs.size) _
  rw [hsz] at hz8 hT8 hs8' ⊢
  exact hQ x y h8 tkd _ _ _ _ px py hz8 ⟨.inr ⟨_,_,rfl⟩,_,rfl⟩ (up _ _ Z.zTI (kk _ _ Z.zTI Z.TT Z.T1 Z.T2 hTI)) (up _ _ Z.zTO hTOe) (D1.frame _ _ _ st1e fun c hcf o e=>up c o (fun q=>Z.a1 (q ▸ hcf)) e) (D2.frame _ _ _ st2e fun c hcf o e=>up c o (fun q=>Z.b1 (q ▸ hcf)) e) hT8 hs8' fun c o c1 c2 c3 c4 e=>up c o c1 (kk c o c1 c2 c3 c4 e)
 ·simp only [bt,if_false]; replace hs0:br z hp h0:=hs0
  rw [show (#[ba i1,ba i2]:Array Value) = [ba i1,ba i2].toArray from rfl]
  simp only [jP,eD,gu]
  refine ae (ae (ae (bV ?_))); show wpAny _ _ (be (.ref i1) >>= _) _ _ _
  refine ae (D1.item k1 _ _ _ l1 (D1.frame _ _ _ st1 fun c hc o e=>hs0.extBut c o (fun q=>Z.a1 (q ▸ hc)) e) fun x hb tkb px stb hsb=>am (am ?_))
  replace hsb:br i1 h0 hb:=hsb
  refine ae (ae (bV ?_)); show wpAny _ _ (be (.ref i2) >>= _) _ _ _
  refine ae (D2.item k2 _ _ _ l2 (D2.frame _ _ _ st2 fun c hcf o e=>hsb.extBut c o (fun q=>Z.b3 (q ▸ hcf)) (hs0.extBut c o (fun q=>Z.b1 (q ▸ hcf)) e)) fun y hd tkd py std hsd=>am (am (am ?_)))
  replace hsd:br i2 hb hd:=hsd
  show wpAny _ _ (newTuple [x,y] >>= _) _ _ _
  refine ae (gv (am ⟨_,rfl,?_⟩))
  have hsz:hd.objs.size=hp.objs.size:=by rw [hsd.1,hsb.1,hs0.1]
  have kk:∀ c o,c≠z→c≠TO→c≠i1→c≠i2→hp.get? c=some o→hd.get? c=some o:=fun c o c1 c2 c3 c4 e=>hsd.extBut _ _ c4 (hsb.extBut _ _ c3 (hs0.extBut _ _ c1 e))
  have hzd:IsZ hd z TI TO f0 (.bool true):=hsd.extBut _ _ Z.z2.symm (hsb.extBut _ _ Z.z1.symm hz0)
  have hTOd:IsPair hd TO a b:=hsd.extBut _ _ Z.O2 (hsb.extBut _ _ Z.O1 (hs0.extBut _ _ Z.zTO hTO))
  have st1d:S1 (k1+1) hd:=D1.frame _ _ _ stb fun c hcf o e=>hsd.extBut c o (fun q=>Z.a3 (q ▸ hcf)) e
  have up:∀ c o,hd.get? c=some o→(hd.push { cls:=.type "tuple",data:=.seq #[x,y] }).get? c=some o:=fun c o e=>ak _ e
  have hT8:IsPair (hd.push { cls:=.type "tuple",data:=.seq #[x,y] }) hd.objs.size x y:=aL _ rfl
  have hs8':(hd.push { cls:=.type "tuple",data:=.seq #[x,y] }).objs.size=hd.objs.size+1:=bN ..
  show Q (.ref hd.objs.size) _
  rw [hsz] at hT8 hs8' ⊢
  exact hQ x y _ tkd _ _ _ _ px py (up _ _ hzd) ⟨hf.1,_,rfl⟩ (up _ _ (kk _ _ Z.zTI Z.TT Z.T1 Z.T2 hTI)) (up _ _ hTOd) (D1.frame _ _ _ st1d fun c _ o e=>up c o e) (D2.frame _ _ _ std fun c _ o e=>up c o e) hT8 hs8' fun c o c1 c2 c3 c4 e=>up c o (kk c o c1 c2 c3 c4 e)
theorem zkV {z TI TO i1 i2:Addr} {fp1 fp2:List Addr} {n1 n2 k1 k2:Nat} {P1 P2:Nat→Value→Prop} {S1 S2:Nat→Heap→Prop} {f0 f1 a b:Value} {Q:Fin→Shared→Prop} (D1:Draws prog w A i1 fp1 n1 P1 S1) (D2:Draws prog w A i2 fp2 n2 P2 S2) (Z:Zap z TI TO i1 i2 fp1 fp2)
  (hz:IsZ s.heap z TI TO f0 f1) (hf:ZF f0 f1) (hTI:IsPair s.heap TI (.ref i1) (.ref i2)) (hTO:IsPair s.heap TO a b) (st1:S1 k1 s.heap) (st2:S2 k2 s.heap) (l1:k1=n1∨(k1 < n1∧k2=n2))
  (hE:∀ h' tk e,(∀ c o,c≠z→c≠TO→c≠i1→c≠i2→s.heap.get? c=some o→h'.get? c=some o)→(∃ o,h'.get? e=some o∧o.cls = .type "StopIteration")→E (.ref e) { s with heap:=h',toks:=tk }):wpAny (model prog w) A (Builtin.«zip.__next__» ⟨[.ref z],[]⟩) Q E s:=by
 obtain⟨hp,g,d,tk0,os⟩:=s
 have nz:∀ {h:Heap} {e:Addr} {o:Obj} {x y:Value},IsZ h z TI TO x y→h.get? e=some o→o.cls = .type "StopIteration"→e≠z:=fun h1 h2 h3 q=>by subst q; rw [h1] at h2; cases h2; simp at h3
 show wpAny _ _ (field (.ref z) 2 >>= _) _ _ _; refine ae (bw hz rfl (x:=.bool false) rfl ?_); show wpAny _ _ (field (.ref z) 3 >>= _) _ _ _
 refine ae (bw hz rfl (x:=.ref TI) rfl ?_); refine ae (cY hTI rfl ?_)
 show wpAny _ _ (bT (.ref z) >>= _) _ _ _; refine ae (zkU hz hf ?_ fun h0 hz0 hs0=>?_)
 ·simp only [if_true]
  refine ae (cb (ae (bw hz rfl (x:=.ref TO) rfl ?_)))
  refine ae (bK hz (by simp) fun ha hza hsa=>?_)
  replace hza:IsZ ha z TI TO .ellipsis f1:=hza
  replace hsa:br z hp ha:=hsa
  refine ae ?_
  simp only [kh,kx,eD,gu]; refine ae (ae (gQ ?_)); show wpAny _ _ (be (.ref i1) >>= _) _ _ _
  have st1a:S1 k1 ha:=D1.frame _ _ _ st1 fun c hc o e=>hsa.extBut c o (fun q=>Z.a1 (q ▸ hc)) e
  rcases l1 with rfl | ⟨l1,rfl⟩
  ·refine ae (D1.done _ _ _ st1a fun hb e hsb ⟨oe,hoe,hce⟩=>?_)
   have hzb:IsZ hb z TI TO .ellipsis f1:=hsb _ _ Z.z1.symm hza
   exact bK hzb (by simp) fun h3 _ hs3=>hE h3 tk0 e (fun c o c1 _ c3 _ x=>hs3.extBut _ _ c1 (hsb _ _ c3 (hsa.extBut _ _ c1 x))) ⟨oe,hs3.extBut _ _ (nz hzb hoe hce) hoe,hce⟩
  ·refine ae (D1.item k1 _ _ _ l1 st1a fun x hb tkb px stb hsb=>am ?_)
   replace hsb:br i1 ha hb:=hsb
   have hTOb:IsPair hb TO a b:=hsb.extBut _ _ Z.O1 (hsa.extBut _ _ Z.zTO hTO)
   refine ae (cY hTOb rfl (ae (gi hTOb fun hc hTOc hsc=>?_)))
   replace hsc:br TO hb hc:=hsc
   refine ae (iU (am (ae (ae (gQ ?_))))); show wpAny _ _ (be (.ref i2) >>= _) _ _ _
   refine ae (D2.done _ _ _ (D2.frame _ _ _ st2 fun c hcf o e=>hsc.extBut c o (fun q=>Z.b2 (q ▸ hcf)) (hsb.extBut c o (fun q=>Z.b3 (q ▸ hcf)) (hsa.extBut c o (fun q=>Z.b1 (q ▸ hcf)) e))) fun hd e hsd ⟨oe,hoe,hce⟩=>?_)
   have hzd:IsZ hd z TI TO .ellipsis f1:=hsd _ _ Z.z2.symm (hsc.extBut _ _ Z.zTO.symm (hsb.extBut _ _ Z.z1.symm hza))
   exact bK hzd (by simp) fun h3 _ hs3=>hE h3 tkb e (fun c o c1 c2 c3 c4 x=>hs3.extBut _ _ c1 (hsd _ _ c4 (hsc.extBut _ _ c2 (hsb.extBut _ _ c3 (hsa.extBut _ _ c1 x))))) ⟨oe,hs3.extBut _ _ (nz hzd hoe hce) hoe,hce⟩
 ·simp only [bt,if_false]; replace hs0:br z hp h0:=hs0
  rw [show (#[ba i1,ba i2]:Array Value) = [ba i1,ba i2].toArray from rfl]
  simp only [jP,eD,gu]
  refine ae (ae (ae (bV ?_))); show wpAny _ _ (be (.ref i1) >>= _) _ _ _
  have st1a:S1 k1 h0:=D1.frame _ _ _ st1 fun c hc o e=>hs0.extBut c o (fun q=>Z.a1 (q ▸ hc)) e
  rcases l1 with rfl | ⟨l1,rfl⟩
  ·exact ae (D1.done _ _ _ st1a fun hb e hsb he=>hE hb tk0 e (fun c o c1 _ c3 _ x=>hsb _ _ c3 (hs0.extBut _ _ c1 x)) he)
  ·refine ae (D1.item k1 _ _ _ l1 st1a fun x hb tkb px stb hsb=>am (am ?_))
   replace hsb:br i1 h0 hb:=hsb
   refine ae (ae (bV ?_)); show wpAny _ _ (be (.ref i2) >>= _) _ _ _
   exact ae (D2.done _ _ _ (D2.frame _ _ _ st2 fun c hcf o e=>hsb.extBut c o (fun q=>Z.b3 (q ▸ hcf)) (hs0.extBut c o (fun q=>Z.b1 (q ▸ hcf)) e)) fun hd e hsd he=>hE hd tkb e (fun c o c1 _ c3 c4 x=>hsd _ _ c4 (hsb.extBut _ _ c3 (hs0.extBut _ _ c1 x))) he)
theorem zmM {e z TI TO i1 i2:Addr} {fp1 fp2:List Addr} {n1 n2 i:Nat} {P1 P2:Nat→Value→Prop} {S1 S2:Nat→Heap→Prop} {f0 f1 a b old:Value} {Q:Option Value→Shared→Prop} (D1:Draws prog w A.in1.in1 i1 fp1 n1 P1 S1) (D2:Draws prog w A.in1.in1 i2 fp2 n2 P2 S2) (Z:Zap z TI TO i1 i2 fp1 fp2)
  (he:IsEnum s.heap e z i old) (ez:e≠z) (eT:e≠TI) (eO:e≠TO) (e1:e≠i1) (e2:e≠i2) (ef1:e∉fp1) (ef2:e∉fp2)
  (hz:IsZ s.heap z TI TO f0 f1) (hf:ZF f0 f1) (hTI:IsPair s.heap TI (.ref i1) (.ref i2)) (hTO:IsPair s.heap TO a b) (st1:S1 i s.heap) (st2:S2 i s.heap) (l1:i < n1) (l2:i < n2)
  (hQ:∀ x y h' tk g0 g1 a' b',P1 i x→P2 i y→IsEnumOut h' e z ((i:Int)+1) (.ref s.heap.objs.size) (s.heap.objs.size+1)→IsZ h' z TI TO g0 g1→ZF g0 g1→IsPair h' TI (.ref i1) (.ref i2)→IsPair h' TO a' b'→S1 (i+1) h'→S2 (i+1) h'→IsPair h' s.heap.objs.size x y →
   IsPair h' (s.heap.objs.size+1) (.int i tk) (.ref s.heap.objs.size)→h'.objs.size=s.heap.objs.size+2 →
   (∀ c o,c≠e→c≠z→c≠TO→c≠i1→c≠i2→s.heap.get? c=some o→h'.get? c=some o)→Q (some (.ref (s.heap.objs.size+1))) { s with heap:=h',toks:=tk+1 }):wpAny (model prog w) A (pyNext (.ref e)) Q E s:=by
 have hT:s.TypeIs (.ref e) "enumerate":=⟨_,he,rfl⟩; have hTz:s.TypeIs (.ref z) "zip":=⟨_,hz,rfl⟩
 unfold pyNext
 refine ae (cS (bo (name:=bS "__next__") hT eR (bz eR hT iV ?_ (iA _))))
 obtain⟨hp,g,d,tk0,os⟩:=s
 show wpAny _ _ (field (.ref e) 2 >>= _) _ _ _; refine ae (bw he rfl (x:=.ref z) rfl (ae ?_))
 unfold be; refine ae (bo (name:=bS "__next__") hTz dj (bz dj hTz ga ?_ (fW _)))
 refine ziD D1 D2 Z hz hf hTI hTO st1 st2 l1 l2 fun x y h1 tk g0 g1 a' b' px py hz1 hf1 hTI1 hTO1 st1' st2' hp1 hsz1 kk=>am ?_
 have he1:IsEnum h1 e z i old:=kk _ _ ez eO e1 e2 he
 have elt:e < hp.objs.size:=aJ he
 show wpAny _ _ (field (.ref e) 3 >>= _) _ _ ⟨h1,g,d,tk,os⟩; refine ae (bw he1 rfl (x:=rawInt i) rfl ?_)
 show wpAny _ _ (field (.ref e) 4 >>= _) _ _ ⟨h1,g,d,tk,os⟩; refine ae (bw he1 rfl (x:=.none) rfl ?_)
 show wpAny _ _ (mkInt i >>= _) _ _ ⟨h1,g,d,tk,os⟩; refine ae (wpAny_mkInt ?_)
 show wpAny _ _ (setField (.ref e) 3 (rawInt ((i:Int)+1)) >>= _) _ _ ⟨h1,g,d,tk+1,os⟩; refine ae (bK he1 (by simp) fun h2 he2 hs2=>?_)
 replace hs2:br e h1 h2:=hs2
 replace he2:IsEnum h2 e z ((i:Int)+1) old:=he2
 show wpAny _ _ (setField (.ref e) 4 .none >>= _) _ _ ⟨h2,g,d,tk+1,os⟩; refine ae (bK he2 (by simp) fun h3 he3 hs3=>?_)
 replace hs3:br e h2 h3:=hs3
 replace he3:IsEnum h3 e z ((i:Int)+1) old:=he3
 show wpAny _ _ (newTuple [.int i tk,.ref hp.objs.size] >>= _) _ _ ⟨h3,g,d,tk+1,os⟩; refine ae (gv ?_)
 have z3:h3.objs.size=hp.objs.size+1:=by rw [hs3.1,hs2.1]; exact hsz1
 rw [z3]
 have he4:IsEnum (h3.push { cls:=.type "tuple",data:=.seq #[.int i tk,.ref hp.objs.size] }) e z ((i:Int)+1) old:=ak _ he3
 have ht4:=aL h3 (o:={ cls:=.type "tuple",data:=.seq #[.int i tk,.ref hp.objs.size] }) rfl
 rw [z3] at ht4
 have k4:∀ c o,c≠e→h1.get? c=some o→(h3.push { cls:=.type "tuple",data:=.seq #[.int i tk,.ref hp.objs.size] }).get? c=some o:=fun c o ce x=>ak _ (hs3.extBut c o ce (hs2.extBut c o ce x))
 have z4:(h3.push { cls:=.type "tuple",data:=.seq #[.int i tk,.ref hp.objs.size] }).objs.size=hp.objs.size+2:=by rw [bN,z3]
 generalize h3.push { cls:=.type "tuple",data:=.seq #[.int i tk,.ref hp.objs.size] }=h4 at he4 ht4 k4 z4 ⊢
 show wpAny _ _ (bT (.ref e) >>= _) _ _ ⟨h4,g,d,tk+1,os⟩
 refine ae ?_
 unfold bT; refine ae (bw he4 rfl (x:=.none) rfl (am ?_))
 simp only [if_true]; refine ae (cb (ae (bw he4 rfl (x:=old) rfl ?_)))
 refine ae (bK he4 (by simp) fun h5 he5 hs5=>?_)
 replace hs5:br e h4 h5:=hs5
 replace he5:IsEnum h5 e z ((i:Int)+1) (.ref hp.objs.size):=he5
 show wpAny _ _ (cG (.ref e) (.ref (hp.objs.size+1)) >>= _) _ _ ⟨h5,g,d,tk+1,os⟩
 refine ae ?_
 unfold cG; refine ae (bK he5 (by simp) fun h6 he6 hs6=>?_)
 replace hs6:br e h5 h6:=hs6
 replace he6:IsEnumOut h6 e z ((i:Int)+1) (.ref hp.objs.size) (hp.objs.size+1):=he6
 refine bK he6 (by simp) fun h7 he7 hs7=>?_
 replace hs7:br e h6 h7:=hs7
 replace he7:IsEnumOut h7 e z ((i:Int)+1) (.ref hp.objs.size) (hp.objs.size+1):=he7
 have up:∀ c o,c≠e→h4.get? c=some o→h7.get? c=some o:=fun c o ce x=>hs7.extBut c o ce (hs6.extBut c o ce (hs5.extBut c o ce x))
 have z7:h7.objs.size=hp.objs.size+2:=by rw [hs7.1,hs6.1,hs5.1,z4]
 refine ae (iU (am ⟨_,rfl,am ?_⟩))
 exact hQ x y h7 tk g0 g1 a' b' px py he7 (up _ _ ez.symm (k4 _ _ ez.symm hz1)) hf1 (up _ _ eT.symm (k4 _ _ eT.symm hTI1)) (up _ _ eO.symm (k4 _ _ eO.symm hTO1))
  (D1.frame _ _ _ st1' fun c hc o x=>up c o (fun q=>ef1 (q ▸ hc)) (k4 c o (fun q=>ef1 (q ▸ hc)) x)) (D2.frame _ _ _ st2' fun c hc o x=>up c o (fun q=>ef2 (q ▸ hc)) (k4 c o (fun q=>ef2 (q ▸ hc)) x))
  (up _ _ (fE elt) (k4 _ _ (fE elt) hp1)) (up _ _ (fE (eK elt)) ht4) z7 fun c o ce cz cO c1 c2 x=>up c o ce (k4 c o ce (kk c o cz cO c1 c2 x))
theorem zov {e z TI TO i1 i2:Addr} {fp1 fp2:List Addr} {n1 n2 k:Nat} {i:Int} {P1 P2:Nat→Value→Prop} {S1 S2:Nat→Heap→Prop} {f0 f1 a b old:Value} {Q:Option Value→Shared→Prop} (D1:Draws prog w A.in1.in1 i1 fp1 n1 P1 S1) (D2:Draws prog w A.in1.in1 i2 fp2 n2 P2 S2) (Z:Zap z TI TO i1 i2 fp1 fp2)
  (he:IsEnum s.heap e z i old) (hz:IsZ s.heap z TI TO f0 f1) (hf:ZF f0 f1) (hTI:IsPair s.heap TI (.ref i1) (.ref i2)) (hTO:IsPair s.heap TO a b) (st1:S1 k s.heap) (st2:S2 k s.heap) (l1:k=n1∨(k < n1∧k=n2))
  (hQ:∀ h' tk,(∀ c o,c≠z→c≠TO→c≠i1→c≠i2→s.heap.get? c=some o→h'.get? c=some o)→Q none { s with heap:=h',toks:=tk }):wpAny (model prog w) A (pyNext (.ref e)) Q E s:=by
 have hT:s.TypeIs (.ref e) "enumerate":=⟨_,he,rfl⟩; have hTz:s.TypeIs (.ref z) "zip":=⟨_,hz,rfl⟩
 unfold pyNext
 refine ae (cS (bo (name:=bS "__next__") hT eR (bz eR hT iV ?_ (iA _))))
 show wpAny _ _ (field (.ref e) 2 >>= _) _ _ _; refine ae (bw he rfl (x:=.ref z) rfl (ae ?_))
 unfold be; refine ae (bo (name:=bS "__next__") hTz dj (bz dj hTz ga ?_ (fW _)))
 refine zkV D1 D2 Z hz hf hTI hTO st1 st2 l1 fun h' tk x kk ⟨o,ho,hc⟩=>?_
 exact ae (fe (T:="StopIteration") (b:=true) ⟨o,ho,hc⟩ gr (am (hQ h' tk kk)))
end
def znQ (l:Addr):Obj:={ cls:=.type "list_iterator",data:=.fields #[.ref l,.int 0 0] }
def zf2 (x y:Value):Obj:={ cls:=.type "tuple",data:=.seq #[x,y] }
def zpq (a b:Addr):Obj:={ cls:=.type "zip",data:=.fields #[.none,.bool false,.bool false,.ref a,.ref b] }
abbrev zt2 (h:Heap) (l1 l2:Addr):Heap:=(h.push (zcm l1)).push (znQ l2)
abbrev zt4 (h:Heap) (l1 l2:Addr):Heap:=((zt2 h l1 l2).push (zf2 (.ref h.objs.size) (.ref (h.push (zcm l1)).objs.size))).push (zf2 .none .none)
abbrev zt5 (h:Heap) (l1 l2:Addr):Heap:=(zt4 h l1 l2).push (zpq (zt2 h l1 l2).objs.size ((zt2 h l1 l2).push (zf2 (.ref h.objs.size) (.ref (h.push (zcm l1)).objs.size))).objs.size)
theorem zg0 (l1 l2:Addr) (xs ys:Array Value):Meets (Builtin.«zip.__new__» ⟨[.type "zip",.ref l1,.ref l2],[]⟩) (fun _ R s=>s.heap.IsTuple l1 xs∧s.heap.IsList l2 ys∧R (.ok (.ret (.ref (zt4 s.heap l1 l2).objs.size))) { s with heap:=zt5 s.heap l1 l2 }) :=
 .of_wp fun prog w A R s h=>by
  obtain⟨hp,g,d,tk,os⟩:=s; obtain⟨hl1,hl2,h⟩:=h; have hsub:=sub_zip
  have hL1:Heap.IsTuple (j4 ⟨hp,g,d,tk,os⟩) l1 xs:=hl1
  have hL2:Heap.IsList (j4 ⟨hp.push { cls:=.type "tuple_iterator",data:=.fields #[.ref l1,.int 0 0] },g,d,tk,os⟩) l2 ys:=Heap.IsList.push hl2 _
  wp_walk using gC hL1,gV hL2
  exact⟨_,rfl,h⟩
section
variable {prog:Program} {w:World} {A:Around} {E:Value→Shared→Prop} {s:Shared}
theorem zer {l1 l2:Addr} {xs ys:Array Value} {Q:Value→Shared→Prop} (hl1:s.heap.IsTuple l1 xs) (hl2:s.heap.IsList l2 ys)
  (h:∀ h' n,n=s.heap.objs.size→IsZ h' (n+4) (n+2) (n+3) .none (.bool false)→IsPair h' (n+2) (.ref n) (.ref (n+1))→IsPair h' (n+3) .none .none→h'.IsTupleIter n l1 0→h'.IsListIter (n+1) l2 0→h'.objs.size=n+5 →
   (∀ c o,s.heap.get? c=some o→h'.get? c=some o)→Q (.ref (n+4)) { s with heap:=h' }):wpAny (model prog w) A (call (.type "zip") [.ref l1,.ref l2]) Q E s:=by
 refine jO F.called_zip (by decide) (F.typeCall_zip_2 _ _) (F.newCall_zip_2 _ _) (fun obj=>F.args_object_init_3 obj _ _) F.entry_zip_new (zg0 l1 l2 xs ys) ⟨hl1,hl2,?_⟩
 have z1:(s.heap.push (zcm l1)).objs.size=s.heap.objs.size+1:=bN ..
 have z2:(zt2 s.heap l1 l2).objs.size=s.heap.objs.size+2:=by rw [bN,z1]
 have z3:((zt2 s.heap l1 l2).push (zf2 (.ref s.heap.objs.size) (.ref (s.heap.push (zcm l1)).objs.size))).objs.size=s.heap.objs.size+3:=by rw [bN,z2]
 have z4:(zt4 s.heap l1 l2).objs.size=s.heap.objs.size+4:=by rw [bN,z3]
 have g5:=aL (zt4 s.heap l1 l2) (o:=zpq (zt2 s.heap l1 l2).objs.size ((zt2 s.heap l1 l2).push (zf2 (.ref s.heap.objs.size) (.ref (s.heap.push (zcm l1)).objs.size))).objs.size) rfl
 have g4:(zt5 s.heap l1 l2).get? _=some _:=ak _ (aL ((zt2 s.heap l1 l2).push (zf2 (.ref s.heap.objs.size) (.ref (s.heap.push (zcm l1)).objs.size))) (o:=zf2 .none .none) rfl)
 have g3:(zt5 s.heap l1 l2).get? _=some _:=ak _ (ak _ (aL (zt2 s.heap l1 l2) (o:=zf2 (.ref s.heap.objs.size) (.ref (s.heap.push (zcm l1)).objs.size)) rfl))
 have g2:(zt5 s.heap l1 l2).get? _=some _:=ak _ (ak _ (ak _ (aL (s.heap.push (zcm l1)) (o:=znQ l2) rfl)))
 have g1:(zt5 s.heap l1 l2).get? s.heap.objs.size=some (zcm l1):=ak _ (ak _ (ak _ (ak _ (aL _ rfl))))
 have z5:(zt5 s.heap l1 l2).objs.size=s.heap.objs.size+5:=by rw [bN,z4]
 have k5:∀ c o,s.heap.get? c=some o→(zt5 s.heap l1 l2).get? c=some o:=fun c o x=>ak _ (ak _ (ak _ (ak _ (ak _ x))))
 show _∧_
 rw [z4] at g5 ⊢
 rw [z3] at g4
 rw [z2] at g3
 rw [z1] at g2
 refine⟨⟨_,g5,rfl⟩,h _ _ rfl ?_ ?_ g4 ⟨_,g1,rfl,rfl⟩ ⟨_,g2,rfl,rfl⟩ z5 k5⟩
 ·have:IsZ (zt5 s.heap l1 l2) (s.heap.objs.size+4) (zt2 s.heap l1 l2).objs.size ((zt2 s.heap l1 l2).push (zf2 (.ref s.heap.objs.size) (.ref (s.heap.push (zcm l1)).objs.size))).objs.size .none (.bool false):=g5
  rw [z2,z3] at this
  exact this
 ·have:IsPair (zt5 s.heap l1 l2) (s.heap.objs.size+2) (.ref s.heap.objs.size) (.ref (s.heap.push (zcm l1)).objs.size):=g3
  rw [z1] at this
  exact this
end
open AutoSeq1 (wpAny_loadPart') in
theorem zg1 (z TI TO:Addr) (f0:Value):Meets (Builtin.«enumerate.__new__» ⟨[.type "enumerate",.ref z],[]⟩) (fun _ R s=>IsZip s.heap z TI TO f0∧R (.ok (.ret (.ref s.heap.objs.size))) { s with heap:=s.heap.push (zkH z) }) :=
 .of_wp fun prog w A R s h=>by
  obtain⟨hp,g,d,tk,os⟩:=s; obtain⟨hz,h⟩:=h
  have hZ:IsZip (j4 ⟨hp,g,d,tk,os⟩) z TI TO f0:=hz
  have hsub:=sub_enumerate; wp_walk using cB hz
  refine wpAny_stack_any fun st=>am ?_; split
  ·rename_i c _ _ _ _ _; cases (c == jc "enumerate") <;> (wp_walk using cB hz,f9 hZ; exact⟨_,rfl,h⟩)
  ·wp_walk using cB hz,f9 hZ; exact⟨_,rfl,h⟩
theorem zhY {prog:Program} {w:World} {A:Around} {E:Value→Shared→Prop} {s:Shared} {z TI TO:Addr} {f0:Value} {Q:Value→Shared→Prop} (hz:IsZip s.heap z TI TO f0)
  (h:∀ h',IsEnum h' s.heap.objs.size z 0 .none→h'.objs.size=s.heap.objs.size+1→(∀ b o,s.heap.get? b=some o→h'.get? b=some o)→Q (.ref s.heap.objs.size) { s with heap:=h' }):wpAny (model prog w) A (call (.type "enumerate") [.ref z]) Q E s:=by
 refine jO F.called_enumerate (by decide) (F.typeCall_enumerate_1 _) (F.newCall_enumerate_1 _) (fun obj=>ji obj _) F.entry_enumerate_new (zg1 z TI TO f0) ⟨hz,?_⟩
 have he:=aL s.heap (o:=zkH z) rfl
 exact⟨⟨_,he,rfl⟩,h _ he (bN ..) fun b o x=>ak _ x⟩
end PySem
end
section
namespace L2
open PySem PySem.Spec PyProof.Rows
def zmN (Sq1 Sq2:Hp→Addr→List V→Prop) (a b:Addr):It :=
 ⟨fun i H=>∃ xs ys x y,Sq1 H a xs∧Sq2 H b ys∧xs[i]? = some x∧ys[i]? = some y,
  fun i H x H'=>∃ T1 T2 u v,H T1=none∧H T2=none∧T1≠T2∧x = .ref T2∧H'=upd (upd H T1 (.tup [u,v])) T2 (.tup [.int i,.ref T1])∧(∀ xs,Sq1 H a xs→xs[i]? = some u)∧∀ ys,Sq2 H b ys→ys[i]? = some v,
  fun i H=>∃ xs ys,Sq1 H a xs∧Sq2 H b ys∧xs.length=i⟩
abbrev zes (n:Nat):List Addr:=[n+5,n+4,n+2,n+3,n,n+1]
abbrev zow (n a b:Nat) (i:Nat) (h:Heap):Prop:=(∃ old,IsEnum h (n+5) (n+4) i old)∧(∃ f0 f1,IsZ h (n+4) (n+2) (n+3) f0 f1∧ZF f0 f1)∧IsPair h (n+2) (.ref n) (.ref (n+1))∧(∃ u v,IsPair h (n+3) u v)∧h.IsTupleIter n a i∧h.IsListIter (n+1) b i
theorem nq {x y:Nat} (h:x≠y):@Ne Addr x y:=h
theorem nl {x y:Nat} (h:x < y):@LT.lt Nat _ x y:=h
theorem nm2 {c x y:Nat} (h1:c≠x) (h2:c≠y):¬ @Membership.mem Addr (List Addr) _ [x,y] c:=fun h=>by
 rcases aB.mp h with e | e
 ·exact h1 e
 ·exact h2 (aW.mp e)
theorem zcB {n a b:Nat} (ha:a < n) (hb:b < n):Zap (n+4) (n+2) (n+3) n (n+1) [n,a] [n+1,b] :=
 ⟨nq (by lia),nq (by lia),nq (by lia),nq (by lia),nq (by lia),nq (by lia),nq (by lia),nq (by lia),nq (by lia),nq (by lia),nm2 (by lia) (by lia),nm2 (by lia) (by lia),nm2 (by lia) (by lia),nm2 (by lia) (by lia),nm2 (by lia) (by lia),nm2 (by lia) (by lia)⟩
theorem zmO {P:Program} {w:World} {K:ai} {es:List Expr} {k:Nat} {pos:Pos} (a b n:Nat) (ha:a < n) (hb:b < n):Turn P w K (.Tuple es k pos) (zmN (SqT K) (SqL K) a b) (zes n) (n+5) (zow n a b) where
 mem:=by simp
 obj:=fun i h st c hc=>by
  obtain⟨⟨old,h0⟩,⟨f0,f1,h1,_⟩,h2,⟨u,v,h3⟩,⟨o4,e4,_,d4⟩,⟨o5,e5,_,d5⟩⟩:=st
  simp only [zes,aB,aQ,or_false] at hc
  rcases hc with z | z | z | z | z | z <;> subst z
  ·exact⟨_,h0,fun v z=>by cases z⟩
  ·exact⟨_,h1,fun v z=>by cases z⟩
  ·exact⟨_,h2,fun v z=>by cases z⟩
  ·exact⟨_,h3,fun v z=>by cases z⟩
  ·exact⟨_,e4,fun v z=>by rw [d4] at z; cases z⟩
  ·exact⟨_,e5,fun v z=>by rw [d5] at z; cases z⟩
 keep:=fun i h h' st kk=>by
  obtain⟨⟨old,h0⟩,⟨f0,f1,h1,hf⟩,h2,⟨u,v,h3⟩,h4,h5⟩:=st
  exact⟨⟨old,kk _ (by simp) _ h0⟩,⟨f0,f1,kk _ (by simp) _ h1,hf⟩,kk _ (by simp) _ h2,⟨u,v,kk _ (by simp) _ h3⟩,h4.at fun o eo=>kk _ (by simp) o eo,h5.at fun o eo=>kk _ (by simp) o eo⟩
 item:=by
  intro X hP hw hK hc i pins s σ H E I hf st hg
  subst hP hw hK
  obtain⟨xs,ys,x,y,hq1,hq2,hx,hy⟩:=hg
  obtain⟨⟨old,h0⟩,⟨f0,f1,h1,hzf⟩,h2,⟨u0,v0,h3⟩,h4,h5⟩:=st
  obtain⟨its1,rv1,p1,hz1⟩:=I.tuple hq1
  obtain⟨its2,rv2,p2,hz2⟩:=I.list hq2
  obtain⟨u,hu,ru⟩:=rv1.get hx
  obtain⟨v,hv,rv⟩:=rv2.get hy
  have hes:n+5 < s.heap.objs.size:=aJ h0
  have hh:X.A.in1.in1.handled=none:=by simp [I.ok.hd hc]
  have hlt1:i < its1.toArray.size:=by have:=(aA.mp hu).1; simpa using this
  have hlt2:i < its2.toArray.size:=by have:=(aA.mp hv).1; simpa using this
  refine zmM (Draws.tuple hh n a (nq (by lia)) its1.toArray) (ff hh (n+1) b (nq (by lia)) its2.toArray) (zcB ha hb) h0 (nq (by lia)) (nq (by lia)) (nq (by lia)) (nq (by lia)) (nq (by lia)) (nm2 (by lia) (by lia)) (nm2 (by lia) (by lia)) h1 hzf h2 h3 ⟨h4,(show s.heap.IsTuple a its1.toArray from p1)⟩ ⟨h5,p2.isList⟩ hlt1 hlt2
   fun x' y' h' tk g0 g1 a' b' px py eo ez ezf e2 e3 t4 t5 pp pe hsz kk=>?_
  have eu:x'=u:=by
   have e1:its1[i]? = some x':=by simpa using px
   rw [hu] at e1; exact (aP e1).symm
  have ev:y'=v:=by
   have e1:its2[i]? = some y':=by simpa using py
   rw [hv] at e1; exact (aP e1).symm
  subst eu ev
  have ch:∀ c∈[n+5,n+4,n+3,n,n+1],c∈zes n:=fun c hc'=>by
   simp only [zes,aB,aQ,or_false] at hc' ⊢
   rcases hc' with z | z | z | z | z <;> subst z <;> simp
  have k1:∀ c o,c∉[n+5,n+4,n+3,n,n+1]→s.heap.get? c=some o→h'.get? c=some o:=fun c o hc' eo=>by
   simp only [aB,aQ,or_false,not_or] at hc'
   exact kk c o hc'.1 hc'.2.1 hc'.2.2.1 hc'.2.2.2.1 hc'.2.2.2.2 eo
  have th1:∀ c∈[n+5,n+4,n+3,n,n+1],∃ o,h'.get? c=some o:=fun c hc'=>by
   simp only [aB,aQ,or_false] at hc'
   rcases hc' with z | z | z | z | z <;> subst z
   ·exact⟨_,eo⟩
   ·exact⟨_,ez⟩
   ·exact⟨_,e3⟩
   ·obtain⟨o,e,_⟩:=t4.1; exact⟨o,e⟩
   ·obtain⟨o,e,_⟩:=t5.1; exact⟨o,e⟩
  have I1:Inv X pins σ (upd H s.heap.objs.size (.tup [x,y])) { s with heap:=h',toks:=tk+1 } :=
   I.turnedNew k1 (fun c hc'=>hf c (ch c hc')) th1 (ag _) ⟨zaH,_,.cons ru (.cons rv .nil),zbE pp⟩
  have hn2:H (s.heap.objs.size+1)=none:=I.hok.fresh (gA _)
  have hn2':upd H s.heap.objs.size (.tup [x,y]) (s.heap.objs.size+1)=none:=by rw [zn (il _)]; exact hn2
  obtain⟨_,a1,a2,a3,a4,a5⟩:=I.fpOk (H':=H) (gA s.heap.objs.size) hn2
  have I1':Inv X pins σ (upd (upd H s.heap.objs.size (.tup [x,y])) (s.heap.objs.size+1) (.tup [.int i,.ref s.heap.objs.size])) { s with heap:=h',toks:=tk+1 } :=
   I1.track hn2' (aZ I.sz (gA _)) (dZ a1) a4 a5 ⟨zaH,_,.cons ⟨tk,rfl⟩ (.cons rfl .nil),zbE pe⟩
  refine⟨_,rfl,gN eo fun h'' he'' hs''=>?_⟩
  have fr:∀ c∈zes n,upd (upd H s.heap.objs.size (.tup [x,y])) (s.heap.objs.size+1) (.tup [.int i,.ref s.heap.objs.size]) c=none:=fun c hc'=>by
   have hlt:c < s.heap.objs.size:=by
    simp only [zes,aB,aQ,or_false] at hc'
    rcases hc' with z | z | z | z | z | z <;> subst z <;> exact nl (by lia)
   rw [zn (bu (eK hlt)),zn (bu hlt)]
   exact (hf c hc').1
  have I2:Inv X pins σ (upd (upd H s.heap.objs.size (.tup [x,y])) (s.heap.objs.size+1) (.tup [.int i,.ref s.heap.objs.size])) { s with heap:=h'',toks:=tk+1 } :=
   Inv.turnedL (s:={ s with heap:=h',toks:=tk+1 }) (ch:=[n+5]) (t':=tk+1) I1' (fun c o hc' eo=>hs''.extBut c o (by simpa using hc') eo) (fun c hc'=>by
    have z:c=n+5:=by simpa using hc'
    subst z
    exact⟨fr _ (by simp),(hf _ (by simp)).2⟩) (fun c hc'=>by
    have z:c=n+5:=by simpa using hc'
    subst z
    exact⟨_,he''⟩)
  have up:∀ c o,c≠n+5→h'.get? c=some o→h''.get? c=some o:=fun c o hc' e=>hs''.extBut c o hc' e
  exact⟨.ref (s.heap.objs.size+1),_,I2,rfl,⟨_,_,x,y,I.fresh,hn2,bu (kf _),rfl,rfl,fun zs hz=>by rw [I.tuple_inj hz hq1]; exact hx,fun zs hz=>by rw [I.list_inj hz hq2]; exact hy⟩,
   ⟨⟨_,by simpa using he''⟩,⟨g0,g1,up _ _ (nq (by lia)) ez,ezf⟩,up _ _ (nq (by lia)) e2,⟨_,_,up _ _ (nq (by lia)) e3⟩,t4.1.at fun o e=>up _ o (nq (by lia)) e,t5.1.at fun o e=>up _ o (nq (by lia)) e⟩,fr⟩
 done:=by
  intro X hP hw hK hc i pins s σ H E I hf st hg
  subst hP hw hK
  obtain⟨xs,ys,hq1,hq2,hx⟩:=hg
  obtain⟨⟨old,h0⟩,⟨f0,f1,h1,hzf⟩,h2,⟨u0,v0,h3⟩,h4,h5⟩:=st
  obtain⟨its1,rv1,p1,hz1⟩:=I.tuple hq1
  obtain⟨its2,rv2,p2,hz2⟩:=I.list hq2
  have hh:X.A.in1.in1.handled=none:=by simp [I.ok.hd hc]
  have hl1:=rv1.length
  refine zov (Draws.tuple hh n a (nq (by lia)) its1.toArray) (ff hh (n+1) b (nq (by lia)) its2.toArray) (zcB ha hb) h0 h1 hzf h2 h3 ⟨h4,(show s.heap.IsTuple a its1.toArray from p1)⟩ ⟨h5,p2.isList⟩ (.inl (by rw [ap]; lia)) fun h' tk kk=>⟨rfl,?_⟩
  have sub:∀ c∈[n+4,n+3,n,n+1],c∈zes n:=fun c hc'=>by
   simp only [zes,aB,aQ,or_false] at hc' ⊢
   rcases hc' with z | z | z | z <;> subst z <;> simp
  have k1:∀ c o,c∉[n+4,n+3,n,n+1]→s.heap.get? c=some o→h'.get? c=some o:=fun c o hc' e=>by
   simp only [aB,aQ,or_false,not_or] at hc'
   exact kk c o hc'.1 hc'.2.1 hc'.2.2.1 hc'.2.2.2 e
  have nit:∀ d u',H d=some u'→d∉[n+4,n+3,n,n+1]:=fun d u' e' hd=>by rw [(hf d (sub d hd)).1] at e'; cases e'
  refine I.step (g':=s.gens) (d':=s.drawn) (t':=tk) (ch:=[n+4,n+3,n,n+1]) (fun c hc'=>?_) (fun c o _ _ hcc e _=>k1 c o hcc e) (fun c o _ _ hcc e _=>⟨o.slots,k1 c o hcc e⟩) (fun _ _ _ _ n=>n)
   (fun c o hcc e=>⟨o,k1 c o hcc e⟩) (fun _ _ e=>e) (fun _ _ _ e=>e) (fun c ps e=>⟨#[],by rw [e]; simp⟩) (fun m hm=>?_) (fun c u e=>?_) I.bare
  ·obtain⟨_,a1,_,a3,a4,a5⟩:=hf c (sub c hc')
   exact⟨a3,a1,a4,a5⟩
  ·obtain⟨o,es',ep,ho,r⟩:=hm
   exact⟨o,es',ep,k1 _ o (fun z=>(hf _ (sub _ z)).2.1 rfl) ho,r⟩
  ·refine (I.hok c u e).stay (fun d v' hd q=>k1 d v' ?_ q) (fun _ q=>q) fun _ _ q=>q
   rcases hd with z | z
   ·rw [z]; exact nit c u e
   ·exact nit d _ z
 self:=fun _ _ _ _ _ st h=>by
  obtain⟨⟨old,he⟩,_⟩:=st
  exact fV he h
def iEZ (Sq1 Sq2:Hp→Addr→List V→Prop) (ta:TA):TI:=fun σ H R=>ta σ H fun vs H1=>∃ a b xs ys,vs = [.ref a,.ref b]∧Sq1 H1 a xs∧Sq2 H1 b ys∧R (zmN Sq1 Sq2 a b) H1
theorem zhZ {X:Cx} {es:List Expr} {k:Nat} {tpos p p2 pos pos2:Pos} {a b:Expr} {ta:TA} (hg:Gl X "enumerate") (hm:X.mg "enumerate" = none) (hg2:Gl X "zip") (hm2:X.mg "zip" = none) (ha:PA X [a,b] ta) (hs:starEach [a,b] X.env = [(false,eval a X.env),(false,eval b X.env)]:=by rfl) (hs2:starEach [b] X.env = [(false,eval b X.env)]:=by rfl)
  (hs3:starEach [.Call (.Name "zip" p2) [a,b] [] pos2] X.env = [(false,eval (.Call (.Name "zip" p2) [a,b] [] pos2) X.env)]:=by rfl) :
  PI X (.Tuple es k tpos) (.Call (.Name "enumerate" p) [.Call (.Name "zip" p2) [a,b] [] pos2] [] pos) (iEZ (SqT X.K) (SqL X.K) ta):=by
 intro pins s σ H R I h
 refine Call_ (zbp I hg hm boot_enumerate (bv ?_ hs3 rfl))
 rw [hs3]
 show wpAny _ _ (spliced ((false,eval (.Call (.Name "zip" p2) [a,b] [] pos2) X.env) :: [])) _ _ s
 refine eC ?_
 refine Call_ (zbp I hg2 hm2 kg (bv (thn (ha pos2 pins s σ H _ I h) fun us s1 ⟨vs,H1,I1,r1,q1⟩=>?_) (by rw [hs,hs2]) (by rw [hs2]; rfl)))
 obtain⟨l1,l2,xs,ys,e,hq1,hq2,q⟩:=q1
 subst e
 cases r1 with
 | cons r rr =>
  cases rr with
  | cons r' rr =>
   cases rr
   cases r
   cases r'
   obtain⟨its1,rv1,pl1,hz1⟩:=I1.tuple hq1
   obtain⟨its2,rv2,pl2,hz2⟩:=I1.list hq2
   have hlt1:l1 < s1.heap.objs.size:=by obtain⟨_,e,_⟩:=pl1; exact aJ e
   have hlt2:l2 < s1.heap.objs.size:=by obtain⟨_,_,e,_⟩:=pl2; exact aJ e
   refine zer (show s1.heap.IsTuple l1 its1.toArray from pl1) pl2.isList fun h' n hn b1 b2 b3 b4 b5 b6 kk=>?_
   refine fU ?_
   refine zhY b1 fun h2 he hsz kk2=>?_
   have I2:Inv X pins σ H1 { s1 with heap:=h2 }:=I1.kept (t':=s1.toks) fun c o e=>kk2 c o (kk c o e)
   refine fV he ?_; have e5:h'.objs.size=n+5:=b6
   have he':IsEnum h2 (n+5) (n+4) 0 .none:=by rw [← e5]; exact he
   refine⟨_,zes n,zow n l1 l2,zmN (SqT X.K) (SqL X.K) l1 l2,H1,rfl,I2,?_,⟨⟨_,he'⟩,⟨_,_,kk2 _ _ b1,.inl rfl,_,rfl⟩,kk2 _ _ b2,⟨_,_,kk2 _ _ b3⟩,b4.at fun o e=>kk2 _ o e,b5.at fun o e=>kk2 _ o e⟩,fun c hc=>?_,q⟩
   ·show Turn X.prog X.w X.K (.Tuple es k tpos) (zmN (SqT X.K) (SqL X.K) l1 l2) (zes n) h'.objs.size (zow n l1 l2)
    rw [e5]
    exact zmO l1 l2 n (by rw [hn]; exact hlt1) (by rw [hn]; exact hlt2)
   ·have hle:s1.heap.objs.size≤c:=by
     simp only [zes,aB,aQ,or_false] at hc
     rw [← hn]
     rcases hc with z | z | z | z | z | z <;> subst z
     all_goals first | exact fg _ _ | exact ag _
    exact I1.fpOk hle (I1.hok.fresh hle)
end L2
end
section
namespace L2
open PySem PySem.Spec PyProof.Rows
theorem zh0 {K:ai} {i j:Nat}:∀ (x:V) (σ:St) (H:Hp) (Q Q':St→Hp→Prop),(∀ σ' H',Q σ' H'→Q' σ' H')→zgF K 2 (zbV (zaQ i) (zbV (zaQ j) zhH)) x σ H Q→zgF K 2 (zbV (zaQ i) (zbV (zaQ j) zhH)) x σ H Q':=fun x σ H Q Q' hq ⟨a,xs,e1,h1,h2,v,r,e3,v2,r2,e4,e5,h⟩=>⟨a,xs,e1,h1,h2,v,r,e3,v2,r2,e4,e5,hq _ _ h⟩
end L2
end
section
namespace My
open PySem L2 PyProof.Rows
section
variable {K:ai}
def zp4 (H:Hp):V→Option (List V)
 | .ref a=>match H a with
  | some (.lst xs)=>some xs
  | _=>none
 | _=>none
def za5 (H:Hp) (c tt:Addr) (p k:Int) (pl:List Int):Prop:=H c=some (.tup [.int p,.int k,.ref tt])∧H tt=some (.tup (pl.map V.int))
theorem za5.same {H H':Hp} {c tt:Addr} {p k:Int} {pl:List Int} (s:zu H H') (h:za5 H c tt p k pl):za5 H' c tt p k pl:=⟨s _ _ h.1,s _ _ h.2⟩
def enc:Option Int→V
 | none=>.non
 | some i=>.int i
def zfy (p:Int) (pl:List Int) (rw:List (Option Int)) (poly:List Int) (j:Nat):Bool:=match pl[j]?,rw[j]? with
 | some x,some (some i)=>decide (i=zp p x poly)
 | _,_=>false
def zet (p:Int) (pl:List Int) (rw:List (Option Int)) (poly:List Int) (n:Nat):List Int:=((aH n).filter (zfy p pl rw poly)).map fun (j:Nat)=>(j:Int)
theorem zfz {p:Int} {pl:List Int} {rw:List (Option Int)} {poly:List Int} {n:Nat}:zet p pl rw poly (n+1)=zet p pl rw poly n++if zfy p pl rw poly n then [(n:Int)] else []:=by
 unfold zet
 rw [cg,eE,au]
 congr 1
 by_cases h:zfy p pl rw poly n=true
 ·rw [if_pos h]; simp [h]
 ·rw [if_neg h]; simp [h]
theorem zg2 (p:Int) (pl:List Int) (rw:List (Option Int)) (poly:List Int) (n:Nat):(zet p pl rw poly n).length≤n:=by
 unfold zet
 rw [ab]
 exact aZ (eS _ _) (by rw [aV]; exact ag _)
theorem ziE {rw:List (Option Int)} {j:Nat} {x:V} (h:(rw.map enc)[j]? = some x):∃ o,x=enc o∧rw[j]? = some o:=by
 rw [ah] at h
 cases e:rw[j]? with
 | none=>rw [e] at h; cases h
 | some c=>rw [e] at h; exact⟨c,(aP h).symm,rfl⟩
def hide (H:Hp) (a:Addr):Hp:=fun b=>if b=a then none else H b
theorem zkW (H:Hp) (a:Addr):zu (hide H a) H:=fun b o e=>by
 unfold hide at e
 split at e
 ·cases e
 ·exact e
theorem zdZ {H:Hp} {a b:Addr} {o:HO} (h:H b=some o) (hne:b≠a):hide H a b=some o:=by unfold hide; rw [if_neg hne]; exact h
end
end My
end
section
namespace My
open PySem L2 PyProof.Rows
section
variable {K:ai}
def zmP (K:ai):Sp:=fun vs H Q _=>∃ (c tt ra po:Addr) (p k:Int) (pl poly:List Int) (rw:List (Option Int)),vs = [.ref c,.ref ra,.ref po]∧za5 H c tt p k pl∧H ra=some (.lst (rw.map enc))∧rw.length=pl.length∧H po=some (.tup (poly.map V.int))∧0 < p∧p≤97∧(∀ x∈pl,0≤x∧x < p)∧pl.length≤100 ∧
 ∀ (l:Addr) (H':Hp),H l=none→zu H H'→H' l=some (.lst ((zet p pl rw poly pl.length).map V.int))→Q (.ref l) H'
theorem zkX (o:Option Int) (z:Int):zoe (enc o) (.int z)=true:=by cases o <;> rfl
theorem zkY {p:Int} {pl:List Int} {rw:List (Option Int)} {poly:List Int} {j:Nat} {x:Int} {o:Option Int} (hx:pl[j]? = some x) (ho:rw[j]? = some o):zfy p pl rw poly j=decide (enc o = .int (zp p x poly)):=by
 unfold zfy
 rw [hx,ho]
 cases o with
 | none=>rfl
 | some i=>simp [enc]
end
end My
end
section
namespace PySem
section
variable {prog:Program} {w:World} {A:Around} {E:Value→Shared→Prop} {s:Shared}
theorem ziF {z TI TO i1 i2:Addr} {fp1 fp2:List Addr} {n1 n2 k1 k2:Nat} {P1 P2:Nat→Value→Prop} {S1 S2:Nat→Heap→Prop} {f0 f1 a b:Value} {Q:Option Value→Shared→Prop} (D1:Draws prog w A.in1 i1 fp1 n1 P1 S1) (D2:Draws prog w A.in1 i2 fp2 n2 P2 S2) (Z:Zap z TI TO i1 i2 fp1 fp2)
  (hz:IsZ s.heap z TI TO f0 f1) (hf:ZF f0 f1) (hTI:IsPair s.heap TI (.ref i1) (.ref i2)) (hTO:IsPair s.heap TO a b) (st1:S1 k1 s.heap) (st2:S2 k2 s.heap) (l1:k1 < n1) (l2:k2 < n2)
  (hQ:∀ x y h' tk g0 g1 a' b',P1 k1 x→P2 k2 y→IsZ h' z TI TO g0 g1→ZF g0 g1→IsPair h' TI (.ref i1) (.ref i2)→IsPair h' TO a' b'→S1 (k1+1) h'→S2 (k2+1) h'→IsPair h' s.heap.objs.size x y→h'.objs.size=s.heap.objs.size+1 →
   (∀ c o,c≠z→c≠TO→c≠i1→c≠i2→s.heap.get? c=some o→h'.get? c=some o)→Q (some (.ref s.heap.objs.size)) { s with heap:=h',toks:=tk }):wpAny (model prog w) A (pyNext (.ref z)) Q E s:=by
 have hTz:s.TypeIs (.ref z) "zip":=⟨_,hz,rfl⟩
 unfold pyNext
 refine ae (cS (bo (name:=bS "__next__") hTz dj (bz dj hTz ga ?_ (fW _))))
 exact ziD D1 D2 Z hz hf hTI hTO st1 st2 l1 l2 fun x y h1 tk g0 g1 a' b' px py hz1 hf1 hTI1 hTO1 st1' st2' hp1 hsz1 kk=>am (hQ x y h1 tk g0 g1 a' b' px py hz1 hf1 hTI1 hTO1 st1' st2' hp1 hsz1 kk)
theorem zkZ {z TI TO i1 i2:Addr} {fp1 fp2:List Addr} {n1 n2 k1 k2:Nat} {P1 P2:Nat→Value→Prop} {S1 S2:Nat→Heap→Prop} {f0 f1 a b:Value} {Q:Option Value→Shared→Prop} (D1:Draws prog w A.in1 i1 fp1 n1 P1 S1) (D2:Draws prog w A.in1 i2 fp2 n2 P2 S2) (Z:Zap z TI TO i1 i2 fp1 fp2)
  (hz:IsZ s.heap z TI TO f0 f1) (hf:ZF f0 f1) (hTI:IsPair s.heap TI (.ref i1) (.ref i2)) (hTO:IsPair s.heap TO a b) (st1:S1 k1 s.heap) (st2:S2 k2 s.heap) (l1:k1=n1∨(k1 < n1∧k2=n2))
  (hQ:∀ h' tk,(∀ c o,c≠z→c≠TO→c≠i1→c≠i2→s.heap.get? c=some o→h'.get? c=some o)→Q none { s with heap:=h',toks:=tk }):wpAny (model prog w) A (pyNext (.ref z)) Q E s:=by
 have hTz:s.TypeIs (.ref z) "zip":=⟨_,hz,rfl⟩
 unfold pyNext
 refine ae (cS (bo (name:=bS "__next__") hTz dj (bz dj hTz ga ?_ (fW _))))
 refine zkV D1 D2 Z hz hf hTI hTO st1 st2 l1 fun h' tk x kk ⟨o,ho,hc⟩=>?_
 exact ae (fe (T:="StopIteration") (b:=true) ⟨o,ho,hc⟩ gr (am (hQ h' tk kk)))
theorem zf3 {z TI TO:Addr} {f0 f1:Value} {Q:Value→Shared→Prop} (hz:IsZ s.heap z TI TO f0 f1) (h:Q (.ref z) s):wpAny (model prog w) A (pyIter (.ref z)) Q E s:=by
 have hT:s.TypeIs (.ref z) "zip":=⟨_,hz,rfl⟩; refine g7 hT F.slot_zip_iter (bz F.slot_zip_iter hT F.entry_zip_iter ?_ (F.args_zip_iter_1 _))
 show wpAny _ _ (ret (.ref z)) _ _ s; exact am ⟨_,rfl,"zip",_,hT,F.slot_zip_next.lookup,h⟩
theorem zpr {elts:List Expr} {x1} {pos:Pos} {z TI TO T:Addr} {f0 f1:Value} {Q:Unit→Shared→Prop} (hz:IsZ s.heap z TI TO f0 f1) (hf:ZF f0 f1)
  (hQ:∀ h' g0,IsZ h' z TI TO g0 f1→ZF g0 f1→br z s.heap h'→Q () { s with heap:=h' }):wpAny (model prog w) A (letOwnedTupleGo (.Tuple elts x1 pos) (.ref z) (.ref T)) Q E s:=by
 unfold letOwnedTupleGo; refine ae (wpAny_load hz ?_)
 show wpAny _ _ (if _ then _ else _) Q E s
 split
 ·refine ae (cb ?_); show wpAny _ _ (setField (.ref z) 0 .none) Q E s
  exact bK hz (by simp) fun h' hz' hs'=>hQ h' .none hz' ⟨.inl rfl,hf.2⟩ hs'
 ·exact am (hQ s.heap f0 hz hf ⟨rfl,fun _ _=>rfl⟩)
end
end PySem
namespace L2
open PySem PySem.Spec PyProof.Rows
def zox (Sq1 Sq2:Hp→Addr→List V→Prop) (a b:Addr):It :=
 ⟨(zjD Sq1 Sq2 a b).go,(zjD Sq1 Sq2 a b).yld,fun i H=>∃ xs ys,Sq1 H a xs∧Sq2 H b ys∧(xs.length=i∨(i < xs.length∧ys.length=i))⟩
abbrev zbT (n:Nat):List Addr:=[n+4,n+2,n+3,n,n+1]
abbrev zps (n a b:Nat) (i:Nat) (h:Heap):Prop:=(∃ f0 f1,IsZ h (n+4) (n+2) (n+3) f0 f1∧ZF f0 f1)∧IsPair h (n+2) (.ref n) (.ref (n+1))∧(∃ u v,IsPair h (n+3) u v)∧h.IsTupleIter n a i∧h.IsListIter (n+1) b i
theorem zk0 {P:Program} {w:World} {K:ai} {es:List Expr} {k:Nat} {pos:Pos} (a b n:Nat) (ha:a < n) (hb:b < n):Turn P w K (.Tuple es k pos) (zox (SqT K) (SqL K) a b) (zbT n) (n+4) (zps n a b) where
 mem:=by simp
 obj:=fun i h st c hc=>by
  obtain⟨⟨f0,f1,h1,_⟩,h2,⟨u,v,h3⟩,⟨o4,e4,_,d4⟩,⟨o5,e5,_,d5⟩⟩:=st
  simp only [zbT,aB,aQ,or_false] at hc
  rcases hc with z | z | z | z | z <;> subst z
  ·exact⟨_,h1,fun v z=>by cases z⟩
  ·exact⟨_,h2,fun v z=>by cases z⟩
  ·exact⟨_,h3,fun v z=>by cases z⟩
  ·exact⟨_,e4,fun v z=>by rw [d4] at z; cases z⟩
  ·exact⟨_,e5,fun v z=>by rw [d5] at z; cases z⟩
 keep:=fun i h h' st kk=>by
  obtain⟨⟨f0,f1,h1,hf⟩,h2,⟨u,v,h3⟩,h4,h5⟩:=st
  exact⟨⟨f0,f1,kk _ (by simp) _ h1,hf⟩,kk _ (by simp) _ h2,⟨u,v,kk _ (by simp) _ h3⟩,h4.at fun o eo=>kk _ (by simp) o eo,h5.at fun o eo=>kk _ (by simp) o eo⟩
 item:=by
  intro X hP hw hK hc i pins s σ H E I hf st hg
  subst hP hw hK
  obtain⟨xs,ys,x,y,hq1,hq2,hx,hy⟩:=hg
  obtain⟨⟨f0,f1,h1,hzf⟩,h2,⟨u0,v0,h3⟩,h4,h5⟩:=st
  obtain⟨its1,rv1,p1,hz1⟩:=I.tuple hq1
  obtain⟨its2,rv2,p2,hz2⟩:=I.list hq2
  obtain⟨u,hu,ru⟩:=rv1.get hx
  obtain⟨v,hv,rv⟩:=rv2.get hy
  have hes:n+4 < s.heap.objs.size:=aJ h1
  have hh:X.A.in1.handled=none:=by simp [I.ok.hd hc]
  have hlt1:i < its1.toArray.size:=by have:=(aA.mp hu).1; simpa using this
  have hlt2:i < its2.toArray.size:=by have:=(aA.mp hv).1; simpa using this
  refine ziF (Draws.tuple hh n a (nq (by lia)) its1.toArray) (ff hh (n+1) b (nq (by lia)) its2.toArray) (zcB ha hb) h1 hzf h2 h3 ⟨h4,(show s.heap.IsTuple a its1.toArray from p1)⟩ ⟨h5,p2.isList⟩ hlt1 hlt2
   fun x' y' h' tk g0 g1 a' b' px py ez ezf e2 e3 t4 t5 pp hsz kk=>?_
  have eu:x'=u:=by
   have e1:its1[i]? = some x':=by simpa using px
   rw [hu] at e1; exact (aP e1).symm
  have ev:y'=v:=by
   have e1:its2[i]? = some y':=by simpa using py
   rw [hv] at e1; exact (aP e1).symm
  subst eu ev
  have ch:∀ c∈[n+4,n+3,n,n+1],c∈zbT n:=fun c hc'=>by
   simp only [zbT,aB,aQ,or_false] at hc' ⊢
   rcases hc' with z | z | z | z <;> subst z <;> simp
  have k1:∀ c o,c∉[n+4,n+3,n,n+1]→s.heap.get? c=some o→h'.get? c=some o:=fun c o hc' eo=>by
   simp only [aB,aQ,or_false,not_or] at hc'
   exact kk c o hc'.1 hc'.2.1 hc'.2.2.1 hc'.2.2.2 eo
  have th1:∀ c∈[n+4,n+3,n,n+1],∃ o,h'.get? c=some o:=fun c hc'=>by
   simp only [aB,aQ,or_false] at hc'
   rcases hc' with z | z | z | z <;> subst z
   ·exact⟨_,ez⟩
   ·exact⟨_,e3⟩
   ·obtain⟨o,e,_⟩:=t4.1; exact⟨o,e⟩
   ·obtain⟨o,e,_⟩:=t5.1; exact⟨o,e⟩
  have I1:Inv X pins σ (upd H s.heap.objs.size (.tup [x,y])) { s with heap:=h',toks:=tk } :=
   I.turnedNew k1 (fun c hc'=>hf c (ch c hc')) th1 (ag _) ⟨zaH,_,.cons ru (.cons rv .nil),zbE pp⟩
  refine⟨_,rfl,zpr (s:={ s with heap:=h',toks:=tk }) ez ezf fun h'' g2 hz'' hzf'' hs''=>?_⟩
  have fr:∀ c∈zbT n,upd H s.heap.objs.size (.tup [x,y]) c=none:=fun c hc'=>by
   have hlt:c < s.heap.objs.size:=by
    simp only [zbT,aB,aQ,or_false] at hc'
    rcases hc' with z | z | z | z | z <;> subst z <;> exact nl (by lia)
   rw [zn (bu hlt)]
   exact (hf c hc').1
  have I2:Inv X pins σ (upd H s.heap.objs.size (.tup [x,y])) { s with heap:=h'',toks:=tk } :=
   Inv.turnedL (s:={ s with heap:=h',toks:=tk }) (ch:=[n+4]) (t':=tk) I1 (fun c o hc' eo=>hs''.extBut c o (by simpa using hc') eo) (fun c hc'=>by
    have z:c=n+4:=by simpa using hc'
    subst z
    exact⟨fr _ (by simp),(hf _ (by simp)).2⟩) (fun c hc'=>by
    have z:c=n+4:=by simpa using hc'
    subst z
    exact⟨_,hz''⟩)
  have up:∀ c o,c≠n+4→h'.get? c=some o→h''.get? c=some o:=fun c o hc' e=>hs''.extBut c o hc' e
  exact⟨.ref s.heap.objs.size,_,I2,rfl,⟨_,x,y,I.fresh,rfl,rfl,fun zs hz=>by rw [I.tuple_inj hz hq1]; exact hx,fun zs hz=>by rw [I.list_inj hz hq2]; exact hy⟩,
   ⟨⟨g2,g1,hz'',hzf''⟩,up _ _ (nq (by lia)) e2,⟨_,_,up _ _ (nq (by lia)) e3⟩,t4.1.at fun o e=>up _ o (nq (by lia)) e,t5.1.at fun o e=>up _ o (nq (by lia)) e⟩,fr⟩
 done:=by
  intro X hP hw hK hc i pins s σ H E I hf st hg
  subst hP hw hK
  obtain⟨xs,ys,hq1,hq2,hx⟩:=hg
  obtain⟨⟨f0,f1,h1,hzf⟩,h2,⟨u0,v0,h3⟩,h4,h5⟩:=st
  obtain⟨its1,rv1,p1,hz1⟩:=I.tuple hq1
  obtain⟨its2,rv2,p2,hz2⟩:=I.list hq2
  have hh:X.A.in1.handled=none:=by simp [I.ok.hd hc]
  have hl1:=rv1.length
  have hl2:=rv2.length
  refine zkZ (Draws.tuple hh n a (nq (by lia)) its1.toArray) (ff hh (n+1) b (nq (by lia)) its2.toArray) (zcB ha hb) h1 hzf h2 h3 ⟨h4,(show s.heap.IsTuple a its1.toArray from p1)⟩ ⟨h5,p2.isList⟩ (by rw [ap,ap]; lia) fun h' tk kk=>⟨rfl,?_⟩
  have sub:∀ c∈[n+4,n+3,n,n+1],c∈zbT n:=fun c hc'=>by
   simp only [zbT,aB,aQ,or_false] at hc' ⊢
   rcases hc' with z | z | z | z <;> subst z <;> simp
  have k1:∀ c o,c∉[n+4,n+3,n,n+1]→s.heap.get? c=some o→h'.get? c=some o:=fun c o hc' e=>by
   simp only [aB,aQ,or_false,not_or] at hc'
   exact kk c o hc'.1 hc'.2.1 hc'.2.2.1 hc'.2.2.2 e
  have nit:∀ d u',H d=some u'→d∉[n+4,n+3,n,n+1]:=fun d u' e' hd=>by rw [(hf d (sub d hd)).1] at e'; cases e'
  refine I.step (g':=s.gens) (d':=s.drawn) (t':=tk) (ch:=[n+4,n+3,n,n+1]) (fun c hc'=>?_) (fun c o _ _ hcc e _=>k1 c o hcc e) (fun c o _ _ hcc e _=>⟨o.slots,k1 c o hcc e⟩) (fun _ _ _ _ n=>n)
   (fun c o hcc e=>⟨o,k1 c o hcc e⟩) (fun _ _ e=>e) (fun _ _ _ e=>e) (fun c ps e=>⟨#[],by rw [e]; simp⟩) (fun m hm=>?_) (fun c u e=>?_) I.bare
  ·obtain⟨_,a1,_,a3,a4,a5⟩:=hf c (sub c hc')
   exact⟨a3,a1,a4,a5⟩
  ·obtain⟨o,es',ep,ho,r⟩:=hm
   exact⟨o,es',ep,k1 _ o (fun z=>(hf _ (sub _ z)).2.1 rfl) ho,r⟩
  ·refine (I.hok c u e).stay (fun d v' hd q=>k1 d v' ?_ q) (fun _ q=>q) fun _ _ q=>q
   rcases hd with z | z
   ·rw [z]; exact nit c u e
   ·exact nit d _ z
 self:=fun _ _ _ _ _ st h=>by
  obtain⟨⟨f0,f1,hz,_⟩,_⟩:=st
  exact zf3 hz h
def iZq (Sq1 Sq2:Hp→Addr→List V→Prop) (ta:TA):TI:=fun σ H R=>ta σ H fun vs H1=>∃ a b xs ys,vs = [.ref a,.ref b]∧Sq1 H1 a xs∧Sq2 H1 b ys∧R (zox Sq1 Sq2 a b) H1
theorem zk1 {X:Cx} {es:List Expr} {k:Nat} {tpos p pos:Pos} {a b:Expr} {ta:TA} (hg:Gl X "zip") (hm:X.mg "zip" = none) (ha:PA X [a,b] ta) (hs:starEach [a,b] X.env = [(false,eval a X.env),(false,eval b X.env)]:=by rfl) (hs2:starEach [b] X.env = [(false,eval b X.env)]:=by rfl) :
  PI X (.Tuple es k tpos) (.Call (.Name "zip" p) [a,b] [] pos) (iZq (SqT X.K) (SqL X.K) ta):=by
 intro pins s σ H R I h
 refine Call_ (zbp I hg hm kg (bv (thn (ha pos pins s σ H _ I h) fun us s1 ⟨vs,H1,I1,r1,q1⟩=>?_) (by rw [hs,hs2]) (by rw [hs2]; rfl)))
 obtain⟨l1,l2,xs,ys,e,hq1,hq2,q⟩:=q1
 subst e
 cases r1 with
 | cons r rr =>
  cases rr with
  | cons r' rr =>
   cases rr
   cases r
   cases r'
   obtain⟨its1,rv1,pl1,hz1⟩:=I1.tuple hq1
   obtain⟨its2,rv2,pl2,hz2⟩:=I1.list hq2
   have hlt1:l1 < s1.heap.objs.size:=by obtain⟨_,e,_⟩:=pl1; exact aJ e
   have hlt2:l2 < s1.heap.objs.size:=by obtain⟨_,_,e,_⟩:=pl2; exact aJ e
   refine zer (show s1.heap.IsTuple l1 its1.toArray from pl1) pl2.isList fun h' n hn b1 b2 b3 b4 b5 b6 kk=>?_
   have I2:Inv X pins σ H1 { s1 with heap:=h' }:=I1.kept (t':=s1.toks) kk
   refine zf3 b1 ?_
   refine⟨_,zbT n,zps n l1 l2,zox (SqT X.K) (SqL X.K) l1 l2,H1,rfl,I2,zk0 l1 l2 n (by rw [hn]; exact hlt1) (by rw [hn]; exact hlt2),⟨⟨_,_,b1,.inl rfl,_,rfl⟩,b2,⟨_,_,b3⟩,b4,b5⟩,fun c hc=>?_,q⟩
   have hle:s1.heap.objs.size≤c:=by
    simp only [zbT,aB,aQ,or_false] at hc
    rw [← hn]
    rcases hc with z | z | z | z | z <;> subst z
    all_goals first | exact fg _ _ | exact ag _
   exact I1.fpOk hle (I1.hok.fresh hle)
end L2
end
section
namespace L2
open PySem PySem.Spec PyProof.Rows
end L2
end
section
namespace L2
open PySem PySem.Spec PyProof.Rows
end L2
end
section
namespace L2
open PySem PySem.Spec PyProof.Rows
end L2
end
section
namespace L2
open PySem PySem.Spec PyProof.Rows
end L2
end
section
namespace L2
open PySem PySem.Spec PyProof.Rows
section
variable {P:Program} {w:World} {outer:List Env} {H H':Hp} {h h' B:Heap} {e C:Addr}
theorem zoy {o:HO} {a:Addr} (x:zas P w H h a o):∃ ob,h.get? a=some ob:=by
 cases o with
 | lst xs=>obtain⟨_,_,_,_,e⟩:=x; exact⟨_,e⟩
 | tup xs=>obtain⟨_,_,_,o,e,_⟩:=x; exact⟨_,e⟩
 | dK kvs=>obtain⟨_,_,_,_,o,_,_,e,_⟩:=x; exact⟨_,e⟩
 | dT kvs=>obtain⟨_,_,_,_,o,_,_,e,_⟩:=x; exact⟨_,e⟩
 | set S n=>obtain⟨o,_,_,_,e,_⟩:=x; exact⟨_,e⟩
 | ins C dx fs=>obtain⟨_,_,_,e,_⟩:=x; exact⟨_,e⟩
 | own y=>obtain⟨_,e⟩:=x; exact⟨_,e⟩
 | xd fs=>obtain⟨_,⟨_,_,_,e,_⟩,_⟩:=x; exact⟨_,e⟩
 | rng lo hi=>obtain⟨_,_,_,e⟩:=x; exact⟨_,e⟩
 | frz ob u=>obtain⟨e,_⟩:=x; exact⟨_,e⟩
 | tbl ps=>exact⟨_,(show h.get? a=some _ from x)⟩
 | met f y=>exact⟨_,(show h.get? a=some _ from x)⟩
 | ext φ=>obtain⟨_,⟨_,e⟩,_⟩:=x; exact⟨_,e⟩
end
end L2
end
section
namespace L2
open PySem PySem.Spec PyProof.Rows
end L2
end
section
namespace L2
open PySem PySem.Spec PyProof.Rows
end L2
end
section
namespace L2
open PySem PySem.Spec PyProof.Rows
end L2
end
section
namespace L2
open PySem PySem.Spec PyProof.Rows
end L2
end
section
namespace L2
open PySem PySem.Spec PyProof.Rows
section
variable {κ:Type} [DecidableEq κ]
def zcV (kvs:List (κ×V)) (k:κ):Option V:=(kvs.find? fun kv=>decide (kv.1=k)).map (·.2)
def putK (kvs:List (κ×V)) (k:κ) (v:V):List (κ×V) :=
 if (kvs.any fun kv=>decide (kv.1=k))=true then kvs.map (fun kv=>if kv.1=k then (kv.1,v) else kv) else kvs++[(k,v)]
theorem zeu {p:κ×V} {r:List (κ×V)} {k:κ} (e:p.1=k):zcV (p :: r) k=some p.2:=by simp [zcV,eF,e]
theorem zew {p:κ×V} {r:List (κ×V)} {k:κ} (e:¬ p.1=k):zcV (p :: r) k=zcV r k:=by simp [zcV,eF,e]
theorem zex (k:κ):∀ kvs:List (κ×V),(kvs.any fun kv=>decide (kv.1=k))=(zcV kvs k).isSome
 | []=>rfl
 | p :: r=>by
  rw [jr]
  by_cases e:p.1=k
  ·simp only [zeu e,decide_eq_true e,Bool.true_or,jN]
  ·rw [zew e,decide_eq_false e,Bool.false_or]; exact zex k r
theorem zcs (kvs:List (κ×V)) (k:κ) (v:V):(putK kvs k v).length≤kvs.length+1:=by
 unfold putK
 split
 ·rw [ab]; lia
 ·rw [ao,bW,iJ]; lia
theorem zk2 {kvs:List (κ×V)} {k:κ} (v:V) (h:zcV kvs k=none):putK kvs k v=kvs++[(k,v)]:=by
 unfold putK
 rw [zex,h]
 exact if_neg (by decide)
theorem zgD.isSome_eq {o:Option V} {u:Option Value} (r:zgD o u):o.isSome=u.isSome:=by
 cases o with
 | none=>cases u with
  | none=>rfl
  | some _=>exact (show False from r).elim
 | some _=>cases u with
  | none=>exact (show False from r).elim
  | some _=>rfl
theorem zgD.getD {o:Option V} {u:Option Value} {d:V} {d':Value} (r:zgD o u) (rd:RelV d d'):RelV (o.getD d) (u.getD d'):=by
 cases o with
 | none=>cases u with
  | none=>exact rd
  | some _=>exact (show False from r).elim
 | some _=>cases u with
  | none=>exact (show False from r).elim
  | some _=>exact r
theorem KV.val {kvs:List (κ×V)} {vs:List (κ×Value)} (r:KV kvs vs) (k:κ):zgD (zcV kvs k) (valueAt vs k):=by
 unfold KV at r
 induction r with
 | nil=>exact ie
 | @cons p q ps qs h t ih =>
  obtain⟨h1,h2⟩:=h
  by_cases e:p.1=k
  ·have e':q.1=k:=h1.symm.trans e
   have b:valueAt (q :: qs) k=some q.2:=by simp [valueAt,eF,e']
   rw [zeu e,b]; exact h2
  ·have e':¬ q.1=k:=fun z=>e (h1.trans z)
   have b:valueAt (q :: qs) k=valueAt qs k:=by simp [valueAt,eF,e']
   rw [zew e,b]; exact ih
theorem KV.any {kvs:List (κ×V)} {vs:List (κ×Value)} (r:KV kvs vs) (k:κ):(kvs.any fun kv=>decide (kv.1=k))=vs.any fun kv=>decide (kv.1=k):=by
 unfold KV at r
 induction r with
 | nil=>rfl
 | cons h t ih=>rw [jr,jr,ih,h.1]
theorem KV.repl {kvs:List (κ×V)} {vs:List (κ×Value)} (r:KV kvs vs) (k:κ) {y:V} {u:Value} (ry:RelV y u) :
  KV (kvs.map fun kv=>if kv.1=k then (kv.1,y) else kv) (vs.map fun kv=>if kv.1=k then (kv.1,u) else kv):=by
 unfold KV at r ⊢
 induction r with
 | nil=>exact .nil
 | @cons p q ps qs h t ih =>
  rw [aS,aS]
  refine .cons ?_ ih
  obtain⟨h1,h2⟩:=h
  by_cases e:p.1=k
  ·rw [if_pos e,if_pos (h1.symm.trans e)]; exact⟨h1,ry⟩
  ·rw [if_neg e,if_neg (fun z=>e (h1.trans z))]; exact⟨h1,h2⟩
theorem KV.put {kvs:List (κ×V)} {vs:List (κ×Value)} (r:KV kvs vs) (k:κ) {y:V} {u:Value} (ry:RelV y u):KV (putK kvs k y) (stored vs k u):=by
 unfold putK stored
 rw [r.any k]
 by_cases e:(vs.any fun kv=>decide (kv.1=k))=true
 ·rw [if_pos e,if_pos e]; exact r.repl k ry
 ·rw [if_neg e,if_neg e]; exact bR r ⟨rfl,ry⟩
theorem KV.length {kvs:List (κ×V)} {vs:List (κ×Value)} (r:KV kvs vs):kvs.length=vs.length:=bg r
end
theorem zk3 {P:Program} {w:World} {k:Key} {u:Value} (r:RelV (kV k) u):(zao P w).is k u=true:=by
 cases k with
 | inl i=>obtain⟨t,e⟩:=(show ∃ t,u=fB i t from r); subst e; exact zgB P w i t
 | inr x=>obtain⟨t,e⟩:=(show ∃ t,u=kM x t from r); subst e; exact zgC P w x t
theorem zfA {P:Program} {w:World}:∀ {ks:List Key} {us:List Value},zJ (ks.map kV) us→ItemsAre (zao P w) ks us
 | [],_,r=>by rw [fH] at r; cases r; exact .nil
 | k :: ks,_,r=>by
  rw [aS] at r
  cases r with
  | cons h t=>exact .cons (zk3 h) (zfA t)
abbrev KT (H:Hp):List (List Key×V)→List (List Key×Addr×Value)→Prop:=Paired fun p q=>p.1=q.1∧H q.2.1=some (.tup (p.1.map kV))∧RelV p.2 q.2.2
theorem KT.val {H:Hp} {kvs:List (List Key×V)} {xs:List (List Key×Addr×Value)} (r:KT H kvs xs) (k:List Key):zgD (zcV kvs k) ((atKey xs k).map (·.2)):=by
 induction r with
 | nil=>exact ie
 | @cons p q ps qs h t ih =>
  obtain⟨h1,_,h2⟩:=h
  by_cases e:p.1=k
  ·have e':q.1=k:=h1.symm.trans e
   have b:atKey (q :: qs) k=some q.2:=by simp [atKey,eF,e']
   rw [zeu e,b]; exact h2
  ·have e':¬ q.1=k:=fun z=>e (h1.trans z)
   have b:atKey (q :: qs) k=atKey qs k:=by simp [atKey,eF,e']
   rw [zew e,b]; exact ih
theorem KT.repl {H:Hp} {kvs:List (List Key×V)} {xs:List (List Key×Addr×Value)} (r:KT H kvs xs) (k:List Key) {y:V} {u:Value} (ry:RelV y u) :
  KT H (kvs.map fun kv=>if kv.1=k then (kv.1,y) else kv) (xs.map (putAt k u)):=by
 induction r with
 | nil=>exact .nil
 | @cons p q ps qs h t ih =>
  rw [aS,aS]
  refine .cons ?_ ih
  obtain⟨h1,h2,h3⟩:=h
  unfold putAt
  by_cases e:p.1=k
  ·rw [if_pos e,if_pos (h1.symm.trans e)]; exact⟨h1,h2,ry⟩
  ·rw [if_neg e,if_neg (fun z=>e (h1.trans z))]; exact⟨h1,h2,h3⟩
theorem KT.put {H:Hp} {kvs:List (List Key×V)} {xs:List (List Key×Addr×Value)} (r:KT H kvs xs) (k:List Key) {b:Addr} {y:V} {u:Value} (hb:H b=some (.tup (k.map kV))) (ry:RelV y u) :
  KT H (putK kvs k y) (storedH xs k b u):=by
 have e:(kvs.any fun kv=>decide (kv.1=k))=(atKey xs k).isSome:=by
  rw [zex,(r.val k).isSome_eq,Option.isSome_map]
 unfold putK storedH
 rw [e]
 by_cases q:(atKey xs k).isSome=true
 ·rw [if_pos q,if_pos q]; exact r.repl k ry
 ·rw [if_neg q,if_neg q]; exact bR r ⟨rfl,hb,ry⟩
theorem KT.keeps {H H':Hp} {kvs:List (List Key×V)} {xs:List (List Key×Addr×Value)} (r:KT H kvs xs) (ht:∀ b ys,H b=some (.tup ys)→H' b=some (.tup ys)):KT H' kvs xs :=
 Paired.mapP r fun _ _ z=>⟨z.1,ht _ _ z.2.1,z.2.2⟩
section
variable {P:Program} {w:World} {H:Hp} {h:Heap} {a:Addr}
theorem znR {u:HO} (ok:HOk P w H h) (e:Rd H a u):zas P w H h a u:=e.ok ok
theorem zk4 {kvs:List (Key×V)} (ok:HOk P w H h) (e:Rd H a (.dK kvs)):kvs.length≤sizeLine∧(a == sysModules)=false∧∃ vs,KV kvs vs∧h.DictOf (zao P w) a vs :=
 show zas P w H h a (.dK kvs) from znR ok e
theorem zpt {kvs:List (Key×V)} (ok:HOk P w H h) (e:H a=some (.dK kvs)):kvs.length≤sizeLine∧(a == sysModules)=false∧∃ vs,KV kvs vs∧h.DictOf (zao P w) a vs:=zk4 ok (.inl e)
theorem zf4 {ks:List Key} (ok:HOk P w H h) (e:H a=some (.tup (ks.map kV))):(tupleKind (zao P w)).is h ks a:=by
 obtain⟨_,its,r,o,h1,h2,n,h3⟩:=(show zas P w H h a (.tup (ks.map kV)) from ok a _ e)
 exact⟨o,its.toArray,n,h1,h2,h3,by simpa using zfA r⟩
theorem zk5 {kvs:List (List Key×V)} (ok:HOk P w H h) (e:Rd H a (.dT kvs)):kvs.length≤sizeLine∧(a == sysModules)=false ∧
  ∃ xs,KT H kvs xs∧h.DictOfH (tupleKind (zao P w)) a xs:=by
 obtain⟨z,y,xs,r,o,es,ep,h1,h2,h3,h4,h5⟩:=(show zas P w H h a (.dT kvs) from znR ok e)
 refine⟨z,y,xs,r,o,es,ep,h1,h2,h3,h4,fun x hx=>?_,h5⟩
 have all:∀ {l:List (List Key×V)} {m:List (List Key×Addr×Value)},KT H l m→∀ x∈m,(tupleKind (zao P w)).is h x.1 x.2.1:=by
  intro l m q
  induction q with
  | nil=>intro x hx; exact nomatch hx
  | @cons p q ps qs hq t ih =>
   intro x hx
   rcases aB.mp hx with e | hx
   ·subst e
    exact zf4 ok (by rw [← hq.1]; exact hq.2.1)
   ·exact ih x hx
 exact all r x hx
theorem znS {kvs:List (List Key×V)} (ok:HOk P w H h) (e:H a=some (.dT kvs)):kvs.length≤sizeLine∧(a == sysModules)=false ∧
  ∃ xs,KT H kvs xs∧h.DictOfH (tupleKind (zao P w)) a xs:=zk5 ok (.inl e)
end
def zpu (H:Hp) (a:Addr) (y:V) (r:Option V):Prop :=
 (∃ kvs k,Rd H a (.dK kvs)∧y=kV k∧r=zcV kvs k)∨∃ kvs k b,Rd H a (.dT kvs)∧y = .ref b∧H b=some (.tup (k.map kV))∧r=zcV kvs k
def zk6 (H:Hp) (a:Addr) (y v:V) (H':Hp):Prop :=
 (∃ kvs k,H a=some (.dK kvs)∧y=kV k∧kvs.length < sizeLine∧H'=upd H a (.dK (putK kvs k v))) ∨
 ∃ kvs k b,H a=some (.dT kvs)∧y = .ref b∧H b=some (.tup (k.map kV))∧kvs.length < sizeLine∧H'=upd H a (.dT (putK kvs k v))
theorem zk6.t {H:Hp} {a b:Addr} {kvs:List (List Key×V)} {k:List Key} {v:V} (e:H a=some (.dT kvs)) (eb:H b=some (.tup (k.map kV))) (hl:kvs.length < sizeLine) :
  zk6 H a (.ref b) v (upd H a (.dT (putK kvs k v))):=.inr ⟨kvs,k,b,e,rfl,eb,hl,rfl⟩
section
variable {X:Cx} {pins:List (Addr×Obj)} {σ:St} {H:Hp} {s:Shared} {a:Addr} {y v:V} {u r:Value} {o:Option V} {A:Around} {E:Value→Shared→Prop}
theorem Inv.big (I:Inv X pins σ H s):sysModules < s.heap.objs.size:=by
 have h:mainGlobals < s.heap.objs.size:=(I.mod.glob.keeps I.bk).lt
 exact Nat.lt_trans (by decide) h
theorem zf5 {h':Heap} {t':Nat} {ob:HO} (I:Inv X pins σ H s) (mu:Mut (H a)) (hs:br a s.heap h') (he:∃ q,h'.get? a=some q) (new:zas X.prog X.w (upd H a ob) h' a ob) :
  Inv X pins σ (upd H a ob) { s with heap:=h',toks:=t' } :=
 I.write (x:=a) (e:=a) mu (.inl rfl) (fun b q hb z=>(hs.2 b hb).trans z) he new
theorem zoz {P:Program} {w:World} {H':Hp} {h':Heap} {kvs:List (Key×V)} {vs:List (Key×Value)} (z:kvs.length≤sizeLine) (hd:(a == sysModules)=false) (rel:KV kvs vs) (dd:h'.DictOf (zao P w) a vs) :
  zas P w H' h' a (.dK kvs):=⟨z,hd,vs,rel,dd⟩
theorem zjP {H':Hp} {Q:Unit→Shared→Prop} (hu:A.units+1 < cLine) (I:Inv X pins σ H s) (g:zk6 H a y v H') (ry:RelV y u) (rv:RelV v r) (h:∀ s',Inv X pins σ H' s'→Q () s') :
  wpAny (model X.prog X.w) A (setItem (.ref a) u r) Q E s:=by
 rcases g with ⟨kvs,k,e,ey,l,eH⟩ | ⟨kvs,k,b,e,ey,eb,l,eH⟩
 ·subst ey eH
  obtain⟨z,hd,vs,rel,dd⟩:=zpt I.hok e
  have hz:vs.length≤sizeLine:=by rw [← rel.length]; exact z
  have hl:(putK kvs k v).length≤sizeLine:=by have:=zcs kvs k v; lia
  refine wpAny_setItem_pairs (hsz:=hz) (zk3 ry) dd fun h' dd' hs=>h _ ?_
  have he:∃ q,h'.get? a=some q:=let ⟨q,_,_,hq,_⟩:=dd'; ⟨q,hq⟩
  exact zf5 I (by rw [e]; exact ie) hs he (zoz hl hd (rel.put k rv) dd')
 ·subst ey eH
  cases (show u=ba b from ry)
  obtain⟨z,hd,xs,rel,dd⟩:=znS I.hok e
  have hz:xs.length≤sizeLine:=by rw [← bg rel]; exact z
  have hl:(putK kvs k v).length≤sizeLine:=by have:=zcs kvs k v; lia
  refine wpAny_setItem_heap (hsz:=hz) (gG hu) (zf4 I.hok eb) dd fun h' dd' hs=>h _ ?_
  obtain⟨q,es,ep,hq,h2,h3,h4,_,h5⟩:=dd'
  refine zf5 I (by rw [e]; exact ie) hs ⟨q,hq⟩ ⟨hl,hd,_,(rel.put k eb rv).keeps fun c ys ec=>?_,q,es,ep,hq,h2,h3,h4,h5⟩
  rw [zn (znJ ec e (fun z=>nomatch z))]
  exact ec
end
def zpv (td ty tv:TE):TS:=fun D σ H=>tv σ H fun v H1=>td σ H1 fun x H2=>ty σ H2 fun y H3=>∃ a H4,x = .ref a∧zk6 H3 a y v H4∧D.nx σ H4
section
variable {X:Cx} {o i e value:Expr} {pos pos' tpos:Pos} {td ty tv:TE}
theorem zmQ (hu:X.A.units+1 < cLine) (ho:PE X o td) (hi:PE X i ty) (hv:PE X value tv) (hs:swapsWith value (some (.Subscript o i pos')) pos.line X.env=pure false) :
  PS X (.Assign [.Subscript o i pos'] value pos) (zpv td ty tv):=by
 intro pins s σ H D I h
 refine wpAny_Assign_Subscript (thn (hv pins s σ H _ I h) fun r s1 ⟨v,H1,I1,rv,q1⟩=>thn (ho pins s1 σ H1 _ I1 q1) fun u s2 ⟨x,H2,I2,rx,q2⟩=>thn (hi pins s2 σ H2 _ I2 q2) fun iv s3 ⟨y,H3,I3,ry,a,H4,ex,g,q3⟩=>?_) hs
 subst ex
 obtain rfl:u=ba a:=rx
 exact zjP hu I3 g ry rv fun s4 I4=>⟨σ,H4,I4,q3⟩
end
theorem zg3 {P:Program} {w:World} {H:Hp} (h:Heap) (hb:sysModules < h.objs.size):zas P w H (h.push { cls:=.type "dict",data:=.dict #[] }) h.objs.size (.dT []) :=
 ⟨bi _,beq_eq_false_iff_ne.mpr (dZ (bu hb)),[],.nil,_,#[],0,aL _ rfl,⟨rfl,rfl,rfl⟩,rfl,rfl,List.nodup_nil⟩
def zoA:TE:=fun _ H Q=>∀ p,H p=none→Q (.ref p) (upd H p (.dT []))
section
variable {X:Cx} {pos:Pos}
theorem zk7:PE X (.Dict [] [] pos) zoA:=fun pins s σ H Q I h =>
 wpAny_Dict_empty ⟨.ref s.heap.objs.size,_,I.laid (a:=s.heap.objs.size) (o:=.dT []) (t':=s.toks) (fun _ _ q=>ak _ q) (ag _) (zg3 s.heap I.big),rfl,h _ (I.hok.fresh (ag _))⟩
end
structure M2 (X:Cx) (o:Expr) (m:Str) (apos:Pos) (e f:Expr) (cpos:Pos):Prop where
 base:attributeBase o m X.env (eval o X.env)=eval o X.env
 few:((backTo cpos (starEach [e,f] X.env)).all (fun x=>!x.1) && (backToKw cpos (keywordEach [] X.env)).all (fun x=>x.1.isSome)
  && decide (([e,f]:List Expr).length+([]:List Keyword).length+(if ([]:List Keyword).isEmpty then 0 else 1) < 30))=true
 line:(apos.endLine == cpos.line)=true
 trees:backTo cpos (starEach [e,f] X.env) = [(false,eval e X.env),(false,eval f X.env)]
def IsD (H:Hp) (a:Addr):Prop:=(∃ kvs,Rd H a (.dK kvs))∨∃ kvs,Rd H a (.dT kvs)
theorem zoB {X:Cx} {pins:List (Addr×Obj)} {σ:St} {H:Hp} {s:Shared} {a:Addr} (I:Inv X pins σ H s) (d:IsD H a) :
  s.TypeIs (.ref a) "dict"∧(∀ b,ba a = .ref b→∃ ob,s.heap.get? b=some ob∧ob.dict=none)∧(a == sysModules)=false:=by
 rcases d with ⟨kvs,e⟩ | ⟨kvs,e⟩
 ·obtain⟨_,hd,vs,_,dd⟩:=zk4 I.hok e
  refine⟨dd.typeIs,fun b q=>?_,hd⟩
  cases q
  obtain⟨ob,_,_,h1,h2,_⟩:=dd
  exact⟨ob,h1,h2.2.1⟩
 ·obtain⟨_,hd,xs,_,dd⟩:=zk5 I.hok e
  refine⟨dd.typeIs,fun b q=>?_,hd⟩
  cases q
  obtain⟨ob,_,_,h1,h2,_⟩:=dd
  exact⟨ob,h1,h2.2.1⟩
section
variable {X:Cx} {pins:List (Addr×Obj)} {σ:St} {H:Hp} {s:Shared} {a:Addr} {y d:V} {u r:Value} {o:Option V} {A:Around} {E:Value→Shared→Prop}
theorem zoC {Q:Value→Shared→Prop} (hu:A.units+1 < cLine) (I:Inv X pins σ H s) (g:zpu H a y o) (ry:RelV y u) (rd:RelV d r) (h:∀ w' s',Inv X pins σ H s'→RelV (o.getD d) w'→Q w' s') :
  wpAny (model X.prog X.w) A (call (.builtin "dict.get") [.ref a,u,r]) Q E s:=by
 rcases g with ⟨kvs,k,e,ey,l⟩ | ⟨kvs,k,b,e,ey,eb,l⟩
 ·subst ey
  obtain⟨z,hd,vs,rel,dd⟩:=zk4 I.hok e
  refine call_meetsIn gd dd.typeIs iW (iB _ _ _) (meets_dict_get_default (zao X.prog X.w) a (zk3 ry) hd r) ⟨_,dd.mapOf,h _ _ (I.tok _) ?_⟩
  rw [l]
  exact (rel.val k).getD rd
 ·subst ey
  cases (show u=ba b from ry)
  obtain⟨z,hd,xs,rel,dd⟩:=zk5 I.hok e
  refine call_meetsIn gd dd.typeIs iW (iB _ _ _) (meetsH_dict_get_default (tupleKind (zao X.prog X.w)) a b hd r) ⟨gG hu,k,xs,zf4 I.hok eb,dd,h _ _ (I.tok _) ?_⟩
  rw [l]
  exact (rel.val k).getD rd
end
def zoD (td ty tx:TE):TE:=fun σ H Q=>td σ H fun x H1=>∃ a,x = .ref a∧IsD H1 a∧ty σ H1 fun y H2=>tx σ H2 fun z H3=>∃ o,zpu H3 a y o∧Q (o.getD z) H3
section
variable {X:Cx} {o e f:Expr} {apos cpos:Pos} {td ty tx:TE}
theorem zk8 (hu:X.A.units+1 < cLine) (ho:PE X o td) (he:PE X e ty) (hf:PE X f tx) (m:M2 X o "get" apos e f cpos):PE X (.Call (.Attribute o "get" apos) [e,f] [] cpos) (zoD td ty tx):=by
 intro pins s σ H Q I h
 refine wpAny_Call_method m.base m.few m.line PySem.F.plainAttrs_dict gd PySem.F.type_dict_get (thn (ho pins s σ H _ I h) fun u s1 ⟨x,H1,I1,rx,a,ex,d,q1⟩=>?_)
 subst ex
 obtain rfl:u=ba a:=rx
 obtain⟨t1,t2,_⟩:=zoB I1 d
 refine⟨t1,t2,?_⟩
 rw [m.trees]
 refine iR rfl (jf (eC (thn (he pins s1 σ H1 _ I1 q1) fun iv s2 ⟨y,H2,I2,ry,q2⟩ =>
  eC (thn (hf pins s2 σ H2 _ I2 q2) fun fv s3 ⟨z,H3,I3,rz,ov,g,q3⟩=>fU ?_))))
 exact zoC hu I3 g ry rz fun w' s4 I4 rw'=>⟨_,H3,I4,rw',q3⟩
end
end L2
end
section
namespace L2
open PySem PySem.Spec PyProof.Rows
theorem zg4:∀ {ns:List Int} {us:List Value},zJ (ns.map V.int) us→∃ ps:List (Int×Tok),us=ps.map (fun p=>fB p.1 p.2)∧ps.map (·.1)=ns
 | [],_,r=>by cases r; exact⟨[],rfl,rfl⟩
 | n :: ns,_,r=>by
  cases r with
  | cons r1 r2 =>
   obtain⟨ps,e1,e2⟩:=zg4 r2
   obtain⟨t,rfl⟩:=r1
   exact⟨(n,t) :: ps,by rw [e1]; rfl,by rw [← e2]; rfl⟩
theorem zjQ {X:Cx} (hc:X.calm=true):zbY X (.builtin "sum") (fun xs H Q=>∃ (p:Addr) (ns:List Int),xs = [.ref p]∧SqL X.K H p (ns.map V.int)∧Q (.int ns.sum) H):=by
 intro pins s σ H xs us Q I r h
 obtain⟨p,ns,rfl,hq,q⟩:=h
 obtain⟨u,rfl,rx⟩:=vals1 r
 cases rx
 obtain⟨its,rv,pl,hz⟩:=I.list hq
 obtain⟨ps,e1,e2⟩:=zg4 rv
 subst e1 e2
 have hl:s.heap.IsList p (intItems ps.toArray):=by
  have:=pl.isList
  simpa [intItems] using this
 refine sum_intListG (xs:=ps.toArray) (by simp [I.ok.hd hc]) hl fun h' tk t' kk=>⟨.int (ps.map (·.1)).sum,H,I.kept kk,⟨t',?_⟩,q⟩
 rw [preSum_eq,aM (by simp)]
end L2
namespace PySem
open PyProof.Rows
end PySem
namespace L2
open PySem PySem.Spec PyProof.Rows
end L2
end
section
namespace L2
open PySem PySem.Spec PyProof.Rows
end L2
namespace My
open PySem L2 PyProof.Rows
section
variable {K:ai}
structure RowAt (K:ai) (H:Hp) (r:Addr) (n:Nat) (rw:List (Option Int)):Prop where
 at':SqL K H r (rw.map enc)
 len:rw.length=n
end
end My
end
section
namespace Srt
open PySem PyProof.Rows
def Vk (val:Keyed→Int) (xs:Array Keyed) (i:Nat):Int:=match xs[i]? with
 | some p=>val p
 | none=>0
theorem z8 {val:Keyed→Int} {xs ys:Array Keyed} {i j:Nat} (h:xs[i]? = ys[j]?):Vk val xs i=Vk val ys j:=by unfold Vk; rw [h]
theorem zV {val:Keyed→Int} {xs:Array Keyed} {i:Nat} {p:Keyed} (h:xs[i]? = some p):Vk val xs i=val p:=by unfold Vk; rw [h]
def SIn (val:Keyed→Int) (xs:Array Keyed) (lo hi:Nat):Prop:=∀ i j,lo≤i→i≤j→j < hi→Vk val xs i≤Vk val xs j
def DIn (val:Keyed→Int) (xs:Array Keyed) (lo hi:Nat):Prop:=∀ i j,lo≤i→i≤j→j < hi→Vk val xs j≤Vk val xs i
structure SB (κ:SortKind) (a₀:Array Keyed) (st:SortSt):Prop where
 perm:(arrOf st).Perm a₀
 kind:kindOf st=κ
 failed:failedOf st=none
theorem SB.size {κ:SortKind} {a₀:Array Keyed} {st:SortSt} (h:SB κ a₀ st):(arrOf st).size=a₀.size:=h.perm.size_eq
theorem SB.mem {κ:SortKind} {a₀:Array Keyed} {st:SortSt} (h:SB κ a₀ st) {i:Nat} (hi:i < a₀.size):∃ p,(arrOf st)[i]? = some p∧p∈a₀.toList:=by
 (have hi':i < (arrOf st).size:=by rw [h.size]; exact hi)
 exact⟨(arrOf st)[i],getElem?_pos _ i hi',(fm.mp h.perm).mem_iff.mp (by simp)⟩
structure SF (κ:SortKind) (a₀:Array Keyed) (lo:Nat) (st₀ st:SortSt):Prop where
 b:SB κ a₀ st
 low:∀ k,k < lo→(arrOf st)[k]? = (arrOf st₀)[k]?
 pend:pendingOf st=pendingOf st₀
theorem SF.refl {κ:SortKind} {a₀:Array Keyed} {lo:Nat} {st:SortSt} (h:SB κ a₀ st):SF κ a₀ lo st st:=⟨h,fun _ _=>rfl,rfl⟩
theorem SF.setArr {κ:SortKind} {a₀:Array Keyed} {lo:Nat} {st₀ st:SortSt} (h:SF κ a₀ lo st₀ st) {xs:Array Keyed} (hp:xs.Perm (arrOf st)) (hl:∀ k,k < lo→xs[k]? = (arrOf st)[k]?):SF κ a₀ lo st₀ (setArr st xs) :=
 ⟨⟨hp.trans h.b.perm,h.b.kind,h.b.failed⟩,fun k hk=>(hl k hk).trans (h.low k hk),h.pend⟩
section
variable {prog:Program} {w:World} {A:Around} {E:Value→Shared→Prop} {s:Shared} {a₀:Array Keyed} {κ:SortKind} {val:Keyed→Int}
def Cmp (prog:Program) (w:World) (A:Around) (s:Shared) (κ:SortKind) (val:Keyed→Int) (a₀:Array Keyed):Prop :=
 ∀ x y,x∈a₀.toList→y∈a₀.toList→∀ (Q:Bool→Shared→Prop) (E:Value→Shared→Prop),Q (decide (val x < val y)) s→wpAny (model prog w) A (keyLt' κ x.1 y.1) Q E s
theorem zk9 {st:SortSt} {x y:Keyed} {Q:Option Bool→SortSt→Prop} (hC:Cmp prog w A s κ val a₀) (hk:kindOf st=κ) (hx:x∈a₀.toList) (hy:y∈a₀.toList) (h:Q (some (decide (val x < val y))) st) :
  wpS (model prog w) A E s (lt' x y) Q st:=by
 rw [lt'_eq]
 refine ar (eU ?_)
 rw [hk]
 refine ar (gw (cS (hC x y hx hy _ _ ⟨rfl,?_⟩)))
 exact az h
theorem zQ {st:SortSt} {arr:Array Keyed} {i:Nat} {p:Keyed} {Q:Keyed→SortSt→Prop} (hi:arr[i]? = some p) (h:Q p st):wpS (model prog w) A E s (elem' arr i) Q st:=by
 rw [elem'_eq,hi]
 exact az h
theorem zey {st:SortSt} {i j:Nat} {Q:Option Bool→SortSt→Prop} (hC:Cmp prog w A s κ val a₀) (hB:SB κ a₀ st) (hi:i < a₀.size) (hj:j < a₀.size) (h:Q (some (decide (Vk val (arrOf st) i < Vk val (arrOf st) j))) st) :
  (wpS (model prog w) A E s (ltAt' i j) Q st):=by
 obtain⟨x,ex,mx⟩:=hB.mem hi
 obtain⟨y,ey,my⟩:=hB.mem hj
 rw [ltAt'_eq]
 refine ar (eU ?_)
 (show wpS _ _ _ _ (do let x ← elem' (arrOf st) i; let y ← elem' (arrOf st) j; lt' x y) Q st)
 refine ar (zQ ex (ar (zQ ey (zk9 hC hB.kind mx my ?_))))
 rw [zV ex,zV ey] at h
 exact h
theorem ziG {st:SortSt} {i j:Nat} {Q:Unit→SortSt→Prop} (h:Q () (setArr st (mirror (arrOf st) i j ((j - i) / 2)))) :
  (wpS (model prog w) A E s (reverseSlice' i j) Q st):=by
 ((rw [reverseSlice'_eq]; exact dC h))
theorem zez {xs:Array Keyed} {i j:Nat} (hj:j≤xs.size) (k:Nat):Vk val (mirror xs i j ((j - i) / 2)) k=if i≤k∧k < j then Vk val xs (i+j - 1 - k) else Vk val xs k:=by
 (have e:=jz (i:=i) hj k)
 by_cases h1:i≤k∧k < j
 ·rw [if_pos h1] at e ⊢; exact z8 e
 ·rw [if_neg h1] at e ⊢; exact z8 e
theorem zbk {xs:Array Keyed} {i j:Nat} (hj:j≤xs.size) (heq:∀ k,i≤k→k < j→Vk val xs k=Vk val xs (j - 1)) (k:Nat):Vk val (mirror xs i j ((j - i) / 2)) k=Vk val xs k:=by
 rw [zez hj]
 split
 ·(rw [heq _ (by lia) (by lia),heq k (by lia) (by lia)])
 ·rfl
theorem zce {xs:Array Keyed} {lo i j:Nat} (hj:j≤xs.size) (hi:lo≤i):∀ k,k < lo→(mirror xs i j ((j - i) / 2))[k]? = xs[k]?:=fun k hk=>by
 rw [jz hj,if_neg (by lia)]
theorem zh1 {xs:Array Keyed} {lo src d:Nat} (hs:src < xs.size) (hd:d≤src) (hl:lo≤src - d):∀ k,k < lo→(bubble xs src d)[k]? = xs[k]?:=fun k hk=>by
 rw [getElem?_bubble hs d hd,if_neg (by lia),if_neg (by lia)]
def zla (lo a nrem:Nat):StateT SortSt Sem AscSt :=
 forIn [a:nrem] ((none,a):AscSt) fun _ st=>do
  let x ← ltAt' (lo+st.snd) (lo+st.snd - 1)
  match x with
  | some smaller=>if smaller=true then pure (fQ (none,st.snd)) else pure (cm (none,st.snd+1))
  | _=>pure (fQ (some none,st.snd))
def zg5 (lo n nrem:Nat):StateT SortSt Sem (Option Nat):=do
 reverseSlice' lo (lo+n)
 let st ← zla lo n nrem
 match st.fst with
 | some r=>pure r
 | none=>pure (some st.snd)
def ziH (lo n nrem:Nat):StateT SortSt Sem DescSt :=
 forIn [n:nrem] ((none,n,0):DescSt) fun _ st=>do
  let x ← ltAt' (lo+st.snd.fst) (lo+st.snd.fst - 1)
  match x with
  | some smaller =>
   if smaller=true then
    if st.snd.snd > 0 then do
     reverseSlice' (lo+st.snd.fst - (st.snd.snd+1)) (lo+st.snd.fst)
     pure (cm (none,st.snd.fst+1,0))
    else pure (cm (none,st.snd.fst+1,0))
   else do
    let x ← ltAt' (lo+st.snd.fst - 1) (lo+st.snd.fst)
    match x with
    | some larger =>
     if larger=true then pure (fQ (none,st.snd.fst,st.snd.snd))
     else pure (cm (none,st.snd.fst+1,st.snd.snd+1))
    | _=>pure (fQ (some none,st.snd.fst,st.snd.snd))
  | _=>pure (fQ (some none,st.snd.fst,st.snd.snd))
def zg6 (lo n nrem:Nat):StateT SortSt Sem (Option Nat):=do
 liftM (rule "list.sort.descending-run"); let st ← ziH lo (n+1) nrem
 match st.fst with
 | some r=>pure r
 | none =>
  if st.snd.snd > 0 then do
   reverseSlice' (lo+st.snd.fst - (st.snd.snd+1)) (lo+st.snd.fst)
   zg5 lo st.snd.fst nrem
  else zg5 lo st.snd.fst nrem
theorem zf6 (lo nrem:Nat):countRun' lo nrem=(do
  let st ← zla lo 1 nrem
  match st.fst with
  | some r=>pure r
  | none =>
   if (st.snd == nrem)=true then pure (some st.snd)
   else if st.snd > 1 then do
    let x ← ltAt' lo (lo+st.snd - 1)
    match x with
    | some rose=>if rose=true then pure (some st.snd) else do
      reverseSlice' lo (lo+st.snd)
      zg6 lo st.snd nrem
    | _=>pure none
   else zg6 lo st.snd nrem):=by
 rw [countRun'_eq]
 unfold zg6 zg5 ziH zla
 dsimp only
 refine congrArg (bind _) ?_
 funext c
 obtain⟨r,n⟩:=c
 cases r with
 | some r=>rfl
 | none =>
  dsimp only
  split
  ·rfl
  ·split
   ·congr 1
    funext x
    cases x with
    | none=>rfl
    | some rose =>
     dsimp only
     split
     ·rfl
     ·congr 1
      funext _r
      congr 1; funext _u; congr 1; congr 1; funext s2; obtain⟨r2,n2,q2⟩:=s2
      cases r2 with
      | some r2=>rfl
      | none =>
       dsimp only
       split
       ·congr 1; funext _v; congr 1; funext _w; congr 1; funext s3; obtain⟨r3,n3⟩:=s3; cases r3 <;> rfl
       ·congr 1; funext _w; congr 1; funext s3; obtain⟨r3,n3⟩:=s3; cases r3 <;> rfl
   ·congr 1; funext _u; congr 1; congr 1; funext s2; obtain⟨r2,n2,q2⟩:=s2
    cases r2 with
    | some r2=>rfl
    | none =>
     dsimp only
     split
     ·congr 1; funext _v; congr 1; funext _w; congr 1; funext s3; obtain⟨r3,n3⟩:=s3; cases r3 <;> rfl
     ·congr 1; funext _w; congr 1; funext s3; obtain⟨r3,n3⟩:=s3; cases r3 <;> rfl
theorem znT {st₀ st:SortSt} {lo a nrem:Nat} {Q:AscSt→SortSt→Prop} (hC:Cmp prog w A s κ val a₀) (hn:lo+nrem≤a₀.size) (ha:1≤a) (han:a≤nrem) (hB:SF κ a₀ lo st₀ st)
  (hs:SIn val (arrOf st) lo (lo+a))
  (h:∀ n,a≤n→n≤nrem→SIn val (arrOf st) lo (lo+n)→(n=nrem∨Vk val (arrOf st) (lo+n) < Vk val (arrOf st) (lo+n - 1))→Q (none,n) st) :
  wpS (model prog w) A E s (zla lo a nrem) Q st:=by
 unfold zla
 refine bX (I:=fun x c st'=>st'=st∧c=(none,x)∧SIn val (arrOf st) lo (lo+x)) ?step ?fin ⟨rfl,rfl,hs⟩
 case fin =>
  rintro c st' ⟨rfl,rfl,hs'⟩
  (rw [show max a nrem=nrem by lia] at hs' ⊢)
  (exact h nrem han (ag _) hs' (.inl rfl))
 case step =>
  (rintro x c st' hax hxn ⟨rfl,rfl,hs'⟩)
  dsimp only
  refine ar (zey hC hB.b (by lia) (by lia) ?_)
  by_cases hless:Vk val (arrOf st') (lo+x) < Vk val (arrOf st') (lo+x - 1)
  ·(simp only [hless,decide_true,if_true])
   (exact az (h x hax (by lia) hs' (.inr hless)))
  ·(simp only [hless,decide_false,bt,if_false])
   refine az ⟨rfl,rfl,fun i j hli hij hj=>?_⟩
   by_cases hjx:j < lo+x
   ·exact hs' i j hli hij hjx
   ·have hj':j=lo+x:=by lia
    subst hj'
    by_cases hi':i=lo+x
    ·(subst hi'; exact bF _)
    ·exact bY (hs' i (lo+x - 1) hli (by lia) (by lia)) (Int.not_lt.mp hless)
theorem zlb {st₀ st:SortSt} {lo n nrem:Nat} {Q:Option Nat→SortSt→Prop} (hC:Cmp prog w A s κ val a₀) (hn:lo+nrem≤a₀.size) (h1:1≤n) (hnn:n≤nrem) (hB:SF κ a₀ lo st₀ st)
  (hs:DIn val (arrOf st) lo (lo+n)) (h:∀ m st',SF κ a₀ lo st₀ st'→1≤m→m≤nrem→SIn val (arrOf st') lo (lo+m)→Q (some m) st') :
  wpS (model prog w) A E s (zg5 lo n nrem) Q st:=by
 unfold zg5
 have hsz:lo+n≤(arrOf st).size:=by rw [hB.b.size]; lia
 refine ar (ziG ?_)
 have hB':=hB.setArr (iX (arrOf st) lo (lo+n) ((lo+n - lo) / 2)) (zce hsz (ag _))
 refine ar (znT hC hn h1 hnn hB' ?_ fun m hm1 hm2 hsm _=>az (h m _ hB' (by lia) hm2 hsm))
 intro i j hli hij hj
 show Vk val (mirror (arrOf st) lo (lo+n) ((lo+n - lo) / 2)) i≤Vk val (mirror (arrOf st) lo (lo+n) ((lo+n - lo) / 2)) j
 rw [zez hsz,zez hsz,if_pos (by lia),if_pos (by lia)]
 exact hs _ _ (by lia) (by lia) (by lia)
theorem zoE {st₀ st:SortSt} {lo n nrem:Nat} {Q:DescSt→SortSt→Prop} (hC:Cmp prog w A s κ val a₀) (hn:lo+nrem≤a₀.size) (h1:1≤n) (hnn:n≤nrem) (hB:SF κ a₀ lo st₀ st)
  (hs:DIn val (arrOf st) lo (lo+n))
  (h:∀ m neq st',SF κ a₀ lo st₀ st'→n≤m→m≤nrem→DIn val (arrOf st') lo (lo+m)→neq+1≤m→(∀ i,lo+m - (neq+1)≤i→i < lo+m→Vk val (arrOf st') i=Vk val (arrOf st') (lo+m - 1))→Q (none,m,neq) st') :
  wpS (model prog w) A E s (ziH lo n nrem) Q st:=by
 unfold ziH
 refine bX (I:=fun x c st'=>∃ neq,c=(none,x,neq)∧SF κ a₀ lo st₀ st'∧DIn val (arrOf st') lo (lo+x)∧neq+1≤x ∧
   (∀ i,lo+x - (neq+1)≤i→i < lo+x→Vk val (arrOf st') i=Vk val (arrOf st') (lo+x - 1))) ?step ?fin ⟨0,rfl,hB,hs,by lia,fun i h1 h2=>by congr 1; lia⟩
 case fin =>
  (rintro c st' ⟨neq,rfl,hB',hs',hq,he⟩)
  (rw [show max n nrem=nrem by lia] at hs' hq he ⊢)
  (exact h nrem neq st' hB' hnn (ag _) hs' hq he)
 case step =>
  (rintro x c st' hax hxn ⟨neq,rfl,hB',hs',hq,he⟩)
  dsimp only
  have hsz:lo+x≤(arrOf st').size:=by rw [hB'.b.size]; lia
  refine ar (zey hC hB'.b (by lia) (by lia) ?_)
  by_cases hless:Vk val (arrOf st') (lo+x) < Vk val (arrOf st') (lo+x - 1)
  ·(simp only [hless,decide_true,if_true])
   have step1:∀ xs:Array Keyed,(∀ k,Vk val xs k=Vk val (arrOf st') k)→DIn val xs lo (lo+(x+1)):=by
    intro xs hk i j hli hij hj
    rw [hk,hk]
    by_cases hjx:j < lo+x
    ·exact hs' i j hli hij hjx
    ·have hj':j=lo+x:=by lia
     subst hj'
     by_cases hi':i=lo+x
     ·(subst hi'; exact bF _)
     ·exact bY (eW hless) (hs' i (lo+x - 1) hli (by lia) (by lia))
   by_cases hneq:neq > 0
   ·rw [if_pos hneq]
    refine ar (ziG (az ⟨0,rfl,hB'.setArr (iX _ _ _ _) (zce hsz (by lia)),step1 _ (zbk hsz he),by lia,fun i h1 h2=>by congr 1; lia⟩))
   ·rw [if_neg hneq]
    (exact az ⟨0,rfl,hB',step1 _ (fun _=>rfl),by lia,fun i h1 h2=>by congr 1; lia⟩)
  ·(simp only [hless,decide_false,bt,if_false])
   refine ar (zey hC hB'.b (by lia) (by lia) ?_)
   by_cases hlarger:Vk val (arrOf st') (lo+x - 1) < Vk val (arrOf st') (lo+x)
   ·(simp only [hlarger,decide_true,if_true])
    (exact az (h x neq st' hB' hax (by lia) hs' hq he))
   ·(simp only [hlarger,decide_false,bt,if_false])
    have heqx:Vk val (arrOf st') (lo+x)=Vk val (arrOf st') (lo+x - 1):=by lia
    refine az ⟨neq+1,rfl,hB',fun i j hli hij hj=>?_,by lia,fun i h1 h2=>?_⟩
    ·by_cases hjx:j < lo+x
     ·exact hs' i j hli hij hjx
     ·have hj':j=lo+x:=by lia
      subst hj'
      by_cases hi':i=lo+x
      ·(subst hi'; exact bF _)
      ·rw [heqx]; exact hs' i (lo+x - 1) hli (by lia) (by lia)
    ·rw [show lo+(x+1) - 1=lo+x by lia]
     by_cases hix:i=lo+x
     ·subst hix; rfl
     ·(rw [heqx]; exact he i (by lia) (by lia))
theorem ziI {st₀ st:SortSt} {lo n nrem:Nat} {Q:Option Nat→SortSt→Prop} (hC:Cmp prog w A s κ val a₀) (hn:lo+nrem≤a₀.size) (hnn:n+1≤nrem) (hB:SF κ a₀ lo st₀ st)
  (hs:DIn val (arrOf st) lo (lo+(n+1))) (h:∀ m st',SF κ a₀ lo st₀ st'→1≤m→m≤nrem→SIn val (arrOf st') lo (lo+m)→Q (some m) st') :
  wpS (model prog w) A E s (zg6 lo n nrem) Q st:=by
 unfold zg6
 (refine ar (gw (cb ⟨rfl,?_⟩)))
 refine ar (zoE hC hn (by lia) hnn hB hs fun m neq st' hB' hm1 hm2 hs' hq he=>?_)
 dsimp only
 have hsz:lo+m≤(arrOf st').size:=by rw [hB'.b.size]; lia
 by_cases hneq:neq > 0
 ·rw [if_pos hneq]
  refine ar (ziG (zlb hC hn (by lia) hm2 (hB'.setArr (iX _ _ _ _) (zce hsz (by lia))) ?_ h))
  intro i j hli hij hj
  show Vk val (mirror (arrOf st') _ _ _) j≤Vk val (mirror (arrOf st') _ _ _) i
  rw [zbk hsz he,zbk hsz he]
  exact hs' i j hli hij hj
 ·rw [if_neg hneq]
  exact zlb hC hn (by lia) hm2 hB' hs' h
theorem zmR {st₀ st:SortSt} {lo nrem:Nat} {Q:Option Nat→SortSt→Prop} (hC:Cmp prog w A s κ val a₀) (hn:lo+nrem≤a₀.size) (h1:1≤nrem) (hB:SF κ a₀ lo st₀ st)
  (h:∀ m st',SF κ a₀ lo st₀ st'→1≤m→m≤nrem→SIn val (arrOf st') lo (lo+m)→Q (some m) st') :
  wpS (model prog w) A E s (countRun' lo nrem) Q st:=by
 rw [zf6]
 refine ar (znT hC hn (ag 1) h1 hB (fun i j hli hij hj=>(by
   have e:i=j:=by lia
   rw [e]
   exact bF _)) fun n hn1 hn2 hsn hor=>?_)
 dsimp only
 by_cases hnn:n=nrem
 ·(rw [if_pos (by simpa using hnn)])
  (exact az (h n st hB hn1 hn2 hsn))
 ·(rw [if_neg (by simpa using hnn)])
  have hlt:Vk val (arrOf st) (lo+n) < Vk val (arrOf st) (lo+n - 1):=hor.resolve_left hnn
  by_cases hgt:n > 1
  ·rw [if_pos hgt]
   refine ar (zey hC hB.b (by lia) (by lia) ?_)
   by_cases hrose:Vk val (arrOf st) lo < Vk val (arrOf st) (lo+n - 1)
   ·(simp only [hrose,decide_true,if_true])
    (exact az (h n st hB hn1 hn2 hsn))
   ·(simp only [hrose,decide_false,bt,if_false])
    have hsz:lo+n≤(arrOf st).size:=by rw [hB.b.size]; lia
    have hall:∀ k,lo≤k→k < lo+n→Vk val (arrOf st) k=Vk val (arrOf st) (lo+n - 1):=by
     intro k hk0 hk
     have a1:=hsn lo k (ag _) hk0 hk
     have a2:=hsn k (lo+n - 1) hk0 (by lia) (by lia)
     lia
    refine ar (ziG (ziI hC hn (by lia) (hB.setArr (iX _ _ _ _) (zce hsz (ag _))) ?_ h))
    intro i j hli hij hj
    show Vk val (mirror (arrOf st) _ _ _) j≤Vk val (mirror (arrOf st) _ _ _) i
    rw [zbk hsz hall,zbk hsz hall]
    by_cases hjn:j < lo+n
    ·(rw [hall i (by lia) (by lia),hall j (by lia) hjn]; exact bF _)
    ·have hj':j=lo+n:=by lia
     subst hj'
     by_cases hi':i=lo+n
     ·(subst hi'; exact bF _)
     ·(rw [hall i (by lia) (by lia)]; exact eW hlt)
  ·rw [if_neg hgt]
   have hn1':n=1:=by lia
   subst hn1'
   refine ziI hC hn (by lia) hB ?_ h
   intro i j hli hij hj
   by_cases hi':i=j
   ·(subst hi'; exact bF _)
   ·have hi0:i=lo:=by lia
    have hj1:j=lo+1:=by lia
    subst hi0; subst hj1
    exact eW hlt
theorem zg7 {xs:Array Keyed} {src d:Nat} (hs:src < xs.size) (hd:d≤src) (k:Nat) :
  Vk val (bubble xs src d) k=if k=src - d then Vk val xs src else if src - d < k∧k≤src then Vk val xs (k - 1) else Vk val xs k:=by
 (have e:=getElem?_bubble hs d hd k)
 by_cases h1:k=src - d
 ·rw [if_pos h1] at e ⊢; exact z8 e
 ·rw [if_neg h1] at e ⊢
  (by_cases h2:src - d < k∧k≤src)
  ·rw [if_pos h2] at e ⊢; exact z8 e
  ·rw [if_neg h2] at e ⊢; exact z8 e
theorem zpw {st₀ st:SortSt} {lo n ok:Nat} {Q:Bool→SortSt→Prop} (hC:Cmp prog w A s κ val a₀) (hn:lo+n≤a₀.size) (hok:ok≤n) (hB:SF κ a₀ lo st₀ st) (hs:SIn val (arrOf st) lo (lo+ok))
  (h:∀ st',SF κ a₀ lo st₀ st'→SIn val (arrOf st') lo (lo+n)→Q true st'):wpS (model prog w) A E s (binarySort' lo n ok) Q st:=by
 rw [binarySort'_eq]
 refine ar (cW (bX (I:=fun k c st'=>c=(none,())∧SF κ a₀ lo st₀ st'∧SIn val (arrOf st') lo (lo+min k n))
  (Q:=fun c st'=>c=(none,())∧SF κ a₀ lo st₀ st'∧SIn val (arrOf st') lo (lo+n)) ?step ?fin ?init) ?post)
 case post =>
  rintro c st' ⟨rfl,hB',hs'⟩
  (exact az (h st' hB' hs'))
 case init =>
  refine⟨rfl,hB,fun i j hli hij hj=>?_⟩
  by_cases h1:ok=0
  ·have e:i=j:=by lia
   rw [e]; exact bF _
  ·exact hs i j hli hij (by lia)
 case fin =>
  rintro c st' ⟨hc,hB',hs'⟩
  refine⟨hc,hB',?_⟩
  (rwa [show min (max (max ok 1) n) n=n by lia] at hs')
 case step =>
  (rintro k c st' hak hkn ⟨rfl,hB',hs'⟩)
  (rw [show min k n=k by lia] at hs')
  have hk:lo+k < a₀.size:=(by lia); refine ar (cW (bX (I:=fun x c st''=>st''=st'∧∃ l r,c=(none,l,r)∧l≤r∧r≤k∧r - l≤k - x ∧
    (∀ i,i < l→Vk val (arrOf st') (lo+i)≤Vk val (arrOf st') (lo+k))∧(∀ i,r≤i→i < k→Vk val (arrOf st') (lo+k) < Vk val (arrOf st') (lo+i)))
   (Q:=fun c st''=>st''=st'∧∃ l r,c=(none,l,r)∧l≤k∧(∀ i,i < l→Vk val (arrOf st') (lo+i)≤Vk val (arrOf st') (lo+k))∧(∀ i,l≤i→i < k→Vk val (arrOf st') (lo+k) < Vk val (arrOf st') (lo+i))) ?istep ?ifin ?iinit) ?ipost)
  case iinit=>(exact⟨rfl,0,k,rfl,by lia,by lia,by lia,fun i hi=>by lia,fun i h1 h2=>by lia⟩)
  case ifin =>
   (rintro c st'' ⟨rfl,l,r,rfl,hlr,hrk,hm,hlo,hhi⟩)
   have:l=r:=by lia
   subst this
   (exact⟨rfl,l,l,rfl,hrk,hlo,hhi⟩)
  case istep =>
   (rintro x c st'' _ hxk ⟨rfl,l,r,rfl,hlr,hrk,hm,hlo,hhi⟩)
   dsimp only
   by_cases hge:l≥r
   ·rw [if_pos hge]
    have:l=r:=by lia
    subst this
    (exact az ⟨rfl,l,l,rfl,hrk,hlo,hhi⟩)
   ·rw [if_neg hge]
    refine ar (zey hC hB'.b hk (by lia) ?_)
    by_cases hless:Vk val (arrOf st'') (lo+k) < Vk val (arrOf st'') (lo+(l+r) / 2)
    ·(simp only [hless,decide_true,if_true])
     (refine az ⟨rfl,l,(l+r) / 2,rfl,by lia,by lia,by lia,hlo,fun i h1 h2=>?_⟩)
     exact Int.lt_of_lt_of_le hless (hs' _ _ (by lia) (by lia) (by lia))
    ·(simp only [hless,decide_false,bt,if_false])
     (refine az ⟨rfl,(l+r) / 2+1,r,rfl,by lia,by lia,by lia,fun i h1=>?_,hhi⟩)
     exact bY (hs' (lo+i) (lo+(l+r) / 2) (by lia) (by lia) (by lia)) (Int.not_lt.mp hless)
  case ipost =>
   (rintro c st'' ⟨rfl,l,r,rfl,hlk,hlo,hhi⟩)
   show wpS _ _ _ _ (do moveDown' (lo+k) (lo+l); pure (cm (none,()))) _ _
   rw [moveDown'_eq]
   have hks:lo+k < (arrOf st'').size:=by rw [hB'.b.size]; exact hk
   refine ar (dC (az ⟨rfl,hB'.setArr (bubble_perm _ _ _) (zh1 hks (by lia) (by lia)),?_⟩))
   (rw [show min (k+1) n=k+1 by lia])
   intro i j hli hij hj
   show Vk val (bubble (arrOf st'') (lo+k) (lo+k - (lo+l))) i≤Vk val (bubble (arrOf st'') (lo+k) (lo+k - (lo+l))) j
   rw [zg7 hks (by lia),zg7 hks (by lia),show lo+k - (lo+k - (lo+l))=lo+l by lia]
   have hlo':∀ i,lo≤i→i < lo+l→Vk val (arrOf st'') i≤Vk val (arrOf st'') (lo+k):=fun i h1 h2=>by
    have:=hlo (i - lo) (by lia)
    rwa [show lo+(i - lo)=i by lia] at this
   have hhi':∀ i,lo+l≤i→i < lo+k→Vk val (arrOf st'') (lo+k) < Vk val (arrOf st'') i:=fun i h1 h2=>by
    have:=hhi (i - lo) (by lia) (by lia)
    rwa [show lo+(i - lo)=i by lia] at this
   repeat' split
   all_goals first
    | (exfalso; lia)
    | exact bF _
    | exact hlo' _ (by lia) (by lia)
    | exact eW (hhi' _ (by lia) (by lia))
    | exact hs' _ _ (by lia) (by lia) (by lia)
end
end Srt
end
section
namespace Srt
open PySem PyProof.Rows
def zmS:Bool→Keyed→Array Keyed→Nat→Nat→Nat→StateT SortSt Sem (Option Nat):=sortPriv% PySem.Builtin.gallop
def zlc:Array Keyed→Array Keyed→StateT SortSt Sem (Array Keyed):=sortPriv% PySem.Builtin.mergeLo
def zld:Array Keyed→Array Keyed→StateT SortSt Sem (Array Keyed):=sortPriv% PySem.Builtin.mergeHi
def zcR:Nat→StateT SortSt Sem Unit:=sortPriv% PySem.Builtin.setMinGallop
theorem zf7 {M:Model} {A:Around} {E:Value→Shared→Prop} {s:Shared} {α:Type} {m:StateT SortSt Sem α} {Q:α→SortSt→Prop} {st:SortSt} (h:wpAny M A (m st) (fun r s'=>s'=s∧Q r.1 r.2) E s):wpS M A E s m Q st:=h
theorem zf8 {M:Model} {A:Around} {E:Value→Shared→Prop} {s:Shared} {α:Type} {m:StateT SortSt Sem α} {Q:α→SortSt→Prop} {st:SortSt} (h:wpS M A E s m Q st):wpAny M A (m st) (fun r s'=>s'=s∧Q r.1 r.2) E s:=h
section
variable {prog:Program} {w:World} {A:Around} {E:Value→Shared→Prop} {s:Shared} {a₀:Array Keyed} {κ:SortKind} {val:Keyed→Int}
def bB (val:Keyed→Int) (left:Bool) (key:Keyed) (arr:Array Keyed) (base i:Nat):Bool:=if left then decide (Vk val arr (base+i) < val key) else !decide (val key < Vk val arr (base+i))
theorem zc7 {left:Bool} {key:Keyed} {arr:Array Keyed} {base n i j:Nat} (hs:SIn val arr base (base+n)) (hij:i≤j) (hj:j < n) (h:bB val left key arr base j=true):bB val left key arr base i=true:=by
 have:=hs (base+i) (base+j) (by lia) (by lia) (by lia)
 unfold bB at h ⊢
 cases left <;> simp at h ⊢ <;> lia
theorem s_beyond {st:SortSt} {left:Bool} {key:Keyed} {arr:Array Keyed} {base i:Nat} {Q:Option Bool→SortSt→Prop} {p:Keyed} (hC:Cmp prog w A s κ val a₀) (hk:kindOf st=κ) (hkey:key∈a₀.toList) (he:arr[base+i]? = some p) (hp:p∈a₀.toList)
  (h:Q (some (bB val left key arr base i)) st):wpS (model prog w) A E s (do
   let x ← elem' arr (base+i)
   if left then lt' x key else do
    let r ← lt' key x
    return r.map (!·)) Q st:=by
 refine ar (zQ he ?_)
 unfold bB at h
 rw [zV he] at h
 cases left with
 | true=>exact zk9 hC hk hp hkey h
 | false=>exact ar (zk9 hC hk hkey hp (az h))
abbrev zmT:=Option (Option Nat)×Nat×Nat
theorem zle {st:SortSt} {left:Bool} {key:Keyed} {arr:Array Keyed} {base n lo hi:Nat} {f:Nat→zmT→StateT SortSt Sem (ForInStep zmT)} (hs:SIn val arr base (base+n)) (hlh:lo≤hi) (hhn:hi≤n)
  (h1:∀ i,i < lo→bB val left key arr base i=true) (h2:∀ i,hi≤i→i < n→bB val left key arr base i=false)
  (hf:∀ (x l r:Nat) (R:ForInStep zmT→SortSt→Prop),r≤n→(l≥r→R (.done (none,l,r)) st)→(l < r→R (if bB val left key arr base (l+(r - l) / 2)=true then .yield (none,l+(r - l) / 2+1,r) else .yield (none,l,l+(r - l) / 2)) st)→wpS (model prog w) A E s (f x (none,l,r)) R st) :
  wpS (model prog w) A E s (forIn [0:n] ((none,lo,hi):zmT) f) (fun c st'=>st'=st∧∃ l,c=(none,l,l)∧l≤n∧(∀ i,i < l→bB val left key arr base i=true)∧(∀ i,l≤i→i < n→bB val left key arr base i=false)) st:=by
 refine bX (I:=fun x c st'=>st'=st∧∃ l r,c=(none,l,r)∧l≤r∧r≤n∧r - l≤n - x∧(∀ i,i < l→bB val left key arr base i=true)∧(∀ i,r≤i→i < n→bB val left key arr base i=false)) ?step ?fin ⟨rfl,lo,hi,rfl,hlh,hhn,by lia,h1,h2⟩
 case fin =>
  rintro c st' ⟨rfl,l,r,rfl,hlr,hrn,hm,a1,a2⟩
  have:l=r:=by lia
  subst this
  exact⟨rfl,l,rfl,hrn,a1,a2⟩
 case step =>
  rintro x c st' _ hxn ⟨rfl,l,r,rfl,hlr,hrn,hm,a1,a2⟩
  refine hf x l r _ hrn (fun hge=>?_) (fun hlt=>?_)
  ·have:l=r:=by lia
   subst this
   exact⟨rfl,l,rfl,hrn,a1,a2⟩
  ·cases hb:bB val left key arr base (l+(r - l) / 2) with
   | true =>
    rw [if_pos rfl]
    exact⟨rfl,l+(r - l) / 2+1,r,rfl,by lia,hrn,by lia,fun i hi=>zc7 hs (by lia) (by lia) hb,a2⟩
   | false =>
    rw [if_neg (by decide)]
    refine⟨rfl,l,l+(r - l) / 2,rfl,by lia,by lia,by lia,a1,fun i hi hin=>?_⟩
    cases e:bB val left key arr base i with
    | false=>rfl
    | true=>rw [zc7 hs hi hin e] at hb; cases hb
theorem zbl {st:SortSt} {left:Bool} {key:Keyed} {arr:Array Keyed} {base n hint:Nat} {Q:Option Nat→SortSt→Prop} (hC:Cmp prog w A s κ val a₀) (hk:kindOf st=κ) (hkey:key∈a₀.toList)
  (ha:∀ i,i < n→∃ p,arr[base+i]? = some p∧p∈a₀.toList) (hs:SIn val arr base (base+n)) (hh:hint < n)
  (h:∀ k,k≤n→(∀ i,i < k→bB val left key arr base i=true)→(∀ i,k≤i→i < n→bB val left key arr base i=false)→Q (some k) st) :
  wpS (model prog w) A E s (zmS left key arr base n hint) Q st:=by
 refine zf7 ?_
 wp_delta
 wp_delta
 refine zf8 ?_
 dsimp only
 obtain⟨p,ep,mp⟩:=ha hint hh
 refine ar (s_beyond hC hk hkey ep mp ?_)
 dsimp only
 have up:∀ {i j:Nat},i≤j→j < n→bB val left key arr base i=false→bB val left key arr base j=false:=fun {i j} hij hj h=>by
  cases e:bB val left key arr base j with
  | false=>rfl
  | true=>rw [zc7 hs hij hj e] at h; cases h
 cases hr:bB val left key arr base hint with
 | true =>
  simp only [if_true]
  refine ar (cW (bX (I:=fun x c st'=>st'=st∧∃ l o,c=(none,l,o)∧l < o∧x+1≤o∧hint+l < n∧bB val left key arr base (hint+l)=true)
   (Q:=fun c st'=>st'=st∧∃ l o,c=(none,l,o)∧l < o∧hint+l < n∧bB val left key arr base (hint+l)=true∧(hint+o < n→bB val left key arr base (hint+o)=false)) ?step ?fin ⟨rfl,0,1,rfl,by lia,by lia,hh,hr⟩) ?post)
  case fin =>
   rintro c st' ⟨rfl,l,o,rfl,hlo,hx,hl,hb⟩
   exact⟨rfl,l,o,rfl,hlo,hl,hb,fun z=>by lia⟩
  case step =>
   rintro x c st' _ hxn ⟨rfl,l,o,rfl,hlo,hx,hl,hb⟩
   dsimp only
   by_cases hge:o≥n - hint
   ·rw [if_pos hge]
    exact az ⟨rfl,l,o,rfl,hlo,hl,hb,fun z=>by lia⟩
   ·rw [if_neg hge]
    obtain⟨p,ep,mp⟩:=ha (hint+o) (by lia)
    refine ar (s_beyond hC hk hkey ep mp ?_)
    dsimp only
    cases hb2:bB val left key arr base (hint+o) with
    | true =>
     rw [if_neg (by decide)]
     exact az ⟨rfl,o,2*o+1,rfl,by lia,by lia,by lia,hb2⟩
    | false =>
     rw [if_pos (by decide)]
     exact az ⟨rfl,l,o,rfl,hlo,hl,hb,fun _=>hb2⟩
  case post =>
   rintro c st' ⟨rfl,l,o,rfl,hlo,hl,hb,hb2⟩
   dsimp only
   refine ar (cW (zle (val:=val) (left:=left) (key:=key) (arr:=arr) (base:=base) hs (by lia) (by lia) (fun i hi=>zc7 hs (by lia) hl hb) (fun i hi hin=>(by
    by_cases ho:hint+o < n
    ·exact up (by lia) hin (hb2 ho)
    ·lia)) (fun x l' r' R hrn k1 k2=>?_)) ?_)
   ·dsimp only
    by_cases hge:l'≥r'
    ·rw [if_pos hge]
     exact az (k1 hge)
    ·rw [if_neg hge]
     obtain⟨p,ep,mp⟩:=ha (l'+(r' - l') / 2) (by lia)
     refine ar (s_beyond hC hk hkey ep mp ?_)
     have k3:=k2 (by lia)
     dsimp only
     cases hb3:bB val left key arr base (l'+(r' - l') / 2) with
     | true=>rw [hb3] at k3; rw [if_pos rfl] at k3 ⊢; exact az k3
     | false=>rw [hb3] at k3; rw [if_neg (by decide)] at k3 ⊢; exact az k3
   ·rintro c st'' ⟨rfl,l,rfl,hl,b1,b2⟩
    exact az (h l hl b1 b2)
 | false =>
  (simp only [bt,if_false])
  refine ar (cW (bX (I:=fun x c st'=>st'=st∧∃ l o,c=(none,l,o)∧l < o∧x+1≤o∧l≤hint∧bB val left key arr base (hint - l)=false)
   (Q:=fun c st'=>st'=st∧∃ l o,c=(none,l,o)∧l < o∧l≤hint∧bB val left key arr base (hint - l)=false∧(o≤hint→bB val left key arr base (hint - o)=true)) ?step ?fin ⟨rfl,0,1,rfl,by lia,by lia,by lia,hr⟩) ?post)
  case fin =>
   rintro c st' ⟨rfl,l,o,rfl,hlo,hx,hl,hb⟩
   exact⟨rfl,l,o,rfl,hlo,hl,hb,fun z=>by lia⟩
  case step =>
   rintro x c st' _ hxn ⟨rfl,l,o,rfl,hlo,hx,hl,hb⟩
   dsimp only
   by_cases hge:o≥hint+1
   ·rw [if_pos hge]
    exact az ⟨rfl,l,o,rfl,hlo,hl,hb,fun z=>by lia⟩
   ·rw [if_neg hge]
    obtain⟨p,ep,mp⟩:=ha (hint - o) (by lia)
    refine ar (s_beyond hC hk hkey ep mp ?_)
    dsimp only
    cases hb2:bB val left key arr base (hint - o) with
    | false =>
     rw [if_neg (by decide)]
     exact az ⟨rfl,o,2*o+1,rfl,by lia,by lia,by lia,hb2⟩
    | true =>
     rw [if_pos rfl]
     exact az ⟨rfl,l,o,rfl,hlo,hl,hb,fun _=>hb2⟩
  case post =>
   rintro c st' ⟨rfl,l,o,rfl,hlo,hl,hb,hb2⟩
   dsimp only
   refine ar (cW (zle (val:=val) (left:=left) (key:=key) (arr:=arr) (base:=base) hs (by lia) (by lia) (fun i hi=>(by
    by_cases ho:o≤hint
    ·exact zc7 hs (by lia) (by lia) (hb2 ho)
    ·lia)) (fun i hi hin=>up hi hin hb) (fun x l' r' R hrn k1 k2=>?_)) ?_)
   ·dsimp only
    by_cases hge:l'≥r'
    ·rw [if_pos hge]
     exact az (k1 hge)
    ·rw [if_neg hge]
     obtain⟨p,ep,mp⟩:=ha (l'+(r' - l') / 2) (by lia)
     refine ar (s_beyond hC hk hkey ep mp ?_)
     have k3:=k2 (by lia)
     dsimp only
     cases hb3:bB val left key arr base (l'+(r' - l') / 2) with
     | true=>rw [hb3] at k3; rw [if_pos rfl] at k3 ⊢; exact az k3
     | false=>rw [hb3] at k3; rw [if_neg (by decide)] at k3 ⊢; exact az k3
   ·rintro c st'' ⟨rfl,l,rfl,hl,b1,b2⟩
    exact az (h l hl b1 b2)
end
end Srt
end
section
namespace Srt
open PySem PyProof.Rows
abbrev zak (st:SortSt) (g:Nat):SortSt:=kz (kindOf st) (arrOf st) (pendingOf st) g (failedOf st)
theorem zdr (g:Nat):zcR g=modify fun s=>zak s g:=rfl
def Le (val:Keyed→Int) (xs ys:List Keyed):Prop:=∀ x∈xs,∀ y∈ys,val x≤val y
def Ris (val:Keyed→Int) (xs:List Keyed):Prop:=xs.Pairwise fun x y=>val x≤val y
theorem zav {val:Keyed→Int} {xs ys:List Keyed}:Ris val (xs++ys)↔Ris val xs∧Ris val ys∧Le val xs ys:=jj
structure MI (val:Keyed→Int) (T o l r:List Keyed):Prop where
 perm:(o++l++r).Perm T
 so:Ris val o
 sl:Ris val l
 sr:Ris val r
 ol:Le val o l
 or':Le val o r
def Good (val:Keyed→Int) (T res:List Keyed):Prop:=res.Perm T∧Ris val res
section
variable {val:Keyed→Int} {T o l l1 l2 r r1 r2:List Keyed}
theorem Le.left {xs ys zs:List Keyed} (h:Le val (xs++ys) zs):Le val xs zs:=fun x hx y hy=>h x (aU _ hx) y hy
theorem Le.right {xs ys zs:List Keyed} (h:Le val (xs++ys) zs):Le val ys zs:=fun x hx y hy=>h x (aK _ hx) y hy
theorem Le.app {xs ys zs:List Keyed} (h1:Le val xs zs) (h2:Le val ys zs):Le val (xs++ys) zs:=fun x hx y hy=>by
 rcases a7.mp hx with h | h
 ·exact h1 x h y hy
 ·exact h2 x h y hy
theorem Le.app' {xs ys zs:List Keyed} (h1:Le val xs ys) (h2:Le val xs zs):Le val xs (ys++zs):=fun x hx y hy=>by
 rcases a7.mp hy with h | h
 ·exact h1 x hx y h
 ·exact h2 x hx y h
theorem Le.sub {xs ys zs:List Keyed} (h1:Le val xs (ys++zs)):Le val xs ys∧Le val xs zs:=⟨fun x hx y hy=>h1 x hx y (aU _ hy),fun x hx y hy=>h1 x hx y (aK _ hy)⟩
theorem MI.takeA (h:MI val T o (l1++l2) r) (hle:Le val l1 r):MI val T (o++l1) l2 r:=by
 obtain⟨a1,a2,a3⟩:=zav.mp h.sl
 obtain⟨b1,b2⟩:=h.ol.sub
 exact⟨by have:=h.perm; simpa [aY] using this,zav.mpr ⟨h.so,a1,b1⟩,a2,h.sr,b2.app a3,h.or'.app hle⟩
theorem MI.takeB (h:MI val T o l (r1++r2)) (hle:Le val r1 l):MI val T (o++r1) l r2:=by
 obtain⟨a1,a2,a3⟩:=zav.mp h.sr
 obtain⟨b1,b2⟩:=h.or'.sub
 refine⟨?_,zav.mpr ⟨h.so,a1,b1⟩,h.sl,a2,h.ol.app hle,b2.app a3⟩
 refine dO ?_ h.perm
 have:(r1++l++r2).Perm (l++r1++r2):=List.perm_append_comm.append_right _
 simpa [aY] using this.append_left o
theorem MI.doneA (h:MI val T o l []):Good val T (o++l):=⟨by have:=h.perm; simpa using this,zav.mpr ⟨h.so,h.sl,h.ol⟩⟩
theorem MI.doneB (h:MI val T o [] r):Good val T (o++r):=⟨by have:=h.perm; simpa using this,zav.mpr ⟨h.so,h.sr,h.or'⟩⟩
theorem MI.last (h:MI val T o l r) (hle:Le val r l):Good val T (o++r++l):=by
 refine⟨dO ?_ h.perm,?_⟩
 ·rw [aY,aY]
  exact List.perm_append_comm.append_left o
 ·exact zav.mpr ⟨zav.mpr ⟨h.so,h.sr,h.or'⟩,h.sl,h.ol.app hle⟩
end
section
variable {val:Keyed→Int} {T:List Keyed} {a b out:Array Keyed} {ia ib:Nat}
abbrev MA (val:Keyed→Int) (T:List Keyed) (a b out:Array Keyed) (ia ib:Nat):Prop:=MI val T out.toList (a.toList.drop ia) (b.toList.drop ib)
theorem zd0 {xs:Array Keyed} {i:Nat} {p:Keyed} (h:xs[i]? = some p):xs.toList.drop i=p :: xs.toList.drop (i+1):=by
 have hi:i < xs.toList.length:=by
  have:=(cT.mp h).1
  simpa using this
 rw [cA hi]
 congr 1
 have:=(cT.mp h).2
 simpa using this
theorem zc8 {xs:Array Keyed} (h:SIn val xs 0 xs.size):∀ i,Ris val (xs.toList.drop i):=by
 have all:Ris val xs.toList:=by
  unfold Ris
  (rw [cC])
  intro i j hi hj hij
  (have hi':i < xs.size:=by simpa using hi)
  (have hj':j < xs.size:=by simpa using hj)
  have:=h i j (bi _) (by lia) hj'
  rw [zV (getElem?_pos xs i hi'),zV (getElem?_pos xs j hj')] at this
  simpa using this
 exact fun i=>eX (List.drop_sublist _ _) all
theorem zd1 {xs:Array Keyed} {i:Nat} {p q:Keyed} (h:SIn val xs 0 xs.size) (hp:xs[i]? = some p) (hq:q∈xs.toList.drop i):val p≤val q:=by
 have:=zc8 h i
 rw [zd0 hp] at this hq
 rcases (aB.mp hq) with rfl | hq
 ·exact bF _
 ·exact List.rel_of_pairwise_cons this hq
theorem MA.pushB {y x:Keyed} (h:MA val T a b out ia ib) (sa:SIn val a 0 a.size) (hy:b[ib]? = some y) (hx:a[ia]? = some x) (hle:val y≤val x):MA val T a b (out.push y) ia (ib+1):=by
 unfold MA at h ⊢
 rw [zd0 hy] at h
 have:=MI.takeB (r1:=[y]) h fun p hp q hq=>by
  rw [aW.mp hp]
  exact bY hle (zd1 sa hx hq)
 simpa using this
theorem MA.pushA {y x:Keyed} (h:MA val T a b out ia ib) (sb:SIn val b 0 b.size) (hy:b[ib]? = some y) (hx:a[ia]? = some x) (hle:val x≤val y):MA val T a b (out.push x) (ia+1) ib:=by
 unfold MA at h ⊢
 rw [zd0 hx] at h
 have:=MI.takeA (l1:=[x]) h fun p hp q hq=>by
  rw [aW.mp hp]
  exact bY hle (zd1 sb hy hq)
 simpa using this
theorem zlf (xs:Array Keyed) (i k:Nat):xs.toList.drop i=(xs.extract i (i+k)).toList++xs.toList.drop (i+k):=by
 rw [dk]
 have:(xs.toList.extract i (i+k))=(xs.toList.drop i).take k:=by
  simp [c8] <;> lia
 rw [this,← i4,b8]
theorem zd2 {xs:Array Keyed} {i k:Nat} {p:Keyed} (h:p∈(xs.extract i (i+k)).toList):∃ j,j < k∧xs[i+j]? = some p:=by
 have e0:(xs.extract i (i+k)).toList=(xs.toList.drop i).take k:=by
  rw [dk]
  simp [c8] <;> lia
 rw [e0] at h
 (obtain⟨j,hj,e⟩:=et h)
 have hj2:j < k∧j < (xs.toList.drop i).length:=by
  rw [aD] at hj
  lia
 refine⟨j,hj2.1,?_⟩
 rw [← bp,← eG,aj hj2.2,← e,jV]
theorem MA.takeA {y:Keyed} {k:Nat} (h:MA val T a b out ia ib) (sb:SIn val b 0 b.size) (hy:b[ib]? = some y) (hle:∀ i,i < k→Vk val a (ia+i)≤val y):MA val T a b (out++a.extract ia (ia+k)) (ia+k) ib:=by
 unfold MA at h ⊢
 rw [zlf a ia k] at h
 have:=MI.takeA h fun p hp q hq=>by
  obtain⟨j,hj,e⟩:=zd2 hp
  have:=hle j hj
  rw [zV e] at this
  exact bY this (zd1 sb hy hq)
 simpa using this
theorem MA.takeB {x:Keyed} {k:Nat} (h:MA val T a b out ia ib) (sa:SIn val a 0 a.size) (hx:a[ia]? = some x) (hle:∀ i,i < k→Vk val b (ib+i)≤val x):MA val T a b (out++b.extract ib (ib+k)) ia (ib+k):=by
 unfold MA at h ⊢
 rw [zlf b ib k] at h
 have:=MI.takeB h fun p hp q hq=>by
  obtain⟨j,hj,e⟩:=zd2 hp
  have:=hle j hj
  rw [zV e] at this
  exact bY this (zd1 sa hx hq)
 simpa using this
theorem zcC (xs:Array Keyed) (i:Nat):(xs.extract i xs.size).toList=xs.toList.drop i:=by
 rw [dk]
 simp only [c8]
 (exact aM (by simp))
theorem MA.doneB (h:MA val T a b out ia ib) (e:ib=b.size):Good val T (out++a.extract ia a.size++b.extract ib b.size).toList:=by
 unfold MA at h
 rw [show b.toList.drop ib = [] from dD (by simp [e])] at h
 have:=h.doneA
 rw [bL,bL,zcC,zcC,show b.toList.drop ib = [] from dD (by simp [e]),bD]
 exact this
theorem MA.doneA (h:MA val T a b out ia ib) (e:ia=a.size):Good val T (out++a.extract ia a.size++b.extract ib b.size).toList:=by
 unfold MA at h
 rw [show a.toList.drop ia = [] from dD (by simp [e])] at h
 have:=h.doneB
 rw [bL,bL,zcC,zcC,show a.toList.drop ia = [] from dD (by simp [e]),bD]
 exact this
theorem MA.last (h:MA val T a b out ia ib) (e:ia+1=a.size) (hl:∀ i,i < b.size→Vk val b i≤Vk val a (a.size - 1)):Good val T (out++b.extract ib b.size++a.extract ia a.size).toList:=by
 unfold MA at h
 have hx:a[ia]? = some (a[ia]'(by lia)):=getElem?_pos a ia (by lia)
 have:=h.last fun p hp q hq=>by
  rw [zd0 hx,show a.toList.drop (ia+1) = [] from dD (by simp [e])] at hq
  rw [aW.mp hq]
  obtain⟨j,hj,ej⟩:=et (gj hp)
  have hj':j < b.size:=by simpa using hj
  have:=hl j hj'
  rw [zV (getElem?_pos b j hj'),show a.size - 1=ia by lia,zV hx] at this
  rw [← ej]
  simpa using this
 rw [bL,bL,zcC,zcC]
 exact this
end
end Srt
end
section
namespace Srt
open PySem PyProof.Rows
section
variable {prog:Program} {w:World} {A:Around} {E:Value→Shared→Prop} {s:Shared} {a₀:Array Keyed} {κ:SortKind} {val:Keyed→Int}
theorem zc9 {st:SortSt} {g:Nat} {Q:Unit→SortSt→Prop} (h:Q () (zak st g)):wpS (model prog w) A E s (zcR g) Q st:=by
 rw [zdr]
 exact dC h
theorem zat {xs:Array Keyed} {i:Nat} (h:i < xs.size):∃ p,xs[i]? = some p∧p∈xs.toList:=⟨xs[i],getElem?_pos xs i h,by simp⟩
theorem zcf {key:Keyed} {arr:Array Keyed} {base i:Nat} (h:bB val true key arr base i=true):Vk val arr (base+i) < val key:=by
 unfold bB at h
 simpa using h
theorem zda {key:Keyed} {arr:Array Keyed} {base i:Nat} (h:bB val false key arr base i=true):Vk val arr (base+i)≤val key:=by
 unfold bB at h
 simp at h
 lia
theorem zcW {key:Keyed} {arr:Array Keyed} {base i:Nat} (h:bB val true key arr base i=false):val key≤Vk val arr (base+i):=by
 unfold bB at h
 simp at h
 lia
theorem zd3 {key:Keyed} {arr:Array Keyed} {base i:Nat} (h:bB val false key arr base i=false):val key < Vk val arr (base+i):=by
 unfold bB at h
 simp at h
 exact h
theorem SIn.sub {xs:Array Keyed} {lo hi lo' hi':Nat} (h:SIn val xs lo hi) (h1:lo≤lo') (h2:hi'≤hi):SIn val xs lo' hi':=fun i j a b c=>h i j (by lia) b (by lia)
theorem zjR {st:SortSt} {a b:Array Keyed} {Q:Array Keyed→SortSt→Prop} (hC:Cmp prog w A s κ val a₀) (hk:kindOf st=κ) (ma:∀ p∈a.toList,p∈a₀.toList) (mb:∀ p∈b.toList,p∈a₀.toList)
  (sa:SIn val a 0 a.size) (sb:SIn val b 0 b.size) (h1:1≤a.size) (h2:1≤b.size) (hf:Vk val b 0≤Vk val a 0) (hl:∀ i,i < b.size→Vk val b i≤Vk val a (a.size - 1))
  (h:∀ out g,Good val (a.toList++b.toList) out.toList→Q out (zak st g)):wpS (model prog w) A E s (zlc a b) Q st:=by
 refine zf7 ?_
 wp_delta
 wp_delta
 refine zf8 ?_
 (refine ar (gw (cb ⟨rfl,?_⟩)))
 obtain⟨y0,ey0,my0⟩:=zat (xs:=b) (i:=0) (by lia)
 obtain⟨x0,ex0,mx0⟩:=zat (xs:=a) (i:=0) (by lia)
 refine ar (zQ ey0 ?_)
 have I0:MA val (a.toList++b.toList) a b #[] 0 0:=⟨by simp,gW,zc8 sa 0,zc8 sb 0,fun x hx=>by simp at hx,fun x hx=>by simp at hx⟩
 have I1:MA val (a.toList++b.toList) a b #[y0] 0 1:=I0.pushB sa ey0 ex0 (by rw [zV ey0,zV ex0] at hf; exact hf)
 dsimp only
 by_cases hb1:1=b.size
 ·rw [if_pos (by simpa using hb1)]
  exact az (h _ (gallopOf st) (I1.doneB hb1))
 rw [if_neg (by simpa using hb1)]
 by_cases ha1:0+1=a.size
 ·rw [if_pos (by simpa using ha1)]
  exact az (h _ (gallopOf st) (I1.last (by lia) hl))
 rw [if_neg (by simpa using ha1)]
 refine ar (eU ?_)
 refine ar (cW (bX (I:=fun x c st'=>∃ g out ia ib mg,st'=zak st g∧c=(none,out,ia,ib,mg)∧MA val (a.toList++b.toList) a b out ia ib∧ia+1 < a.size∧ib < b.size∧x+1≤ia+ib)
  (Q:=fun c st'=>∃ g r o,st'=zak st g∧c=(some r,o)∧Good val (a.toList++b.toList) r.toList) ?step ?fin ⟨gallopOf st,#[y0],0,1,gallopOf st,rfl,rfl,I1,by lia,by lia,by lia⟩) ?post)
 case post =>
  rintro c st' ⟨g,r,o,rfl,rfl,hG⟩
  exact az (h _ g hG)
 case fin =>
  rintro c st' ⟨g,out,ia,ib,mg,rfl,rfl,hI,b1,b2,b3⟩
  lia
 case step =>
  rintro x c st' _ hx ⟨g,out,ia,ib,mg,rfl,rfl,hI,b1,b2,b3⟩
  dsimp only
  refine ar (cW (bX (I:=fun x c st'=>st'=zak st g∧∃ out' ia' ib' ac bc,c=(none,out',ia',ib',ac,bc)∧MA val (a.toList++b.toList) a b out' ia' ib'∧ia'+1 < a.size∧ib' < b.size∧ia+ib+x≤ia'+ib')
   (Q:=fun c st'=>st'=zak st g∧((∃ r o,c=(some r,o)∧Good val (a.toList++b.toList) r.toList)∨∃ out' ia' ib' ac bc,c=(none,out',ia',ib',ac,bc)∧MA val (a.toList++b.toList) a b out' ia' ib'∧ia'+1 < a.size∧ib' < b.size∧ia+ib+1≤ia'+ib')) ?step1 ?fin1 ⟨rfl,out,ia,ib,0,0,rfl,hI,b1,b2,by lia⟩) ?post1)
  case fin1 =>
   rintro c st' ⟨rfl,out',ia',ib',ac,bc,rfl,hI,b1,b2,b3⟩
   exact⟨rfl,.inr ⟨out',ia',ib',ac,bc,rfl,hI,b1,b2,by lia⟩⟩
  case step1 =>
   rintro x1 c st' _ hx1 ⟨rfl,out',ia',ib',ac,bc,rfl,hI,b1,b2,b3⟩
   dsimp only
   obtain⟨y,ey,my⟩:=zat (xs:=b) (i:=ib') (by lia)
   obtain⟨z,ez,mz⟩:=zat (xs:=a) (i:=ia') (by lia)
   refine ar (zQ ey (ar (zQ ez (ar (zk9 hC hk (mb y my) (ma z mz) ?_)))))
   dsimp only
   by_cases hyz:val y < val z
   ·rw [if_pos (by simpa using hyz)]
    refine ar (zQ ey ?_)
    have hI2:=hI.pushB sa ey ez (by lia)
    by_cases e1:ib'+1=b.size
    ·rw [if_pos (by simpa using e1)]
     exact az ⟨rfl,.inl ⟨_,_,rfl,hI2.doneB e1⟩⟩
    rw [if_neg (by simpa using e1)]
    split
    ·exact az ⟨rfl,.inr ⟨_,_,_,_,_,rfl,hI2,b1,by lia,by lia⟩⟩
    ·exact az ⟨rfl,_,_,_,_,_,rfl,hI2,b1,by lia,by lia⟩
   ·rw [if_neg (by simpa using hyz)]
    refine ar (zQ ez ?_)
    have hI2:=hI.pushA sb ey ez (by lia)
    by_cases e1:ia'+1+1=a.size
    ·rw [if_pos (by simpa using e1)]
     exact az ⟨rfl,.inl ⟨_,_,rfl,hI2.last e1 hl⟩⟩
    rw [if_neg (by simpa using e1)]
    split
    ·exact az ⟨rfl,.inr ⟨_,_,_,_,_,rfl,hI2,by lia,b2,by lia⟩⟩
    ·exact az ⟨rfl,_,_,_,_,_,rfl,hI2,by lia,b2,by lia⟩
  case post1 =>
   rintro c st' ⟨rfl,hc⟩
   rcases hc with ⟨r,o,rfl,hG⟩ | ⟨out1,ia1,ib1,ac1,bc1,rfl,hI1,c1,c2,c3⟩
   ·exact az ⟨g,r,_,rfl,rfl,hG⟩
   dsimp only
   (refine ar (gw (cb ⟨rfl,?_⟩)))
   refine ar (cW (bX (I:=fun x c st'=>∃ g out' ia' ib' mg ac bc,st'=zak st g∧c=(none,out',ia',ib',mg,ac,bc)∧MA val (a.toList++b.toList) a b out' ia' ib'∧ia'+1 < a.size∧ib' < b.size∧ia1+ib1≤ia'+ib')
    (Q:=fun c st'=>∃ g,st'=zak st g∧((∃ r o,c=(some r,o)∧Good val (a.toList++b.toList) r.toList)∨∃ out' ia' ib' mg ac bc,c=(none,out',ia',ib',mg,ac,bc)∧MA val (a.toList++b.toList) a b out' ia' ib'∧ia'+1 < a.size∧ib' < b.size∧ia1+ib1≤ia'+ib')) ?step2 ?fin2 ⟨g,out1,ia1,ib1,_,ac1,bc1,rfl,rfl,hI1,c1,c2,ag _⟩) ?post2)
   case fin2 =>
    rintro c st' ⟨g,out',ia',ib',mg,ac,bc,rfl,rfl,hI,b1,b2,b3⟩
    exact⟨g,rfl,.inr ⟨out',ia',ib',mg,ac,bc,rfl,hI,b1,b2,b3⟩⟩
   case post2 =>
    rintro c st' ⟨g,rfl,hc⟩
    rcases hc with ⟨r,o,rfl,hG⟩ | ⟨out2,ia2,ib2,mg2,ac2,bc2,rfl,hI2,d1,d2,d3⟩
    ·exact az ⟨g,r,_,rfl,rfl,hG⟩
    dsimp only
    refine ar (zc9 (az ⟨_,out2,ia2,ib2,_,rfl,rfl,hI2,d1,d2,by lia⟩))
   case step2 =>
    rintro x2 c st' _ hx2 ⟨g,out',ia',ib',mg',ac,bc,rfl,rfl,hI,b1,b2,b3⟩
    dsimp only
    obtain⟨y,ey,my⟩:=zat (xs:=b) (i:=ib') (by lia)
    by_cases hmg:mg' > 1
    all_goals
     first
      | rw [if_pos hmg]
      | rw [if_neg hmg]
     refine ar (zc9 (ar (zQ ey (ar (zbl hC hk (mb y my) (fun i hi=>(by
      obtain⟨p,ep,mp⟩:=zat (xs:=a) (i:=ia'+i) (by lia)
      exact⟨p,ep,ma p mp⟩)) (sa.sub (by lia) (by lia)) (by lia) fun k hk1 hk2 hk3=>?_)))))
     dsimp only
     have hI2:=hI.takeA (k:=k) sb ey fun i hi=>zda (hk2 i hi)
     by_cases hk0:k > 0
     ·rw [if_pos hk0]
      by_cases e1:ia'+k+1=a.size
      ·rw [if_pos (by simpa using e1)]
       exact az ⟨_,rfl,.inl ⟨_,_,rfl,hI2.last e1 hl⟩⟩
      rw [if_neg (by simpa using e1)]
      by_cases e2:ia'+k=a.size
      ·rw [if_pos (by simpa using e2)]
       exact az ⟨_,rfl,.inl ⟨_,_,rfl,hI2.doneA e2⟩⟩
      rw [if_neg (by simpa using e2)]
      refine ar (zQ ey ?_)
      obtain⟨z,ez,mz⟩:=zat (xs:=a) (i:=ia'+k) (by lia)
      have hI3:=hI2.pushB sa ey ez (by have:=zd3 (hk3 k (ag _) (by lia)); rw [zV ez] at this; lia)
      by_cases e3:ib'+1=b.size
      ·rw [if_pos (by simpa using e3)]
       exact az ⟨_,rfl,.inl ⟨_,_,rfl,hI3.doneB e3⟩⟩
      rw [if_neg (by simpa using e3)]
      refine ar (zQ ez (ar (zbl hC hk (ma z mz) (fun i hi=>(by
       obtain⟨p,ep,mp⟩:=zat (xs:=b) (i:=ib'+1+i) (by lia)
       exact⟨p,ep,mb p mp⟩)) (sb.sub (by lia) (by lia)) (by lia) fun j hj1 hj2 hj3=>?_)))
      dsimp only
      have hI4:=hI3.takeB (k:=j) sa ez fun i hi=>eW (zcf (hj2 i hi))
      by_cases hj0:j > 0
      ·rw [if_pos hj0]
       by_cases e4:ib'+1+j=b.size
       ·rw [if_pos (by simpa using e4)]
        exact az ⟨_,rfl,.inl ⟨_,_,rfl,hI4.doneB e4⟩⟩
       rw [if_neg (by simpa using e4)]
       obtain⟨y2,ey2,my2⟩:=zat (xs:=b) (i:=ib'+1+j) (by lia)
       refine ar (zQ ez ?_)
       have hIc:=hI4.pushA sb ey2 ez (by have:=zcW (hj3 j (ag _) (by lia)); rw [zV ey2] at this; exact this)
       by_cases e9:ia'+k+1+1=a.size
       ·rw [if_pos (by simpa using e9)]
        exact az ⟨_,rfl,.inl ⟨_,_,rfl,hIc.last e9 hl⟩⟩
       rw [if_neg (by simpa using e9)]
       split
       ·exact az ⟨_,rfl,.inr ⟨_,_,_,_,_,_,rfl,hIc,by lia,by lia,by lia⟩⟩
       ·exact az ⟨_,_,_,_,_,_,_,rfl,rfl,hIc,by lia,by lia,by lia⟩
      ·rw [if_neg hj0]
       have hj00:j=0:=by lia
       subst hj00
       obtain⟨y2,ey2,my2⟩:=zat (xs:=b) (i:=ib'+1) (by lia)
       refine ar (zQ ez ?_)
       have hIc:=hI3.pushA sb ey2 ez (by have:=zcW (hj3 0 (ag _) (by lia)); rw [fI,zV ey2] at this; exact this)
       by_cases e9:ia'+k+1+1=a.size
       ·rw [if_pos (by simpa using e9)]
        exact az ⟨_,rfl,.inl ⟨_,_,rfl,hIc.last e9 hl⟩⟩
       rw [if_neg (by simpa using e9)]
       split
       ·exact az ⟨_,rfl,.inr ⟨_,_,_,_,_,_,rfl,hIc,by lia,by lia,by lia⟩⟩
       ·exact az ⟨_,_,_,_,_,_,_,rfl,rfl,hIc,by lia,by lia,by lia⟩
     ·rw [if_neg hk0]
      have hk00:k=0:=by lia
      subst hk00
      refine ar (zQ ey ?_)
      obtain⟨z,ez,mz⟩:=zat (xs:=a) (i:=ia') (by lia)
      have hI3:=hI.pushB sa ey ez (by have:=zd3 (hk3 0 (ag _) (by lia)); rw [fI,zV ez] at this; lia)
      by_cases e3:ib'+1=b.size
      ·rw [if_pos (by simpa using e3)]
       exact az ⟨_,rfl,.inl ⟨_,_,rfl,hI3.doneB e3⟩⟩
      rw [if_neg (by simpa using e3)]
      refine ar (zQ ez (ar (zbl hC hk (ma z mz) (fun i hi=>(by
       obtain⟨p,ep,mp⟩:=zat (xs:=b) (i:=ib'+1+i) (by lia)
       exact⟨p,ep,mb p mp⟩)) (sb.sub (by lia) (by lia)) (by lia) fun j hj1 hj2 hj3=>?_)))
      dsimp only
      have hI4:=hI3.takeB (k:=j) sa ez fun i hi=>eW (zcf (hj2 i hi))
      by_cases hj0:j > 0
      ·rw [if_pos hj0]
       by_cases e4:ib'+1+j=b.size
       ·rw [if_pos (by simpa using e4)]
        exact az ⟨_,rfl,.inl ⟨_,_,rfl,hI4.doneB e4⟩⟩
       rw [if_neg (by simpa using e4)]
       obtain⟨y2,ey2,my2⟩:=zat (xs:=b) (i:=ib'+1+j) (by lia)
       refine ar (zQ ez ?_)
       have hIc:=hI4.pushA sb ey2 ez (by have:=zcW (hj3 j (ag _) (by lia)); rw [zV ey2] at this; exact this)
       by_cases e9:ia'+1+1=a.size
       ·rw [if_pos (by simpa using e9)]
        exact az ⟨_,rfl,.inl ⟨_,_,rfl,hIc.last e9 hl⟩⟩
       rw [if_neg (by simpa using e9)]
       split
       ·exact az ⟨_,rfl,.inr ⟨_,_,_,_,_,_,rfl,hIc,by lia,by lia,by lia⟩⟩
       ·exact az ⟨_,_,_,_,_,_,_,rfl,rfl,hIc,by lia,by lia,by lia⟩
      ·rw [if_neg hj0]
       have hj00:j=0:=by lia
       subst hj00
       obtain⟨y2,ey2,my2⟩:=zat (xs:=b) (i:=ib'+1) (by lia)
       refine ar (zQ ez ?_)
       have hIc:=hI3.pushA sb ey2 ez (by have:=zcW (hj3 0 (ag _) (by lia)); rw [fI,zV ey2] at this; exact this)
       by_cases e9:ia'+1+1=a.size
       ·rw [if_pos (by simpa using e9)]
        exact az ⟨_,rfl,.inl ⟨_,_,rfl,hIc.last e9 hl⟩⟩
       rw [if_neg (by simpa using e9)]
       split
       ·exact az ⟨_,rfl,.inr ⟨_,_,_,_,_,_,rfl,hIc,by lia,by lia,by lia⟩⟩
       ·exact az ⟨_,_,_,_,_,_,_,rfl,rfl,hIc,by lia,by lia,by lia⟩
end
end Srt
end
section
namespace Srt
open PySem PyProof.Rows
structure MH (val:Keyed→Int) (T l r o:List Keyed):Prop where
 perm:(l++r++o).Perm T
 so:Ris val o
 sl:Ris val l
 sr:Ris val r
 lo:Le val l o
 ro:Le val r o
section
variable {val:Keyed→Int} {T o l l1 l2 r r1 r2:List Keyed}
theorem MH.takeA (h:MH val T (l1++l2) r o) (hle:Le val r l2):MH val T l1 r (l2++o):=by
 obtain⟨a1,a2,a3⟩:=zav.mp h.sl
 refine⟨?_,zav.mpr ⟨a2,h.so,h.lo.right⟩,a1,h.sr,a3.app' h.lo.left,hle.app' h.ro⟩
 refine dO ?_ h.perm
 have:(r++l2).Perm (l2++r):=List.perm_append_comm
 have:=(this.append_left l1).append_right o
 simpa [aY] using this
theorem MH.takeB (h:MH val T l (r1++r2) o) (hle:Le val l r2):MH val T l r1 (r2++o):=by
 obtain⟨a1,a2,a3⟩:=zav.mp h.sr
 exact⟨by have:=h.perm; simpa [aY] using this,zav.mpr ⟨a2,h.so,h.ro.right⟩,h.sl,a1,hle.app' h.lo,a3.app' h.ro.left⟩
theorem MH.doneA (h:MH val T [] r o):Good val T (r++o):=⟨by have:=h.perm; simpa using this,zav.mpr ⟨h.sr,h.so,h.ro⟩⟩
theorem MH.doneB (h:MH val T l [] o):Good val T (l++o):=⟨by have:=h.perm; simpa using this,zav.mpr ⟨h.sl,h.so,h.lo⟩⟩
theorem MH.first (h:MH val T l r o) (hle:Le val r l):Good val T (r++l++o):=by
 refine⟨dO (List.perm_append_comm.append_right _) h.perm,?_⟩
 exact zav.mpr ⟨zav.mpr ⟨h.sr,h.sl,hle⟩,h.so,h.ro.app h.lo⟩
end
section
variable {val:Keyed→Int} {T:List Keyed} {a b out:Array Keyed} {na nb:Nat}
abbrev MB (val:Keyed→Int) (T:List Keyed) (a b out:Array Keyed) (na nb:Nat):Prop:=MH val T (a.toList.take na) (b.toList.take nb) out.toList.reverse
theorem ziJ {xs:Array Keyed} {n:Nat} {p:Keyed} (h:xs[n]? = some p):xs.toList.take (n+1)=xs.toList.take n++[p]:=by
 rw [List.take_succ,bp,h]
 rfl
theorem zg8 {xs:Array Keyed} (h:SIn val xs 0 xs.size) (i:Nat):Ris val (xs.toList.take i):=by
 have:=zc8 h 0
 rw [cZ] at this
 exact eX (cj _ _) this
theorem zeA {xs:Array Keyed} {n:Nat} {p:Keyed} (h:p∈xs.toList.take n):∃ j,j < n∧j < xs.size∧xs[j]? = some p:=by
 (obtain⟨j,hj,e⟩:=et h)
 have hj2:j < n∧j < xs.toList.length:=by
  rw [aD] at hj
  lia
 refine⟨j,hj2.1,by simpa using hj2.2,?_⟩
 rw [← bp,aj hj2.2,← e,jV]
theorem zd4 {xs:Array Keyed} {n:Nat} {p q:Keyed} (h:SIn val xs 0 xs.size) (hp:xs[n]? = some p) (hq:q∈xs.toList.take (n+1)):val q≤val p:=by
 obtain⟨j,hj,hjs,e⟩:=zeA hq
 have hn:=(cT.mp hp).1
 have:=h j n (bi _) (by lia) hn
 rw [zV e,zV hp] at this
 exact this
theorem MB.pushA {y x:Keyed} (h:MB val T a b out (na+1) nb) (sb:SIn val b 0 b.size) (hn:1≤nb) (hy:b[nb - 1]? = some y) (hx:a[na]? = some x) (hle:val y≤val x):MB val T a b (out.push x) na nb:=by
 unfold MB at h ⊢
 rw [ziJ hx] at h
 have:=MH.takeA h fun p hp q hq=>by
  rw [aW.mp hq]
  exact bY (zd4 sb hy (by rw [show nb - 1+1=nb by lia]; exact hp)) hle
 simpa using this
theorem MB.pushB {y x:Keyed} (h:MB val T a b out na (nb+1)) (sa:SIn val a 0 a.size) (hn:1≤na) (hy:b[nb]? = some y) (hx:a[na - 1]? = some x) (hle:val x≤val y):MB val T a b (out.push y) na nb:=by
 unfold MB at h ⊢
 rw [ziJ hy] at h
 have:=MH.takeB h fun p hp q hq=>by
  rw [aW.mp hq]
  exact bY (zd4 sa hx (by rw [show na - 1+1=na by lia]; exact hp)) hle
 simpa using this
theorem ziK (xs:Array Keyed) {i n:Nat} (h:i≤n):xs.toList.take n=xs.toList.take i++(xs.extract i n).toList:=by
 rw [dk]
 simp only [c8]
 rw [← b8 i (xs.toList.take n),kH,cD h,List.drop_take]
theorem MB.takeA {y:Keyed} {at':Nat} (h:MB val T a b out na nb) (sb:SIn val b 0 b.size) (hat:at'≤na) (hn:1≤nb) (hy:b[nb - 1]? = some y) (hle:∀ i,at'≤i→i < na→val y≤Vk val a i):MB val T a b (out++(a.extract at' na).reverse) at' nb:=by
 unfold MB at h ⊢
 rw [ziK a hat] at h
 have:=MH.takeA h fun p hp q hq=>by
  have hq2:q∈(a.extract at' (at'+(na - at'))).toList:=by rw [show at'+(na - at')=na by lia]; exact hq
  obtain⟨j,hj,e⟩:=zd2 hq2
  have:=hle (at'+j) (by lia) (by lia)
  rw [zV e] at this
  exact bY (zd4 sb hy (by rw [show nb - 1+1=nb by lia]; exact hp)) this
 simpa using this
theorem MB.takeB {x:Keyed} {at':Nat} (h:MB val T a b out na nb) (sa:SIn val a 0 a.size) (hat:at'≤nb) (hn:1≤na) (hx:a[na - 1]? = some x) (hle:∀ i,at'≤i→i < nb→val x≤Vk val b i):MB val T a b (out++(b.extract at' nb).reverse) na at':=by
 unfold MB at h ⊢
 rw [ziK b hat] at h
 have:=MH.takeB h fun p hp q hq=>by
  have hq2:q∈(b.extract at' (at'+(nb - at'))).toList:=by rw [show at'+(nb - at')=nb by lia]; exact hq
  obtain⟨j,hj,e⟩:=zd2 hq2
  have:=hle (at'+j) (by lia) (by lia)
  rw [zV e] at this
  exact bY (zd4 sa hx (by rw [show na - 1+1=na by lia]; exact hp)) this
 simpa using this
theorem zb3 (xs:Array Keyed) (n:Nat):(xs.extract 0 n).toList=xs.toList.take n:=by
 rw [dk]
 simp [c8]
theorem MB.doneA (h:MB val T a b out na nb) (e:na=0):Good val T (a.extract 0 na++b.extract 0 nb++out.reverse).toList:=by
 unfold MB at h
 subst e
 have:=MH.doneA h
 rw [bL,bL,zb3,zb3,dv,iG,gk]
 exact this
theorem MB.doneB (h:MB val T a b out na nb) (e:nb=0):Good val T (a.extract 0 na++b.extract 0 nb++out.reverse).toList:=by
 unfold MB at h
 subst e
 have:=MH.doneB h
 rw [bL,bL,zb3,zb3,dv,bD,gk]
 exact this
theorem MB.first (h:MB val T a b out na nb) (e:nb=1) (sa:SIn val a 0 a.size) (h2:1≤b.size) (hf:Vk val b 0≤Vk val a 0):Good val T (b.extract 0 nb++a.extract 0 na++out.reverse).toList:=by
 unfold MB at h
 subst e
 have:=MH.first h fun p hp q hq=>by
  obtain⟨j,hj,hjs,ej⟩:=zeA hp
  have hj0:j=0:=by lia
  subst hj0
  obtain⟨i,hi,his,ei⟩:=zeA hq
  have:=sa 0 i (bi _) (bi _) his
  rw [zV ei] at this
  rw [zV ej] at hf
  lia
 rw [bL,bL,zb3,zb3,gk]
 exact this
end
section
variable {prog:Program} {w:World} {A:Around} {E:Value→Shared→Prop} {s:Shared} {a₀:Array Keyed} {κ:SortKind} {val:Keyed→Int}
theorem zjS {st:SortSt} {a b:Array Keyed} {Q:Array Keyed→SortSt→Prop} (hC:Cmp prog w A s κ val a₀) (hk:kindOf st=κ) (ma:∀ p∈a.toList,p∈a₀.toList) (mb:∀ p∈b.toList,p∈a₀.toList)
  (sa:SIn val a 0 a.size) (sb:SIn val b 0 b.size) (h1:1≤a.size) (h2:1≤b.size) (hf:Vk val b 0≤Vk val a 0) (hl:∀ i,i < b.size→Vk val b i≤Vk val a (a.size - 1))
  (h:∀ out g,Good val (a.toList++b.toList) out.toList→Q out (zak st g)):wpS (model prog w) A E s (zld a b) Q st:=by
 refine zf7 ?_
 wp_delta
 wp_delta
 refine zf8 ?_
 (refine ar (gw (cb ⟨rfl,?_⟩)))
 obtain⟨x0,ex0,mx0⟩:=zat (xs:=a) (i:=a.size - 1) (by lia)
 obtain⟨y0,ey0,my0⟩:=zat (xs:=b) (i:=b.size - 1) (by lia)
 refine ar (zQ ex0 ?_)
 have I0:MB val (a.toList++b.toList) a b #[] (a.size - 1+1) b.size:=by
  refine⟨?_,gW,zg8 sa _,zg8 sb _,fun x _ y hy=>by simp at hy,fun x _ y hy=>by simp at hy⟩
  rw [show a.size - 1+1=a.size by lia,aM (by simp),aM (by simp)]
  simp
 have I1:MB val (a.toList++b.toList) a b #[x0] (a.size - 1) b.size:=I0.pushA sb h2 ey0 ex0 (by have:=hl (b.size - 1) (by lia); rw [zV ey0,zV ex0] at this; exact this)
 dsimp only
 by_cases ha1:a.size - 1=0
 ·rw [if_pos (by simpa using ha1)]
  exact az (h _ (gallopOf st) (I1.doneA ha1))
 rw [if_neg (by simpa using ha1)]
 by_cases hb1:b.size=1
 ·rw [if_pos (by simpa using hb1)]
  exact az (h _ (gallopOf st) (I1.first hb1 sa h2 hf))
 rw [if_neg (by simpa using hb1)]
 refine ar (eU ?_)
 refine ar (cW (bX (I:=fun x c st'=>∃ g out na nb mg,st'=zak st g∧c=(none,na,nb,out,mg)∧MB val (a.toList++b.toList) a b out na nb∧1≤na∧2≤nb∧na≤a.size∧nb≤b.size∧x+na+nb+1≤a.size+b.size)
  (Q:=fun c st'=>∃ g r o,st'=zak st g∧c=(some r,o)∧Good val (a.toList++b.toList) r.toList) ?step ?fin ⟨gallopOf st,#[x0],a.size - 1,b.size,gallopOf st,rfl,rfl,I1,by lia,by lia,by lia,by lia,by lia⟩) ?post)
 case post =>
  rintro c st' ⟨g,r,o,rfl,rfl,hG⟩
  exact az (h _ g hG)
 case fin =>
  rintro c st' ⟨g,out,na,nb,mg,rfl,rfl,hI,b1,b2,b3⟩
  lia
 case step =>
  rintro x c st' _ hx ⟨g,out,na,nb,mg,rfl,rfl,hI,b1,b2,b4,b5,b3⟩
  dsimp only
  refine ar (cW (bX (I:=fun x c st'=>st'=zak st g∧∃ out' na' nb' ac bc,c=(none,na',nb',out',ac,bc)∧MB val (a.toList++b.toList) a b out' na' nb'∧1≤na'∧2≤nb'∧na'≤a.size∧nb'≤b.size∧x+na'+nb'≤na+nb)
   (Q:=fun c st'=>st'=zak st g∧((∃ r o,c=(some r,o)∧Good val (a.toList++b.toList) r.toList)∨∃ out' na' nb' ac bc,c=(none,na',nb',out',ac,bc)∧MB val (a.toList++b.toList) a b out' na' nb'∧1≤na'∧2≤nb'∧na'≤a.size∧nb'≤b.size∧1+na'+nb'≤na+nb)) ?step1 ?fin1 ⟨rfl,out,na,nb,0,0,rfl,hI,b1,b2,b4,b5,by lia⟩) ?post1)
  case fin1 =>
   rintro c st' ⟨rfl,out',na',nb',ac,bc,rfl,hI,b1,b2,b4,b5,b3⟩
   exact⟨rfl,.inr ⟨out',na',nb',ac,bc,rfl,hI,b1,b2,b4,b5,by lia⟩⟩
  case step1 =>
   rintro x1 c st' _ hx1 ⟨rfl,out',na',nb',ac,bc,rfl,hI,b1,b2,b4,b5,b3⟩
   dsimp only
   obtain⟨n1,rfl⟩:∃ n1,na'=n1+1:=⟨na' - 1,by lia⟩
   obtain⟨m1,rfl⟩:∃ m1,nb'=m1+1:=⟨nb' - 1,by lia⟩
   simp only [cH]
   obtain⟨y,ey,my⟩:=zat (xs:=b) (i:=m1) (by lia)
   obtain⟨z,ez,mz⟩:=zat (xs:=a) (i:=n1) (by lia)
   refine ar (zQ ey (ar (zQ ez (ar (zk9 hC hk (mb y my) (ma z mz) ?_)))))
   dsimp only
   by_cases hyz:val y < val z
   ·rw [if_pos (by simpa using hyz)]
    refine ar (zQ ez ?_)
    have hI2:=hI.pushA sb (by lia) ey ez (by lia)
    by_cases e1:n1=0
    ·rw [if_pos (by simpa using e1)]
     exact az ⟨rfl,.inl ⟨_,_,rfl,hI2.doneA e1⟩⟩
    rw [if_neg (by simpa using e1)]
    split
    ·exact az ⟨rfl,.inr ⟨_,_,_,_,_,rfl,hI2,by lia,by lia,by lia,by lia,by lia⟩⟩
    ·exact az ⟨rfl,_,_,_,_,_,rfl,hI2,by lia,by lia,by lia,by lia,by lia⟩
   ·rw [if_neg (by simpa using hyz)]
    refine ar (zQ ey ?_)
    have hI2:=hI.pushB sa (by lia) ey ez (by lia)
    by_cases e1:m1=1
    ·rw [if_pos (by simpa using e1)]
     exact az ⟨rfl,.inl ⟨_,_,rfl,hI2.first e1 sa h2 hf⟩⟩
    rw [if_neg (by simpa using e1)]
    split
    ·exact az ⟨rfl,.inr ⟨_,_,_,_,_,rfl,hI2,by lia,by lia,by lia,by lia,by lia⟩⟩
    ·exact az ⟨rfl,_,_,_,_,_,rfl,hI2,by lia,by lia,by lia,by lia,by lia⟩
  case post1 =>
   rintro c st' ⟨rfl,hc⟩
   rcases hc with ⟨r,o,rfl,hG⟩ | ⟨out1,na1,nb1,ac1,bc1,rfl,hI1,c1,c2,c4,c5,c3⟩
   ·exact az ⟨g,r,_,rfl,rfl,hG⟩
   dsimp only
   (refine ar (gw (cb ⟨rfl,?_⟩)))
   refine ar (cW (bX (I:=fun x c st'=>∃ g out' na' nb' mg ac bc,st'=zak st g∧c=(none,na',nb',out',mg,ac,bc)∧MB val (a.toList++b.toList) a b out' na' nb'∧1≤na'∧2≤nb'∧na'≤a.size∧nb'≤b.size∧na'+nb'≤na1+nb1)
    (Q:=fun c st'=>∃ g,st'=zak st g∧((∃ r o,c=(some r,o)∧Good val (a.toList++b.toList) r.toList)∨∃ out' na' nb' mg ac bc,c=(none,na',nb',out',mg,ac,bc)∧MB val (a.toList++b.toList) a b out' na' nb'∧1≤na'∧2≤nb'∧na'≤a.size∧nb'≤b.size∧na'+nb'≤na1+nb1)) ?step2 ?fin2 ⟨g,out1,na1,nb1,_,ac1,bc1,rfl,rfl,hI1,c1,c2,c4,c5,ag _⟩) ?post2)
   case fin2 =>
    rintro c st' ⟨g,out',na',nb',mg,ac,bc,rfl,rfl,hI,b1,b2,b4,b5,b3⟩
    exact⟨g,rfl,.inr ⟨out',na',nb',mg,ac,bc,rfl,hI,b1,b2,b4,b5,b3⟩⟩
   case post2 =>
    rintro c st' ⟨g,rfl,hc⟩
    rcases hc with ⟨r,o,rfl,hG⟩ | ⟨out2,na2,nb2,mg2,ac2,bc2,rfl,hI2,d1,d2,d4,d5,d3⟩
    ·exact az ⟨g,r,_,rfl,rfl,hG⟩
    dsimp only
    refine ar (zc9 (az ⟨_,out2,na2,nb2,_,rfl,rfl,hI2,d1,d2,d4,d5,by lia⟩))
   case step2 =>
    rintro x2 c st' _ hx2 ⟨g,out',na',nb',mg',ac,bc,rfl,rfl,hI,b1,b2,b4,b5,b3⟩
    dsimp only
    obtain⟨m1,rfl⟩:∃ m1,nb'=m1+1:=⟨nb' - 1,by lia⟩
    simp only [cH]
    obtain⟨y,ey,my⟩:=zat (xs:=b) (i:=m1) (by lia)
    by_cases hmg:mg' > 1
    all_goals
     first
      | rw [if_pos hmg]
      | rw [if_neg hmg]
     refine ar (zc9 (ar (zQ ey (ar (zbl hC hk (mb y my) (fun i hi=>(by
      obtain⟨p,ep,mp⟩:=zat (xs:=a) (i:=0+i) (by lia)
      exact⟨p,ep,ma p mp⟩)) (sa.sub (by lia) (by lia)) (by lia) fun k hk1 hk2 hk3=>?_)))))
     dsimp only
     have hI2:=hI.takeA (at':=k) sb hk1 (by lia) ey fun i h1 h2=>eW (by have:=zd3 (hk3 i h1 h2); rwa [dh] at this)
     by_cases hk0:na' - k > 0
     ·rw [if_pos hk0]
      by_cases e1:k=0
      ·rw [if_pos (by simpa using e1)]
       exact az ⟨_,rfl,.inl ⟨_,_,rfl,hI2.doneA e1⟩⟩
      rw [if_neg (by simpa using e1)]
      obtain⟨n1,rfl⟩:∃ n1,k=n1+1:=⟨k - 1,by lia⟩
      simp only [cH]
      refine ar (zQ ey ?_)
      obtain⟨z,ez,mz⟩:=zat (xs:=a) (i:=n1) (by lia)
      have hI3:=hI2.pushB sa (by lia) ey (show a[n1+1 - 1]? = some z by rw [cH]; exact ez) (by have:=zda (hk2 n1 (by lia)); rw [dh,zV ez] at this; exact this)
      by_cases e3:m1=1
      ·rw [if_pos (by simpa using e3)]
       exact az ⟨_,rfl,.inl ⟨_,_,rfl,hI3.first e3 sa h2 hf⟩⟩
      rw [if_neg (by simpa using e3)]
      refine ar (zQ ez (ar (zbl hC hk (ma z mz) (fun i hi=>(by
       obtain⟨p,ep,mp⟩:=zat (xs:=b) (i:=0+i) (by lia)
       exact⟨p,ep,mb p mp⟩)) (sb.sub (by lia) (by lia)) (by lia) fun j hj1 hj2 hj3=>?_)))
      dsimp only
      have hI4:=hI3.takeB (at':=j) sa hj1 (by lia) (show a[n1+1 - 1]? = some z by rw [cH]; exact ez) fun i h1 h2=>(by have:=zcW (hj3 i h1 h2); rwa [dh] at this)
      by_cases hj0:m1 - j > 0
      ·rw [if_pos hj0]
       by_cases e4:j=1
       ·rw [if_pos (by simpa using e4)]
        exact az ⟨_,rfl,.inl ⟨_,_,rfl,hI4.first e4 sa h2 hf⟩⟩
       rw [if_neg (by simpa using e4)]
       by_cases e5:j=0
       ·rw [if_pos (by simpa using e5)]
        exact az ⟨_,rfl,.inl ⟨_,_,rfl,hI4.doneB e5⟩⟩
       rw [if_neg (by simpa using e5)]
       obtain⟨y2,ey2,my2⟩:=zat (xs:=b) (i:=j - 1) (by lia)
       refine ar (zQ ez ?_)
       have hIc:=hI4.pushA sb (by lia) ey2 ez (by have:=zcf (hj2 (j - 1) (by lia)); rw [dh,zV ey2] at this; lia)
       by_cases e9:n1=0
       ·rw [if_pos (by simpa using e9)]
        exact az ⟨_,rfl,.inl ⟨_,_,rfl,hIc.doneA e9⟩⟩
       rw [if_neg (by simpa using e9)]
       split
       ·exact az ⟨_,rfl,.inr ⟨_,_,_,_,_,_,rfl,hIc,by lia,by lia,by lia,by lia,by lia⟩⟩
       ·exact az ⟨_,_,_,_,_,_,_,rfl,rfl,hIc,by lia,by lia,by lia,by lia,by lia⟩
      ·rw [if_neg hj0]
       have hjm:j=m1:=by lia
       subst hjm
       obtain⟨y2,ey2,my2⟩:=zat (xs:=b) (i:=j - 1) (by lia)
       refine ar (zQ ez ?_)
       have hIc:=hI3.pushA sb (by lia) ey2 ez (by have:=zcf (hj2 (j - 1) (by lia)); rw [dh,zV ey2] at this; lia)
       by_cases e9:n1=0
       ·rw [if_pos (by simpa using e9)]
        exact az ⟨_,rfl,.inl ⟨_,_,rfl,hIc.doneA e9⟩⟩
       rw [if_neg (by simpa using e9)]
       split
       ·exact az ⟨_,rfl,.inr ⟨_,_,_,_,_,_,rfl,hIc,by lia,by lia,by lia,by lia,by lia⟩⟩
       ·exact az ⟨_,_,_,_,_,_,_,rfl,rfl,hIc,by lia,by lia,by lia,by lia,by lia⟩
     ·rw [if_neg hk0]
      have hkn:k=na':=by lia
      subst hkn
      obtain⟨n1,rfl⟩:∃ n1,k=n1+1:=⟨k - 1,by lia⟩
      simp only [cH]
      refine ar (zQ ey ?_)
      obtain⟨z,ez,mz⟩:=zat (xs:=a) (i:=n1) (by lia)
      have hI3:=hI.pushB sa (by lia) ey (show a[n1+1 - 1]? = some z by rw [cH]; exact ez) (by have:=zda (hk2 n1 (by lia)); rw [dh,zV ez] at this; exact this)
      by_cases e3:m1=1
      ·rw [if_pos (by simpa using e3)]
       exact az ⟨_,rfl,.inl ⟨_,_,rfl,hI3.first e3 sa h2 hf⟩⟩
      rw [if_neg (by simpa using e3)]
      refine ar (zQ ez (ar (zbl hC hk (ma z mz) (fun i hi=>(by
       obtain⟨p,ep,mp⟩:=zat (xs:=b) (i:=0+i) (by lia)
       exact⟨p,ep,mb p mp⟩)) (sb.sub (by lia) (by lia)) (by lia) fun j hj1 hj2 hj3=>?_)))
      dsimp only
      have hI4:=hI3.takeB (at':=j) sa hj1 (by lia) (show a[n1+1 - 1]? = some z by rw [cH]; exact ez) fun i h1 h2=>(by have:=zcW (hj3 i h1 h2); rwa [dh] at this)
      by_cases hj0:m1 - j > 0
      ·rw [if_pos hj0]
       by_cases e4:j=1
       ·rw [if_pos (by simpa using e4)]
        exact az ⟨_,rfl,.inl ⟨_,_,rfl,hI4.first e4 sa h2 hf⟩⟩
       rw [if_neg (by simpa using e4)]
       by_cases e5:j=0
       ·rw [if_pos (by simpa using e5)]
        exact az ⟨_,rfl,.inl ⟨_,_,rfl,hI4.doneB e5⟩⟩
       rw [if_neg (by simpa using e5)]
       obtain⟨y2,ey2,my2⟩:=zat (xs:=b) (i:=j - 1) (by lia)
       refine ar (zQ ez ?_)
       have hIc:=hI4.pushA sb (by lia) ey2 ez (by have:=zcf (hj2 (j - 1) (by lia)); rw [dh,zV ey2] at this; lia)
       by_cases e9:n1=0
       ·rw [if_pos (by simpa using e9)]
        exact az ⟨_,rfl,.inl ⟨_,_,rfl,hIc.doneA e9⟩⟩
       rw [if_neg (by simpa using e9)]
       split
       ·exact az ⟨_,rfl,.inr ⟨_,_,_,_,_,_,rfl,hIc,by lia,by lia,by lia,by lia,by lia⟩⟩
       ·exact az ⟨_,_,_,_,_,_,_,rfl,rfl,hIc,by lia,by lia,by lia,by lia,by lia⟩
      ·rw [if_neg hj0]
       have hjm:j=m1:=by lia
       subst hjm
       obtain⟨y2,ey2,my2⟩:=zat (xs:=b) (i:=j - 1) (by lia)
       refine ar (zQ ez ?_)
       have hIc:=hI3.pushA sb (by lia) ey2 ez (by have:=zcf (hj2 (j - 1) (by lia)); rw [dh,zV ey2] at this; lia)
       by_cases e9:n1=0
       ·rw [if_pos (by simpa using e9)]
        exact az ⟨_,rfl,.inl ⟨_,_,rfl,hIc.doneA e9⟩⟩
       rw [if_neg (by simpa using e9)]
       split
       ·exact az ⟨_,rfl,.inr ⟨_,_,_,_,_,_,rfl,hIc,by lia,by lia,by lia,by lia,by lia⟩⟩
       ·exact az ⟨_,_,_,_,_,_,_,rfl,rfl,hIc,by lia,by lia,by lia,by lia,by lia⟩
end
end Srt
end
section
namespace Srt
open PySem PyProof.Rows
def wb (sa:Nat) (l:List (Keyed×Nat)) (xs:Array Keyed):Array Keyed:=l.foldl (fun a (p,j)=>a.setIfInBounds (sa+j) p) xs
theorem zlg (sa:Nat):∀ (l:List Keyed) (n:Nat) (xs:Array Keyed) (k:Nat),sa+n+l.length≤xs.size→(wb sa (l.zipIdx n) xs)[k]? = if sa+n≤k∧k < sa+n+l.length then l[k - (sa+n)]? else xs[k]?
 | [],n,xs,k,h=>by
  rw [if_neg (by simp only [iJ]; lia)]
  rfl
 | p :: l,n,xs,k,h=>by
  have hl:(p :: l).length=l.length+1:=rfl
  rw [hl] at h ⊢
  show (wb sa (l.zipIdx (n+1)) (xs.setIfInBounds (sa+n) p))[k]? = _
  rw [zlg sa l (n+1) _ k (by rw [Array.size_setIfInBounds]; lia)]
  by_cases h1:sa+(n+1)≤k∧k < sa+(n+1)+l.length
  ·rw [if_pos h1,if_pos (by lia),show k - (sa+n)=k - (sa+(n+1))+1 by lia,cn]
  ·rw [if_neg h1,Array.getElem?_setIfInBounds]
   by_cases h2:sa+n=k
   ·rw [if_pos h2,if_pos (by lia),if_pos (by lia),show k - (sa+n)=0 by lia]
    rfl
   ·rw [if_neg h2,if_neg (by lia)]
theorem zmU {sa:Nat} {m xs:Array Keyed} (h:sa+m.size≤xs.size):(wb sa m.toList.zipIdx xs).toList=xs.toList.take sa++m.toList++xs.toList.drop (sa+m.size):=by
 have hm:m.toList.length=m.size:=by simp
 have hx:xs.toList.length=xs.size:=by simp
 refine cK fun k=>?_
 rw [bp,zlg sa m.toList 0 xs k (by rw [hm]; lia),hm,fI]
 by_cases h1:k < sa
 ·rw [if_neg (by lia),aY,bj (by rw [aD]; lia),bG h1,bp]
 ·by_cases h2:k < sa+m.size
  ·rw [if_pos (by lia),aY,bJ (by rw [aD]; lia),aD,hx,show min sa xs.size=sa by lia,bj (by lia)]
  ·rw [if_neg (by lia),bJ (by rw [ao,aD]; lia),ao,aD,hx,show min sa xs.size=sa by lia,hm,eG,show sa+m.size+(k - (sa+m.size))=k by lia,bp]
theorem zjT (xs:List Keyed) {i j k:Nat} (h1:i≤j) (h2:j≤k):xs=xs.take i++((xs.drop i).take (j - i)++(xs.drop j).take (k - j))++xs.drop k:=by
 have e1:xs.drop i=(xs.drop i).take (j - i)++xs.drop j:=by
  have:=(b8 (j - i) (xs.drop i)).symm
  rwa [i4,show i+(j - i)=j by lia] at this
 have e2:xs.drop j=(xs.drop j).take (k - j)++xs.drop k:=by
  have:=(b8 (k - j) (xs.drop j)).symm
  rwa [i4,show j+(k - j)=k by lia] at this
 have e0:=(b8 i xs).symm
 rw [e1,e2] at e0
 rw [aY,aY]
 exact e0
theorem zdb (xs:Array Keyed) (i j:Nat):(xs.extract i j).toList=(xs.toList.drop i).take (j - i):=by
 rw [dk]
theorem zmV {sa sb e:Nat} {m xs:Array Keyed} (h1:sa≤sb) (h2:sb≤e) (h3:e≤xs.size) (hp:m.toList.Perm ((xs.extract sa sb).toList++(xs.extract sb e).toList)):(wb sa m.toList.zipIdx xs).Perm xs:=by
 have hms:m.size=e - sa:=by
  have:=hp.length_eq
  rw [ao,zdb,zdb,aD,aD,bZ,bZ] at this
  have hx:xs.toList.length=xs.size:=by simp
  have hm:m.toList.length=m.size:=by simp
  lia
 rw [fm,zmU (by lia),show sa+m.size=e by lia]
 refine dO ((hp.append_left _).append_right _) ?_
 rw [zdb,zdb,← zjT xs.toList h1 h2]
section
variable {prog:Program} {w:World} {A:Around} {E:Value→Shared→Prop} {s:Shared} {a₀:Array Keyed} {κ:SortKind} {val:Keyed→Int}
theorem zcX {xs:Array Keyed} {i j k:Nat} (h:k < j - i) (hj:j≤xs.size):(xs.extract i j)[k]? = xs[i+k]?:=by
 rw [← bp,zdb,bG h,eG,bp]
theorem zdc {xs:Array Keyed} {i j:Nat} (hj:j≤xs.size):(xs.extract i j).size=j - i:=by rw [Array.size_extract,cD hj]
theorem ziL {xs:Array Keyed} {i j:Nat} (hj:j≤xs.size) (h:SIn val xs i j):SIn val (xs.extract i j) 0 (xs.extract i j).size:=by
 rw [zdc hj]
 intro p q _ hpq hq
 rw [z8 (zcX (by lia) hj),z8 (zcX hq hj)]
 exact h _ _ (by lia) (by lia) (by lia)
theorem zd5 {xs:Array Keyed} {i j:Nat} (hj:j≤xs.size) {p:Keyed} (h:p∈(xs.extract i j).toList):∃ k,i≤k∧k < j∧xs[k]? = some p:=by
 obtain⟨k,hk,e⟩:=et h
 have hk':k < j - i:=by
  rwa [bC,zdc hj] at hk
 refine⟨i+k,by lia,by lia,?_⟩
 rw [← zcX hk' hj,← bp,aj hk,e]
theorem zjU {st:SortSt} {i sa na pw sb nb pw2:Nat} {Q:Bool→SortSt→Prop} (hC:Cmp prog w A s κ val a₀) (hB:SB κ a₀ st) (e1:(pendingOf st)[i]? = some (sa,na,pw)) (e2:(pendingOf st)[i+1]? = some (sb,nb,pw2))
  (hsb:sb=sa+na) (hna:1≤na) (hnb:1≤nb) (hsz:sb+nb≤a₀.size) (sA:SIn val (arrOf st) sa (sa+na)) (sB:SIn val (arrOf st) sb (sb+nb))
  (h:∀ st',SB κ a₀ st'→pendingOf st'=((pendingOf st).setIfInBounds i (sa,na+nb,pw)).eraseIdxIfInBounds (i+1)→(∀ k,(k < sa∨sb+nb≤k)→(arrOf st')[k]? = (arrOf st)[k]?)→SIn val (arrOf st') sa (sb+nb)→Q true st') :
  wpS (model prog w) A E s (mergeAt' i) Q st:=by
 refine zf7 ?_
 wp_delta
 wp_delta
 refine zf8 ?_
 refine ar (eU ?_)
 rw [e1,e2]
 dsimp only
 have hsize:=hB.size
 obtain⟨y0,ey0,my0⟩:=hB.mem (i:=sb) (by lia)
 generalize hst1:(sortPriv% PySem.Builtin.SortState.mk) (kindOf st) (arrOf st) (((pendingOf st).setIfInBounds i (sa,na+nb,pw)).eraseIdxIfInBounds (i+1)) (gallopOf st) (failedOf st)=st1
 have hB1:SB κ a₀ st1:=by subst hst1; exact⟨hB.perm,hB.kind,hB.failed⟩
 have hp1:pendingOf st1=((pendingOf st).setIfInBounds i (sa,na+nb,pw)).eraseIdxIfInBounds (i+1):=by subst hst1; rfl
 have ha1:arrOf st1=arrOf st:=by subst hst1; rfl
 have memA:∀ n,n < a₀.size→∃ p,(arrOf st)[n]? = some p∧p∈a₀.toList:=fun n hn=>hB.mem hn
 refine ar (show wpS _ _ _ _ (set st1) _ st from dC (f:=fun _=>st1) ?_)
 refine ar (zQ ey0 (ar (zbl (arr:=arrOf st) hC hB1.kind my0 (fun j hj=>memA (sa+j) (by lia)) sA (by lia) fun k hk1 hk2 hk3=>?_)))
 dsimp only
 have lowA:∀ j,sa≤j→j < sa+k→Vk val (arrOf st) j≤Vk val (arrOf st) sb:=fun j h1 h2=>by
  have:=zda (hk2 (j - sa) (by lia))
  rwa [show sa+(j - sa)=j by lia,← zV (val:=val) ey0] at this
 by_cases hk0:na - k=0
 ·rw [if_pos (by simpa using hk0)]
  refine az (h st1 hB1 hp1 (fun _ _=>by rw [ha1]) ?_)
  rw [ha1]
  intro p q h1 h2 h3
  by_cases hq:q < sa+na
  ·exact sA p q h1 h2 hq
  ·by_cases hp:p < sa+na
   ·exact bY (lowA p h1 (by lia)) (sB sb q (by lia) (by lia) h3)
   ·exact sB p q (by lia) h2 h3
 rw [if_neg (by simpa using hk0)]
 have elast:sa+k+(na - k) - 1=sa+na - 1:=by lia
 rw [elast]
 obtain⟨x0,ex0,mx0⟩:=hB.mem (i:=sa+na - 1) (by lia)
 refine ar (zQ ex0 (ar (zbl (arr:=arrOf st) hC hB1.kind mx0 (fun j hj=>memA (sb+j) (by lia)) sB (by lia) fun m hm1 hm2 hm3=>?_)))
 dsimp only
 have highB:∀ j,sb+m≤j→j < sb+nb→Vk val (arrOf st) (sa+na - 1)≤Vk val (arrOf st) j:=fun j h1 h2=>by
  have:=zcW (hm3 (j - sb) (by lia) (by lia))
  rwa [show sb+(j - sb)=j by lia,← zV (val:=val) ex0] at this
 have lowB:∀ j,sb≤j→j < sb+m→Vk val (arrOf st) j < Vk val (arrOf st) (sa+na - 1):=fun j h1 h2=>by
  have:=zcf (hm2 (j - sb) (by lia))
  rwa [show sb+(j - sb)=j by lia,← zV (val:=val) ex0] at this
 by_cases hm0:m=0
 ·rw [if_pos (by simpa using hm0)]
  refine az (h st1 hB1 hp1 (fun _ _=>by rw [ha1]) ?_)
  rw [ha1]
  intro p q h1 h2 h3
  by_cases hq:q < sa+na
  ·exact sA p q h1 h2 hq
  ·by_cases hp:p < sa+na
   ·exact bY (sA p (sa+na - 1) h1 (by lia) (by lia)) (highB q (by lia) h3)
   ·exact sB p q (by lia) h2 h3
 rw [if_neg (by simpa using hm0)]
 have zx:(arrOf st).size=a₀.size:=hsize
 have z1:=zdc (xs:=arrOf st) (i:=sa+k) (j:=sb) (by lia)
 have z2:=zdc (xs:=arrOf st) (i:=sb) (j:=sb+m) (by lia)
 have hf:Vk val ((arrOf st).extract sb (sb+m)) 0≤Vk val ((arrOf st).extract (sa+k) sb) 0:=by
  rw [z8 (zcX (by lia) (by lia)),z8 (zcX (xs:=arrOf st) (i:=sa+k) (j:=sb) (k:=0) (by lia) (by lia))]
  have:=zd3 (hk3 k (ag _) (by lia))
  rw [← zV (val:=val) ey0] at this
  simp only [fI] at this ⊢
  lia
 have hl:∀ j,j < ((arrOf st).extract sb (sb+m)).size→Vk val ((arrOf st).extract sb (sb+m)) j≤Vk val ((arrOf st).extract (sa+k) sb) (((arrOf st).extract (sa+k) sb).size - 1):=by
  intro j hj
  rw [z2] at hj
  rw [z1,z8 (zcX (by lia) (by lia)),z8 (zcX (xs:=arrOf st) (i:=sa+k) (j:=sb) (by lia) (by lia))]
  have:=lowB (sb+j) (by lia) (by lia)
  rw [show sa+k+(sb - (sa+k) - 1)=sa+na - 1 by lia]
  lia
 have fin:∀ (out:Array Keyed) (g:Nat),Good val (((arrOf st).extract (sa+k) sb).toList++((arrOf st).extract sb (sb+m)).toList) out.toList →
   wpS (model prog w) A E s (do
    modify fun s=>setArr s (out.toList.zipIdx.foldl (fun a (p,j)=>a.setIfInBounds (sa+k+j) p) (arrOf s))
    let s' ← get
    pure (failedOf s').isNone) Q (zak st1 g):=by
  intro out g hG
  refine ar (dC (ar (eU ?_)))
  have hms:out.size=sb+m - (sa+k):=by
   have:=hG.1.length_eq
   rw [ao] at this
   have e1:out.toList.length=out.size:=by simp
   have e2:((arrOf st).extract (sa+k) sb).toList.length=sb - (sa+k):=by rw [bC,z1]
   have e3:((arrOf st).extract sb (sb+m)).toList.length=sb+m - sb:=by rw [bC,z2]
   lia
  have hperm:=zmV (xs:=arrOf st) (sa:=sa+k) (sb:=sb) (e:=sb+m) (by lia) (by lia) (by lia) hG.1
  have hat:∀ n,(wb (sa+k) out.toList.zipIdx (arrOf st))[n]? = if sa+k≤n∧n < sb+m then out[n - (sa+k)]? else (arrOf st)[n]?:=fun n=>by
   have:=zlg (sa+k) out.toList 0 (arrOf st) n (by rw [bC]; lia)
   rw [bC,fI,hms,show sa+k+(sb+m - (sa+k))=sb+m by lia,bp] at this
   exact this
  have hfn:(failedOf (setArr (zak st1 g) (wb (sa+k) out.toList.zipIdx (arrOf st)))).isNone=true:=by
   show (failedOf st1).isNone=true
   rw [hB1.failed]
   rfl
  have harr:arrOf (zak st1 g)=arrOf st:=ha1
  show wpS _ _ _ _ (pure (failedOf (setArr (zak st1 g) (wb (sa+k) out.toList.zipIdx (arrOf (zak st1 g))))).isNone) Q (setArr (zak st1 g) (wb (sa+k) out.toList.zipIdx (arrOf (zak st1 g))))
  rw [harr,hfn]
  refine az (h _ ⟨hperm.trans hB.perm,hB1.kind,hB1.failed⟩ hp1 (fun n hn=>?_) ?_)
  ·show (wb (sa+k) out.toList.zipIdx (arrOf st))[n]? = _
   rw [hat,if_neg (by lia)]
  ·show SIn val (wb (sa+k) out.toList.zipIdx (arrOf st)) sa (sb+nb)
   have hin:∀ n,sa+k≤n→n < sb+m→∃ q,sa+k≤q∧q < sb+m∧Vk val (wb (sa+k) out.toList.zipIdx (arrOf st)) n=Vk val (arrOf st) q:=fun n h1 h2=>by
    have ho:n - (sa+k) < out.size:=by lia
    have ho2:out[n - (sa+k)]? = some out[n - (sa+k)]:=getElem?_pos out _ ho
    have hmem:out[n - (sa+k)]∈((arrOf st).extract (sa+k) sb).toList++((arrOf st).extract sb (sb+m)).toList:=hG.1.mem_iff.mp (by simp)
    have hv:Vk val (wb (sa+k) out.toList.zipIdx (arrOf st)) n=val out[n - (sa+k)]:=zV (by rw [hat,if_pos ⟨h1,h2⟩,ho2])
    rcases a7.mp hmem with hmem | hmem
    ·obtain⟨q,q1,q2,q3⟩:=zd5 (by lia) hmem
     exact⟨q,q1,by lia,by rw [hv,zV q3]⟩
    ·obtain⟨q,q1,q2,q3⟩:=zd5 (by lia) hmem
     exact⟨q,by lia,q2,by rw [hv,zV q3]⟩
   have hout:∀ n,¬ (sa+k≤n∧n < sb+m)→Vk val (wb (sa+k) out.toList.zipIdx (arrOf st)) n=Vk val (arrOf st) n:=fun n hn=>z8 (by rw [hat,if_neg hn])
   intro p q h1 h2 h3
   by_cases hp:p < sa+k
   ·rw [hout p (by lia)]
    by_cases hq:q < sa+k
    ·rw [hout q (by lia)]
     exact sA p q h1 h2 (by lia)
    ·have key:∀ q',sa+k≤q'→q' < sb+nb→Vk val (arrOf st) p≤Vk val (arrOf st) q':=fun q' a1 a2=>by
      by_cases hq':q' < sb
      ·exact sA p q' h1 (by lia) (by lia)
      ·exact bY (lowA p h1 hp) (sB sb q' (by lia) (by lia) a2)
     by_cases hq2:q < sb+m
     ·obtain⟨q',q1,q2,q3⟩:=hin q (by lia) hq2
      rw [q3]
      exact key q' q1 (by lia)
     ·rw [hout q (by lia)]
      exact key q (by lia) h3
   ·by_cases hp2:p < sb+m
    ·by_cases hq2:q < sb+m
     ·have ho1:p - (sa+k) < out.size:=by lia
      have ho2:q - (sa+k) < out.size:=by lia
      rw [zV (p:=out[p - (sa+k)]) (by rw [hat,if_pos (by lia)]; exact getElem?_pos out _ ho1),zV (p:=out[q - (sa+k)]) (by rw [hat,if_pos (by lia)]; exact getElem?_pos out _ ho2)]
      by_cases hpq:p=q
      ·subst hpq
       exact bF _
      ·have:=cC.mp hG.2 (p - (sa+k)) (q - (sa+k)) (by simpa using ho1) (by simpa using ho2) (by lia)
       simpa using this
     ·obtain⟨p',p1,p2,p3⟩:=hin p (by lia) hp2
      rw [p3,hout q (by lia)]
      by_cases hp':p' < sb
      ·exact bY (sA p' (sa+na - 1) (by lia) (by lia) (by lia)) (highB q (by lia) h3)
      ·exact sB p' q (by lia) (by lia) h3
    ·rw [hout p (by lia),hout q (by lia)]
     exact sB p q (by lia) h2 h3
 have ma:∀ p∈((arrOf st).extract (sa+k) sb).toList,p∈a₀.toList:=fun p hp=>by
  obtain⟨q,q1,q2,q3⟩:=zd5 (by lia) hp
  obtain⟨p',e,m'⟩:=memA q (by lia)
  rw [q3] at e
  cases e
  exact m'
 have mb:∀ p∈((arrOf st).extract sb (sb+m)).toList,p∈a₀.toList:=fun p hp=>by
  obtain⟨q,q1,q2,q3⟩:=zd5 (by lia) hp
  obtain⟨p',e,m'⟩:=memA q (by lia)
  rw [q3] at e
  cases e
  exact m'
 have ss1:=ziL (val:=val) (xs:=arrOf st) (i:=sa+k) (j:=sb) (by lia) (sA.sub (by lia) (by lia))
 have ss2:=ziL (val:=val) (xs:=arrOf st) (i:=sb) (j:=sb+m) (by lia) (sB.sub (by lia) (by lia))
 by_cases hle:na - k≤m
 ·rw [if_pos hle]
  exact ar (zjR (a:=(arrOf st).extract (sa+k) sb) (b:=(arrOf st).extract sb (sb+m)) hC hB1.kind ma mb ss1 ss2 (by lia) (by lia) hf hl fin)
 ·rw [if_neg hle]
  exact ar (zjS (a:=(arrOf st).extract (sa+k) sb) (b:=(arrOf st).extract sb (sb+m)) hC hB1.kind ma mb ss1 ss2 (by lia) (by lia) hf hl fin)
end
end Srt
end
section
namespace Srt
open PySem PyProof.Rows
def Runs (val:Keyed→Int) (xs:Array Keyed):List (Nat×Nat×Nat)→Nat→Nat→Prop
 | [],lo,hi=>lo=hi
 | (s,n,_) :: r,lo,hi=>s=lo∧1≤n∧SIn val xs lo (lo+n)∧Runs val xs r (lo+n) hi
section
variable {val:Keyed→Int}
theorem Runs.le {xs:Array Keyed}:∀ {p:List (Nat×Nat×Nat)} {lo hi:Nat},Runs val xs p lo hi→lo+p.length≤hi
 | [],lo,hi,h=>by
  have h:lo=hi:=h
  simp only [iJ]
  lia
 | (s,n,w) :: r,lo,hi,h=>by
  obtain⟨_,h1,_,h2⟩:=h
  have:=h2.le
  simp only [bW]
  lia
theorem Runs.append {xs:Array Keyed}:∀ {p q:List (Nat×Nat×Nat)} {lo hi:Nat},Runs val xs (p++q) lo hi↔∃ mid,Runs val xs p lo mid∧Runs val xs q mid hi
 | [],q,lo,hi=>⟨fun h=>⟨lo,rfl,h⟩,fun ⟨mid,h1,h2⟩=>by
   have h1:lo=mid:=h1
   subst h1
   exact h2⟩
 | (s,n,w) :: p,q,lo,hi=>by
  constructor
  ·rintro⟨h1,h2,h3,h4⟩
   obtain⟨mid,h5,h6⟩:=Runs.append.mp h4
   exact⟨mid,⟨h1,h2,h3,h5⟩,h6⟩
  ·rintro⟨mid,⟨h1,h2,h3,h5⟩,h6⟩
   exact⟨h1,h2,h3,Runs.append.mpr ⟨mid,h5,h6⟩⟩
theorem Runs.keep {xs ys:Array Keyed}:∀ {p:List (Nat×Nat×Nat)} {lo hi:Nat},Runs val xs p lo hi→(∀ k,lo≤k→k < hi→ys[k]? = xs[k]?)→Runs val ys p lo hi
 | [],lo,hi,h,_=>h
 | (s,n,w) :: p,lo,hi,h,e=>by
  obtain⟨h1,h2,h3,h4⟩:=h
  have:=h4.le
  refine⟨h1,h2,fun i j a b c=>?_,h4.keep fun k a b=>e k (by lia) b⟩
  rw [z8 (e i (by lia) (by lia)),z8 (e j (by lia) (by lia))]
  exact h3 i j a b c
theorem zlh {α:Type} (p q:List α) (x y v:α):((p++x :: y :: q).toArray.setIfInBounds p.length v).eraseIdxIfInBounds (p.length+1)=(p++v :: q).toArray:=by
 simp [Array.eraseIdxIfInBounds]
 rw [List.eraseIdx_append_of_length_le (by lia),show p.length+1 - p.length=1 by lia]
 rfl
theorem zg9 {α:Type} (q:List α) (z:α) (f:α→α):(q++[z]).toArray.modify ((q++[z]).toArray.size - 1) f=(q++[f z]).toArray:=by
 apply Array.ext'
 simp
 induction q with
 | nil=>rfl
 | cons a q ih =>
  show (a :: (q++[z])).modify (q.length+1) f=a :: (q++[f z])
  rw [List.modify_succ_cons,ih]
theorem ziM {xs:Array Keyed} {p:List (Nat×Nat×Nat)} {n:Nat} (hl:p.length≤1) (hn:1≤n) (h:Runs val xs p 0 n):SIn val xs 0 n:=by
 match p,hl,h with
 | [],_,h =>
  have h:0=n:=h
  lia
 | [(a,b,c)],_,h =>
  obtain⟨_,_,h3,h4⟩:=h
  have h4:0+b=n:=h4
  rw [← h4]
  exact h3
 | _ :: _ :: _,hl,_=>simp at hl
theorem zjV {α:Type} {p:List α} {j:Nat} (h:j+2≤p.length):∃ pre x y post,p=pre++x :: y :: post∧pre.length=j:=by
 refine⟨p.take j,p[j],p[j+1],p.drop (j+2),?_,by rw [aD]; lia⟩
 have e1:=(b8 j p).symm
 rw [cA (show j < p.length by lia),cA (show j+1 < p.length by lia)] at e1
 exact e1
end
section
variable {prog:Program} {w:World} {A:Around} {E:Value→Shared→Prop} {s:Shared} {a₀:Array Keyed} {κ:SortKind} {val:Keyed→Int}
theorem zeB {st:SortSt} {pre post:List (Nat×Nat×Nat)} {x y:Nat×Nat×Nat} {hi:Nat} {Q:Bool→SortSt→Prop} (hC:Cmp prog w A s κ val a₀) (hB:SB κ a₀ st) (hp:pendingOf st=(pre++x :: y :: post).toArray) (hR:Runs val (arrOf st) (pre++x :: y :: post) 0 hi) (hhi:hi≤a₀.size)
  (h:∀ st' v,SB κ a₀ st'→pendingOf st'=(pre++v :: post).toArray→(∀ k,hi≤k→(arrOf st')[k]? = (arrOf st)[k]?)→Runs val (arrOf st') (pre++v :: post) 0 hi→Q true st') :
  wpS (model prog w) A E s (mergeAt' pre.length) Q st:=by
 obtain⟨sa,na,pw⟩:=x
 obtain⟨sb,nb,pw2⟩:=y
 obtain⟨mid,r1,r2⟩:=Runs.append.mp hR
 obtain⟨rfl,q1,q2,rfl,q4,q5,r3⟩:=r2
 have hle:=r3.le
 refine zjU (i:=pre.length) (sa:=sa) (na:=na) (pw:=pw) (sb:=sa+na) (nb:=nb) (pw2:=pw2) hC hB (by rw [hp]; simp) (by rw [hp]; simp) rfl q1 q4 (by lia) q2 q5 fun st' hB' hp' hk hs=>?_
 refine h st' (sa,na+nb,pw) hB' (by rw [hp',hp,zlh]) (fun k hk'=>hk k (by lia)) ?_
 refine Runs.append.mpr ⟨sa,r1.keep fun k _ b=>hk k (by lia),rfl,by lia,?_,?_⟩
 ·rw [← Nat.add_assoc]
  exact hs
 ·rw [← Nat.add_assoc]
  exact r3.keep fun k a b=>hk k (by lia)
theorem zmW {n:Nat} {c:Prop} [Decidable c] (h:¬ n≤1):(if c then n - 2 - 1 else n - 2)+2≤n:=by
 by_cases hc:c
 ·rw [if_pos hc]
  lia
 ·rw [if_neg hc]
  lia
theorem zli {st:SortSt} {p:List (Nat×Nat×Nat)} {j hi:Nat} {Q:Bool→SortSt→Prop} (hj:j+2≤p.length) (hC:Cmp prog w A s κ val a₀) (hB:SB κ a₀ st) (hp:pendingOf st=p.toArray) (hR:Runs val (arrOf st) p 0 hi) (hhi:hi≤a₀.size)
  (h:∀ st' p',SB κ a₀ st'→pendingOf st'=p'.toArray→Runs val (arrOf st') p' 0 hi→p'.length+1=p.length→Q true st'):wpS (model prog w) A E s (mergeAt' j) Q st:=by
 obtain⟨pre,x,y,post,rfl,rfl⟩:=zjV hj
 exact zeB hC hB hp hR hhi fun st' v a b _ d=>h st' _ a b d (by simp only [ao,bW]; lia)
theorem zoF {st:SortSt} {Q:Unit→SortSt→Prop} (hC:Cmp prog w A s κ val a₀) (hB:SB κ a₀ st) (hp:pendingOf st = #[]) (h2:1≤a₀.size)
  (h:∀ st',SB κ a₀ st'→SIn val (arrOf st') 0 a₀.size→Q () st'):wpS (model prog w) A E s sortRuns' Q st:=by
 rw [sortRuns'_eq]
 refine ar (eU ?_)
 dsimp only
 rw [hB.size]
 generalize minRun' a₀.size a₀.size 0=mr
 refine ar (cW (bX (I:=fun x c st'=>∃ lo p,c=(none,lo)∧SB κ a₀ st'∧pendingOf st'=p.toArray∧Runs val (arrOf st') p 0 lo∧lo≤a₀.size∧min x a₀.size≤lo)
  (Q:=fun c st'=>∃ p,c=(none,a₀.size)∧SB κ a₀ st'∧pendingOf st'=p.toArray∧Runs val (arrOf st') p 0 a₀.size) ?step ?fin ⟨0,[],rfl,hB,hp,rfl,by lia,by lia⟩) ?post)
 case fin =>
  rintro c st' ⟨lo,p,rfl,hB',hp',hR,hlo,hx⟩
  have:lo=a₀.size:=by lia
  subst this
  exact⟨p,rfl,hB',hp',hR⟩
 case step =>
  rintro x c st' _ hx ⟨lo,p,rfl,hB',hp',hR,hlo,hxl⟩
  dsimp only
  by_cases hge:lo≥a₀.size
  ·rw [if_pos hge]
   have:lo=a₀.size:=by lia
   subst this
   exact az ⟨p,rfl,hB',hp',hR⟩
  rw [if_neg hge]
  refine ar (zmR hC (by lia) (by lia) (SF.refl hB') fun m st1 hF1 hm1 hm2 hs1=>?_)
  dsimp only
  by_cases hmr:m < mr
  ·rw [if_pos hmr]
   (refine ar (gw (cb ⟨rfl,?_⟩)))
   refine ar (zpw hC (by lia) (by lia) hF1 hs1 fun st2 hF2 hs2=>?_)
   rw [if_neg (by decide)]
   have hn1:1≤min (a₀.size - lo) mr:=by lia
   have hn2:lo+min (a₀.size - lo) mr≤a₀.size:=by lia
   generalize min (a₀.size - lo) mr=n at hs2 hn1 hn2 ⊢
   refine ar (eU ?_)
   have hp1:pendingOf st2=p.toArray:=hF2.pend.trans hp'
   have hR1:Runs val (arrOf st2) p 0 lo:=hR.keep fun k _ b=>hF2.low k b
   rcases eY p with rfl | ⟨q,z,rfl⟩
   ·rw [hp1]
    show wpS _ _ _ _ (do
     modify fun s=>setPending s ((pendingOf s).push (lo,n,0)); pure (cm (none,lo+n))) _ _
    refine ar (dC (az ⟨lo+n,[(lo,n,0)],rfl,⟨hF2.b.perm,hF2.b.kind,hF2.b.failed⟩,?_,?_,by lia,by lia⟩))
    ·show (pendingOf st2).push _=_
     rw [hp1]
     rfl
    ·have h0:0=lo:=hR1
     subst h0
     exact⟨rfl,hn1,hs2,rfl⟩
   obtain⟨s1,n1,w1⟩:=z
   rw [hp1,c6,show ((q++[(s1,n1,w1)]).toArray).back? = some (s1,n1,w1) by simp]
   rw [c6] at hp1 hR1
   dsimp only
   generalize power' a₀.size (2*s1+n1) (2*s1+n1+n1+n) a₀.size=pw
   refine ar (cW (bX (I:=fun _ c st'=>c=(none,())∧∃ q' z,SB κ a₀ st'∧pendingOf st'=(q'++[z]).toArray∧Runs val (arrOf st') (q'++[z]) 0 lo∧(∀ k,lo≤k→(arrOf st')[k]? = (arrOf st2)[k]?))
    (Q:=fun c st'=>c=(none,())∧∃ q' z,SB κ a₀ st'∧pendingOf st'=(q'++[z]).toArray∧Runs val (arrOf st') (q'++[z]) 0 lo∧(∀ k,lo≤k→(arrOf st')[k]? = (arrOf st2)[k]?)) ?_ (fun _ _ hh=>hh) ⟨rfl,q,(s1,n1,w1),hF2.b,hp1,hR1,fun _ _=>rfl⟩) ?_)
   ·rintro x2 c st2 _ hx2 ⟨rfl,q',z,hB2,hp2,hR2,hk2⟩
    refine ar (eU ?_)
    rcases eY q' with rfl | ⟨q2,y,rfl⟩
    ·rw [hp2,if_neg (by simp)]
     exact az ⟨rfl,[],z,hB2,hp2,hR2,hk2⟩
    rw [c6,aY] at hp2 hR2
    have esz:(pendingOf st2).size - 2=q2.length:=by rw [hp2]; simp
    have eel:(if (pendingOf st2).size > 1 then (pendingOf st2)[(pendingOf st2).size - 2]? else none)=some y:=by
     rw [if_pos (by rw [hp2]; simp),esz,hp2]
     simp
    rw [eel]
    obtain⟨y1,y2,y3⟩:=y
    dsimp only
    by_cases ho:y3≤pw
    ·rw [if_pos ho]
     exact az ⟨rfl,q2++[(y1,y2,y3)],z,hB2,by rw [hp2,aY],by rw [aY]; exact hR2,hk2⟩
    ·rw [if_neg ho,esz]
     refine ar (zeB hC hB2 hp2 hR2 (by lia) fun st3 v hB3 hp3 hk3 hR3=>?_)
     rw [if_neg (by decide)]
     exact az ⟨rfl,q2,v,hB3,hp3,hR3,fun k hk=>(hk3 k hk).trans (hk2 k hk)⟩
   ·rintro c st2 ⟨rfl,q',z,hB2,hp2,hR2,hk2⟩
    obtain⟨z1,z2,z3⟩:=z
    dsimp only
    refine ar (dC (ar (dC (az ⟨lo+n,q'++[(z1,z2,pw),(lo,n,0)],rfl,⟨hB2.perm,hB2.kind,hB2.failed⟩,?_,?_,by lia,by lia⟩))))
    ·show ((pendingOf st2).modify ((pendingOf st2).size - 1) fun x=>(x.fst,x.2.fst,pw)).push (lo,n,0)=_
     rw [hp2,zg9]
     simp
    ·show Runs val (arrOf st2) _ _ _
     obtain⟨mid,r1,r2⟩:=Runs.append.mp hR2
     obtain⟨e1,e2,e3,e4⟩:=r2
     have e4:mid+z2=lo:=e4
     refine Runs.append.mpr ⟨mid,r1,e1,e2,e3,e4.symm,hn1,?_,?_⟩
     ·intro i j a1 a2 a3
      rw [z8 (hk2 i (by lia)),z8 (hk2 j (by lia))]
      exact hs2 i j (by lia) a2 (by lia)
     ·show mid+z2+n=lo+n
      lia
  ·rw [if_neg hmr]
   have hn2:lo+m≤a₀.size:=by lia
   refine ar (eU ?_)
   have hp1:pendingOf st1=p.toArray:=hF1.pend.trans hp'
   have hR1:Runs val (arrOf st1) p 0 lo:=hR.keep fun k _ b=>hF1.low k b
   rcases eY p with rfl | ⟨q,z,rfl⟩
   ·rw [hp1]
    show wpS _ _ _ _ (do
     modify fun s=>setPending s ((pendingOf s).push (lo,m,0))
     pure (cm (none,lo+m))) _ _
    refine ar (dC (az ⟨lo+m,[(lo,m,0)],rfl,⟨hF1.b.perm,hF1.b.kind,hF1.b.failed⟩,?_,?_,by lia,by lia⟩))
    ·show (pendingOf st1).push _=_
     rw [hp1]
     rfl
    ·have h0:0=lo:=hR1
     subst h0
     exact⟨rfl,hm1,hs1,rfl⟩
   obtain⟨s1,n1,w1⟩:=z
   rw [hp1,c6,show ((q++[(s1,n1,w1)]).toArray).back? = some (s1,n1,w1) by simp]
   rw [c6] at hp1 hR1
   dsimp only
   generalize power' a₀.size (2*s1+n1) (2*s1+n1+n1+m) a₀.size=pw
   refine ar (cW (bX (I:=fun _ c st'=>c=(none,())∧∃ q' z,SB κ a₀ st'∧pendingOf st'=(q'++[z]).toArray∧Runs val (arrOf st') (q'++[z]) 0 lo∧(∀ k,lo≤k→(arrOf st')[k]? = (arrOf st1)[k]?))
    (Q:=fun c st'=>c=(none,())∧∃ q' z,SB κ a₀ st'∧pendingOf st'=(q'++[z]).toArray∧Runs val (arrOf st') (q'++[z]) 0 lo∧(∀ k,lo≤k→(arrOf st')[k]? = (arrOf st1)[k]?)) ?_ (fun _ _ hh=>hh) ⟨rfl,q,(s1,n1,w1),hF1.b,hp1,hR1,fun _ _=>rfl⟩) ?_)
   ·rintro x2 c st2 _ hx2 ⟨rfl,q',z,hB2,hp2,hR2,hk2⟩
    refine ar (eU ?_)
    rcases eY q' with rfl | ⟨q2,y,rfl⟩
    ·rw [hp2,if_neg (by simp)]
     exact az ⟨rfl,[],z,hB2,hp2,hR2,hk2⟩
    rw [c6,aY] at hp2 hR2
    have esz:(pendingOf st2).size - 2=q2.length:=by rw [hp2]; simp
    have eel:(if (pendingOf st2).size > 1 then (pendingOf st2)[(pendingOf st2).size - 2]? else none)=some y:=by
     rw [if_pos (by rw [hp2]; simp),esz,hp2]
     simp
    rw [eel]
    obtain⟨y1,y2,y3⟩:=y
    dsimp only
    by_cases ho:y3≤pw
    ·rw [if_pos ho]
     exact az ⟨rfl,q2++[(y1,y2,y3)],z,hB2,by rw [hp2,aY],by rw [aY]; exact hR2,hk2⟩
    ·rw [if_neg ho,esz]
     refine ar (zeB hC hB2 hp2 hR2 (by lia) fun st3 v hB3 hp3 hk3 hR3=>?_)
     rw [if_neg (by decide)]
     exact az ⟨rfl,q2,v,hB3,hp3,hR3,fun k hk=>(hk3 k hk).trans (hk2 k hk)⟩
   ·rintro c st2 ⟨rfl,q',z,hB2,hp2,hR2,hk2⟩
    obtain⟨z1,z2,z3⟩:=z
    dsimp only
    refine ar (dC (ar (dC (az ⟨lo+m,q'++[(z1,z2,pw),(lo,m,0)],rfl,⟨hB2.perm,hB2.kind,hB2.failed⟩,?_,?_,by lia,by lia⟩))))
    ·show ((pendingOf st2).modify ((pendingOf st2).size - 1) fun x=>(x.fst,x.2.fst,pw)).push (lo,m,0)=_
     rw [hp2,zg9]
     simp
    ·show Runs val (arrOf st2) _ _ _
     obtain⟨mid,r1,r2⟩:=Runs.append.mp hR2
     obtain⟨e1,e2,e3,e4⟩:=r2
     have e4:mid+z2=lo:=e4
     refine Runs.append.mpr ⟨mid,r1,e1,e2,e3,e4.symm,hm1,?_,?_⟩
     ·intro i j a1 a2 a3
      rw [z8 (hk2 i (by lia)),z8 (hk2 j (by lia))]
      exact hs1 i j (by lia) a2 (by lia)
     ·show mid+z2+m=lo+m
      lia
 case post =>
  rintro c st1 ⟨p,rfl,hB1,hp1,hR1⟩
  dsimp only
  have hpl:=hR1.le
  refine ar (cW (bX (I:=fun x c st'=>c=(none,())∧∃ p,SB κ a₀ st'∧pendingOf st'=p.toArray∧Runs val (arrOf st') p 0 a₀.size∧p.length≤max 1 (a₀.size - x))
   (Q:=fun c st'=>c=(none,())∧SB κ a₀ st'∧SIn val (arrOf st') 0 a₀.size) ?_ ?_ ⟨rfl,p,hB1,hp1,hR1,by lia⟩) ?_)
  ·rintro x c st2 _ hx ⟨rfl,p2,hB2,hp2,hR2,hl2⟩
   refine ar (eU ?_)
   have hsz:(pendingOf st2).size=p2.length:=by rw [hp2]; simp
   rw [hsz]
   by_cases hle:p2.length≤1
   ·rw [if_pos hle]
    exact az ⟨rfl,hB2,ziM hle h2 hR2⟩
   rw [if_neg hle]
   refine ar (zli (p:=p2) (zmW hle) hC hB2 hp2 hR2 (ag _) fun st3 p3 hB3 hp3 hR3 hl3=>?_)
   rw [if_neg (by decide)]
   exact az ⟨rfl,p3,hB3,hp3,hR3,by lia⟩
  ·rintro c st2 ⟨rfl,p2,hB2,hp2,hR2,hl2⟩
   exact⟨rfl,hB2,ziM (by lia) h2 hR2⟩
  ·rintro c st2 ⟨rfl,hB2,hS⟩
   exact az (h st2 hB2 hS)
end
end Srt
end
section
namespace Srt
open PySem PyProof.Rows
def num (B:Int):List Int→Int
 | []=>0
 | n :: r=>n*B ^ r.length+num B r
theorem num_rng {B:Int} (hB:1≤B):∀ {ns:List Int},(∀ n∈ns,0≤n∧n < B)→0≤num B ns∧num B ns < B ^ ns.length
 | [],_=>by simp [num]
 | n :: r,h=>by
  obtain⟨h1,h2⟩:=num_rng hB (ns:=r) fun m hm=>h m (av _ hm)
  obtain⟨a,b⟩:=h n (by simp)
  have hp:0 < B ^ r.length:=Int.pow_pos (by lia)
  have e:B ^ (n :: r).length=B ^ r.length*B:=by rw [bW,dE]
  show 0≤n*B ^ r.length+num B r∧n*B ^ r.length+num B r < _
  rw [e]
  have h3:0≤n*B ^ r.length:=kJ a (by lia)
  have h4:n*B ^ r.length≤(B - 1)*B ^ r.length:=dm (by lia) (by lia)
  have h5:(B - 1)*B ^ r.length=B ^ r.length*B - B ^ r.length:=by rw [Int.sub_mul,gB,dF]
  lia
def zha:List Int→List Int→Bool
 | [],[]=>false
 | [],_ :: _=>true
 | _ :: _,[]=>false
 | x :: xs,y :: ys=>if x=y then zha xs ys else decide (x < y)
theorem zcD (x y:Int) (xs ys:List Int):zha (x :: xs) (y :: ys)=if x=y then zha xs ys else decide (x < y):=rfl
theorem ziN {B:Int} (hB:1≤B):∀ {ms ns:List Int},ms.length=ns.length→(∀ n∈ms,0≤n∧n < B)→(∀ n∈ns,0≤n∧n < B)→zha ms ns=decide (num B ms < num B ns)
 | [],[],_,_,_=>by simp [zha,num]
 | [],_ :: _,h,_,_=>by simp at h
 | _ :: _,[],h,_,_=>by simp at h
 | m :: ms,n :: ns,hl,h1,h2=>by
  have hl':ms.length=ns.length:=by simpa using hl
  have ih:=ziN hB hl' (fun x hx=>h1 x (av _ hx)) (fun x hx=>h2 x (av _ hx))
  obtain⟨a1,a2⟩:=num_rng hB fun x hx=>h1 x (av m hx)
  obtain⟨b1,b2⟩:=num_rng hB fun x hx=>h2 x (av n hx)
  rw [zcD]
  show _=decide (m*B ^ ms.length+num B ms < n*B ^ ns.length+num B ns)
  rw [hl'] at a2 ⊢
  have hp:0 < B ^ ns.length:=Int.pow_pos (by lia)
  by_cases e:m=n
  ·rw [if_pos e,ih,e]
   rw [da]
   simp only [decide_eq_true_eq]
   lia
  ·rw [if_neg e,da]
   simp only [decide_eq_true_eq]
   have key:∀ x y:Int,x < y→x*B ^ ns.length+B ^ ns.length≤y*B ^ ns.length:=fun x y hxy=>by
    have:=dm (show x+1≤y by lia) (show 0≤B ^ ns.length by lia)
    rw [Int.add_mul,gB] at this
    exact this
   constructor
   ·intro h
    have:=key m n h
    lia
   ·intro h
    rcases jW m n with h3 | h3 | h3
    ·exact h3
    ·exact absurd h3 e
    ·have:=key n m h3
     lia
section
variable {prog:Program} {w:World} {A:Around} {E:Value→Shared→Prop} {s:Shared}
theorem ziO {Q:Bool→Shared→Prop} {fin:Bool}:∀ {xs ys:List Value} {ms ns:List Int} (i:Nat),IntsAre xs ms→IntsAre ys ns→ms.length=ns.length→Q (if ms=ns then fin else zha ms ns) s→PySem.W.KatLex prog w A true fin Q (xs.zip ys) i s
 | [],[],[],[],i,_,_,_,h=>PySem.W.kat_nil (by simpa using h)
 | _ :: _,_,[],_,_,hx,_,_,_=>by cases hx
 | [],_,_ :: _,_,_,hx,_,_,_=>by cases hx
 | _,[],_,_ :: _,_,_,hy,_,_=>by cases hy
 | _,_ :: _,_,[],_,_,hy,_,_=>by cases hy
 | x :: xs,y :: ys,m :: ms,n :: ns,i,hx,hy,hl,h=>by
  cases hx with
  | cons _ t hx =>
   cases hy with
   | cons _ u hy =>
    refine PySem.W.kat_cons (wpAny_eqBool_int ?_)
    by_cases e:m=n
    ·rw [show (m == n)=true by simpa using e]
     refine PySem.W.kat_yes (ziO (i+1) hx hy (by simpa using hl) ?_)
     subst e
     rw [zcD,if_pos rfl] at h
     simpa using h
    ·rw [show (m == n)=false by simpa using e]
     have hne:¬ (m :: ms=n :: ns):=fun z=>e (jt z).1
     rw [if_neg hne,zcD,if_neg e] at h
     refine PySem.W.kat_no ?_
     by_cases hi:i=0
     ·subst hi
      exact oneLt_int h
     ·have hb:(true && i == 0)=false:=by simp [hi]
      rw [hb]
      exact PySem.W.kat_one _ _ (wpAny_lt_int h)
end
end Srt
end
section
namespace PySem
open PyProof.Rows
def zdM (h:Heap) (d:Addr) (es:Array DictEntry) (ep:Nat):Prop:=∃ o,h.get? d=some o∧o.ExactDict∧o.data = .dict es ep
theorem zdM.at' {h h':Heap} {d:Addr} {es:Array DictEntry} {ep:Nat} (x:zdM h d es ep) (e:∀ o,h.get? d=some o→h'.get? d=some o):zdM h' d es ep:=let ⟨o,ho,r⟩:=x; ⟨o,e _ ho,r⟩
theorem zdM.typeIs {s:Shared} {d:Addr} {es:Array DictEntry} {ep:Nat} (x:zdM s.heap d es ep):s.TypeIs (.ref d) "dict":=let ⟨o,ho,hc,_⟩:=x; ⟨o,ho,hc.1⟩
section
variable {prog:Program} {w:World} {A:Around} {E:Value→Shared→Prop} {s:Shared} {it d:Addr} {i ep:Nat} {es:Array DictEntry}
theorem zhb {Q:Value→Shared→Prop} (hd:(d == sysModules)=false) (hm:zdM s.heap d es ep) (hQ:Q (.ref s.heap.objs.size) { s with heap:=s.heap.push { cls:=.type "dict_keyiterator",data:=.fields #[.ref d,.int 0 0,.int es.size 0,.int ep 0] } }):wpAny (model prog w) A (pyIter (.ref d)) Q E s:=by
 have hT:=hm.typeIs
 obtain⟨o,ho,hc,hdat⟩:=id hm
 refine g7 hT ki (bz ki hT F.entry_dict_iter ?_ (F.args_dict_iter_1 _)); unfold Builtin.«dict.__iter__» Builtin.Dict.dictSlotNone
 refine ae (ae (i5 hT ?_)); show wpAny _ _ (pure (ba d)) _ _ s
 refine am ?_; show wpAny _ _ (i6 d >>= _) _ _ s; unfold i6
 rw [if_neg (show ¬ ((d == sysModules)=true) by rw [hd]; decide)]
 refine ae (am (ae (g9 ho hdat (ae (iK ho hdat (ae (bQ (am ⟨_,rfl,"dict_keyiterator",_,⟨_,aL _ rfl,rfl⟩,F.slot_dict_keyiterator_next.lookup,?_⟩))))))))
 simpa [rawInt] using hQ
theorem zhc {e:DictEntry} {Q:Option Value→Shared→Prop} (hit:s.heap.IsKeyIter it d i es.size ep) (hm:zdM s.heap d es ep) (he:es[i]? = some e)
  (hQ:∀ h',h'.IsKeyIter it d (i+1) es.size ep→br it s.heap h'→Q (some e.key) { s with heap:=h' }):wpAny (model prog w) A (pyNext (.ref it)) Q E s:=by
 (obtain⟨o,ho,hc,hd⟩:=id hit)
 obtain⟨od,hod,hcd,hdd⟩:=id hm
 have hlt:i < es.size:=(cT.mp he).1
 have hown:gz "dict_keyiterator" = false:=by decide +kernel
 unfold pyNext; refine ae (cS (bo (name:=bS "__next__") hit.typeIs dw (bz dw hit.typeIs gn ?_ (gm _))))
 refine ae (am (ae (ae (ae (dt hit.typeIs (am (ae (wpAny_fieldsOf ho hd ?_))))))))
 simp only [hown,bt,if_false]; show wpAny _ _ (if (ba d == dz)=true then _ else _) _ _ s
 rw [if_neg (show ¬ ((ba d == dz)=true) from fun z=>aO z)]
 refine ae (am (ae (g9 hod hdd ?_)))
 rw [if_neg (show ¬ ((((es.size:Nat):Int) != ((es.size:Nat):Int))=true) by simp)]
 refine ae (am (ae (iK hod hdd ?_)))
 rw [if_neg (by simp)]; refine am ?_
 simp only [show ¬ ((i:Int) < 0) by lia,if_false,bf,he]
 refine ae (ae (dt hit.typeIs (am (ae (i7 hit.typeIs ?_)))))
 show wpAny _ _ (setField (.ref it) 1 (rawInt ((i:Int)+1)) >>= _) _ _ s; refine ae (d6 ho hd (by simp) ?_)
 have hit':(s.heap.update it (gO (·.setIfInBounds 1 (rawInt ((i:Int)+1))))).IsKeyIter it d (i+1) es.size ep:=⟨_,dM _ ho (eQ (cX hd _)),(gZ ..).trans hc,by rw [cX hd]; simp [rawInt]⟩
 refine ae (bV (ae (i7 (s:={ s with heap:=s.heap.update it (gO (·.setIfInBounds 1 (rawInt ((i:Int)+1)))) }) hit'.typeIs ?_)))
 show wpAny _ _ (pure e.key) _ _ _; exact am (am ⟨_,rfl,am (hQ _ hit' (cM ..))⟩)
theorem ziP {Q:Option Value→Shared→Prop} (hh:A.handled=none) (hit:s.heap.IsKeyIter it d i es.size ep) (hm:zdM s.heap d es ep) (he:es.size≤i) (hQ:∀ h',j2 it s.heap h'→Q none { s with heap:=h' }):wpAny (model prog w) A (pyNext (.ref it)) Q E s:=by
 (obtain⟨o,ho,hc,hd⟩:=id hit)
 obtain⟨od,hod,hcd,hdd⟩:=id hm
 have hown:gz "dict_keyiterator" = false:=by decide +kernel
 unfold pyNext; refine ae (cS (bo (name:=bS "__next__") hit.typeIs dw (bz dw hit.typeIs gn ?_ (gm _))))
 refine ae (am (ae (ae (ae (dt hit.typeIs (am (ae (wpAny_fieldsOf ho hd ?_))))))))
 simp only [hown,bt,if_false]; show wpAny _ _ (if (ba d == dz)=true then _ else _) _ _ s
 rw [if_neg (show ¬ ((ba d == dz)=true) from fun z=>aO z)]
 refine ae (am (ae (g9 hod hdd ?_)))
 rw [if_neg (show ¬ ((((es.size:Nat):Int) != ((es.size:Nat):Int))=true) by simp)]
 refine ae (am (ae (iK hod hdd ?_)))
 rw [if_neg (by simp)]; refine am ?_
 simp only [show ¬ ((i:Int) < 0) by lia,if_false,bf,Array.getElem?_eq_none he]
 refine ae (ae (dt hit.typeIs (am ?_)))
 show wpAny _ _ (setField (.ref it) 0 .none >>= _) _ _ s; refine ae (d6 ho hd (by simp) ?_)
 show wpAny _ _ (newExc (.type "StopIteration") [] >>= _) _ _ _; simp only [newExc,newTuple]
 refine ae (ae (bQ (ae (m:=firstArgMember _ _) (dB (a:=dz) (by first | rfl | (simp only [firstArgMember]; rfl)) (bQ ?_ (by size_fits)))) (by size_fits)))
 simp only [raiseNew]; refine ae (jp ?_); rw [show A.in1.handled=none from hh]
 refine ae (am (j3 ?_)); refine ae (fe (T:="StopIteration") (b:=true) ⟨_,aL _ rfl,rfl⟩ gr ?_)
 (exact am (hQ _ (((cM ..).extBut.push _).push _)))
theorem zjW (hh:A.handled=none) (I d:Addr) (hne:d≠I) (es:Array DictEntry) (ep:Nat) :
  Walks prog w A I [I,d] [I] es.size (fun i v=>∃ e,es[i]? = some e∧v=e.key) (fun i h=>h.IsKeyIter I d i es.size ep∧zdM h d es ep) where
 sub:=(fun b hb=>by simp at hb; simp [hb])
 frame:=(fun _ _ _ st hk=>⟨st.1.at fun o e=>hk I (by simp) o e,st.2.at' fun o e=>hk d (by simp) o e⟩)
 item:=fun i s Q E hi st hQ=>zhc st.1 st.2 (getElem?_pos es i hi) fun h' hit' hs'=>hQ _ h' s.toks ⟨es[i],getElem?_pos es i hi,rfl⟩ ⟨hit',st.2.at' fun o e=>hs'.extBut d o hne e⟩ fun b o hb e=>hs'.extBut b o (fun h=>hb (by simp [h])) e
 done:=fun s Q E st hQ=>ziP hh st.1 st.2 (ag _) fun h' he'=>hQ h' s.toks fun b o hb e=>he' b o (fun h=>hb (by simp [h])) e
 self:=(fun _ _ _ _ st hQ=>jk st.1 hQ)
theorem zmX (lo:(d == sysModules)=false):PySem.W.KdlSrc prog w "dict" d d es.size (fun i v=>∃ e,es[i]? = some e∧v=e.key) (fun h=>zdM h d es ep) where
 type:=fun _ hm=>hm.typeIs
 there:=fun _ hm=>let ⟨_,ho,_⟩:=hm; ⟨aJ ho,aJ ho⟩
 keep:=(fun _ _ hm hk=>hm.at' fun o e=>hk d (.inl rfl) o e)
 notList:=by decide
 notTuple:=by decide
 hint:=fun _ _ _ _ hm hq=>PySem.W.kdl_hint_dict hm.typeIs hq
 iter:=fun _ _ hh hm=>⟨_,_,(fun _ _ hq=>zhb lo hm hq),zjW hh _ d (by obtain⟨_,ho,_⟩:=id hm; exact bu (aJ ho)) es ep,⟨⟨_,aL _ rfl,rfl,rfl⟩,hm.at' fun o e=>ak _ e⟩⟩
end
end PySem
end
section
namespace Srt
open PySem PyProof.Rows
section
variable {prog:Program} {w:World} {A:Around} {E:Value→Shared→Prop} {s:Shared} {κ:SortKind} {val:Keyed→Int}
theorem zb4 {vs:List Value} {p:Keyed} (h:p∈(pairsOf vs).toList):p.1∈vs∧p.2=p.1:=by
 rw [i8] at h
 obtain⟨i,hi,e⟩:=et h
 rw [List.getElem_zip] at e
 rw [← e]
 exact⟨ed _,rfl⟩
theorem zoG {vs:List Value} {xs:Array Keyed} (hp:xs.Perm (pairsOf vs)) (hs:SIn val xs 0 (pairsOf vs).size):(xs.map (·.2)).toList.Perm vs∧(xs.map (·.2)).toList.Pairwise fun x y=>val (x,x)≤val (y,y):=by
 (have hl:xs.toList.Perm (vs.zip vs):=by rw [← i8]; exact fm.mp hp)
 have hm:∀ p∈xs.toList,p=(p.2,p.2):=fun p hp'=>by
  have:=zb4 (by rw [i8]; exact hl.mem_iff.mp hp')
  exact j8 this.2.symm rfl
 constructor
 ·rw [kj]
  refine (hl.map (·.2)).trans ?_
  rw [show (vs.zip vs).map (·.2)=vs from List.map_snd_zip (ag _)]
 ·rw [kj,ck,cC]
  intro i j hi hj hij
  (have hi':i < xs.size:=by simpa using hi)
  (have hj':j < xs.size:=by simpa using hj)
  have h1:=hs i j (bi _) (by lia) (by rw [← hp.size_eq]; exact hj')
  rw [zV (getElem?_pos xs i hi'),zV (getElem?_pos xs j hj')] at h1
  have e1:=hm xs.toList[i] (ed _)
  have e2:=hm xs.toList[j] (ed _)
  rw [← e1,← e2]
  simpa using h1
theorem zjX {a:Addr} {vs:List Value} {n:Nat} {P:PySem.Fin→Shared→Prop} (ho:s.heap.get? a=some (seqObj "list" vs.toArray n)) (hlen:vs.length≤sizeLine)
  (hkind:∀ h',(∀ b o,b≠a→s.heap.get? b=some o→h'.get? b=some o)→2≤vs.length→∀ (Q:SortKind→Shared→Prop) (E:Value→Shared→Prop),Q κ { s with heap:=h' }→wpAny (model prog w) A (keyKind' vs.toArray) Q E { s with heap:=h' })
  (hcmp:∀ h',(∀ b o,b≠a→s.heap.get? b=some o→h'.get? b=some o)→Cmp prog w A { s with heap:=h' } κ val (pairsOf vs))
  (h:∀ out:Array Value,out.toList.Perm vs→(out.toList.Pairwise fun x y=>val (x,x)≤val (y,y))→P (.done (.ret .none)) { s with heap:=sortedHeap s.heap a vs out }):wpAny (model prog w) A (Builtin.«list.sort» ⟨[.ref a],[]⟩) P E s:=by
 rw [list_sort_plain]
 (have ha:a < s.heap.objs.size:=aJ ho)
 have hz:vs.toArray.size=vs.length:=ap
 refine ae (listItems_at ho rfl (ae (ju ho rfl ?_ (hsz:=by rw [hz]; exact hlen))))
 (obtain⟨e1,ho1⟩:∃ e1,(s.heap.update a (de fun _=>#[])).get? a=some (seqObj "list" #[] e1):=⟨_,get?_update_seq ho (fun _=>#[])⟩)
 refine ae (j5 ho1 rfl (ae (gv (ae (wpAny_newList (bV ?_))) (hsz:=hlen))))
 have ho6:(((s.heap.update a (de fun _=>#[])).push (seqObj "tuple" vs.toArray 0)).push (seqObj "list" #[] 0)).get? a=some (seqObj "list" #[] e1):=ak _ (ak _ ho1)
 have hk6:∀ b o,b≠a→s.heap.get? b=some o→(((s.heap.update a (de fun _=>#[])).push (seqObj "tuple" vs.toArray 0)).push (seqObj "list" #[] 0)).get? b=some o:=fun b o hb e=>ak _ (ak _ ((jA _ _ _ _ hb).trans e))
 (show wpAny (model prog w) A _ P E { s with heap:=((s.heap.update a (de fun _=>#[])).push (seqObj "tuple" vs.toArray 0)).push (seqObj "list" #[] 0) })
 dsimp only
 have hcm:=hcmp _ hk6
 have fin:∀ st':SortSt,SB κ (pairsOf vs) st'∨(arrOf st'=pairsOf vs∧failedOf st'=none)→SIn val (arrOf st') 0 (pairsOf vs).size →
   P (.done (.ret .none)) { s with heap:=sortedHeap s.heap a vs ((arrOf st').map (·.2)) }:=fun st' hB hs=>by
  have hp:(arrOf st').Perm (pairsOf vs):=by
   rcases hB with hB | hB
   ·exact hB.perm
   ·rw [hB.1]
  obtain⟨b1,b2⟩:=zoG hp hs
  exact h _ b1 b2
 (by_cases h2:vs.toArray.size < 2)
 ·rw [if_pos h2,if_pos h2]
  refine ae (am ?_); rw [StateT.run_pure]; refine ae (am ?_)
  dsimp only
  refine ae (j5 ho6 rfl (ae (ju ho6 rfl ?_ (hsz2:=by rw [kK]; show (pairsOf vs).size≤_; rw [io]; lia))))
  (simp only [bne_self_eq_false,bt,if_false])
  refine am (fin (kz general' (vs.toArray.zip vs.toArray) #[] 7 none) (.inr ⟨rfl,rfl⟩) fun i j _ hij hj=>?_)
  have e:i=j:=by rw [io] at hj; lia
  rw [e]
  exact bF _
 ·rw [if_neg h2,if_neg h2]
  refine ae (hkind _ hk6 (by lia) _ _ ?_)
  refine ae (cQ (zoF (a₀:=pairsOf vs) (κ:=κ) (val:=val) (st:=kz κ (vs.toArray.zip vs.toArray) #[] 7 none) (Q:=fun _ st'=>SB κ (pairsOf vs) st'∧SIn val (arrOf st') 0 (pairsOf vs).size)
   hcm ⟨Array.Perm.refl _,rfl,rfl⟩ rfl (by rw [io]; lia) fun st' a1 a2=>⟨a1,a2⟩) ?_ fun _ _ e=>e)
  rintro⟨⟨⟩,st'⟩ s' ⟨rfl,hB,hs⟩
  dsimp only
  refine ae (j5 ho6 rfl (ae (ju ho6 rfl ?_ (hsz2:=aZ (df ((kK ..).trans (hB.perm.size_eq.trans (io _)))) (by lia)))))
  rw [hB.failed]
  (simp only [bne_self_eq_false,bt,if_false])
  exact am (fin st' (.inl hB) hs)
theorem zfB {v:Value} {vs:List Value} {Q:Value→Shared→Prop} (hlen:vs.length≤sizeLine)
  (hcol:∀ R:List Value→Shared→Prop,(∀ (h':Heap) (tk:Nat),(∀ b o,s.heap.get? b=some o→h'.get? b=some o)→R vs { s with heap:=h',toks:=tk })→wpAny (model prog w) A.in1 (collect v) R E s)
  (hkind:∀ s',(∀ b o,s.heap.get? b=some o→s'.heap.get? b=some o)→2≤vs.length→∀ (A':Around) (Q:SortKind→Shared→Prop) (E:Value→Shared→Prop),Q κ s'→wpAny (model prog w) A' (keyKind' vs.toArray) Q E s')
  (hcmp:∀ s' A',(∀ b o,s.heap.get? b=some o→s'.heap.get? b=some o)→Cmp prog w A' s' κ val (pairsOf vs))
  (h:∀ (h':Heap) (tk:Nat) (out:Array Value) (e:Nat) (D:Addr),(∀ b o,s.heap.get? b=some o→h'.get? b=some o)→(∀ b o,s.heap.get? b=some o→b < D)→h'.get? D=some (seqObj "list" out e)→out.toList.Perm vs→(out.toList.Pairwise fun x y=>val (x,x)≤val (y,y))→Q (.ref D) { s with heap:=h',toks:=tk }) :
  wpAny (model prog w) A (call (.builtin "sorted") [v]) Q E s:=by
 refine Calls.call_function_entry kind_sorted plain_sorted entry_sorted (args_sorted1 _) ?_; unfold Builtin.«sorted»
 refine ae (m:=checkCount "sorted" 1 1 _) (am (ae (cQ (hcol (fun us s'=>us=vs∧∃ (h':Heap) (tk:Nat),s' = { s with heap:=h',toks:=tk }∧∀ b o,s.heap.get? b=some o→h'.get? b=some o) fun h' tk k=>⟨rfl,h',tk,rfl,k⟩) ?_ fun _ _ e=>e)))
 rintro us s' ⟨rfl,h1,tk,rfl,kk⟩
 refine ae (wpAny_newList ?_ (hsz:=hlen))
 have hoL:(h1.push (seqObj "list" us.toArray 0)).get? h1.objs.size=some (seqObj "list" us.toArray 0):=aL _ rfl
 have kn:∀ b o,s.heap.get? b=some o→b≠h1.objs.size:=fun b o e=>bu (aJ (kk b o e))
 refine ae (bV (bz slot_list_sort ⟨_,hoL,rfl⟩ entry_list_sort (zjX (κ:=κ) (val:=val) hoL hlen (fun h' hk h2 Q E hq=>hkind _ (fun b o e=>hk b o (kn b o e) (ak _ (kk b o e))) h2 _ Q E hq) (fun h' hk=>hcmp _ _ fun b o e=>hk b o (kn b o e) (ak _ (kk b o e))) fun out a1 a2=>⟨_,rfl,?_⟩) (args_list_sort _)))
 obtain⟨e,he⟩:=sortedHeap_at (out:=out) hoL
 refine am ⟨_,rfl,h _ tk out e h1.objs.size (fun b o x=>?_) (fun b o x=>aJ (kk _ _ x)) he a1 a2⟩
 rw [sortedHeap_old (kn b o x) (by rw [bN]; exact eK (aJ (kk _ _ x)))]
 exact ak _ (kk _ _ x)
end
end Srt
end
section
namespace L2
open PySem PySem.Spec PyProof.Rows PySem.Builtin.Str
end L2
end
section
namespace L2
open PySem PySem.Spec PyProof.Rows PySem.Builtin.Str
theorem Inv.above {X:Cx} {pins:List (Addr×Obj)} {σ:St} {H:Hp} {s:Shared} {h':Heap} {tk:Nat} {D:Addr} {o:HO} (I:Inv X pins σ H s) (k:∀ b o,s.heap.get? b=some o→h'.get? b=some o) (hD:∀ b o,s.heap.get? b=some o→b < D)
  (new:zas X.prog X.w (upd H D o) h' D o):H D=none∧Inv X pins σ (upd H D o) { s with heap:=h',toks:=tk }:=by
 have hn:H D=none:=by
  cases e:H D with
  | none=>rfl
  | some u =>
   obtain⟨ob,z⟩:=zoy (I.hok D u e)
   exact absurd (hD D ob z) (cr _)
 have hL:X.env.locals < D:=by
  obtain⟨m,⟨o,es,ep,ho,_⟩,_⟩:=I.loc
  exact hD _ _ ho
 have I1:Inv X pins σ H { s with heap:=h',toks:=tk }:=I.kept k
 refine⟨hn,I1.track hn (fC (gH I.ok.above hL)) (bu hL) (fun x c e z=>?_) (fun p hp z=>?_) new⟩
 ·obtain⟨v,oc,q,_⟩:=I.cell x c e
  exact absurd (hD c oc q) (by rw [z]; exact cr _)
 ·exact absurd (hD p.1 _ (I.pin p hp).1) (by rw [z]; exact cr _)
end L2
end
section
namespace L2
open PySem PySem.Spec PyProof.Rows Srt
def zlj (xs:List V):List Int:=xs.filterMap fun x=>match x with
 | .int n=>some n
 | _=>none
theorem zjY (ns:List Int):zlj (ns.map V.int)=ns:=by
 unfold zlj
 rw [jI]
 induction ns with
 | nil=>rfl
 | cons n ns ih =>
  rw [eg]
  simp only [Function.comp]
  rw [ih]
def zdd (H:Hp) (v:Value):List Int:=match v with
 | .ref a=>(match H a with
  | some (.tup xs)=>zlj xs
  | _=>[])
 | _=>[]
theorem zeC {H:Hp} {a:Addr} {ns:List Int} (h:H a=some (.tup (ns.map V.int))):zdd H (.ref a)=ns:=by
 unfold zdd
 simp only [h]
 exact zjY ns
def zmY (H:Hp) (k:Nat) (B:Int) (ps:List (Addr×List Int)):Prop:=∀ q∈ps,H q.1=some (.tup (q.2.map V.int))∧q.2.length=k∧∀ n∈q.2,0≤n∧n < B
theorem zde:∀ (ps:List (Addr×List Int)),zJ (ps.map fun q=>V.ref q.1) (ps.map fun q=>ba q.1)
 | []=>.nil
 | q :: ps=>.cons rfl (zde ps)
section
variable {X:Cx} {pins:List (Addr×Obj)} {σ:St} {H:Hp} {s:Shared} {k:Nat} {B:Int} {ps:List (Addr×List Int)}
theorem zf9 (I:Inv X pins σ H s) {q:Addr×List Int} (h:H q.1=some (.tup (q.2.map V.int))):∃ o its n,s.heap.get? q.1=some o∧o.cls = .type "tuple"∧o.data = .seq its n∧IntsAre its.toList q.2:=by
 obtain⟨its,r,⟨o,ho,hc,n,hd⟩,hz⟩:=I.tuple (SqT.of h)
 exact⟨o,its.toArray,n,ho,hc,hd,by simpa using intsAre_of r⟩
theorem zoH (I:Inv X pins σ H s) (hT:zmY H k B ps) (hk:1≤k) {s':Shared} (kk:∀ b o,s.heap.get? b=some o→s'.heap.get? b=some o):∃ fs:List Value,PySem.W.KatTups s'.heap (ps.map fun q=>ba q.1) fs∧fs.length=ps.length∧∀ v∈fs,∃ n t,v=fB n t:=by
 induction ps with
 | nil=>exact⟨[],trivial,rfl,fun v hv=>by cases hv⟩
 | cons q ps ih =>
  obtain⟨fs,h1,h2,h3⟩:=ih fun q' hq'=>hT q' (av _ hq')
  obtain⟨hq,hl,_⟩:=hT q (by simp)
  obtain⟨o,its,n,ho,hc,hd,hi⟩:=zf9 I hq
  have hlen:=hi.length
  obtain⟨m,ms,e⟩:∃ m ms,q.2=m :: ms:=by
   cases e:q.2 with
   | nil=>rw [e] at hl; simp at hl; lia
   | cons m ms=>exact⟨m,ms,rfl⟩
  rw [e] at hi
  cases e2:its.toList with
  | nil=>rw [e2] at hi; cases hi
  | cons f fr =>
   rw [e2] at hi
   cases hi with
   | cons _ t hi =>
    refine⟨.int m t :: fs,kT (kk _ _ ho) hc hd ?_ h1,by simp [h2],fun v hv=>?_⟩
    ·rw [← bp,e2]
     rfl
    ·rcases (aB.mp hv) with rfl | hv
     ·exact⟨m,t,rfl⟩
     ·exact h3 v hv
theorem zfC:∀ ms:List Int,zha ms ms=false
 | []=>rfl
 | m :: ms=>by rw [zcD,if_pos rfl,zfC ms]
theorem zoI (I:Inv X pins σ H s) (hT:zmY H k B ps) (hB:1≤B) {s':Shared} {A':Around} (kk:∀ b o,s.heap.get? b=some o→s'.heap.get? b=some o) :
  Cmp X.prog X.w A' s' (tuples' true) (fun p=>num B (zdd H p.1)) (pairsOf (ps.map fun q=>ba q.1)):=by
 intro x y hx hy Q E hQ
 obtain⟨qx,mx,ex⟩:=aE.mp (zb4 hx).1
 obtain⟨qy,my,ey⟩:=aE.mp (zb4 hy).1
 obtain⟨hx1,hx2,hx3⟩:=hT qx mx
 obtain⟨hy1,hy2,hy3⟩:=hT qy my
 obtain⟨ox,ix,nx,gx,cx,dx,ax⟩:=zf9 I hx1
 obtain⟨oy,iy,ny,gy,cy,dy,ay⟩:=zf9 I hy1
 have ev:decide ((fun p:Keyed=>num B (zdd H p.1)) x < (fun p:Keyed=>num B (zdd H p.1)) y)=zha qx.2 qy.2:=by
  rw [ziN hB (hx2.trans hy2.symm) hx3 hy3,← zeC hx1,← zeC hy1]
  simp only [ex,ey]
 rw [ev] at hQ
 rw [← ex,← ey]
 refine PySem.W.kat_lt (kk _ _ gx) dx (kk _ _ gy) dy (ziO 0 ax ay (hx2.trans hy2.symm) ?_)
 have hsz:decide (ix.size < iy.size)=false:=by
  have e1:=ax.length
  have e2:=ay.length
  rw [bC] at e1 e2
  exact decide_eq_false (by lia)
 rw [hsz]
 by_cases e:qx.2=qy.2
 ·rw [if_pos e]
  rw [e,zfC] at hQ
  exact hQ
 ·rw [if_neg e]
  exact hQ
theorem zlk (hT:zmY H k B ps) {out:Array Value} (hp:out.toList.Perm (ps.map fun q=>ba q.1)) (hs:out.toList.Pairwise fun x y=>num B (zdd H x)≤num B (zdd H y)) :
  ∃ ps':List (Addr×List Int),ps'.Perm ps∧(ps'.Pairwise fun a b=>num B a.2≤num B b.2)∧out.toList=ps'.map fun q=>ba q.1:=by
 let g:Value→Addr×List Int:=fun v=>match v with
  | .ref a=>(a,zdd H (.ref a))
  | _=>(0,[])
 have hg:∀ q∈ps,g (.ref q.1)=q:=fun q hq=>j8 rfl (zeC (hT q hq).1)
 have hv:∀ v∈out.toList,∃ q∈ps,v = .ref q.1:=fun v hv=>by
  obtain⟨q,hq,e⟩:=aE.mp (hp.mem_iff.mp hv)
  exact⟨q,hq,e.symm⟩
 refine⟨out.toList.map g,?_,?_,?_⟩
 ·refine (hp.map g).trans ?_
  rw [bh]
  have:ps.map (g ∘ fun q=>ba q.1)=ps:=by
   conv=>rhs; rw [← iY ps]
   exact bU fun q hq=>hg q hq
  rw [this]
 ·rw [ck]
  refine fJ (fun {x y} hx hy h=>?_) hs
  obtain⟨q,hq,rfl⟩:=hv x hx
  obtain⟨q',hq',rfl⟩:=hv y hy
  exact h
 ·rw [bh]
  conv=>lhs; rw [← iY out.toList]
  refine bU fun v hv'=>?_
  obtain⟨q,hq,rfl⟩:=hv v hv'
  rfl
end
theorem zjZ {M:Model} {h:Heap} {n:Int} {t:Tok}:PySem.W.Looks M h (typeOf (.int n t)) (.type "int"):=PySem.W.Looks.of_pure rfl
theorem zmZ {X:Cx} {pins:List (Addr×Obj)} {σ:St} {H:Hp} {s:Shared} {d:Addr} {kvs:List (List Key×V)} {mss:List (List Int)} (I:Inv X pins σ H s) (hd:H d=some (.dT kvs)) (hk:kvs.map (·.1)=mss.map (·.map cL)) :
  (d == sysModules)=false∧kvs.length≤sizeLine∧∃ (ps:List (Addr×List Int)) (es:Array DictEntry) (ep:Nat),zdM s.heap d es ep∧es.toList.map (·.key)=(ps.map fun q=>ba q.1)∧ps.map (·.2)=mss∧∀ q∈ps,H q.1=some (.tup (q.2.map V.int)):=by
 obtain⟨hz,hs,xs,hp,o,es,ep,ho,hx,he,hes,hnd⟩:=I.hok d _ hd
 refine⟨hs,hz,?_⟩
 have key:∀ {kvs:List (List Key×V)} {xs:List (List Key×Addr×Value)} {mss:List (List Int)},Paired (fun (p:List Key×V) (q:List Key×Addr×Value)=>p.1=q.1∧H q.2.1=some (.tup (p.1.map kV))∧RelV p.2 q.2.2) kvs xs→kvs.map (·.1)=mss.map (·.map cL) →
   ∃ ps:List (Addr×List Int),xs.map (fun x=>ba x.2.1)=(ps.map fun q=>ba q.1)∧ps.map (·.2)=mss∧∀ q∈ps,H q.1=some (.tup (q.2.map V.int)):=by
  intro kvs xs mss hp
  induction hp generalizing mss with
  | nil =>
   intro e
   cases mss with
   | nil=>exact⟨[],rfl,rfl,fun q hq=>by cases hq⟩
   | cons m mss=>simp at e
  | @cons x y l1 l2 h1 h2 ih =>
   intro e
   cases mss with
   | nil=>simp at e
   | cons m mss =>
    rw [aS,aS] at e
    obtain⟨e1,e2⟩:=jt e
    obtain⟨ps,a1,a2,a3⟩:=ih e2
    obtain⟨_,h12,_⟩:=h1
    refine⟨(y.2.1,m) :: ps,by rw [aS,aS,a1],by rw [aS,a2],fun q hq=>?_⟩
    rcases (aB.mp hq) with rfl | hq
    ·rw [h12,e1,bh]
     rfl
    ·exact a3 q hq
 obtain⟨ps,a1,a2,a3⟩:=key hp hk
 refine⟨ps,es,ep,⟨o,ho,hx,he⟩,?_,a2,a3⟩
 rw [hes,bh,← a1]
 rfl
theorem zga {X:Cx} (hc:X.calm=true):zbY X (.builtin "sorted") (fun xs H Q=>∃ (d:Addr) (k:Nat) (B:Int) (kvs:List (List Key×V)) (mss:List (List Int)),xs = [.ref d]∧H d=some (.dT kvs)∧kvs.map (·.1)=mss.map (·.map cL)∧(∀ ms∈mss,ms.length=k∧∀ n∈ms,0≤n∧n < B)∧1≤k∧1≤B ∧
  ∀ (l:Addr) (ps':List (Addr×List Int)),H l=none→(ps'.map (·.2)).Perm mss→(ps'.Pairwise fun a b=>num B a.2≤num B b.2)→(∀ q∈ps',H q.1=some (.tup (q.2.map V.int)))→Q (.ref l) (upd H l (.lst (ps'.map fun q=>V.ref q.1)))):=by
 intro pins s σ H xs us Q I r h
 obtain⟨d,k,B,kvs,mss,rfl,hd,hkm,hrg,hk,hB,q⟩:=h
 obtain⟨u,rfl,rx⟩:=vals1 r
 cases rx
 obtain⟨hs,hz,ps,es,ep,hraw,hek,hps,hH⟩:=zmZ I hd hkm
 have hT:zmY H k B ps:=fun q' hq'=>⟨hH q' hq',hrg q'.2 (by rw [← hps]; exact ft hq')⟩
 have hlp:ps.length=kvs.length:=by
  have e1:=congrArg eI hps
  have e2:=congrArg eI hkm
  rw [ab] at e1
  rw [ab,ab] at e2
  lia
 have hes:es.size=ps.length:=by
  have:=congrArg eI hek
  rw [ab,ab,bC] at this
  exact this
 refine zfB (vs:=ps.map fun q=>ba q.1) (κ:=tuples' true) (val:=fun p=>num B (zdd H p.1)) (by rw [ab]; lia) (fun R hR=>?_) (fun s' kk h2 A' Q' E' hq'=>?_) (fun s' A' kk=>zoI I hT hB kk) fun h' tk out e D kk hD hlst hp hs=>?_
 ·refine PySem.W.kdu_collect (zmX (es:=es) (ep:=ep) hs) (by simp [I.ok.hd hc]) hraw (by lia) fun h' tk acc kk hacc=>?_
  have:acc.toList=ps.map fun q=>ba q.1:=by
   rw [← hek]
   refine cK fun j=>?_
   by_cases hj:j < es.size
   ·have hja:j < acc.size:=by rw [hacc.1]; exact hj
    obtain⟨e',h1,h2⟩:=hacc.2 j acc[j] (getElem?_pos acc j hja)
    rw [bp,getElem?_pos acc j hja,ah,bp,h1,h2]
    rfl
   ·rw [bq (by rw [bC,hacc.1]; lia),bq (by rw [ab,bC]; lia)]
  rw [this]
  exact hR h' tk kk
 ·obtain⟨fs,k1,k2,k3⟩:=zoH I hT hk kk
  exact PySem.W.kat_kind (T:=.type "int") k1 (by rw [ab] at h2; lia) (fun v hv=>by obtain⟨n,t,rfl⟩:=k3 v hv; exact zjZ) rfl hq'
 ·obtain⟨ps',p1,p2,p3⟩:=zlk hT hp hs
  have hl:=p1.length_eq
  obtain⟨hn,I2⟩:=I.above (tk:=tk) (D:=D) (o:=.lst (ps'.map fun q=>V.ref q.1)) kk hD ⟨by rw [ab]; lia,ps'.map fun q=>ba q.1,e,zde ps',by rw [← p3]; exact hlst⟩
  exact⟨.ref D,_,I2,rfl,q D ps' hn (by rw [← hps]; exact p1.map _) p2 fun q' hq'=>(hT q' (p1.mem_iff.mp hq')).1⟩
end L2
end
section
namespace L2
open PySem PySem.Spec PyProof.Rows
section
variable {X:Cx} {elt t1 i1 t2 i2:Expr} {f1 f2:List Expr} {scope:Scope} {pos:Pos} {N':List Str} {ix:List (Option Nat)} {js1 js2:List Nat} {g1 g2:TG} {ts1 ts2:TT} {te:TE} {wi1 wi2:TI}
theorem zll (hc:X.calm=true) (gs2:GS js2 g2) (hi2:∀ s₃ H₃ ex pins,PI (zE X N' scope s₃ H₃ ex pins) t2 i2 wi2)
  (hg2:∀ s₃ H₃ ex pins,PG (zE X N' scope s₃ H₃ ex pins) t2 g2) (ht2:∀ s₃ H₃ ex pins,zc3 (zE X N' scope s₃ H₃ ex pins) f2 ts2) (he:∀ s₃ H₃ ex pins,PE (zE X N' scope s₃ H₃ ex pins) elt te)
  (hs2:∀ s₃ H₃ ex pins x,foldedSetIterable i2 (zE X N' scope s₃ H₃ ex pins).env x=pure x) :
  ∀ s₃ H₃ ex pins D,PM (zE X N' scope s₃ H₃ ex pins) D js2 ((fun D env=>ziu (.ListComp elt [⟨t1,i1,f1,0⟩,⟨t2,i2,f2,0⟩] scope pos) i2 1 (.ref D) env) D (zE X N' scope s₃ H₃ ex pins).env) (ziw wi2 g2 ts2 (ziv te)):=by
 intro s₃ H₃ ex pins D
 have h:=zon (Y:=zE X N' scope s₃ H₃ ex pins) (D:=D) (js:=js2) (js':=[]) (elt:=elt) (gens:=[⟨t1,i1,f1,0⟩,⟨t2,i2,f2,0⟩]) (scope:=scope) (pos:=pos) (d:=1) (p:=i2.pos) hc rfl gs2 (fun _ _ z=>by cases z) (hi2 s₃ H₃ ex pins) (hg2 s₃ H₃ ex pins) (ht2 s₃ H₃ ex pins) (zhS rfl (he s₃ H₃ ex pins)) rfl (fun it=>zoo it D _) (hs2 s₃ H₃ ex pins)
 rw [bD] at h
 exact h
theorem ziQ (SC:CompSc X N' ix scope) (hc:X.calm=true) (gs1:GS js1 g1) (gs2:GS js2 g2) (hdis:∀ j∈js1,j∉js2) (hjs:∀ j∈js1++js2,ix[j]? = some none) (hi1:PI X t1 i1 wi1)
  (hg1:∀ s₃ H₃ ex pins,PG (zE X N' scope s₃ H₃ ex pins) t1 g1) (ht1:∀ s₃ H₃ ex pins,zc3 (zE X N' scope s₃ H₃ ex pins) f1 ts1) (hi2:∀ s₃ H₃ ex pins,PI (zE X N' scope s₃ H₃ ex pins) t2 i2 wi2)
  (hg2:∀ s₃ H₃ ex pins,PG (zE X N' scope s₃ H₃ ex pins) t2 g2) (ht2:∀ s₃ H₃ ex pins,zc3 (zE X N' scope s₃ H₃ ex pins) f2 ts2) (he:∀ s₃ H₃ ex pins,PE (zE X N' scope s₃ H₃ ex pins) elt te)
  (hs:∀ x,foldedSetIterable i1 X.env x=pure x:=by intro _; rfl) (hs2:∀ s₃ H₃ ex pins x,foldedSetIterable i2 (zE X N' scope s₃ H₃ ex pins).env x=pure x:=by intros; rfl) :
  PE X (.ListComp elt [⟨t1,i1,f1,0⟩,⟨t2,i2,f2,0⟩] scope pos) (zfV ix wi1 g1 ts1 (ziw wi2 g2 ts2 (ziv te))) :=
 zgM SC hc gs1 hdis hjs hi1 hg1 ht1 (zll hc gs2 hi2 hg2 ht2 he hs2) (fun it D env=>zkF it D env) hs
theorem zh2 {i:Nat} {x:Str} {pos' spos:Pos} (hN:X.N.Nodup) (hxi:X.N[i]? = some x) (hx:Loc X.env.scope x) (SC:CompSc X N' ix scope) (hc:X.calm=true) (gs1:GS js1 g1) (gs2:GS js2 g2) (hdis:∀ j∈js1,j∉js2) (hjs:∀ j∈js1++js2,ix[j]? = some none) (hi1:PI X t1 i1 wi1)
  (hg1:∀ s₃ H₃ ex pins,PG (zE X N' scope s₃ H₃ ex pins) t1 g1) (ht1:∀ s₃ H₃ ex pins,zc3 (zE X N' scope s₃ H₃ ex pins) f1 ts1) (hi2:∀ s₃ H₃ ex pins,PI (zE X N' scope s₃ H₃ ex pins) t2 i2 wi2)
  (hg2:∀ s₃ H₃ ex pins,PG (zE X N' scope s₃ H₃ ex pins) t2 g2) (ht2:∀ s₃ H₃ ex pins,zc3 (zE X N' scope s₃ H₃ ex pins) f2 ts2) (he:∀ s₃ H₃ ex pins,PE (zE X N' scope s₃ H₃ ex pins) elt te)
  (hsw:swapsWith (.ListComp elt [⟨t1,i1,f1,0⟩,⟨t2,i2,f2,0⟩] scope pos) (some (.Name x pos')) spos.line X.env=pure true:=by rfl)
  (hs:∀ x,foldedSetIterable i1 X.env x=pure x:=by intro _; rfl) (hs2:∀ s₃ H₃ ex pins x,foldedSetIterable i2 (zE X N' scope s₃ H₃ ex pins).env x=pure x:=by intros; rfl) (hf:X.fn x=true∨X.env.scope.names.lookup x=some .local:=by first | exact .inl rfl | exact .inr rfl | assumption) :
  PS X (.Assign [.Name x pos'] (.ListComp elt [⟨t1,i1,f1,0⟩,⟨t2,i2,f2,0⟩] scope pos) spos) (zhI (zfV ix wi1 g1 ts1 (ziw wi2 g2 ts2 (ziv te))) (zaQ i)) :=
 zdE hN hxi hx SC hc gs1 hdis hjs hi1 hg1 ht1 (zll hc gs2 hi2 hg2 ht2 he hs2) (fun it D env=>zkF it D env) hsw hs hf
end
theorem zfD {J:It} {n:Nat} {g:TG} {ts:TT} {tm:TM} {σ0:St} {Q:List V→Hp→Prop} {ys:List V} {H:Hp} (Pv:Nat→List V→Hp→Prop) (h0:Pv 0 ys H) (hgo:∀ i ys H,i < n→Pv i ys H→J.go i H) (hst:∀ ys H,Pv n ys H→J.stop n H)
  (hs:∀ i x ys H H',i < n→Pv i ys H→J.yld i H x H'→g x σ0 H' fun σ2 H2=>ts σ2 H2 fun b H3=>if b=true then tm ys σ2 H3 (Pv (i+1)) else Pv (i+1) ys H3)
  (hd:∀ ys H,Pv n ys H→Q ys H):cIn g ts tm σ0 J Q ys H:=by
 refine⟨fun i m ys H=>m=n - i∧i≤n∧Pv i ys H,⟨n,by simp,bi _,h0⟩,?_⟩
 rintro i m ys H ⟨rfl,hi,p⟩
 by_cases hlt:i < n
 ·exact .inr ⟨hgo i ys H hlt p,Pv (i+1),fun ys' H' p'=>⟨n - (i+1),by lia,rfl,hlt,p'⟩,fun x H' y=>hs i x ys H H' hlt p y⟩
 ·have e:i=n:=by lia
  subst e
  exact .inl ⟨hst ys H p,hd ys H p⟩
end L2
end
section
namespace L2
open PySem PySem.Spec PyProof.Rows
end L2
end
section
namespace L2
open PySem PySem.Spec PyProof.Rows
def zoJ (sc:Scope) (x:Str):Bool:=match sc.names.lookup x with
 | some .local=>true
 | some .cell=>true
 | some .free=>true
 | _=>false
theorem zm0 {sc:Scope} {x:Str} (h:zoJ sc x=true):Vis sc x:=by
 unfold zoJ at h
 unfold Vis
 cases e:sc.names.lookup x with
 | none=>rw [e] at h; cases h
 | some k=>cases k <;> simp_all
def pvB (N:List Str) (sc:Scope) (i:Nat) (x:Str):Bool:=decide (N[i]? = some x) && zoJ sc x && !(x == ("__debug__" : Str)) && !(x == ("__classdict__" : Str))
theorem pvx {X:Cx} (i:Nat) {x:Str} {pos:Pos} (h:pvB X.N X.env.scope i x=true):PE X (.Name x pos) (zo2 i):=by
 unfold pvB at h
 simp only [fb,Bool.not_eq_true',decide_eq_true_eq] at h
 exact zn3 h.1.1.1 (zm0 h.1.1.2) h.1.2 h.2
end L2
end
section
namespace My
open PySem L2 PyProof.Rows
def nxt {α:Type} (xs:List α) (c:Nat×List α):List (Nat×List α):=(aH (xs.length - c.1)).map fun j=>(c.1+j+1,c.2++xs[c.1+j]?.toList)
def chs {α:Type} (xs:List α):Nat→List (Nat×List α)
 | 0=>[(0,[])]
 | m+1=>(chs xs m).flatMap (nxt xs)
theorem zgb {α:Type} (xs:List α) (c:Nat×List α):(nxt xs c).length=xs.length - c.1:=by unfold nxt; rw [ab,aV]
theorem zm1 {α:Type} {xs:List α} {c:Nat×List α} {j:Nat} {x:α} (h:xs[c.1+j]? = some x):(nxt xs c)[j]? = some (c.1+j+1,c.2++[x]):=by
 have hj:j < xs.length - c.1:=by
  have:=(aA.mp h).1
  lia
 unfold nxt
 rw [ah,bM hj]
 simp [h]
theorem ziR:∀ r:Nat,((aH r).map fun j=>2 ^ (r - j - 1)).sum+1=2 ^ r
 | 0=>rfl
 | r+1=>by
  rw [iT,aS,cV,bh]
  have e:((aH r).map ((fun j=>2 ^ (r+1 - j - 1)) ∘ Nat.succ))=(aH r).map fun j=>2 ^ (r - j - 1):=bU fun j _=>by
   show 2 ^ (r+1 - (j+1) - 1)=2 ^ (r - j - 1)
   congr 1
   lia
  rw [e]
  have:=ziR r
  rw [Nat.pow_succ]
  show 2 ^ (r+1 - 0 - 1)+_+1=_
  rw [show r+1 - 0 - 1=r from by lia]
  lia
def pot {α:Type} (n:Nat) (cs:List (Nat×List α)):Nat:=(cs.map fun c=>2 ^ (n - c.1)).sum
theorem zm2 {α:Type} (xs:List α) (c:Nat×List α):pot xs.length (nxt xs c)≤2 ^ (xs.length - c.1):=by
 unfold pot nxt
 rw [bh]
 have e:((aH (xs.length - c.1)).map ((fun c:Nat×List α=>2 ^ (xs.length - c.1)) ∘ fun j=>(c.1+j+1,c.2++xs[c.1+j]?.toList)))=(aH (xs.length - c.1)).map fun j=>2 ^ (xs.length - c.1 - j - 1):=bU fun j _=>by
  show 2 ^ (xs.length - (c.1+j+1))=_
  congr 1
  lia
 rw [e]
 have:=ziR (xs.length - c.1)
 lia
theorem zhd {α:Type} (xs:List α):∀ cs:List (Nat×List α),pot xs.length (cs.flatMap (nxt xs))≤pot xs.length cs
 | []=>ag _
 | c :: cs=>by
  have h1:=zm2 xs c
  have h2:=zhd xs cs
  rw [dr]
  unfold pot at h1 h2 ⊢
  rw [au,kA,aS,cV]
  lia
theorem ziS {α:Type} (n:Nat):∀ cs:List (Nat×List α),cs.length≤pot n cs
 | []=>ag _
 | c :: cs=>by
  have h:=ziS n cs
  have:0 < 2 ^ (n - c.1):=Nat.pos_of_ne_zero (by simp)
  unfold pot at h ⊢
  rw [aS,cV,bW]
  lia
theorem ziT {α:Type} (xs:List α):∀ m,pot xs.length (chs xs m)≤2 ^ xs.length
 | 0=>by
  unfold chs pot
  simp
 | m+1=>aZ (zhd xs (chs xs m)) (ziT xs m)
theorem zm3 {α:Type} (xs:List α) (m:Nat):(chs xs m).length≤2 ^ xs.length:=aZ (ziS _ _) (ziT xs m)
theorem zcE {α:Type} {xs:List α} (m:Nat) (h:xs.length≤16):(chs xs m).length≤65536:=aZ (zm3 xs m) (aZ (Nat.pow_le_pow_right (by decide) h) (by decide))
theorem zj0 {α β:Type} {f:α→List β} {l:List α} {i j:Nat} {c:α} (hc:l[i]? = some c) (hj:j < (f c).length):((l.take i).flatMap f).length+j < (l.flatMap f).length:=by
 have e:l.flatMap f=(l.take i).flatMap f++(f c++(l.drop (i+1)).flatMap f):=by
  conv=>lhs; rw [zeq hc]
  rw [ci,dr]
 rw [e,ao,ao]
 lia
theorem zj1 {α β:Type} {f:α→List β} {l:List α} {i:Nat} {c:α} (hc:l[i]? = some c):(l.take (i+1)).flatMap f=(l.take i).flatMap f++f c:=by
 rw [take_snoc hc,ci,dr,gb,bD]
theorem zoK {α:Type} {xs:List α}:∀ {m:Nat} {c:Nat×List α},c∈chs xs m→c.1≤xs.length
 | 0,c,h=>by
  unfold chs at h
  rw [aW] at h
  subst h
  exact bi _
 | m+1,c,h=>by
  unfold chs at h
  obtain⟨c',_,hc⟩:=bO.mp h
  unfold nxt at hc
  obtain⟨j,hj,rfl⟩:=aE.mp hc
  have:=bd.mp hj
  show c'.1+j+1≤xs.length
  lia
theorem zhe {α:Type} {xs:List α}:∀ {m:Nat} {c:Nat×List α},c∈chs xs m→c.2.length≤m
 | 0,c,h=>by
  unfold chs at h
  rw [aW] at h
  subst h
  exact ag _
 | m+1,c,h=>by
  unfold chs at h
  obtain⟨c',hm,hc⟩:=bO.mp h
  have:=zhe hm
  unfold nxt at hc
  obtain⟨j,hj,rfl⟩:=aE.mp hc
  show (c'.2++xs[c'.1+j]?.toList).length≤m+1
  rw [ao]
  have:xs[c'.1+j]?.toList.length≤1:=by cases xs[c'.1+j]? <;> simp
  lia
theorem Paired.get {α β:Type} {F:α→β→Prop}:∀ {l₁:List α} {l₂:List β},Paired F l₁ l₂→∀ {i:Nat} {a:α},l₁[i]? = some a→∃ b,l₂[i]? = some b∧F a b
 | _,_,.nil,i,a,h=>by simp at h
 | _,_,.cons r t,0,a,h=>by
  (simp only [fS,hJ] at h)
  subst h
  exact⟨_,rfl,r⟩
 | _,_,.cons r t,i+1,a,h=>by
  rw [cn] at h
  obtain⟨b,hb,f⟩:=Paired.get t h
  exact⟨b,by rw [cn]; exact hb,f⟩
def zm4 (H:Hp) (t:Addr) (c:Nat×List V):Prop:=∃ L,H t=some (.tup [.int (c.1:Int),.ref L])∧H L=some (.lst c.2)
theorem zm4.same {H H':Hp} (s:zu H H') {t:Addr} {c:Nat×List V} (h:zm4 H t c):zm4 H' t c:=let ⟨L,h1,h2⟩:=h; ⟨L,s _ _ h1,s _ _ h2⟩
def zeD (H:Hp):List Addr→List (Nat×List V)→Prop:=Paired (zm4 H)
theorem zeD.same {H H':Hp} (s:zu H H') {ts:List Addr} {cs:List (Nat×List V)} (h:zeD H ts cs):zeD H' ts cs:=cI (fun _ _ z=>z.same s) h
def zhf (H:Hp):List Addr→List (List V)→Prop:=Paired fun l pk=>H l=some (.lst pk)
theorem zhf.same {H H':Hp} (s:zu H H') {ts:List Addr} {cs:List (List V)} (h:zhf H ts cs):zhf H' ts cs:=cI (fun _ _ z=>s _ _ z) h
def zh3 (K:ai):Sp:=fun vs H Q _=>∃ (a:Addr) (m:Nat) (xs:List V),vs = [.ref a,.int (m:Int)]∧SqL K H a xs∧xs.length≤16∧m≤1000 ∧
 ∀ (l:Addr) (ls:List Addr) (H':Hp),H l=none→zu H H'→H' l=some (.lst (ls.map V.ref))→zhf H' ls ((chs xs m).map (·.2))→Q (.ref l) H'
end My
end
section
namespace My
open PySem L2 PyProof.Rows
def quo (p r:Int):List Int→List Int
 | []=>[]
 | [_]=>[]
 | _ :: d :: cs=>zp p r (d :: cs) :: quo p r (d :: cs)
theorem ziU (p r:Int):∀ (c:Int) (cs:List Int),(quo p r (c :: cs)).length=cs.length
 | _,[]=>rfl
 | _,d :: cs=>by
  show (quo p r (d :: cs)).length+1=cs.length+1
  rw [ziU p r d cs]
theorem zlm {p r x:Int}:∀ d:List Int,Cg p (zp p x d - zp p r d) ((x - r)*zp p x (quo p r d))
 | []=>Cg.of_eq (by show (0:Int) - 0=(x - r)*0; lia)
 | [c]=>by
  have h1:Cg p (zp p x [c]) (c+x*0):=z9 p x c []
  have h2:Cg p (zp p r [c]) (c+r*0):=z9 p r c []
  refine (h1.sub h2).trans (Cg.of_eq ?_)
  show c+x*0 - (c+r*0)=(x - r)*0
  lia
 | c :: d :: cs=>by
  have h1:=z9 p x c (d :: cs)
  have h2:=z9 p r c (d :: cs)
  have ih:=zlm (p:=p) (r:=r) (x:=x) (d :: cs)
  have h3:Cg p (zp p x (quo p r (c :: d :: cs))) (zp p r (d :: cs)+x*zp p x (quo p r (d :: cs))):=z9 p x _ _
  have h4:=(Cg.refl p (x - r)).mul h3
  have h5:=(Cg.refl p x).mul ih
  refine (h1.sub h2).trans (Cg.symm (h4.trans ?_))
  refine (Cg.of_eq (show _=(x - r)*zp p r (d :: cs)+x*((x - r)*zp p x (quo p r (d :: cs))) by grind)).trans ?_
  refine ((Cg.refl p ((x - r)*zp p r (d :: cs))).add h5.symm).trans (Cg.of_eq (by grind))
theorem zhg {p r:Int}:∀ d:List Int,Cg p (zp p r d) 0→(∀ c∈quo p r d,Cg p c 0)→∀ c∈d,Cg p c 0
 | [],_,_,c,hc=>by cases hc
 | [a],h,_,c,hc=>by
  obtain rfl:c=a:=by simpa using hc
  have h1:Cg p (zp p r [c]) (c+r*0):=z9 p r c []
  exact ((Cg.of_eq (by lia)).trans h1.symm).trans h
 | a :: d :: cs,h,hq,c,hc=>by
  have h0:Cg p (zp p r (d :: cs)) 0:=hq _ aF
  rcases (aB.mp hc) with rfl | hc
  ·have h1:=z9 p r c (d :: cs)
   have h2:=(Cg.refl p r).mul h0
   have h3:=(h1.symm.trans h).sub h2
   exact (Cg.of_eq (by lia)).trans (h3.trans (Cg.of_eq (by lia)))
  ·exact zhg (d :: cs) h0 (fun c hc=>hq c (av _ hc)) c hc
theorem zfE {p a y:Int} (hp:p∈zo) (ha0:a % p≠0) (h:Cg p (a*y) 0):Cg p y 0:=by
 have rp:=zr hp
 have g0:=aI a (show p≠0 by lia)
 have g1:=aC a (show 0 < p by lia)
 have hi:=zek hp (h:=a % p) (by lia) g1
 have h1:Cg p (inv p (a % p)*(a % p)*y) (1*y):=hi.mul (Cg.refl p y)
 have h2:Cg p (inv p (a % p)*(a % p)*y) (inv p (a % p)*(a*y)):=by
  have:=((Cg.refl p (inv p (a % p))).mul (Cg.emod p a)).mul (Cg.refl p y)
  exact this.trans (Cg.of_eq (by grind))
 have h3:=(Cg.refl p (inv p (a % p))).mul h
 exact (Cg.of_eq (by lia)).trans (h1.symm.trans (h2.trans (h3.trans (Cg.of_eq (by lia)))))
theorem zeE {p:Int} (hp:p∈zo):∀ (n:Nat) (d xs:List Int),d.length=n→n≤xs.length→xs.Nodup→(∀ x∈xs,0≤x∧x < p)→(∀ x∈xs,Cg p (zp p x d) 0)→∀ c∈d,Cg p c 0
 | 0,d,xs,hd,_,_,_,_,c,hc=>by
  rw [fT] at hd
  subst hd
  cases hc
 | n+1,d,[],hd,hx,_,_,_,c,hc=>by simp at hx
 | n+1,[],r :: xs,hd,hx,_,_,_,c,hc=>by cases hc
 | n+1,a :: cs,r :: xs,hd,hx,hnd,hrg,hz,c,hc=>by
  have rp:=zr hp
  obtain⟨r0,r1⟩:=hrg r aF
  have hr:=hz r aF
  refine zhg (a :: cs) hr (zeE hp n (quo p r (a :: cs)) xs (by rw [ziU]; simpa using hd) (by simpa using hx) (dL.mp hnd).2 (fun x h=>hrg x (av _ h)) fun x h=>?_) c hc
  obtain⟨x0,x1⟩:=hrg x (av _ h)
  have hne:x≠r:=fun e=>(dL.mp hnd).1 (e ▸ h)
  have he:=zlm (p:=p) (r:=r) (x:=x) (a :: cs)
  have h0:=(hz x (av _ h)).sub hr
  refine zfE hp (a:=x - r) (fun e=>?_) (he.symm.trans (h0.trans (Cg.of_eq (by lia))))
  have:Cg p x r:=by
   have h1:Cg p (x - r) 0:=Cg.of_mod (by rw [e]; simp)
   have h2:=h1.add (Cg.refl p r)
   exact (Cg.of_eq (by lia)).trans (h2.trans (Cg.of_eq (by lia)))
  exact hne (this.eq x0 x1 r0 r1)
theorem zhh {p x:Int}:∀ {a b:List Int},a.length=b.length→Cg p (zp p x (bn (· - ·) a b)) (zp p x a - zp p x b)
 | [],[],_=>Cg.of_eq rfl
 | c :: a,d :: b,h=>by
  have ih:=zhh (p:=p) (x:=x) (a:=a) (b:=b) (by simpa using h)
  have h1:=z9 p x c a
  have h2:=z9 p x d b
  have h3:Cg p (zp p x (bn (· - ·) (c :: a) (d :: b))) (c - d+x*zp p x (bn (· - ·) a b)):=z9 p x (c - d) _
  refine h3.trans (((Cg.refl p (c - d)).add ((Cg.refl p x).mul ih)).trans (Cg.symm ((h1.sub h2).trans (Cg.of_eq (by grind)))))
 | [],_ :: _,h=>by simp at h
 | _ :: _,[],h=>by simp at h
theorem zhi {p:Int}:∀ {a b:List Int},a.length=b.length→(∀ c∈a,0≤c∧c < p)→(∀ c∈b,0≤c∧c < p)→(∀ c∈bn (· - ·) a b,Cg p c 0)→a=b
 | [],[],_,_,_,_=>rfl
 | c :: a,d :: b,h,ha,hb,hz=>by
  obtain⟨c0,c1⟩:=ha c aF
  obtain⟨d0,d1⟩:=hb d aF
  have h1:Cg p (c - d) 0:=hz _ aF
  have h2:Cg p c d:=(Cg.of_eq (by lia)).trans ((h1.add (Cg.refl p d)).trans (Cg.of_eq (by lia)))
  rw [h2.eq c0 c1 d0 d1,zhi (by simpa using h) (fun c hc=>ha c (av _ hc)) (fun c hc=>hb c (av _ hc)) (fun c hc=>hz c (av _ hc))]
 | [],_ :: _,h,_,_,_=>by simp at h
 | _ :: _,[],h,_,_,_=>by simp at h
theorem zdH {p:Int} (hp:p∈zo) {a b xs:List Int} (hl:a.length=b.length) (hx:a.length≤xs.length) (hnd:xs.Nodup) (hrg:∀ x∈xs,0≤x∧x < p) (ha:∀ c∈a,0≤c∧c < p) (hb:∀ c∈b,0≤c∧c < p)
  (he:∀ x∈xs,zp p x a=zp p x b):a=b:=by
 refine zhi hl ha hb (zeE hp a.length _ xs (by rw [fo]; lia) hx hnd hrg fun x h=>?_)
 refine (zhh hl).trans (Cg.of_eq ?_)
 rw [he x h]
 lia
theorem zh4 {p:Int} (hp:p∈zo) {pk:List (Int×Int)} (hP:Pts p pk) {q:List Int} (hl:q.length=pk.length) (hq:∀ c∈q,0≤c∧c < p) (hh:∀ a∈pk,zp p a.1 q=a.2):q=thr p pk:=by
 obtain⟨h1,h2,h3⟩:=zeo hp hP
 refine zdH hp (xs:=pk.map (·.1)) (by lia) (by rw [ab]; lia) hP.nd (fun x hx=>?_) hq h2 fun x hx=>?_
 ·obtain⟨a,ha,rfl⟩:=aE.mp hx
  exact⟨(hP.rg a ha).1,(hP.rg a ha).2.1⟩
 ·obtain⟨a,ha,rfl⟩:=aE.mp hx
  rw [hh a ha,h3 a ha]
theorem Pts.sub {p:Int} {pk pts:List (Int×Int)} (h:Pts p pts) (hs:pk.Sublist pts):Pts p pk:=⟨(hs.map _).nodup h.nd,fun q hq=>h.rg q (hs.subset hq)⟩
theorem ziV {α:Type} {xs:List α}:∀ {m:Nat} {c:Nat×List α},c∈chs xs m→c.2.Sublist (xs.take c.1)∧c.2.length=m∧c.1≤xs.length
 | 0,c,h=>by
  unfold chs at h
  rw [aW] at h
  subst h
  exact⟨ip _,rfl,bi _⟩
 | m+1,c,h=>by
  unfold chs at h
  obtain⟨c',hm,hc⟩:=bO.mp h
  obtain⟨h1,h2,h3⟩:=ziV hm
  unfold nxt at hc
  obtain⟨j,hj,rfl⟩:=aE.mp hc
  (have hj':=bd.mp hj)
  have hlt:c'.1+j < xs.length:=by lia
  have e:xs[c'.1+j]? = some xs[c'.1+j]:=aj hlt
  dsimp only
  rw [e]
  refine⟨?_,by rw [ao,h2]; rfl,by lia⟩
  rw [take_snoc e]
  refine List.Sublist.append (h1.trans ?_) (List.Sublist.refl _)
  have:xs.take c'.1=(xs.take (c'.1+j)).take c'.1:=by rw [kH]; congr 1; lia
  rw [this]
  exact cj _ _
theorem sub_one {α:Type} {l:List α} {x:α} (h:l.Sublist [x]):l = []∨l = [x]:=by
 cases h with
 | cons _ h=>exact .inl (iq.mp h)
 | cons_cons _ h=>exact .inr (by rw [iq.mp h])
theorem zd6 {α:Type} {xs:List α}:∀ {m n:Nat} {pk:List α},pk.Sublist (xs.take n)→pk.length=m→∃ s,s≤n∧(s,pk)∈chs xs m
 | 0,n,pk,h,hl=>by
  rw [fT] at hl
  subst hl
  exact⟨0,bi _,by unfold chs; exact aW.mpr rfl⟩
 | m+1,0,pk,h,hl=>by
  rw [dv] at h
  rw [iq.mp h] at hl
  simp at hl
 | m+1,n+1,pk,h,hl=>by
  cases e:xs[n]? with
  | none =>
   have:xs.take (n+1)=xs.take n:=by
    have:=List.getElem?_eq_none_iff.mp e
    rw [aM (by lia),aM this]
   rw [this] at h
   obtain⟨s,h1,h2⟩:=zd6 (m:=m+1) (n:=n) h hl
   exact⟨s,by lia,h2⟩
  | some x =>
   rw [take_snoc e] at h
   obtain⟨l1,l2,rfl,h1,h2⟩:=List.sublist_append_iff.mp h
   rcases (sub_one h2) with rfl | rfl
   ·rw [bD] at hl ⊢
    obtain⟨s,a1,a2⟩:=zd6 (m:=m+1) (n:=n) h1 hl
    exact⟨s,by lia,a2⟩
   ·obtain⟨s,a1,a2⟩:=zd6 (m:=m) (n:=n) h1 (by simpa using hl)
    refine⟨n+1,ag _,?_⟩
    unfold chs
    refine bO.mpr ⟨(s,l1),a2,?_⟩
    have hlt:=(aA.mp e).1
    unfold nxt
    refine aE.mpr ⟨n - s,bd.mpr (by show n - s < xs.length - s; lia),?_⟩
    have es:s+(n - s)=n:=by lia
    dsimp only
    rw [es,e]
    rfl
theorem zgc {α:Type} {xs pk:List α} {m:Nat}:pk∈(chs xs m).map (·.2)↔pk.Sublist xs∧pk.length=m:=by
 constructor
 ·intro h
  obtain⟨c,hc,rfl⟩:=aE.mp h
  obtain⟨h1,h2,h3⟩:=ziV hc
  exact⟨h1.trans (cj _ _),h2⟩
 ·rintro⟨h1,h2⟩
  obtain⟨s,_,hs⟩:=zd6 (xs:=xs) (n:=xs.length) (by rw [bA]; exact h1) h2
  exact aE.mpr ⟨_,hs,rfl⟩
def hit (p:Int) (q:List Int) (a:Int×Int):Bool:=decide (zp p a.1 q=a.2)
def hits (p:Int) (q:List Int) (pts:List (Int×Int)):Nat:=(pts.filter (hit p q)).length
def IsP (p:Int) (k:Nat) (q:List Int):Prop:=q.length=k∧∀ c∈q,0≤c∧c < p
theorem zeF {p:Int} (hp:p∈zo) {pts:List (Int×Int)} (hP:Pts p pts) {q:List Int} {k t n:Nat} (hq:IsP p k q) (hk:k≤t) (hn:pts.length≤n+(t - k)) (ht:t≤hits p q pts) :
  ∃ pk,pk∈(chs (pts.take n) k).map (·.2)∧q=thr p pk:=by
 have hsplit:hits p q pts=((pts.take n).filter (hit p q)).length+((pts.drop n).filter (hit p q)).length:=by
  unfold hits
  conv=>lhs; rw [← b8 n pts]
  rw [eE,ao]
 have hd:=eS (hit p q) (pts.drop n)
 rw [bZ] at hd
 have hk':k≤((pts.take n).filter (hit p q)).length:=by lia
 have hs:(((pts.take n).filter (hit p q)).take k).Sublist (pts.take n):=(cj _ _).trans (gp)
 have hl:(((pts.take n).filter (hit p q)).take k).length=k:=by rw [aD]; lia
 refine⟨_,zgc.mpr ⟨hs,hl⟩,zh4 hp (hP.sub (hs.trans (cj _ _))) (by rw [hl]; exact hq.1) hq.2 fun a ha=>?_⟩
 have:=(cw.mp ((cj _ _).subset ha)).2
 simpa [hit] using this
theorem ziW {p:Int} (hp:p∈zo) {pts pk:List (Int×Int)} (hP:Pts p pts) {k:Nat} (h:pk∈(chs pts k).map (·.2)):IsP p k (thr p pk):=by
 obtain⟨h1,h2⟩:=zgc.mp h
 obtain⟨a,b,_⟩:=zeo hp (hP.sub h1)
 exact⟨a.trans h2,b⟩
def hps:List Int→List (Option Int)→List (Int×Int)
 | x :: pl,some y :: rw=>(x,y) :: hps pl rw
 | _ :: pl,none :: rw=>hps pl rw
 | _,_=>[]
theorem zeG:∀ {pl:List Int} {rw:List (Option Int)} {i:Nat} {x:Int} {o:Option Int},pl[i]? = some x→rw[i]? = some o→hps (pl.take (i+1)) (rw.take (i+1))=hps (pl.take i) (rw.take i)++(match o with | some y=>[(x,y)] | none=>[])
 | [],_,i,x,o,h,_=>by simp at h
 | _ :: _,[],i,x,o,_,h=>by simp at h
 | a :: pl,b :: rw,0,x,o,h1,h2=>by
  simp only [fS,hJ] at h1 h2
  subst h1 h2
  cases b <;> rfl
 | a :: pl,b :: rw,i+1,x,o,h1,h2=>by
  rw [cn] at h1 h2
  have ih:=zeG h1 h2
  cases b with
  | none=>exact ih
  | some y =>
   show (a,y) :: hps (pl.take (i+1)) (rw.take (i+1))=(a,y) :: hps (pl.take i) (rw.take i)++_
   rw [ih]
   rfl
theorem zby:∀ (pl:List Int) (rw:List (Option Int)),(hps pl rw).length≤pl.length
 | [],rw=>by unfold hps; simp
 | a :: pl,[]=>by unfold hps; simp
 | a :: pl,none :: rw=>by
  have:=zby pl rw
  show (hps pl rw).length≤pl.length+1
  lia
 | a :: pl,some y :: rw=>by
  have:=zby pl rw
  show (hps pl rw).length+1≤pl.length+1
  lia
theorem zcg:∀ {pl:List Int} {rw:List (Option Int)} {a:Int×Int},a∈hps pl rw→a.1∈pl∧some a.2∈rw
 | [],_,a,h=>by unfold hps at h; cases h
 | _ :: _,[],a,h=>by unfold hps at h; cases h
 | x :: pl,none :: rw,a,h=>by
  obtain⟨h1,h2⟩:=zcg (pl:=pl) (rw:=rw) h
  exact⟨av _ h1,av _ h2⟩
 | x :: pl,some y :: rw,a,h=>by
  rcases (aB.mp h) with rfl | h
  ·exact⟨aF,aF⟩
  ·obtain⟨h1,h2⟩:=zcg (pl:=pl) (rw:=rw) h
   exact⟨av _ h1,av _ h2⟩
theorem zgd:∀ (pl:List Int) (rw:List (Option Int)),((hps pl rw).map (·.1)).Sublist pl
 | [],_=>by unfold hps; exact ip _
 | _ :: _,[]=>by unfold hps; exact ip _
 | x :: pl,none :: rw=>(zgd pl rw).cons _
 | x :: pl,some y :: rw=>(zgd pl rw).cons_cons _
theorem zdf {p:Int} {pl:List Int} {rw:List (Option Int)} (h1:pl.Nodup) (h2:∀ x∈pl,0≤x∧x < p) (h3:∀ z,some z∈rw→0≤z∧z < p):Pts p (hps pl rw) :=
 ⟨(zgd pl rw).nodup h1,fun q hq=>⟨(h2 _ (zcg hq).1).1,(h2 _ (zcg hq).1).2,(h3 _ (zcg hq).2).1,(h3 _ (zcg hq).2).2⟩⟩
theorem zhj {p:Int} {pl:List Int} {rw:List (Option Int)} {q:List Int} (hl:rw.length=pl.length):∀ n,n≤pl.length→(zet p pl rw q n).length=hits p q (hps (pl.take n) (rw.take n))
 | 0,_=>by simp [zet,hits,hps]
 | n+1,hn=>by
  have ih:=zhj (p:=p) (q:=q) hl n (by lia)
  have e1:pl[n]? = some pl[n]:=aj (by lia)
  have e2:rw[n]? = some rw[n]:=aj (by lia)
  rw [zfz,ao,ih,zeG e1 e2]
  unfold hits
  rw [eE,ao]
  congr 1
  unfold zfy
  rw [e1,e2]
  cases rw[n] with
  | none=>rfl
  | some y =>
   show (if decide (y=zp p pl[n] q)=true then [(n:Int)] else []).length=([(pl[n],y)].filter (hit p q)).length
   by_cases e:y=zp p pl[n] q
   ·rw [eA (by simp [hit,e])]
    simp [e]
   ·rw [eB (by simp [hit]; exact fun z=>e z.symm)]
    simp [e]
theorem zge {p:Int} {pl:List Int} {rw:List (Option Int)} {q:List Int} (hl:rw.length=pl.length):(zet p pl rw q pl.length).length=hits p q (hps pl rw):=by
 have:=zhj (p:=p) (q:=q) hl pl.length (ag _)
 rw [bA,aM (by lia)] at this
 exact this
def zdN (p:Int) (k:Nat) (qs:List (List Int)):Prop:=(∀ q∈qs,IsP p k q)∧qs.Pairwise fun a b=>Srt.num p a < Srt.num p b
theorem ziX {B:Int} (hB:1≤B):∀ {a b:List Int},a.length=b.length→(∀ n∈a,0≤n∧n < B)→(∀ n∈b,0≤n∧n < B)→Srt.num B a=Srt.num B b→a=b
 | [],[],_,_,_,_=>rfl
 | c :: a,d :: b,h,ha,hb,e=>by
  have h':a.length=b.length:=by simpa using h
  have ra:=Srt.num_rng hB (ns:=a) fun n hn=>ha n (av _ hn)
  have rb:=Srt.num_rng hB (ns:=b) fun n hn=>hb n (av _ hn)
  have e':c*B ^ a.length+Srt.num B a=d*B ^ b.length+Srt.num B b:=e
  rw [← h'] at e' rb
  generalize B ^ a.length=M at e' ra rb
  have hM:0 < M:=by lia
  have hcd:c=d:=by
   have e2:(c - d)*M=Srt.num B b - Srt.num B a:=by
    rw [Int.sub_mul]
    lia
   rcases (jW c d) with hlt | heq | hgt
   ·have:(c - d)*M≤(-1)*M:=dm (by lia) (by lia)
    lia
   ·exact heq
   ·have:1*M≤(c - d)*M:=dm (by lia) (by lia)
    lia
  subst hcd
  rw [ziX hB h' (fun n hn=>ha n (av _ hn)) (fun n hn=>hb n (av _ hn)) (by lia)]
 | [],_ :: _,h,_,_,_=>by simp at h
 | _ :: _,[],h,_,_,_=>by simp at h
theorem zm5 {p:Int} (hp:1≤p) {k:Nat} {qs:List (List Int)} (h1:∀ q∈qs,IsP p k q) (h2:qs.Nodup) (h3:qs.Pairwise fun a b=>Srt.num p a≤Srt.num p b):zdN p k qs:=by
 refine⟨h1,?_⟩
 have h4:=h3.and h2
 refine fJ (fun {a b} ha hb h=>?_) h4
 have hne:Srt.num p a≠Srt.num p b:=fun e=>h.2 (ziX hp ((h1 a ha).1.trans (h1 b hb).1.symm) (h1 a ha).2 (h1 b hb).2 e)
 have:=h.1
 lia
theorem zdN.tail {p:Int} {k:Nat} {q:List Int} {qs:List (List Int)} (h:zdN p k (q :: qs)):zdN p k qs:=⟨fun x hx=>h.1 x (av _ hx),(fK.mp h.2).2⟩
theorem ziY {p:Int} {k:Nat}:∀ {as bs:List (List Int)},zdN p k as→zdN p k bs→(∀ q,q∈as↔q∈bs)→as=bs
 | [],[],_,_,_=>rfl
 | [],b :: bs,_,_,h=>by
  have:=(h b).mpr aF
  cases this
 | a :: as,[],_,_,h=>by
  have:=(h a).mp aF
  cases this
 | a :: as,b :: bs,ha,hb,h=>by
  have pa:=(fK.mp ha.2).1
  have pb:=(fK.mp hb.2).1
  have e:a=b:=by
   rcases (aB.mp ((h a).mp aF)) with e | ma
   ·exact e
   ·rcases (aB.mp ((h b).mpr aF)) with e | mb
    ·exact e.symm
    ·have:=pb a ma
     have:=pa b mb
     lia
  subst e
  rw [ziY ha.tail hb.tail fun q=>?_]
  have hq:=h q
  rw [aB,aB] at hq
  constructor
  ·intro m
   rcases (hq.mp (.inr m)) with rfl | z
   ·exact absurd (pa q m) (by lia)
   ·exact z
  ·intro m
   rcases (hq.mpr (.inr m)) with rfl | z
   ·exact absurd (pb q m) (by lia)
   ·exact z
theorem zdN.filter {p:Int} {k:Nat} {qs:List (List Int)} (f:List Int→Bool) (h:zdN p k qs):zdN p k (qs.filter f):=⟨fun q hq=>h.1 q (cw.mp hq).1,h.2.filter f⟩
end My
end
section
namespace My
open PySem L2 PyProof.Rows
def sm:Nat→(Nat→Int)→Int
 | 0,_=>0
 | n+1,f=>sm n f+f n
theorem zW {f g:Nat→Int}:∀ {n:Nat},(∀ i,i < n→f i=g i)→sm n f=sm n g
 | 0,_=>rfl
 | n+1,h=>by
  show sm n f+f n=sm n g+g n
  rw [zW (n:=n) fun i hi=>h i (by lia),h n (by lia)]
theorem zfF {p:Int} {f g:Nat→Int}:∀ {n:Nat},(∀ i,i < n→Cg p (f i) (g i))→Cg p (sm n f) (sm n g)
 | 0,_=>Cg.refl _ _
 | n+1,h=>(zfF (n:=n) fun i hi=>h i (by lia)).add (h n (by lia))
theorem zgf {f g:Nat→Int}:∀ n:Nat,sm n (fun i=>f i+g i)=sm n f+sm n g
 | 0=>rfl
 | n+1=>by
  show sm n (fun i=>f i+g i)+(f n+g n)=sm n f+f n+(sm n g+g n)
  rw [zgf n]
  lia
theorem zbs {c:Int} {f:Nat→Int}:∀ n:Nat,sm n (fun i=>c*f i)=c*sm n f
 | 0=>by show (0:Int)=c*0; lia
 | n+1=>by
  show sm n (fun i=>c*f i)+c*f n=c*(sm n f+f n)
  rw [zbs n,Int.mul_add]
theorem zbg {f:Nat→Int}:∀ {n:Nat},(∀ i,i < n→f i=0)→sm n f=0
 | 0,_=>rfl
 | n+1,h=>by
  show sm n f+f n=0
  rw [zbg (n:=n) fun i hi=>h i (by lia),h n (by lia)]
  rfl
theorem zh5 {f:Nat→Int} {j:Nat}:∀ {n:Nat},j < n→(∀ i,i < n→i≠j→f i=0)→sm n f=f j
 | 0,hj,_=>by lia
 | n+1,hj,h=>by
  show sm n f+f n=f j
  by_cases e:j=n
  ·subst e
   rw [zbg fun i hi=>h i (by lia) (by lia)]
   lia
  ·rw [zh5 (n:=n) (by lia) fun i hi hne=>h i (by lia) hne,h n (by lia) (by lia)]
   lia
theorem zcF {f:Nat→Int}:∀ n:Nat,sm (n+1) f=f 0+sm n (fun i=>f (i+1))
 | 0=>by show (0:Int)+f 0=f 0+0; lia
 | n+1=>by
  show sm (n+1) f+f (n+1)=f 0+(sm n (fun i=>f (i+1))+f (n+1))
  rw [zcF n]
  lia
theorem ziZ {f:Nat→Nat→Int} (m:Nat):∀ n:Nat,sm n (fun i=>sm m (fun j=>f i j))=sm m (fun j=>sm n fun i=>f i j)
 | 0=>(zbg fun _ _=>rfl).symm
 | n+1=>by
  show sm n (fun i=>sm m (fun j=>f i j))+sm m (fun j=>f n j)=sm m (fun j=>sm n (fun i=>f i j)+f n j)
  rw [ziZ m n,← zgf]
theorem zd7 {f:Nat→Int} {m:Nat}:∀ {n:Nat},m≤n→(∀ i,m≤i→i < n→f i=0)→sm n f=sm m f
 | 0,h,_=>by rw [show m=0 by lia]
 | n+1,h,hz=>by
  by_cases e:m=n+1
  ·rw [e]
  ·show sm n f+f n=_
   rw [zd7 (n:=n) (by lia) fun i h1 h2=>hz i h1 (by lia),hz n (by lia) (by lia)]
   lia
def gl (w:List Int) (y:Nat):Int:=w.getD y 0
theorem zbF {w:List Int} {y:Nat} {c:Int} (h:w[y]? = some c):gl w y=c:=by
 unfold gl
 rw [aN,h]
 rfl
theorem zaS {w:List Int} {y:Nat} (h:w.length≤y):gl w y=0:=by
 unfold gl
 rw [aN,bq h]
 rfl
theorem zbt {w:List Int} {y:Nat} (h:y < w.length):w[y]? = some (gl w y):=by
 rw [aj h,zbF (aj h)]
theorem zeH {w:List Int} {p:Int} (hp:0 < p) (h:∀ c∈w,0≤c∧c < p) (y:Nat):0≤gl w y∧gl w y < p:=by
 by_cases hy:y < w.length
 ·exact h _ (aG (zbt hy))
 ·rw [zaS (by lia)]
  lia
theorem zoL {f:Int→Int} {w:List Int} {y:Nat} (h:y < w.length):gl (w.map f) y=f (gl w y):=zbF (by rw [ah,zbt h]; rfl)
theorem zln {f:Int→Int→Int} {v w:List Int} {y:Nat} (h:y < v.length) (h':y < w.length):gl (bn f v w) y=f (gl v y) (gl w y):=zbF (by rw [i3,zbt h,zbt h'])
theorem zlo {v w:List Int} (hl:v.length=w.length) (h:∀ y,y < v.length→gl v y=gl w y):v=w:=by
 refine cK fun y=>?_
 by_cases hy:y < v.length
 ·rw [zbt hy,zbt (by lia),h y hy]
 ·rw [bq (by lia),bq (by lia)]
theorem zi0 {p x:Int}:∀ q:List Int,Cg p (zp p x q) (sm q.length fun i=>gl q i*x ^ i)
 | []=>Cg.refl _ _
 | c :: q=>by
  refine (z9 p x c q).trans ?_
  rw [bW,zcF]
  have e:sm q.length (fun i=>gl (c :: q) (i+1)*x ^ (i+1))=x*sm q.length (fun i=>gl q i*x ^ i):=by
   rw [← zbs]
   refine zW fun i _=>?_
   show gl q i*x ^ (i+1)=_
   rw [dE]
   grind
  rw [e]
  refine Cg.add (Cg.of_eq ?_) ((Cg.refl p x).mul (zi0 q))
  show c=c*x ^ 0
  rw [ir,j1]
theorem zbG {p x:Int} {q:List Int} {n:Nat} (h:q.length≤n):Cg p (zp p x q) (sm n fun i=>gl q i*x ^ i):=by
 rw [zd7 h fun i h1 _=>by rw [zaS h1,cP]]
 exact zi0 q
def vx (vs:List (List Int)) (i x:Nat):Int:=gl (vs.getD i []) x
def Rel (p:Int) (L N:Nat) (vs:List (List Int)) (u:Nat→Int):Prop:=∀ x,x < L→Cg p (u x) (sm N fun i=>u (L+i)*vx vs i x)
theorem Rel.sub {p:Int} {L N:Nat} {vs:List (List Int)} {u w r:Nat→Int} (hu:Rel p L N vs u) (hw:Rel p L N vs w) (t:Int) (hr:∀ y,y < L+N→Cg p (r y) (u y - t*w y)):Rel p L N vs r:=fun x hx=>by
 refine (hr x (by lia)).trans (((hu x hx).sub ((Cg.refl p t).mul (hw x hx))).trans ?_)
 have e:sm N (fun i=>u (L+i)*vx vs i x) - t*sm N (fun i=>w (L+i)*vx vs i x)=sm N (fun i=>(u (L+i) - t*w (L+i))*vx vs i x):=by
  rw [show ∀ a b:Int,a - t*b=a+(-t)*b by intros; grind,← zbs,← zgf]
  exact zW fun i _=>by grind
 rw [e]
 exact zfF fun i hi=>(hr (L+i) (by lia)).symm.mul (Cg.refl _ _)
structure Ech (p:Int) (L N m:Nat) (vs:List (List Int)) (cl:List (Nat×List Int)):Prop where
 ln:cl.length=m
 one:∀ (j:Nat) (a:Nat×List Int),cl[j]? = some a→a.1 < L∧a.2.length=L+N∧(∀ c∈a.2,0≤c∧c < p)∧Rel p L N vs (gl a.2)∧gl a.2 a.1=1∧∀ i,j < i→i < N→gl a.2 (L+i)=0
 up:∀ (j j':Nat) (a a':Nat×List Int),cl[j]? = some a→cl[j']? = some a'→j < j'→gl a'.2 a.1=0
 ii:∀ u:Nat→Int,Rel p L N vs u→(∀ i,m≤i→i < N→Cg p (u (L+i)) 0)→(∀ a∈cl,Cg p (u a.1) 0)→∀ i,i < N→Cg p (u (L+i)) 0
theorem Ech.start (p:Int) (L N:Nat) (vs:List (List Int)):Ech p L N 0 vs [] where
 ln:=rfl
 one:=fun _ _ h=>by simp at h
 up:=fun _ _ _ _ h=>by simp at h
 ii:=fun u _ h _ i hi=>h i (bi _) hi
structure Wh (p:Int) (L N m:Nat) (vs:List (List Int)) (cl:List (Nat×List Int)) (w:List Int):Prop where
 ln:w.length=L+N
 rg:∀ c∈w,0≤c∧c < p
 rel:Rel p L N vs (gl w)
 top:gl w (L+m)=1
 up:∀ j,m < j→j < N→gl w (L+j)=0
 z:∀ a∈cl,gl w a.1=0
theorem zhk {p:Int} (hp:p∈zo) {L N m:Nat} {vs:List (List Int)} {v:List Int} (hm:m < N) (hv:vs[m]? = some v) (hl:v.length=L) (hr:∀ c∈v,0≤c∧c < p):Wh p L N m vs [] ((v++aw N 0).set (L+m) 1):=by
 have rp:=zr hp
 have hlow:∀ y,y < L→gl ((v++aw N 0).set (L+m) 1) y=gl v y:=fun y hy=>zbF (by
  rw [dU (by lia),bj (by lia),zbt (by lia)])
 have htop:gl ((v++aw N 0).set (L+m) 1) (L+m)=1:=zbF (by
  rw [fX (by rw [ao,aT]; lia)])
 have hz:∀ j,j < N→j≠m→gl ((v++aw N 0).set (L+m) 1) (L+j)=0:=fun j hj hne=>zbF (by
  rw [dU (by lia),bJ (by lia),cJ]
  rw [if_pos (by lia)])
 refine⟨by rw [iE,ao,aT,hl],fun c hc=>?_,fun x hx=>?_,htop,fun j h1 h2=>hz j h2 (by lia),fun a ha=>by cases ha⟩
 ·rcases List.mem_or_eq_of_mem_set hc with h | rfl
  ·rcases (a7.mp h) with h | h
   ·exact hr c h
   ·rw [ee h]; lia
  ·lia
 ·rw [hlow x hx,zh5 (j:=m) hm fun i hi hne=>by rw [hz i hi hne,cP],htop,gB]
  unfold vx
  rw [aN,hv]
  exact Cg.refl _ _
theorem zi1 {p:Int} (hp:p∈zo) {L N m i:Nat} {vs:List (List Int)} {cl:List (Nat×List Int)} {w:List Int} {a:Nat×List Int} (E:Ech p L N m vs cl) (hm:m < N) (ha:cl[i]? = some a) (W:Wh p L N m vs (cl.take i) w) :
  Wh p L N m vs (cl.take (i+1)) (bn (fun x y=>(x - gl w a.1*y) % p) w a.2):=by
 have rp:=zr hp
 obtain⟨a1,a2,a3,a4,a5,a6⟩:=E.one i a ha
 have him:i < m:=by rw [← E.ln]; exact (aA.mp ha).1
 have hg:∀ y,y < L+N→gl (bn (fun x y=>(x - gl w a.1*y) % p) w a.2) y=(gl w y - gl w a.1*gl a.2 y) % p:=fun y hy=>zln (by rw [W.ln]; exact hy) (by lia)
 refine⟨by rw [fo,W.ln,a2,Nat.min_self],fun c hc=>?_,W.rel.sub a4 (gl w a.1) fun y hy=>by rw [hg y hy]; exact Cg.emod _ _,?_,fun j h1 h2=>?_,fun b hb=>?_⟩
 ·obtain⟨x,y,rfl⟩:=zel hc
  exact⟨aI _ (by lia),aC _ (by lia)⟩
 ·rw [hg _ (by lia),W.top,a6 m him hm,cN,jQ]
  exact cu (by lia) (by lia)
 ·rw [hg _ (by lia),W.up j h1 h2,a6 j (by lia) h2,cN]
  rfl
 ·rw [take_snoc ha] at hb
  rcases (a7.mp hb) with hb | hb
  ·obtain⟨j,hj⟩:=fh hb
   have hji:j < i:=by
    have:=(aA.mp hj).1
    rw [aD] at this
    lia
   have hj':cl[j]? = some b:=by rw [bG hji] at hj; exact hj
   have hb1:=(E.one j b hj').1
   rw [hg _ (by lia),W.z b hb,E.up j i b a hj' ha hji,cN]
   rfl
  ·obtain rfl:b=a:=by simpa using hb
   rw [hg _ (by lia),a5,j1,Int.sub_self]
   rfl
theorem zhl {p:Int} (hp:p∈zo) {L N m:Nat} {vs:List (List Int)} {cl:List (Nat×List Int)} {w:List Int} {ld:Nat} (E:Ech p L N m vs cl) (hm:m < N) (W:Wh p L N m vs cl w) (hld:ld < L) (h0:gl w ld≠0) :
  Ech p L N (m+1) vs (cl++[(ld,w.map fun x=>x*inv p (gl w ld) % p)]):=by
 have rp:=zr hp
 obtain⟨g0,g1⟩:=zeH (show 0 < p by lia) W.rg ld
 have hi:=zek hp (h:=gl w ld) (by lia) g1
 have hg:∀ y,y < L+N→gl (w.map fun x=>x*inv p (gl w ld) % p) y=gl w y*inv p (gl w ld) % p:=fun y hy=>zoL (f:=fun x=>x*inv p (gl w ld) % p) (by rw [W.ln]; exact hy)
 have hat:∀ j a,(cl++[(ld,w.map fun x=>x*inv p (gl w ld) % p)])[j]? = some a→(j < m∧cl[j]? = some a)∨(j=m∧a=(ld,w.map fun x=>x*inv p (gl w ld) % p)):=fun j a h=>by
  by_cases hj:j < m
  ·rw [bj (by rw [E.ln]; exact hj)] at h
   exact .inl ⟨hj,h⟩
  ·rw [bJ (by rw [E.ln]; lia),E.ln] at h
   have hj0:j - m=0:=by
    have:=(aA.mp h).1
    simp at this
    lia
   rw [hj0] at h
   exact .inr ⟨by lia,(by simpa using h.symm)⟩
 refine⟨by rw [ao,E.ln]; rfl,fun j a h=>?_,fun j j' a a' h h' hlt=>?_,fun u hu hup hz i hi'=>?_⟩
 ·rcases hat j a h with ⟨_,h⟩ | ⟨rfl,rfl⟩
  ·exact E.one j a h
  ·refine⟨hld,by rw [ab,W.ln],fun c hc=>?_,?_,?_,fun i h1 h2=>?_⟩
   ·obtain⟨x,_,rfl⟩:=aE.mp hc
    exact⟨aI _ (by lia),aC _ (by lia)⟩
   ·refine Rel.sub (u:=fun _=>0) (fun x _=>Cg.of_eq (zbg fun i _=>cP _).symm) W.rel (-inv p (gl w ld)) fun y hy=>?_
    rw [hg y hy]
    exact (Cg.emod _ _).trans (Cg.of_eq (by grind))
   ·rw [hg ld (by lia)]
    have h2:Cg p (gl w ld*inv p (gl w ld)) 1:=(Cg.of_eq (dF _ _)).trans hi
    rw [h2.mod_eq]
    exact cu (by lia) (by lia)
   ·rw [hg _ (by lia),W.up i h1 h2,cP]
    rfl
 ·rcases hat j' a' h' with ⟨hj',h'⟩ | ⟨rfl,rfl⟩
  ·rcases hat j a h with ⟨_,h⟩ | ⟨rfl,_⟩
   ·exact E.up j j' a a' h h' hlt
   ·lia
  ·rcases hat j a h with ⟨_,h⟩ | ⟨rfl,_⟩
   ·have:=(E.one j a h).1
    rw [hg _ (by lia),W.z a (aG h),cP]
    rfl
   ·lia
 ·have hru:Rel p L N vs (fun y=>u y - u (L+m)*gl w y):=hu.sub W.rel (u (L+m)) fun y _=>Cg.refl _ _
  have hall:=E.ii (fun y=>u y - u (L+m)*gl w y) hru (fun i h1 h2=>by
   by_cases e:i=m
   ·subst e
    show Cg p (u (L+i) - u (L+i)*gl w (L+i)) 0
    rw [W.top]
    exact Cg.of_eq (by lia)
   ·show Cg p (u (L+i) - u (L+m)*gl w (L+i)) 0
    rw [W.up i (by lia) h2,cN,jQ]
    exact hup i (by lia) h2) (fun a ha=>by
   show Cg p (u a.1 - u (L+m)*gl w a.1) 0
   rw [W.z a ha,cN,jQ]
   exact hz a (aU _ ha))
  have hlead:Cg p (u ld - u (L+m)*gl w ld) 0:=(hru ld hld).trans ((zfF (g:=fun _=>0) fun i hi=>((hall i hi).mul (Cg.refl _ _)).trans (Cg.of_eq (cP _))).trans (Cg.of_eq (zbg fun _ _=>rfl)))
  have hul:=hz (ld,_) (aK _ (aW.mpr rfl))
  have hc:Cg p (gl w ld*u (L+m)) 0:=by
   have:=hul.sub hlead
   exact (Cg.of_eq (by show gl w ld*u (L+m)=u ld - (u ld - u (L+m)*gl w ld); grind)).trans (this.trans (Cg.of_eq (by lia)))
  have hc0:Cg p (u (L+m)) 0:=zfE hp (by rw [cu g0 g1]; exact h0) hc
  have:=hall i hi'
  have h3:=this.add (hc0.mul (Cg.refl p (gl w (L+i))))
  exact (Cg.of_eq (by show u (L+i)=u (L+i) - u (L+m)*gl w (L+i)+u (L+m)*gl w (L+i); lia)).trans (h3.trans (Cg.of_eq (by lia)))
def Indep (p:Int) (L:Nat) (vs:List (List Int)):Prop:=∀ u:Nat→Int,(∀ x,x < L→Cg p (sm vs.length fun i=>u i*vx vs i x) 0)→∀ i,i < vs.length→Cg p (u i) 0
def Dep (p:Int) (L:Nat) (vs:List (List Int)) (c:List Int):Prop:=∀ x,x < L→Cg p (sm vs.length fun i=>gl c i*vx vs i x) 0
theorem zlp {p:Int} {L:Nat} {vs:List (List Int)} {cl:List (Nat×List Int)} (E:Ech p L vs.length vs.length vs cl):Indep p L vs:=fun u hu i hi=>by
 have h:=E.ii (fun y=>if y < L then sm vs.length (fun i=>u i*vx vs i y) else u (y - L)) (fun x hx=>?_) (fun i h1 h2=>by lia) (fun a ha=>?_) i hi
 ·rw [if_neg (by lia),du] at h
  exact h
 ·dsimp only
  rw [if_pos hx]
  refine Cg.of_eq (zW fun i _=>?_)
  rw [if_neg (by lia),du]
 ·obtain⟨j,hj⟩:=fh ha
  have:=(E.one j a hj).1
  rw [if_pos this]
  exact hu _ this
theorem zlq {p:Int} {L m:Nat} {vs:List (List Int)} {cl:List (Nat×List Int)} {w:List Int} (W:Wh p L vs.length m vs cl w) (hm:m < vs.length) (hz:∀ x,x < L→gl w x=0) :
  IsP p (m+1) ((w.drop L).take (m+1))∧gl ((w.drop L).take (m+1)) m=1∧Dep p L vs ((w.drop L).take (m+1)):=by
 have hg:∀ i,i≤m→gl ((w.drop L).take (m+1)) i=gl w (L+i):=fun i hi=>zbF (by
  rw [bG (by lia),eG]
  exact zbt (by rw [W.ln]; lia))
 have hl:((w.drop L).take (m+1)).length=m+1:=by
  rw [aD,bZ,W.ln]
  lia
 refine⟨⟨hl,fun c hc=>W.rg c (gj (dY hc))⟩,by rw [hg m (ag _)]; exact W.top,fun x hx=>?_⟩
 have h:=W.rel x hx
 rw [hz x hx] at h
 refine Cg.trans (Cg.of_eq (zW fun i hi=>?_)) h.symm
 by_cases e:i≤m
 ·rw [hg i e]
 ·rw [W.up i (by lia) hi,zaS (by lia)]
end My
end
section
namespace My
open PySem L2 PyProof.Rows
theorem zm6 {α β:Type} (f:α→β) (xs:List α) (c:Nat×List α):nxt (xs.map f) (c.1,c.2.map f)=(nxt xs c).map fun d=>(d.1,d.2.map f):=by
 unfold nxt
 rw [bh,ab]
 refine bU fun j _=>?_
 show (c.1+j+1,c.2.map f++(xs.map f)[c.1+j]?.toList)=(c.1+j+1,(c.2++xs[c.1+j]?.toList).map f)
 rw [ah,au]
 cases xs[c.1+j]? <;> rfl
theorem zi2 {α β:Type} (f:α→β) (xs:List α):∀ m,chs (xs.map f) m=(chs xs m).map fun d=>(d.1,d.2.map f)
 | 0=>rfl
 | m+1=>by
  show (chs (xs.map f) m).flatMap (nxt (xs.map f))=((chs xs m).flatMap (nxt xs)).map _
  rw [zi2 f xs m,km,List.flatMap_map]
  congr 1
  funext c
  exact zm6 f xs c
theorem zfG {α β:Type} (f:α→β) (xs:List α) (m:Nat):(chs (xs.map f) m).map (·.2)=((chs xs m).map (·.2)).map (·.map f):=by
 rw [zi2,bh,bh]
 rfl
def PtB (H:Hp):List Addr→List (Int×Int)→Prop:=Paired fun b q=>H b=some (.tup [.int q.1,.int q.2])
theorem PtB.same {H H':Hp} (s:zu H H') {bs:List Addr} {pts:List (Int×Int)} (h:PtB H bs pts):PtB H' bs pts:=cI (fun _ _ z=>s _ _ z) h
theorem PtB.zs {H:Hp}:∀ {bs:List Addr} {pts:List (Int×Int)},PtB H bs pts→∃ zs:List (Addr×Int×Int),bs=zs.map (·.1)∧pts=zs.map (·.2)∧∀ z∈zs,H z.1=some (.tup [.int z.2.1,.int z.2.2])
 | _,_,.nil=>⟨[],rfl,rfl,by simp⟩
 | _,_,.cons (a:=b) (b:=q) r t=>by
  obtain⟨zs,h1,h2,h3⟩:=PtB.zs t
  refine⟨(b,q) :: zs,by rw [h1]; rfl,by rw [h2]; rfl,fun z hz=>?_⟩
  rcases (aB.mp hz) with rfl | hz
  ·exact r
  ·exact h3 z hz
theorem PtB.take {H:Hp} {bs:List Addr} {pts:List (Int×Int)} (h:PtB H bs pts) (n:Nat):PtB H (bs.take n) (pts.take n):=by
 induction h generalizing n with
 | nil=>rw [gR,gR]; exact .nil
 | cons r t ih =>
  cases n with
  | zero=>exact .nil
  | succ n=>exact .cons r (ih n)
def zbH (H:Hp):List Addr→List (List Int)→Prop:=Paired fun r q=>H r=some (.tup (q.map V.int))
theorem zbH.same {H H':Hp} (s:zu H H') {rs:List Addr} {qs:List (List Int)} (h:zbH H rs qs):zbH H' rs qs:=cI (fun _ _ z=>s _ _ z) h
theorem zbH.of {H:Hp}:∀ {ps:List (Addr×List Int)},(∀ q∈ps,H q.1=some (.tup (q.2.map V.int)))→zbH H (ps.map (·.1)) (ps.map (·.2))
 | [],_=>.nil
 | a :: ps,h=>.cons (h a aF) (zbH.of fun q hq=>h q (av _ hq))
theorem zlr {κ:Type} [DecidableEq κ] (kvs:List (κ×V)) (k:κ) (v:V):(putK kvs k v).map (·.1)=if k∈kvs.map (·.1) then kvs.map (·.1) else kvs.map (·.1)++[k]:=by
 unfold putK
 by_cases h:(kvs.any fun kv=>decide (kv.1=k))=true
 ·rw [if_pos h]
  obtain⟨kv,h1,h2⟩:=ko.mp h
  have h2:kv.1=k:=by simpa using h2
  rw [if_pos (by rw [← h2]; exact ft h1),bh]
  refine bU fun a _=>?_
  show (if a.1=k then (a.1,v) else a).1=a.1
  split <;> rfl
 ·rw [if_neg h]
  rw [if_neg (fun hm=>h ?_),au]
  ·rfl
  ·obtain⟨kv,h1,h2⟩:=aE.mp hm
   exact ko.mpr ⟨kv,h1,by simpa using h2⟩
theorem zm7 {a b:List Int} (h:(a.map cL:List Key)=b.map cL):a=b:=by
 induction a generalizing b with
 | nil=>cases b with
  | nil=>rfl
  | cons _ _=>simp at h
 | cons x a ih=>cases b with
  | nil=>simp at h
  | cons y b =>
   rw [aS,aS] at h
   obtain⟨h1,h2⟩:=jt h
   rw [iN h1,ih h2]
def KeysAre (kvs:List (List Key×V)) (mss:List (List Int)):Prop:=kvs.map (·.1)=mss.map (·.map cL)
theorem zls {kvs:List (List Key×V)} {mss:List (List Int)} (h:KeysAre kvs mss) (hn:mss.Nodup) (q:List Int) (v:V):∃ mss',KeysAre (putK kvs (q.map cL) v) mss'∧mss'.Nodup∧mss'.length≤mss.length+1∧∀ x,x∈mss'↔x∈mss∨x=q:=by
 unfold KeysAre at h ⊢
 rw [zlr,h]
 have hm:(q.map cL:List Key)∈mss.map (·.map cL)↔q∈mss:=by
  constructor
  ·intro hm
   obtain⟨x,hx,e⟩:=aE.mp hm
   rw [← zm7 e]
   exact hx
  ·intro hm
   exact ft hm
 by_cases hq:q∈mss
 ·refine⟨mss,by rw [if_pos (hm.mpr hq)],hn,by lia,fun x=>⟨.inl,fun z=>z.elim id fun e=>e ▸ hq⟩⟩
 ·refine⟨mss++[q],by rw [if_neg fun z=>hq (hm.mp z),au]; rfl,?_,by rw [ao]; exact ag _,fun x=>by rw [a7,aW]⟩
  rw [dS]
  exact⟨hn,by simp,fun a ha b hb e=>hq (by rw [← aW.mp hb,← e]; exact ha)⟩
def zm8 (K:ai):Sp:=fun vs H Q _=>∃ (c tt r:Addr) (p k:Int) (pl:List Int) (rw:List (Option Int)),vs = [.ref c,.ref r]∧za5 H c tt p k pl∧RowAt K H r pl.length rw∧pl.length≤1000 ∧
 ∀ (l:Addr) (bs:List Addr) (H':Hp),H l=none→zu H H'→H' l=some (.lst (bs.map V.ref))→PtB H' bs (hps pl rw)→Q (.ref l) H'
def zeI (K:ai):Sp:=fun vs H Q _=>∃ (c tt a:Addr) (p:Int) (k:Nat) (pl:List Int) (bs:List Addr) (pts:List (Int×Int)),vs = [.ref c,.ref a]∧za5 H c tt p k pl∧SqL K H a (bs.map V.ref)∧PtB H bs pts∧pts.length≤16∧p∈zo∧Pts p pts∧1≤k∧k≤100 ∧
 ∀ (l:Addr) (rs:List Addr) (qs:List (List Int)) (H':Hp),H l=none→zu H H'→H' l=some (.lst (rs.map V.ref))→zbH H' rs qs→qs.length≤65536→zdN p k qs→(∀ q,q∈qs↔∃ pk∈(chs pts k).map (·.2),q=thr p pk)→Q (.ref l) H'
end My
end
section
namespace My
open PySem L2 PyProof.Rows
end My
end
section
namespace L2
open PySem PySem.Spec PyProof.Rows
def Itd (d:Addr) (o:Obj) (kvs:List (List Key×V)):It :=
 ⟨fun i H=>H d=some (.frz o (.dT kvs))∧i < kvs.length,fun i H x H'=>H'=H∧∃ a k,x = .ref a∧(kvs.map (·.1))[i]? = some k∧H a=some (.tup (k.map kV)),fun i H=>H d=some (.frz o (.dT kvs))∧kvs.length≤i⟩
theorem zlu {P:Program} {w:World} {H:Hp} {h:Heap} {d:Addr} {o:Obj} {kvs:List (List Key×V)} {es:Array DictEntry} {ep:Nat} (hd:o.data = .dict es ep) (x:zas P w H h d (.frz o (.dT kvs))) :
  zdM h d es ep∧es.size=kvs.length∧∀ (i:Nat) (e:DictEntry),es[i]? = some e→∃ a k,e.key = .ref a∧(kvs.map (·.1))[i]? = some k∧H a=some (.tup (k.map kV)):=by
 obtain⟨ho,_,_,xs,hp,o',es',ep',ho',hx,he,hes,hnd⟩:=x
 have e1:o'=o:=by rw [ho] at ho'; exact (aP ho').symm
 subst e1
 rw [he] at hd
 cases hd
 have hl:es.toList.length=kvs.length:=by rw [hes,ab]; exact (bg hp).symm
 refine⟨⟨o',ho,hx,he⟩,by simpa using hl,fun i e h=>?_⟩
 have h':es.toList[i]? = some e:=by rw [bp]; exact h
 rw [hes,ah] at h'
 cases hxi:xs[i]? with
 | none=>rw [hxi] at h'; cases h'
 | some x =>
  rw [hxi] at h'
  have he':e=entryOfKey (tupleKind (zao P w)) x:=(aP h').symm
  have key:∀ {kvs:List (List Key×V)} {xs:List (List Key×Addr×Value)},Paired (fun (p:List Key×V) (q:List Key×Addr×Value)=>p.1=q.1∧H q.2.1=some (.tup (p.1.map kV))∧RelV p.2 q.2.2) kvs xs→∀ (i:Nat) x,xs[i]? = some x→∃ p,kvs[i]? = some p∧H x.2.1=some (.tup (p.1.map kV)):=by
   intro kvs xs hp
   induction hp with
   | nil=>intro i x h; simp at h
   | cons h1 _ ih =>
    intro i x h
    cases i with
    | zero =>
     (simp only [fS,hJ] at h)
     subst h
     exact⟨_,rfl,h1.2.1⟩
    | succ i =>
     rw [cn] at h
     obtain⟨p,hp,hh⟩:=ih i x h
     exact⟨p,by rw [cn]; exact hp,hh⟩
  obtain⟨p,hp',hh⟩:=key hp i x hxi
  exact⟨x.2.1,p.1,by rw [he']; rfl,by rw [ah,hp']; rfl,hh⟩
theorem zm9 {P:Program} {w:World} {K:ai} {tg:Expr} (d it:Addr) (o:Obj) (kvs:List (List Key×V)) (es:Array DictEntry) (ep:Nat) (hd:o.data = .dict es ep):Turn P w K tg (Itd d o kvs) [it] it (fun i h=>h.IsKeyIter it d i es.size ep) where
 mem:=by simp
 obj:=fun i h st b hb=>by
  have e:b=it:=by simpa using hb
  subst e
  obtain⟨o,e,c,d⟩:=st
  exact⟨o,e,fun v z=>by rw [d] at z; cases z⟩
 keep:=fun i h h' st k=>st.at fun o e=>k it (by simp) o e
 item:=by
  intro X hP hw hK hc i pins s σ H E I hf st hg
  subst hP hw hK
  obtain⟨hq,hi⟩:=hg
  obtain⟨hraw,hsz,hkey⟩:=zlu hd (I.hok d _ hq)
  have hi':i < es.size:=by lia
  obtain⟨a,k,he,hk,ha⟩:=hkey i es[i] (getElem?_pos es i hi')
  obtain⟨f0,f1,f2,f3,f4,f5⟩:=hf it (by simp)
  refine zhc st hraw (getElem?_pos es i hi') fun h' st' sb=>?_
  have I1:Inv X pins σ H { s with heap:=h' }:=I.turned (t':=s.toks) (fun b o hb e=>(sb.2 b hb).trans e) f0 f1 f3 f4 f5
  obtain⟨o,e,c,d⟩:=id st'
  exact⟨_,rfl,zff (s:={ s with heap:=h' }) e c d (by decide) ⟨.ref a,H,I1,by rw [he]; rfl,⟨rfl,a,k,rfl,hk,ha⟩,st',fun b hb=>(hf b hb).1⟩⟩
 done:=by
  intro X hP hw hK hc i pins s σ H E I hf st hg
  subst hP hw hK
  obtain⟨hq,hi⟩:=hg
  obtain⟨hraw,hsz,hkey⟩:=zlu hd (I.hok d _ hq)
  obtain⟨f0,f1,f2,f3,f4,f5⟩:=hf it (by simp)
  exact ziP (I.ok.hd hc) st hraw (by lia) fun h' eb=>⟨rfl,I.turned (t':=s.toks) (fun b o hb e=>eb b o hb e) f0 f1 f3 f4 f5⟩
 self:=fun _ _ _ _ _ st h=>jk st h
theorem Inv.frzT {X:Cx} {pins:List (Addr×Obj)} {σ:St} {H:Hp} {s:Shared} {d:Addr} {o:Obj} {kvs:List (List Key×V)} (I:Inv X pins σ H s) (hd:H d=some (.dT kvs)) (ho:s.heap.get? d=some o):Inv X pins σ (upd H d (.frz o (.dT kvs))) s:=by
 have ne:∀ b u,H b=some u→(∀ k,u≠.dT k)→b≠d:=fun b u e n z=>by subst z; rw [hd] at e; exact n kvs (aP e).symm
 have nn:∀ b,H b=none→b≠d:=fun b e z=>by subst z; rw [hd] at e; cases e
 have up:∀ b,H b=none→upd H d (.frz o (.dT kvs)) b=none:=fun b e=>by rw [zn (nn b e)]; exact e
 refine⟨I.ok,I.os,I.bare,⟨I.base.keep,I.base.slot,fun b u e n hx=>up b (I.base.free b u e n hx),I.base.there,fun b xs e=>?_,fun b u xs e=>?_,fun b ps e=>?_⟩,I.loc,I.cell,up _ I.free,fun x c e=>up _ (I.freeC x c e),fun p hp'=>?_,fun b u e=>?_,I.len⟩
 ·have:=I.base.tups b xs e
  rw [zn (ne b _ this fun k z=>by cases z)]
  exact this
 ·have:=I.base.frzs b u xs e
  rw [zn (ne b _ this fun k z=>by cases z)]
  exact this
 ·obtain⟨more,q⟩:=I.base.tbls b ps e
  exact⟨more,by rw [zn (ne b _ q fun k z=>by cases z)]; exact q⟩
 ·obtain⟨a1,a2,a3⟩:=I.pin p hp'
  exact⟨a1,up _ a2,a3⟩
 ·have stay:∀ {u:HO} {b:Addr},zas X.prog X.w H s.heap b u→zas X.prog X.w (upd H d (.frz o (.dT kvs))) s.heap b u:=fun {u b} x=>x.stay (fun c v _ q=>q) (fun c q=>by rw [zn (ne c _ q fun k z=>by cases z)]; exact q) fun c xs q=>by rw [zn (ne c _ q fun k z=>by cases z)]; exact q
  by_cases hb:b=d
  ·subst hb
   rw [zc] at e
   cases e
   exact⟨ho,stay (I.hok b _ hd)⟩
  ·rw [zn hb] at e
   exact stay (I.hok b u e)
def iDT (tl:TE):TI:=fun σ H R=>tl σ H fun x H1=>∃ d kvs,x = .ref d∧H1 d=some (.dT kvs)∧∀ o,R (Itd d o kvs) (upd H1 d (.frz o (.dT kvs)))
theorem zpx {X:Cx} {tg l:Expr} {tl:TE} (hl:PE X l tl):PI X tg l (iDT tl):=by
 intro pins s σ H R I h
 refine thn (hl pins s σ H _ I h) fun v s1 ⟨x,H1,I1,r1,q1⟩=>?_
 obtain⟨d,kvs,e,hd,q⟩:=q1
 subst e
 cases r1
 obtain⟨hz,hs,xs,hp,o,es,ep,ho,hx,he,hes,hnd⟩:=I1.hok d _ hd
 have I2:=I1.frzT hd ho
 refine zhb (es:=es) (ep:=ep) hs ⟨o,ho,hx,he⟩ ?_
 refine⟨s1.heap.objs.size,[s1.heap.objs.size],_,_,_,rfl,I2.kept (t':=s1.toks) fun b o e=>ak _ e,zm9 d _ o kvs es ep he,⟨_,aL _ rfl,rfl,rfl⟩,fun b hb=>?_,q o⟩
 have e:b=s1.heap.objs.size:=by simpa using hb
 subst e
 exact I2.fpOk (ag _) (I2.hok.fresh (ag _))
def zoM (K:ai):R2:=fun x y H Q=>∃ a b xs ys,x = .ref a∧y = .ref b∧SqT K H a xs∧SqT K H b ys∧ys≠[]∧xs.length+ys.length≤sizeLine ∧
 (xs = []→Q (.ref b) H)∧(xs≠[]→∀ p,H p=none→Q (.ref p) (upd H p (.tup (xs++ys))))
theorem zfH {X:Cx} {K:ai} (hK:X.K=K):OpR X (binaryOp .Add) (zoM K):=by
 subst hK
 intro pins s σ H x y v u Q I rx ry h
 obtain⟨a,b,xs,ys,rfl,rfl,ha,hb,hy,hz,q1,q2⟩:=h
 by_cases hx:xs = []
 ·cases rx
  cases ry
  obtain⟨its,r1,p1,_⟩:=I.tuple ha
  obtain⟨its2,r2,p2,_⟩:=I.tuple hb
  obtain⟨⟨cls,dd,data,sl⟩,ho,hc,n,hd⟩:=id p1
  obtain⟨⟨cls2,dd2,data2,sl2⟩,ho2,hc2,n2,hd2⟩:=id p2
  simp only at hc hd hc2 hd2
  subst hc hd hc2 hd2
  exact jH ⟨_,ho,rfl⟩ ⟨_,ho2,rfl⟩ ij jo fY fR (fF _ _)
   (tuple_addW0 a b its.toArray its2.toArray n n2 dd dd2 sl sl2 (by simp [r1.nil_iff.mpr hx])) ⟨ho,ho2,⟨.ref b,H,I,rfl,q1 hx⟩⟩
 ·exact zmA pins s σ H _ _ v u Q I rx ry ⟨a,b,xs,ys,rfl,rfl,ha,hb,hx,hz,fun z=>absurd z hy,fun _=>q2 hx⟩
end L2
end
section
namespace My
open PySem L2 PyProof.Rows
theorem zh6 {X:Cx} {st:Stmt} {ts:TS} (h:PS X st ts):PS X st (fun D σ H=>∃ Pv:L2.St→Hp→Prop,ts { D with nx:=Pv } σ H∧∀ σ' H',Pv σ' H'→D.nx σ' H'):=by
 intro pins s σ H D I hq
 obtain⟨Pv,h1,h2⟩:=hq
 refine thn (h pins s σ H _ I h1) fun f s1 q=>?_
 cases f with
 | next =>
  obtain⟨σ',H',I',p⟩:=q
  exact⟨σ',H',I',h2 _ _ p⟩
 | ret v=>exact q
 | brk=>exact q
 | cont=>exact q
theorem PtB.pts {K:ai} {H:Hp} {a:Addr} {bs:List Addr} {pts:List (Int×Int)} (ha:H a=some (.lst (bs.map V.ref))) (h:PtB H bs pts):zkS K H a pts:=by
 refine⟨bs,SqL.of ha,h.length,fun i b q h1 h2=>?_⟩
 obtain⟨q',h3,h4⟩:=Paired.get h h1
 rw [h2] at h3
 cases h3
 exact h4
end My
end
section
namespace L2
open PySem PySem.Spec PyProof.Rows
theorem zds:fillsNumberSlot (.type "tuple") "mul" = pure false :=
 PySem.fillsNumberSlot_seq (id:="tuple.__mul__") (r:=some (.builtin "tuple.__rmul__")) PySem.F.slot_tuple_mul.lookup (by decide +kernel) PySem.F.slot_tuple_rmul.lookup (by decide +kernel)
theorem zgg:seqRepeat? (.type "tuple")=pure (some (.builtin "tuple.__mul__")):=by
 unfold seqRepeat?
 rw [kq (T:="tuple") (name:="__mul__") (id:="tuple.__mul__") PySem.F.slot_tuple_mul.lookup (by decide +kernel),kq (T:="tuple") (name:="__rmul__") (id:="tuple.__rmul__") PySem.F.slot_tuple_rmul.lookup (by decide +kernel)]
 rfl
theorem zeJ (a:Int) (t:Tok) (l:Addr) (items:Array Value) (n:Nat) (dd:Option Addr) (sl:Array (Option Value)) :
  Meets (Builtin.«int.__rmul__» ⟨[.int a t,.ref l],[]⟩) (fun _ R s=>s.heap.get? l=some { cls:=.type "tuple",dict:=dd,data:=.seq items n,slots:=sl }∧R (.ok (.ret Value.notImplemented)) s) :=
 .of_wp fun prog w A R s h=>by (obtain⟨hp,g,d,tk,os⟩:=s; obtain⟨hl,h⟩:=h; wp_walk using cB hl; exact⟨_,rfl,h⟩)
theorem zlv (l:Addr) (items:Array Value) (n:Nat) (dd:Option Addr) (sl:Array (Option Value)) (u:Tok) :
  Meets (Builtin.«tuple.__mul__» ⟨[.ref l,.int 1 u],[]⟩) (fun _ R s=>s.heap.get? l=some { cls:=.type "tuple",dict:=dd,data:=.seq items n,slots:=sl }∧R (.ok (.ret (.ref l))) s) :=
 .of_wp fun prog w A R s h=>by
  (obtain⟨hp,g,d,tk,os⟩:=s)
  obtain⟨hl,h⟩:=h
  have f1:=iu
  have f2:=fL
  wp_walk using cB hl; exact⟨_,rfl,h⟩
theorem zlw (l:Addr) (items:Array Value) (n:Nat) (dd:Option Addr) (sl:Array (Option Value)) (k:Int) (u:Tok) (hc0:(decide (k < -(2 ^ 63)) || decide (k≥2 ^ 63))=false) (hc1:(items.isEmpty || k == 1)=false) (hc2:(decide (k≤0) || items.isEmpty)=true) :
  Meets (Builtin.«tuple.__mul__» ⟨[.ref l,.int k u],[]⟩) (fun _ R s=>s.heap.get? l=some { cls:=.type "tuple",dict:=dd,data:=.seq items n,slots:=sl }∧R (.ok (.ret (ba s.heap.objs.size))) { s with heap:=s.heap.push { cls:=jc "tuple",data:=kR #[] },toks:=s.toks }) :=
 .of_wp fun prog w A R s h=>by
  (obtain⟨hp,g,d,tk,os⟩:=s)
  obtain⟨hl,h⟩:=h
  have f1:=iu
  have f2:=fL
  wp_walk using cB hl; refine iL (by rw [hc0]; rfl) ?_
  wp_walk using cB hl; exact⟨_,rfl,h⟩
theorem zlx (l:Addr) (items:Array Value) (n:Nat) (dd:Option Addr) (sl:Array (Option Value)) (k:Int) (u:Tok) (hc0:(decide (k < -(2 ^ 63)) || decide (k≥2 ^ 63))=false) (hc1:(items.isEmpty || k == 1)=false) (hc2:(decide (k≤0) || items.isEmpty)=false)
  (hc3:¬(items.size:Int)*k > (2 ^ 63 - 1) / 8) (hc4:gS (items.size*k)=false) (hsz:(gg (fun x1 x2=>x1++x2) #[] (aw k.toNat items)).size≤sizeLine) :
  Meets (Builtin.«tuple.__mul__» ⟨[.ref l,.int k u],[]⟩) (fun _ R s=>s.heap.get? l=some { cls:=.type "tuple",dict:=dd,data:=.seq items n,slots:=sl }∧R (.ok (.ret (ba s.heap.objs.size))) { s with heap:=s.heap.push { cls:=jc "tuple",data:=kR (gg (fun x1 x2=>x1++x2) #[] (aw k.toNat items)) },toks:=s.toks }) :=
 .of_wp fun prog w A R s h=>by
  (obtain⟨hp,g,d,tk,os⟩:=s)
  obtain⟨hl,h⟩:=h
  have f1:=iu
  have f2:=fL
  wp_walk using cB hl; refine iL (by rw [hc0]; rfl) ?_
  wp_walk using cB hl; refine iL (decide_eq_false hc3) ?_
  wp_walk using cB hl; exact⟨_,rfl,h⟩
def zpy (K:ai):R2:=fun x y H Q=>∃ a k xs,x = .ref a∧y = .int k∧SqT K H a xs∧xs≠[]∧-(2 ^ 63)≤k∧k < 2 ^ 63∧xs.length*k.toNat≤sizeLine ∧
 (k=1→Q (.ref a) H)∧(k≠1→∀ p,H p=none→Q (.ref p) (upd H p (.tup (aw k.toNat xs).flatten)))
theorem zi3 {X:Cx}:OpR X (binaryOp .Mult) (zpy X.K):=by
 intro pins s σ H x y v u Q I rx ry h
 obtain⟨a,k,xs,rfl,rfl,hx,hne,h1,h2,hz,q,q2⟩:=h
 cases rx
 obtain⟨t,rfl⟩:=ry
 obtain⟨its,r,p1,_⟩:=I.tuple hx
 obtain⟨⟨cls,dd,data,sl⟩,ho,hc,n,hd⟩:=id p1
 simp only at hc hd
 subst hc hd
 have hl:xs.length=its.length:=r.length
 have hne':its≠[]:=fun e=>hne (r.nil_iff.mp e)
 have he:its.toArray.isEmpty=false:=by simpa using hne'
 have hc0:(decide (k < -(2 ^ 63)) || decide (k≥2 ^ 63))=false:=by
  rw [decide_eq_false (by lia),decide_eq_false (by lia)]; rfl
 refine ic (T:="tuple") (U:="int") (by decide) ⟨_,ho,rfl⟩ (fun s'=>h9 s' k t) zds F.fills_int_mul gh zgg F.slot_int_index.lookup
  (dA gh (h9 s k t) kb (jU _ _) (zeJ k t a its.toArray n dd sl) ⟨ho,rfl,⟨_,ho,rfl⟩,?_⟩)
 by_cases e1:k=1
 ·subst e1
  refine dA iw ⟨_,ho,rfl⟩ hU (gI _ _) (zlv a its.toArray n dd sl t) ⟨ho,?_⟩
  exact⟨.ref a,H,I,rfl,q rfl⟩
 have hc1:(its.toArray.isEmpty || k == 1)=false:=by rw [he]; simpa using e1
 by_cases e0:k≤0
 ·refine dA iw ⟨_,ho,rfl⟩ hU (gI _ _) (zlw a its.toArray n dd sl k t hc0 hc1 (by rw [decide_eq_true e0]; rfl)) ⟨ho,?_⟩
  have hf:=I.hok.fresh (ag _)
  have e:(aw k.toNat xs).flatten = []:=by rw [show k.toNat=0 by lia]; rfl
  refine⟨.ref s.heap.objs.size,_,I.laid (t':=s.toks) (o:=.tup []) (fun b ob q=>ak _ q) (ag _) ?_,rfl,by rw [← e]; exact q2 e1 _ hf⟩
  exact⟨bi _,[],.nil,iD _ _⟩
 ·have hm:(its.toArray.size:Int)*k=((xs.length*k.toNat:Nat):Int):=by
   rw [ap,← hl,fw,Int.toNat_of_nonneg (by lia)]
  have hsl:(sizeLine:Nat)≤16777216:=by decide
  have hnew:gg (fun x1 x2=>x1++x2) #[] (aw k.toNat its.toArray)=(aw k.toNat its).flatten.toArray:=by
   have:=foldl_rep its k.toNat []
   rw [iG] at this
   exact this
  refine dA iw ⟨_,ho,rfl⟩ hU (gI _ _) (zlx a its.toArray n dd sl k t hc0 hc1 (by rw [decide_eq_false e0,he]; rfl) (by rw [hm]; lia) (by rw [hm]; unfold gS; exact decide_eq_false (by lia)) (by rw [hnew,ap,len_rep,eP,← hl]; exact hz)) ⟨ho,?_⟩
  have hf:=I.hok.fresh (ag _)
  rw [hnew]
  refine⟨.ref s.heap.objs.size,_,I.laid (t':=s.toks) (o:=.tup (aw k.toNat xs).flatten) (fun b ob q=>ak _ q) (ag _) ?_,rfl,q2 e1 _ hf⟩
  exact⟨by rw [len_rep,eP]; exact hz,_,r.rep k.toNat,iD _ _⟩
def zpz (K:ai):R2:=fun x y H Q=>∃ a k xs,x = .ref a∧y = .int k∧SqT K H a xs∧xs≠[]∧-(2 ^ 63)≤k∧k < 2 ^ 63∧xs.length*k.toNat≤sizeLine ∧
 ∀ p H',zu H H'→SqT K H' p (aw k.toNat xs).flatten→Q (.ref p) H'
theorem zna {X:Cx}:OpR X (binaryOp .Mult) (zpz X.K):=by
 intro pins s σ H x y v u Q I rx ry h
 obtain⟨a,k,xs,rfl,rfl,hx,hne,h1,h2,hz,q⟩:=h
 exact zi3 pins s σ H _ _ v u Q I rx ry ⟨a,k,xs,rfl,rfl,hx,hne,h1,h2,hz,fun e=>q a H (fun _ _ e=>e) (by rw [e]; simpa using hx),fun _ p hp=>q p _ (fun b o z=>by rw [zn (fun e=>by rw [e,hp] at z; cases z)]; exact z) (SqT.of zc)⟩
theorem znb {X:Cx} {K:ai} {tg l:Expr} {tl:TE} (hK:X.K=K) (hl:PE X l tl):PI X tg l (zo9 K tl):=by subst hK; exact zkr hl
end L2
end
section
namespace HT
open PySem PySem.Spec PyProof.Rows
section
variable {prog:Program} {w:World} {A:Around} {E:Value→Shared→Prop} {s:Shared}
theorem getItem_tuple_whole {t sl:Addr} {items:Array Value} {vl vu:Value} {lo hi:Option Int} {Q:Value→Shared→Prop} (ht:IsTup s.heap t items) (hs:s.heap.IsSliceOf sl vl vu .none) (pl:IsPart vl lo) (pu:IsPart vu hi)
  (hw:sIx items.size 0 lo=0∧sIx items.size items.size hi=items.size) (h:Q (.ref t) s):wpAny (model prog w) A (getItem (.ref t) (.ref sl)) Q E s:=by
 obtain⟨os,hos,hcs,hds⟩:=id hs
 have hTs:s.TypeIs (.ref sl) "slice":=⟨os,hos,hcs⟩
 unfold getItem
 try with_reducible refine bV ?_
 first | refine ae (am ?_) | skip
 refine ae (wpAny_sequenceKey ht.typeIs (by decide) ?_)
 refine ae (bo (name:=bS "__getitem__") ht.typeIs c9
  (bz c9 ht.typeIs jw ?_ (jJ _ _)))
 show wpAny _ _ (gM (.ref t) >>= _) _ _ s
 refine ae (tupleItemsOf_ ht ?_)
 refine ae (fG hTs ?_)
 rw [if_pos (by decide)]
 refine ae (zbZ hs pl pu ?_)
 have hyes:(((sIx items.size 0 lo:Nat):Int) == 0 && (1:Int) == 1 && (sIx items.size items.size hi - sIx items.size 0 lo) == items.size)=true:=by
  rw [hw.1,hw.2]
  simp
 show wpAny _ _ (if (((sIx items.size 0 lo:Nat):Int) == 0 && (1:Int) == 1 && (sIx items.size items.size hi - sIx items.size 0 lo) == items.size)=true then _ else _) _ _ s
 rw [if_pos hyes]
 refine ae (m:=Builtin.Tuple.tupleIsExact _) (ae (fG ht.typeIs (am ?_)))
 rw [if_pos (by decide)]
 first
  | exact ae (cb (am ⟨_,rfl,am h⟩))
  | exact ae (ae (cb (am ⟨_,rfl,am h⟩)))
end
end HT
namespace L2
open PySem PySem.Spec PyProof.Rows
def zpA (K:ai):V→Option Int→Option Int→Hp→VK→Prop:=fun x lo hi H Q=>∃ a xs,x = .ref a∧SqT K H a xs∧∀ p H',zu H H'→SqT K H' p (za1 xs lo hi)→Q (.ref p) H'
theorem znc {X:Cx}:SlR X (zpA X.K):=by
 intro pins s σ H x v vl vu lo hi sl Q I rx hs pl pu h
 obtain⟨a,xs,rfl,hx,q⟩:=h
 by_cases hw:HT.sIx xs.length 0 lo=0∧HT.sIx xs.length xs.length hi=xs.length
 ·have rx':=rx
  cases rx
  obtain⟨its,r,ht,hz⟩:=I.tuple hx
  have hlen:its.toArray.size=xs.length:=by rw [ap]; exact r.length.symm
  refine⟨"tuple",_,PyProof.Rows.slot_tuple_getitem.lookup,ht.typeIs,?_⟩
  refine HT.getItem_tuple_whole ht hs pl pu (by rw [hlen]; exact hw) ⟨.ref a,H,I,rfl,q a H (fun _ _ e=>e) ?_⟩
  have e:za1 xs lo hi=xs:=by
   unfold za1
   rw [hw.1,hw.2,cZ,dG,bA]
  rw [e]
  exact hx
 ·exact zkA pins s σ H (.ref a) v vl vu lo hi sl Q I rx hs pl pu ⟨a,xs,rfl,hx,hw,fun p hp=>q p _ (fun b o z=>by rw [zn (fun e=>by rw [e,hp] at z; cases z)]; exact z) (SqT.of zc)⟩
theorem zly {X:Cx} {K:ai} (hK:X.K=K):SlR X (zpA K):=by subst hK; exact znc
def zp1:V→Option Int→Option Int→Hp→VK→Prop:=fun x lo hi H Q=>∃ a xs,x = .ref a∧H a=some (.tup xs)∧∀ p H',zu H H'→H' p=some (.tup (za1 xs lo hi))→Q (.ref p) H'
theorem znd {X:Cx}:SlR X zp1:=by
 intro pins s σ H x v vl vu lo hi sl Q I rx hs pl pu h
 obtain⟨a,xs,rfl,hx,q⟩:=h
 have hX:SqT X.K H a xs:=SqT.of hx
 by_cases hw:HT.sIx xs.length 0 lo=0∧HT.sIx xs.length xs.length hi=xs.length
 ·cases rx
  obtain⟨its,r,ht,hz⟩:=I.tuple hX
  have hlen:its.toArray.size=xs.length:=by rw [ap]; exact r.length.symm
  refine⟨"tuple",_,PyProof.Rows.slot_tuple_getitem.lookup,ht.typeIs,?_⟩
  refine HT.getItem_tuple_whole ht hs pl pu (by rw [hlen]; exact hw) ⟨.ref a,H,I,rfl,q a H (fun _ _ e=>e) ?_⟩
  have e:za1 xs lo hi=xs:=by
   unfold za1
   rw [hw.1,hw.2,cZ,dG,bA]
  rw [e]
  exact hx
 ·exact zkA pins s σ H (.ref a) v vl vu lo hi sl Q I rx hs pl pu ⟨a,xs,rfl,hX,hw,fun p hp=>q p _ (fun b o z=>by rw [zn (fun e=>by rw [e,hp] at z; cases z)]; exact z) zc⟩
def zpB:R2:=fun x y H Q=>∃ a b xs ys,x = .ref a∧y = .ref b∧H a=some (.tup xs)∧H b=some (.tup ys)∧xs.length+ys.length≤sizeLine∧ys≠[]∧∀ p H',zu H H'→H' p=some (.tup (xs++ys))→Q (.ref p) H'
theorem zne {X:Cx}:OpR X (binaryOp .Add) zpB:=by
 intro pins s σ H x y v u Q I rx ry h
 obtain⟨a,b,xs,ys,rfl,rfl,ha,hb,hz,hy,q⟩:=h
 refine zfH rfl pins s σ H _ _ v u Q I rx ry ⟨a,b,xs,ys,rfl,rfl,SqT.of ha,SqT.of hb,hy,hz,fun e=>?_,fun _ p hp=>q p _ (fun b o z=>by rw [zn (fun e=>by rw [e,hp] at z; cases z)]; exact z) zc⟩
 subst e
 exact q b H (fun _ _ e=>e) hb
def zpC:R2:=fun x y H Q=>∃ a k xs,x = .ref a∧y = .int k∧H a=some (.tup xs)∧xs≠[]∧-(2 ^ 63)≤k∧k < 2 ^ 63∧xs.length*k.toNat≤sizeLine∧∀ p H',zu H H'→H' p=some (.tup (aw k.toNat xs).flatten)→Q (.ref p) H'
theorem znf {X:Cx}:OpR X (binaryOp .Mult) zpC:=by
 intro pins s σ H x y v u Q I rx ry h
 obtain⟨a,k,xs,rfl,rfl,hx,hne,h1,h2,hz,q⟩:=h
 refine zi3 pins s σ H _ _ v u Q I rx ry ⟨a,k,xs,rfl,rfl,SqT.of hx,hne,h1,h2,hz,fun e=>q a H (fun _ _ e=>e) (by rw [e]; simpa using hx),fun _ p hp=>q p _ (fun b o z=>by rw [zn (fun e=>by rw [e,hp] at z; cases z)]; exact z) zc⟩
end L2
end
section
namespace My
open PySem L2 PyProof.Rows
def md (p:Int) (q:Int×Int):Int×Int:=(q.1,q.2 % p)
theorem zhm (p:Int) (s:List Int×List Int) (q:Int×Int):zcq p s (md p q)=zcq p s q:=by
 unfold zcq md
 have:(q.2 % p - zp p q.1 s.1)*inv p (zp p q.1 s.2) % p=(q.2 - zp p q.1 s.1)*inv p (zp p q.1 s.2) % p:=(((Cg.emod p q.2).sub (Cg.refl p _)).mul (Cg.refl p _)).mod_eq
 dsimp only
 rw [this]
theorem zi4 (p:Int):∀ (pts:List (Int×Int)) (s:List Int×List Int),(pts.map (md p)).foldl (zcq p) s=pts.foldl (zcq p) s
 | [],s=>rfl
 | q :: pts,s=>by
  rw [aS,iF,iF,zhm,zi4 p pts]
theorem zoN (p:Int) (pts:List (Int×Int)):thr p (pts.map (md p))=thr p pts:=by
 unfold thr zpp
 rw [zi4,ab]
def zhn (K:ai):Sp:=fun vs H Q _=>∃ (p:Int) (a:Addr) (pts:List (Int×Int)),vs = [.int p,.ref a]∧zkS K H a pts∧pts.length≤100∧p∈zo∧Pts p (pts.map (md p))∧(∀ q∈pts,0≤q.2∧q.2 < 10000) ∧
 ∀ (l:Addr) (H':Hp),H l=none→zu H H'→H' l=some (.tup ((thr p (pts.map (md p))).map V.int))→Q (.ref l) H'
def zh7 (K:ai):Sp:=fun vs H Q _=>∃ (p tm:Int) (a b:Addr) (as bs:List Int),vs = [.int p,.ref a,.int tm,.ref b]∧H a=some (.lst (as.map V.int))∧H b=some (.lst (bs.map V.int))∧as.length=bs.length∧as.length≤1000∧0 < p∧0≤tm∧tm < 1000 ∧
 ∀ (l:Addr) (H':Hp),H l=none→zu H H'→H' l=some (.lst ((bn (fun x y=>(x - tm*y) % p) as bs).map V.int))→Q (.ref l) H'
def LsA (H:Hp):List Addr→List (List Int)→Prop:=Paired fun b v=>H b=some (.lst (v.map V.int))
theorem LsA.same {H H':Hp} (s:zu H H') {bs:List Addr} {vv:List (List Int)} (h:LsA H bs vv):LsA H' bs vv:=cI (fun _ _ z=>s _ _ z) h
def ClA (ca:Addr) (H:Hp):List Addr→List (Nat×List Int)→Prop:=Paired fun b a=>∃ wa,H b=some (.tup [.int (a.1:Int),.ref wa])∧H wa=some (.lst (a.2.map V.int))∧wa≠ca
theorem ClA.same {ca:Addr} {H H':Hp} (s:zu H H') {bs:List Addr} {cl:List (Nat×List Int)} (h:ClA ca H bs cl):ClA ca H' bs cl:=cI (fun _ _ ⟨wa,z1,z2,z3⟩=>⟨wa,s _ _ z1,s _ _ z2,z3⟩) h
theorem ClA.put {ca:Addr} {H:Hp} {bs:List Addr} {cl:List (Nat×List Int)} {xs:List V} {o:HO} (h:ClA ca H bs cl) (hf:H ca=some (.lst xs)):ClA ca (upd H ca o) bs cl:=cI (fun b _ ⟨wa,z1,z2,z3⟩=>⟨wa,by
 rw [zn (fun e=>by rw [e,hf] at z1; cases z1)]; exact z1,by rw [zn z3]; exact z2,z3⟩) h
theorem zng {xs:List V} {a b:Nat} (h:b≤xs.length):za1 xs (some (a:Int)) (some (b:Int))=(xs.drop a).take (b - a):=by
 unfold za1
 rw [HT.sIx_nat,HT.sIx_nat]
 by_cases ha:a≤xs.length
 ·rw [cD ha,cD h]
 ·rw [show min a xs.length=xs.length by lia,cD h,eJ (ag _),eJ (show xs.length≤a by lia),gR,gR]
theorem zoO {K:ai} {H H':Hp} {a:Addr} {xs:List V} (e:zu H H') (h:SqT K H a xs):SqT K H' a xs:=by
 rcases h with (h | ⟨o,h⟩) | h
 ·exact .inl (.inl (e _ _ h))
 ·exact .inl (.inr ⟨o,e _ _ h⟩)
 ·exact .inr h
def tmP (p:Int) (l:List Int) (pts:List (Int×Int)):List (Int×Int):=pts.map fun a=>(a.1,zp p a.1 l*a.2 % p)
theorem zcG {p:Int} (p0:0 < p) {l:List Int} {pts:List (Int×Int)} (hP:Pts p pts):Pts p (tmP p l pts):=by
 refine⟨?_,fun q hq=>?_⟩
 ·unfold tmP
  rw [bh]
  exact hP.nd
 ·obtain⟨a,ha,rfl⟩:=aE.mp hq
  obtain⟨h1,h2,_⟩:=hP.rg a ha
  exact⟨h1,h2,aI _ (by lia),aC _ p0⟩
theorem zlz (p:Int) (l:List Int) (pts:List (Int×Int)):(pts.map fun a=>(a.1,zp p a.1 l*a.2)).map (md p)=tmP p l pts:=by
 rw [bh]
 rfl
def zdt (K:ai):Sp:=fun vs H Q _=>∃ (p:Int) (la a:Addr) (l:List Int) (bs:List Addr) (pts:List (Int×Int)),vs = [.int p,.ref la,.ref a]∧SqT K H la (l.map V.int)∧SqL K H a (bs.map V.ref)∧PtB H bs pts∧pts.length≤100∧p∈zo∧Pts p pts ∧
 ∀ (z:Addr) (H':Hp),H z=none→zu H H'→H' z=some (.tup ((thr p (tmP p l pts)).map V.int))→Q (.ref z) H'
def bey (m:Nat) (rs:List (List Int)):List Int:=rs.flatMap fun r=>r.drop m
theorem zho (m:Nat) {rs:List (List Int)} {i:Nat} {r:List Int} (h:rs[i]? = some r):bey m (rs.take (i+1))=bey m (rs.take i)++r.drop m:=by
 unfold bey
 rw [take_snoc h,ci]
 simp
def zj2 (K:ai):Sp:=fun vs H Q _=>∃ (a:Addr) (m:Nat) (bs:List Addr) (rs:List (List Int)),vs = [.ref a,.int (m:Int)]∧SqL K H a (bs.map V.ref)∧zbH H bs rs∧(∀ i,(bey m (rs.take i)).length≤10000) ∧
 ∀ (z:Addr) (H':Hp),H z=none→zu H H'→H' z=some (.lst ((bey m rs).map V.int))→Q (.ref z) H'
def szd (q:List Int) (m:Nat):List Int:=(q++aw m 0).take m
def zlA (K:ai):Sp:=fun vs H Q _=>∃ (a:Addr) (m:Nat) (q:List Int),vs = [.ref a,.int (m:Int)]∧H a=some (.tup (q.map V.int))∧1≤m∧q.length+m≤10000 ∧
 ∀ (z:Addr) (H':Hp),zu H H'→H' z=some (.tup ((szd q m).map V.int))→Q (.ref z) H'
def unit (i:Nat):List Int:=aw i 0++[1]
theorem zi5 (i j:Nat):gl (unit i) j=if j=i then 1 else 0:=by
 unfold unit
 by_cases h:j < i
 ·rw [if_neg (by lia)]
  exact zbF (by rw [bj (by rw [aT]; exact h),cJ,if_pos h])
 ·by_cases e:j=i
  ·rw [if_pos e]
   exact zbF (by rw [bJ (by rw [aT]; lia),aT,e,fM]; rfl)
  ·rw [if_neg e]
   exact zaS (by rw [ao,aT]; show i+1≤j; lia)
theorem zj3 {p x:Int} (i:Nat):Cg p (zp p x (unit i)) (x ^ i):=by
 refine (zbG (n:=i+1) (by unfold unit; rw [ao,aT]; exact ag _)).trans ?_
 rw [zh5 (j:=i) (by lia) fun j _ hne=>by rw [zi5,if_neg hne,cP],zi5,if_pos rfl,gB]
 exact Cg.refl _ _
def Tp (p:Int) (pts:List (Int×Int)) (i:Nat):List Int:=thr p (tmP p (unit i) pts)
theorem zcY {p:Int} (hp:p∈zo) {pts:List (Int×Int)} (hP:Pts p pts) (l:List Int):(thr p (tmP p l pts)).length=pts.length:=by
 have rp:=zr hp
 rw [(zeo hp (zcG (l:=l) (by lia) hP)).1]
 unfold tmP
 rw [ab]
theorem zlB {p:Int} (hp:p∈zo) {pts:List (Int×Int)} (hP:Pts p pts) (l:List Int):∀ c∈thr p (tmP p l pts),0≤c∧c < p:=by
 have rp:=zr hp
 exact (zeo hp (zcG (l:=l) (by lia) hP)).2.1
theorem znU {p:Int} (hp:p∈zo) {pts:List (Int×Int)} (hP:Pts p pts) (l:List Int) {a:Int×Int} (ha:a∈pts):zp p a.1 (thr p (tmP p l pts))=zp p a.1 l*a.2 % p:=by
 have rp:=zr hp
 exact (zeo hp (zcG (l:=l) (by lia) hP)).2.2 _ (aE.mpr ⟨a,ha,rfl⟩)
theorem zi6 {p:Int} (hp:p∈zo) {pts:List (Int×Int)} (hP:Pts p pts) {l:List Int} {N:Nat} (hl:l.length≤N) (x:Nat):Cg p (gl (thr p (tmP p l pts)) x) (sm N fun i=>gl l i*gl (Tp p pts i) x):=by
 have rp:=zr hp
 have p0:0 < p:=by lia
 obtain⟨C,hC⟩:∃ C,C=(aH pts.length).map fun x=>(sm N fun i=>gl l i*gl (Tp p pts i) x) % p:=⟨_,rfl⟩
 have hCl:C.length=pts.length:=by rw [hC,ab,aV]
 have hCg:∀ x,x < pts.length→gl C x=(sm N fun i=>gl l i*gl (Tp p pts i) x) % p:=fun x hx=>zbF (by rw [hC,ah,bM hx]; rfl)
 have hCr:∀ c∈C,0≤c∧c < p:=fun c hc=>by
  rw [hC] at hc
  obtain⟨x,_,rfl⟩:=aE.mp hc
  exact⟨aI _ (by lia),aC _ p0⟩
 have hev:∀ a∈pts,zp p a.1 C=zp p a.1 l*a.2 % p:=fun a ha=>by
  refine Cg.eq ?_ (zaA p0 _) (zaB p0 _) (aI _ (by lia)) (aC _ p0)
  refine (zbG (n:=pts.length) (by lia)).trans ?_
  have h1:Cg p (sm pts.length fun x=>gl C x*a.1 ^ x) (sm pts.length fun x=>sm N fun i=>gl l i*(gl (Tp p pts i) x*a.1 ^ x)):=zfF fun x hx=>by
   rw [hCg x hx]
   refine ((Cg.emod _ _).mul (Cg.refl p _)).trans (Cg.of_eq ?_)
   rw [dF,← zbs]
   exact zW fun i _=>by grind
  refine h1.trans ?_
  rw [ziZ]
  have h2:Cg p (sm N fun i=>sm pts.length fun x=>gl l i*(gl (Tp p pts i) x*a.1 ^ x)) (sm N fun i=>a.2*(gl l i*a.1 ^ i)):=zfF fun i _=>by
   rw [zbs]
   have e1:Cg p (sm pts.length fun x=>gl (Tp p pts i) x*a.1 ^ x) (zp p a.1 (Tp p pts i)):=(zbG (by unfold Tp; rw [zcY hp hP]; exact ag _)).symm
   have e2:Cg p (zp p a.1 (Tp p pts i)) (a.1 ^ i*a.2):=by
    unfold Tp
    rw [znU hp hP (unit i) ha]
    exact (Cg.emod _ _).trans ((zj3 i).mul (Cg.refl p _))
   exact ((Cg.refl p (gl l i)).mul (e1.trans e2)).trans (Cg.of_eq (by grind))
  refine h2.trans ?_
  rw [zbs]
  refine ((Cg.refl p a.2).mul (zbG hl).symm).trans ((Cg.of_eq (dF _ _)).trans (Cg.emod _ _).symm)
 have hthr:C=thr p (tmP p l pts):=zh4 hp (zcG p0 hP) (by unfold tmP; rw [ab]; exact hCl) hCr fun a ha=>by
  obtain⟨b,hb,rfl⟩:=aE.mp ha
  exact hev b hb
 rw [← hthr]
 by_cases hx:x < pts.length
 ·rw [hCg x hx]
  exact Cg.emod _ _
 ·rw [zaS (by lia)]
  refine Cg.of_eq (zbg fun i _=>?_).symm
  rw [zaS (w:=Tp p pts i) (by unfold Tp; rw [zcY hp hP]; lia),cN]
theorem zh8 {a b:List Int} (x:Nat):gl (a++b) x=if x < a.length then gl a x else gl b (x - a.length):=by
 unfold gl
 rw [aN,aN,aN]
 by_cases h:x < a.length
 ·rw [if_pos h,bj h]
 ·rw [if_neg h,bJ (by lia)]
theorem znh {a:List Int} (m x:Nat):gl (a.drop m) x=gl a (m+x):=by
 unfold gl
 rw [aN,aN,eG]
theorem zi7 {p:Int} (hp:p∈zo) {c:Nat→Int} {N m:Nat}:∀ {ptss:List (List (Int×Int))},(∀ pts∈ptss,Pts p pts) →
  ((∀ x,Cg p (sm N fun i=>c i*gl (bey m (ptss.map fun pts=>Tp p pts i)) x) 0)↔∀ pts∈ptss,∀ y,m≤y→Cg p (sm N fun i=>c i*gl (Tp p pts i) y) 0)
 | [],_=>by
  refine⟨fun _ pts h=>by (cases h),fun _ x=>Cg.of_eq (zbg fun i _=>?_)⟩
  show c i*gl [] x=0
  rw [zaS (bi _),cN]
 | pts :: ptss,hP=>by
  have ih:=zi7 hp (c:=c) (N:=N) (m:=m) (ptss:=ptss) fun q hq=>hP q (av _ hq)
  have hl:∀ i,((Tp p pts i).drop m).length=pts.length - m:=fun i=>by
   rw [bZ]
   unfold Tp
   rw [zcY hp (hP pts aF)]
  have hb:∀ i x,gl (bey m ((pts :: ptss).map fun pts=>Tp p pts i)) x=if x < pts.length - m then gl (Tp p pts i) (m+x) else gl (bey m (ptss.map fun pts=>Tp p pts i)) (x - (pts.length - m)):=fun i x=>by
   have:bey m ((pts :: ptss).map fun pts=>Tp p pts i)=(Tp p pts i).drop m++bey m (ptss.map fun pts=>Tp p pts i):=rfl
   rw [this,zh8,hl,znh]
  constructor
  ·intro h q hq y hy
   rcases (aB.mp hq) with rfl | hq
   ·by_cases hyl:y < q.length
    ·have:=h (y - m)
     refine Cg.trans (Cg.of_eq (zW fun i _=>?_)) this
     rw [hb,if_pos (by lia),show m+(y - m)=y by lia]
    ·refine Cg.of_eq (zbg fun i _=>?_)
     rw [zaS (by unfold Tp; rw [zcY hp (hP q aF)]; lia),cN]
   ·refine ih.mp (fun x=>?_) q hq y hy
    have:=h (pts.length - m+x)
    refine Cg.trans (Cg.of_eq (zW fun i _=>?_)) this
    rw [hb,if_neg (by lia),show pts.length - m+x - (pts.length - m)=x by lia]
  ·intro h x
   by_cases hx:x < pts.length - m
   ·have:=h pts aF (m+x) (by lia)
    refine Cg.trans (Cg.of_eq (zW fun i _=>?_)) this
    rw [hb,if_pos hx]
   ·have:=ih.mpr (fun q hq=>h q (av _ hq)) (x - (pts.length - m))
    refine Cg.trans (Cg.of_eq (zW fun i _=>?_)) this
    rw [hb,if_neg hx]
def Good (p:Int) (k e:Nat) (ptss:List (List (Int×Int))) (l:List Int):Prop:=∀ pts∈ptss,∃ right,IsP p (k+e) right∧∀ a∈pts,zp p a.1 right=zp p a.1 l*a.2 % p
theorem zlC (q:List Int) (m x:Nat):gl (szd q m) x=if x < m then gl q x else 0:=by
 unfold szd
 by_cases h:x < m
 ·rw [if_pos h]
  unfold gl
  rw [aN,bG h,← aN]
  show gl (q++aw m 0) x=_
  rw [zh8]
  split
  ·rfl
  ·show gl (aw m 0) _=q.getD x 0
   rw [show q.getD x 0=gl q x from rfl,zaS (w:=q) (by lia)]
   unfold gl
   rw [aN,cJ]
   split <;> rfl
 ·rw [if_neg h]
  exact zaS (by rw [aD]; lia)
theorem zi8 {p:Int} (p0:0 < p) {q:List Int} (hq:∀ c∈q,0≤c∧c < p) (m:Nat):IsP p m (szd q m):=by
 unfold szd
 refine⟨by rw [aD,ao,aT]; lia,fun c hc=>?_⟩
 rcases a7.mp (dY hc) with h | h
 ·exact hq c h
 ·rw [ee h]; lia
theorem zhp {p:Int} (p0:0 < p) {q:List Int} {m:Nat} (hz:∀ y,m≤y→gl q y=0) (x:Int):zp p x (szd q m)=zp p x q:=by
 refine Cg.eq ?_ (zaA p0 _) (zaB p0 _) (zaA p0 _) (zaB p0 _)
 refine (zbG (n:=q.length+m) (by unfold szd; rw [aD,ao,aT]; lia)).trans (Cg.trans (Cg.of_eq (zW fun i _=>?_)) (zbG (n:=q.length+m) (by lia)).symm)
 rw [zlC]
 by_cases h:i < m
 ·rw [if_pos h]
 ·rw [if_neg h,hz i (by lia)]
theorem zlD {p:Int} (hp:p∈zo) {k e:Nat} {pts:List (Int×Int)} (hP:Pts p pts) {l:List Int} (hz:∀ y,k+e≤y→gl (thr p (tmP p l pts)) y=0) :
  IsP p (k+e) (szd (thr p (tmP p l pts)) (k+e))∧∀ a∈pts,zp p a.1 (szd (thr p (tmP p l pts)) (k+e))=zp p a.1 l*a.2 % p:=by
 have rp:=zr hp
 refine⟨zi8 (by lia) (zlB hp hP l) _,fun a ha=>?_⟩
 rw [zhp (by lia) hz]
 exact znU hp hP l ha
theorem zj4 {p:Int} (hp:p∈zo) {k e:Nat} {pts:List (Int×Int)} (hP:Pts p pts) {l right:List Int} (hr:IsP p (k+e) right) (hev:∀ a∈pts,zp p a.1 right=zp p a.1 l*a.2 % p) (y:Nat) (hy:k+e≤y):gl (thr p (tmP p l pts)) y=0:=by
 have rp:=zr hp
 by_cases hyl:y < pts.length
 ·have e1:right++aw (pts.length - (k+e)) 0=thr p (tmP p l pts):=zh4 hp (zcG (by lia) hP) (by unfold tmP; rw [ab,ao,aT,hr.1]; lia) (fun c hc=>by
   rcases a7.mp hc with h | h
   ·exact hr.2 c h
   ·rw [ee h]; lia) fun a ha=>by
    obtain⟨b,hb,rfl⟩:=aE.mp ha
    rw [zgS]
    exact hev b hb
  rw [← e1,zh8,hr.1,if_neg (by lia)]
  unfold gl
  rw [aN,cJ]
  split <;> rfl
 ·exact zaS (by rw [zcY hp hP]; lia)
def za6 (p:Int) (k e:Nat) (ptss:List (List (Int×Int))):List (List Int):=(aH (e+1)).map fun i=>bey (k+e) (ptss.map fun pts=>Tp p pts i)
theorem zni {p:Int} {k e:Nat} {ptss:List (List (Int×Int))} {i:Nat} (hi:i < e+1) (x:Nat):vx (za6 p k e ptss) i x=gl (bey (k+e) (ptss.map fun pts=>Tp p pts i)) x:=by
 unfold vx za6
 rw [aN,ah,bM hi]
 rfl
theorem zd8 {p:Int} (hp:p∈zo) {m i:Nat}:∀ {ptss:List (List (Int×Int))},(∀ pts∈ptss,Pts p pts)→(bey m (ptss.map fun pts=>Tp p pts i)).length=(ptss.map fun pts=>pts.length - m).sum
 | [],_=>rfl
 | pts :: ptss,hP=>by
  have:bey m ((pts :: ptss).map fun pts=>Tp p pts i)=(Tp p pts i).drop m++bey m (ptss.map fun pts=>Tp p pts i):=rfl
  rw [this,ao,zd8 hp fun q hq=>hP q (av _ hq),bZ,aS,cV]
  unfold Tp
  rw [zcY hp (hP pts aF)]
def zct (k e:Nat) (ptss:List (List (Int×Int))):Nat:=(ptss.map fun pts=>pts.length - (k+e)).sum
theorem znj {p:Int} (hp:p∈zo) {k e:Nat} {ptss:List (List (Int×Int))} (hP:∀ pts∈ptss,Pts p pts):∀ v∈za6 p k e ptss,v.length=zct k e ptss∧∀ c∈v,0≤c∧c < p:=fun v hv=>by
 obtain⟨i,_,rfl⟩:=aE.mp hv
 refine⟨zd8 hp hP,fun c hc=>?_⟩
 obtain⟨r,hr,hcr⟩:=bO.mp hc
 obtain⟨pts,hpts,rfl⟩:=aE.mp hr
 exact zlB hp (hP pts hpts) _ c (gj hcr)
theorem znV {p:Int} (hp:p∈zo) {k e:Nat} {ptss:List (List (Int×Int))} (hP:∀ pts∈ptss,Pts p pts) {c:Nat→Int} :
  (∀ x,x < zct k e ptss→Cg p (sm (za6 p k e ptss).length fun i=>c i*vx (za6 p k e ptss) i x) 0)↔∀ pts∈ptss,∀ y,k+e≤y→Cg p (sm (e+1) fun i=>c i*gl (Tp p pts i) y) 0:=by
 have hn:(za6 p k e ptss).length=e+1:=by unfold za6; rw [ab,aV]
 rw [hn,← zi7 hp hP]
 have hs:∀ x,sm (e+1) (fun i=>c i*vx (za6 p k e ptss) i x)=sm (e+1) fun i=>c i*gl (bey (k+e) (ptss.map fun pts=>Tp p pts i)) x:=fun x=>zW fun i hi=>by rw [zni hi]
 constructor
 ·intro h x
  by_cases hx:x < zct k e ptss
  ·rw [← hs]; exact h x hx
  ·refine Cg.of_eq (zbg fun i _=>?_)
   rw [zaS (by rw [zd8 hp hP]; exact ik hx),cN]
 ·intro h x _
  rw [hs]
  exact h x
theorem zlE {p:Int} (hp:p∈zo) {k e:Nat} {ptss:List (List (Int×Int))} (hP:∀ pts∈ptss,Pts p pts) (hI:Indep p (zct k e ptss) (za6 p k e ptss)) {l:List Int} (hl:IsP p (e+1) l) (hg:Good p k e ptss l):∀ i,gl l i=0:=by
 have rp:=zr hp
 have hn:(za6 p k e ptss).length=e+1:=by unfold za6; rw [ab,aV]
 intro i
 by_cases hi:i < e+1
 ·have h:=hI (gl l) ((znV hp hP).mpr fun pts hpts y hy=>?_) i (by lia)
  ·obtain⟨g0,g1⟩:=zeH (show 0 < p by lia) hl.2 i
   exact h.eq g0 g1 (bF _) (by lia)
  ·obtain⟨right,h1,h2⟩:=hg pts hpts
   refine (zi6 hp (hP pts hpts) (by rw [hl.1]; exact ag _) y).symm.trans (Cg.of_eq ?_)
   exact zj4 hp (hP pts hpts) h1 h2 y hy
 ·exact zaS (by rw [hl.1]; lia)
theorem zlF {p:Int} (hp:p∈zo) {k e:Nat} {ptss:List (List (Int×Int))} (hP:∀ pts∈ptss,Pts p pts) {c:List Int} (hc:c.length≤e+1) (hD:Dep p (zct k e ptss) (za6 p k e ptss) c):∀ pts∈ptss,∀ y,k+e≤y→gl (thr p (tmP p c pts)) y=0:=fun pts hpts y hy=>by
 have rp:=zr hp
 have h:=(znV hp hP).mp hD pts hpts y hy
 obtain⟨g0,g1⟩:=zeH (show 0 < p by lia) (zlB hp (hP pts hpts) c) y
 exact ((zi6 hp (hP pts hpts) hc y).trans h).eq g0 g1 (bF _) (by lia)
theorem zlG {p:Int} (hp:p∈zo) {k e n:Nat} {ptss:List (List (Int×Int))} (hn:∀ pts∈ptss,pts.length≤n) (hI:Indep p (zct k e ptss) (za6 p k e ptss)):k+e < n:=by
 have rp:=zr hp
 refine Nat.lt_of_not_le fun h=>?_
 have h0:zct k e ptss=0:=by
  unfold zct
  refine List.sum_eq_zero_iff_forall_eq_nat.mpr fun x hx=>?_
  obtain⟨pts,hpts,rfl⟩:=aE.mp hx
  have:=hn pts hpts
  lia
 have hl:(za6 p k e ptss).length=e+1:=by unfold za6; rw [ab,aV]
 have:=hI (fun _=>1) (fun x hx=>by lia) 0 (by lia)
 have:=this.eq (by lia) (by lia) (bF _) (by lia)
 lia
structure LocOk (p:Int) (k:Nat) (ptss:List (List (Int×Int))) (e:Nat) (left:List Int) (rights:List (List Int)):Prop where
 lf:IsP p (e+1) left
 nz:∃ i,gl left i≠0
 rt:rights=ptss.map fun pts=>szd (thr p (tmP p left pts)) (k+e)
 ok:∀ pts∈ptss,IsP p (k+e) (szd (thr p (tmP p left pts)) (k+e))∧∀ a∈pts,zp p a.1 (szd (thr p (tmP p left pts)) (k+e))=zp p a.1 left*a.2 % p
 mn:∀ e',e' < e→∀ l,IsP p (e'+1) l→Good p k e' ptss l→∀ i,gl l i=0
theorem znk {p:Int} (p0:0 < p) {c:List Int} {m:Nat} (hc:c.length≤m) (pts:List (Int×Int)):tmP p (szd c m) pts=tmP p c pts:=by
 unfold tmP
 refine bU fun a _=>?_
 rw [zhp p0 fun y hy=>zaS (by lia)]
theorem zoP {p:Int} (hp:p∈zo) {k e:Nat} {ptss:List (List (Int×Int))} (hP:∀ pts∈ptss,Pts p pts) {c:List Int} {m:Nat} (hc:IsP p (m+1) c) (hm:m < e+1) (h1:gl c m=1) (hD:Dep p (zct k e ptss) (za6 p k e ptss) c)
  (hmin:∀ e',e' < e→Indep p (zct k e' ptss) (za6 p k e' ptss)):LocOk p k ptss e (szd c (e+1)) (ptss.map fun pts=>szd (thr p (tmP p (szd c (e+1)) pts)) (k+e)):=by
 have rp:=zr hp
 have hcl:c.length≤e+1:=by rw [hc.1]; lia
 refine⟨zi8 (by lia) hc.2 _,⟨m,by rw [zlC,if_pos hm,h1]; decide⟩,rfl,fun pts hpts=>?_,fun e' he' l hl hg=>zlE hp hP (hmin e' he') hl hg⟩
 refine zlD hp (hP pts hpts) fun y hy=>?_
 rw [znk (by lia) hcl]
 exact zlF hp hP hcl hD pts hpts y hy
theorem zbH.put {H:Hp} {rs:List Addr} {qs:List (List Int)} {f:Addr} {xs:List V} {o:HO} (h:zbH H rs qs) (hf:H f=some (.lst xs)):zbH (upd H f o) rs qs:=cI (fun a q z=>by
 have:a≠f:=fun e=>by rw [e,hf] at z; cases z
 show upd H f o a=_
 rw [zn this]
 exact z) h
def zp2 (n:Nat) (H:Hp):List Addr→List (List (Option Int))→Prop:=Paired fun b rw=>H b=some (.lst (rw.map enc))∧rw.length=n
def zgh (H:Hp):List Addr→List (List (Int×Int))→Prop:=Paired fun b pts=>∃ bs,H b=some (.lst (bs.map V.ref))∧PtB H bs pts
theorem zgh.same {H H':Hp} (s:zu H H') {bs:List Addr} {ptss:List (List (Int×Int))} (h:zgh H bs ptss):zgh H' bs ptss:=cI (fun _ _ ⟨bs,z,z'⟩=>⟨bs,s _ _ z,z'.same s⟩) h
def NdA (p:Int) (ptss:List (List (Int×Int))) (na:Addr) (H:Hp):List Addr→List Nat→Prop:=Paired fun b i=>∃ us,H b=some (.lst (us.map V.ref))∧b≠na∧zbH H us (ptss.map fun pts=>Tp p pts i)
theorem NdA.same {p:Int} {ptss:List (List (Int×Int))} {na:Addr} {H H':Hp} (s:zu H H') {bs:List Addr} {is:List Nat} (h:NdA p ptss na H bs is):NdA p ptss na H' bs is:=cI (fun _ _ ⟨us,z,z',z2⟩=>⟨us,s _ _ z,z',z2.same s⟩) h
theorem NdA.put {p:Int} {ptss:List (List (Int×Int))} {na:Addr} {H:Hp} {bs:List Addr} {is:List Nat} {xs:List V} {o:HO} (h:NdA p ptss na H bs is) (hf:H na=some (.lst xs)):NdA p ptss na (upd H na o) bs is:=cI (fun _ _ ⟨us,z,z',z2⟩=>⟨us,by rw [zn z']; exact z,z',z2.put hf⟩) h
theorem zh9 {α:Type} {f:α→Nat} {b:Nat}:∀ {l:List α},(∀ x∈l,f x≤b)→(l.map f).sum≤l.length*b
 | [],_=>by simp
 | x :: l,h=>by
  have ih:=zh9 (f:=f) (b:=b) (l:=l) fun y hy=>h y (av _ hy)
  have:=h x aF
  rw [aS,cV,bW,Nat.succ_mul]
  lia
def zdu (K:ai):Sp:=fun vs H Q _=>∃ (c tt ra:Addr) (p:Int) (k:Nat) (pl:List Int) (rbs:List Addr) (rws:List (List (Option Int))),vs = [.ref c,.ref ra]∧za5 H c tt p k pl∧SqL K H ra (rbs.map V.ref)∧zp2 pl.length H rbs rws∧rws.length≤10∧pl.length≤16∧p∈zo∧pl.Nodup∧(∀ x∈pl,0≤x∧x < p)∧(∀ rw∈rws,∀ z,some z∈rw→0≤z∧z < p)∧1≤k∧k≤100 ∧
 ∀ (z la l3:Addr) (us:List Addr) (e:Nat) (left:List Int) (rights:List (List Int)) (H':Hp),zu H H'→H' z=some (.tup [.int (e:Int),.ref la,.ref l3])→H' la=some (.tup (left.map V.int))→H' l3=some (.lst (us.map V.ref))→zbH H' us rights→e≤16→LocOk p k (rws.map (hps pl)) e left rights→Q (.ref z) H'
def ze5 (K:ai):Sp:=fun vs H Q _=>∃ (c tt r:Addr) (p:Int) (k:Nat) (pl:List Int) (rw:List (Option Int)),vs = [.ref c,.ref r]∧za5 H c tt p k pl∧H r=some (.lst (rw.map enc))∧rw.length=pl.length∧pl.length≤16∧p∈zo∧pl.Nodup∧(∀ x∈pl,0≤x∧x < p)∧(∀ z,some z∈rw→0≤z∧z < p)∧1≤k∧k≤100 ∧
 ∀ (z la rb:Addr) (e:Nat) (left right:List Int) (H':Hp),zu H H'→H' z=some (.tup [.int (e:Int),.ref la,.ref rb])→H' la=some (.tup (left.map V.int))→H' rb=some (.tup (right.map V.int))→e≤16→LocOk p k [hps pl rw] e left [right]→Q (.ref z) H'
end My
end
section
namespace L2
open PySem PySem.Spec PyProof.Rows
theorem zdv {X:Cx} (hc:X.calm=true):zbY X (.builtin "max") (fun xs H Q=>∃ (p:Addr) (ns:List Int),xs = [.ref p]∧SqL X.K H p (ns.map V.int)∧ns≠[]∧∀ M:Int,M∈ns→(∀ a∈ns,a≤M)→Q (.int M) H):=by
 intro pins s σ H xs us Q I r h
 obtain⟨p,ns,rfl,hq,hn,q⟩:=h
 obtain⟨u,rfl,rx⟩:=vals1 r
 cases rx
 obtain⟨its,rv,pl,hz⟩:=I.list hq
 have hi:IntsAre its ns:=by simpa using intsAre_of rv
 (obtain⟨xs,e⟩:=hi.allInts.items)
 have hns:ns=xs.toList.map (·.1):=by rw [← hi.numsOf,← nums_intItems,← e]
 have hsz:0 < xs.size:=by
  have h3:=jB.mpr hn
  rw [hns,ab,bC] at h3
  exact h3
 have hl:=pl.isList
 rw [e] at hl
 refine max_intList (I.ok.hd hc) hl hsz fun v h' tk hv hk=>?_
 (obtain⟨t,rfl⟩:=intItems_at hv)
 (obtain⟨h1,h2⟩:=argBest_gt (numAt xs) (xs.size - 1))
 refine⟨.int _,H,I.kept hk,⟨_,rfl⟩,q _ ?_ fun a ha=>?_⟩
 ·(rw [hns,numAt_eq]; exact getD_mem (by rw [ab,bC]; lia))
 ·rw [hns] at ha
  (obtain⟨j,hj,rfl⟩:=mem_getD ha)
  (rw [ab,bC] at hj)
  (rw [← numAt_eq]; exact h2 j (by lia))
end L2
end
section
namespace My
open PySem L2 PyProof.Rows
theorem zia {S:List Nat}:∀ {l:List Nat},l.Nodup→l.length≤(l.filter fun i=>decide (i∉S)).length+S.length:=by
 induction S with
 | nil =>
  intro l _
  rw [List.filter_eq_self.mpr (by simp)]
  exact ag _
 | cons a S ih =>
  intro l hl
  have h1:=ih hl
  have h2:l.filter (fun i=>decide (i∉a :: S))=(l.filter fun i=>decide (i∉S)).filter (fun i=>i != a):=by
   rw [List.filter_filter]
   refine jX fun i _=>?_
   by_cases e:i=a <;> by_cases e2:i∈S <;> simp [e,e2]
  have h3:=List.Nodup.erase_eq_filter (hl.filter fun i=>decide (i∉S)) a
  have h4:(l.filter fun i=>decide (i∉S)).length≤((l.filter fun i=>decide (i∉S)).erase a).length+1:=by
   rw [List.length_erase]
   split <;> lia
  rw [h2,← h3,bW]
  lia
end My
end
section
namespace My
open PySem L2 PyProof.Rows
end My
end
section
namespace PySem
open PyProof.Rows
end PySem
namespace L2
open PySem PySem.Spec PyProof.Rows
end L2
end
section
namespace L2
open PySem PySem.Spec PyProof.Rows
theorem zeK {X:Cx} {K:ai} (hK:X.K=K):zbY X (.type "tuple") (fun xs H Q=>∃ p ys,xs = [.ref p]∧((SqL K H p ys∧∀ l,H l=none→Q (.ref l) (upd H l (.tup ys)))∨(SqT K H p ys∧Q (.ref p) H))):=by subst hK; exact zah
end L2
end
section
namespace PySem
theorem zdO:typeLookup (.type "zip") "__getattr__" = pure none:=by rw [dN,cF]; kernel_rfl
theorem zgi:typeLookup (.type "zip") "keys" = pure none:=by rw [dN,cF]; kernel_rfl
theorem zlH:entryFor table "zip.__getattribute__" = some Builtin.«object.__getattribute__»:=entryFor_alias (id':="object.__getattribute__") (by kernel_rfl) (by decide +kernel) (by decide +kernel) (by kernel_rfl)
theorem zlI (a:Addr) (xs:Array Value) (u:Tok) :
  Meets (Builtin.«object.__getattribute__» ⟨[.ref a,.str "keys" u],[]⟩) (fun A R s=>s.heap.get? a=some { cls:=.type "zip",dict:=none,data:=.fields xs,slots:=#[] }∧raisesAttr (.ref a) "keys" A R s) :=
 Meets.of_wp fun prog w A R s hs0=>by
  (obtain⟨hp,g,d,tk,os⟩:=s)
  obtain⟨hx,hs⟩:=hs0
  have hT:(⟨hp,g,d,tk,os⟩:Shared).TypeIs (.ref a) "zip":=⟨_,hx,rfl⟩
  have hmiss:=zgi
  (unfold Builtin.«object.__getattribute__»); repeat (any_goals (first | assumption | wp_step))
  exact wpAny_raiseAttrError hs.1 hs.2 (attrMsg_fits (by decide +kernel) (by rw [aX]; decide))
theorem znl {prog:Program} {w:World} {A:Around} {E:Value→Shared→Prop} {s:Shared} {a:Addr} {xs:Array Value} {Q:Option Value→Shared→Prop}
  (hx:s.heap.get? a=some { cls:=.type "zip",dict:=none,data:=.fields xs,slots:=#[] }) (hA:A.handled=none)
  (h:∀ h' tk,(∀ b o,s.heap.get? b=some o→h'.get? b=some o)→Q none { s with heap:=h',toks:=tk }) :
  wpAny (model prog w) A (getAttr? (.ref a) "keys") Q E s:=by
 (obtain⟨hp,g,d,tk,os⟩:=s)
 have hT:∀ tk',(⟨hp,g,d,tk',os⟩:Shared).TypeIs (.ref a) "zip":=fun _=>⟨_,hx,rfl⟩
 have f1:=sub_AttributeError
 have f3:=F.slot_zip_getattribute.lookup
 have f4:=F.slot_zip_getattribute.bind (.ref a)
 have f5:=zdO
 (unfold getAttr? getAttrBy? getAttrBy)
 repeat (any_goals (first | assumption | exact hT _ | ((with_reducible show wpAny _ _ (call (Value.builtin "zip.__getattribute__") _ _) _ _ _); refine dA F.slot_zip_getattribute (hT _) zlH (F.args_zip_getattribute_2 _ _) (zlI a xs _) ⟨hx,hA,fun h' tk' e hx'=>?_⟩) | wp_step))
 (obtain⟨t',u',he⟩:=hx'.there)
 (show wpAny _ _ (getattributeRaised _ _ _ _ _ _ _) _ _ _)
 unfold getattributeRaised; repeat (any_goals (first | assumption | wp_step))
 exact h _ _ hx'.keeps
end PySem
end
section
namespace PySem
theorem zhq:entryFor table "dict.update.loop" = some Builtin.«dict.update.loop»:=entryFor_of_tree (by kernel_rfl)
theorem zdg:plainId "dict.update.loop" = true:=by decide +kernel
end PySem
namespace L2
open PySem PySem.Spec PyProof.Rows
abbrev zp3 (n a b:Nat) (i:Nat) (h:Heap):Prop:=(∃ f0 f1,IsZ h (n+4) (n+2) (n+3) f0 f1∧ZF f0 f1)∧IsPair h (n+2) (.ref n) (.ref (n+1))∧(∃ u v,IsPair h (n+3) u v)∧h.IsListIter n a i∧h.IsListIter (n+1) b i
theorem zj5 {κ:Type} [DecidableEq κ] {kvs:List (κ×V)} {k:κ} (h:k∉kvs.map (·.1)):zcV kvs k=none:=by
 unfold zcV
 rw [Option.map_eq_none_iff,List.find?_eq_none]
 intro kv hkv e
 have e:kv.1=k:=of_decide_eq_true e
 exact h (aE.mpr ⟨kv,hkv,e⟩)
theorem zlJ {κ:Type} {ks:List κ} {ys:List V} {i:Nat} {k:κ} {y:V} (hk:ks[i]? = some k) (hy:ys[i]? = some y):(ks.zip ys).take (i+1)=(ks.zip ys).take i++[(k,y)]:=by
 have:(ks.zip ys)[i]? = some (k,y):=by rw [fz]; exact⟨hk,hy⟩
 rw [g8,this,jq]
theorem znm {κ:Type} {ks:List κ} {ys:List V} {i:Nat} {k:κ} (hnd:ks.Nodup) (hk:ks[i]? = some k):k∉((ks.zip ys).take i).map (·.1):=by
 intro h
 obtain⟨q,hq,e⟩:=aE.mp h
 obtain⟨j,hj⟩:=c7.mp hq
 have hji:j < i:=by
  have:=(aA.mp hj).1
  rw [aD] at this
  lia
 rw [bG hji] at hj
 have hkj:ks[j]? = some k:=by
  have hj':(ks.zip ys)[j]? = some (q.1,q.2):=hj
  rw [fz] at hj'
  rw [hj'.1,e]
 have h1:=(aA.mp hkj).1
 have h2:=(aA.mp hk).1
 exact cC.mp hnd j i h1 h2 hji (by rw [(aA.mp hkj).2,(aA.mp hk).2])
theorem znn {α β:Type} {R:α→β→Prop} {as:List α} {bs:List β} (h:Paired R as bs):∀ {i:Nat} {x:α},as[i]? = some x→∃ y,bs[i]? = some y∧R x y:=by
 induction h with
 | nil=>intro i x e; simp at e
 | cons h1 _ ih =>
  intro i x e
  cases i with
  | zero=>cases e; exact⟨_,rfl,h1⟩
  | succ i=>exact ih (by simpa using e)
theorem zch {n c:Nat} (h:c∈[n+4,n+3,n,n+1]):c∈zbT n:=by
 simp only [zbT,aB,aQ,or_false] at h ⊢
 rcases h with z | z | z | z <;> subst z <;> simp
theorem zpD {X:Cx} {pins:List (Addr×Obj)} {σ:St} {H:Hp} {s:Shared} {h':Heap} {tk n:Nat} (I:Inv X pins σ H s) (hf:∀ c∈zbT n,zbR X pins H c) (k1:∀ c o,c∉[n+4,n+3,n,n+1]→s.heap.get? c=some o→h'.get? c=some o):Inv X pins σ H { s with heap:=h',toks:=tk }:=by
 have nit:∀ d u',H d=some u'→d∉[n+4,n+3,n,n+1]:=fun d u' e' hd=>by rw [(hf d (zch hd)).1] at e'; cases e'
 refine I.step (g':=s.gens) (d':=s.drawn) (t':=tk) (ch:=[n+4,n+3,n,n+1]) (fun c hc'=>?_) (fun c o _ _ hcc e _=>k1 c o hcc e) (fun c o _ _ hcc e _=>⟨o.slots,k1 c o hcc e⟩) (fun _ _ _ _ n=>n)
  (fun c o hcc e=>⟨o,k1 c o hcc e⟩) (fun _ _ e=>e) (fun _ _ _ e=>e) (fun c ps e=>⟨#[],by rw [e]; simp⟩) (fun m hm=>?_) (fun c u e=>?_) I.bare
 ·obtain⟨_,a1,_,a3,a4,a5⟩:=hf c (zch hc')
  exact⟨a3,a1,a4,a5⟩
 ·obtain⟨o,es',ep,ho,r⟩:=hm
  exact⟨o,es',ep,k1 _ o (fun z=>(hf _ (zch z)).2.1 rfl) ho,r⟩
 ·refine (I.hok c u e).stay (fun d v' hd q=>k1 d v' ?_ q) (fun _ q=>q) fun _ _ q=>q
  rcases hd with z | z
  ·rw [z]; exact nit c u e
  ·exact nit d _ z
theorem zj6 {X:Cx} {pins:List (Addr×Obj)} {σ:St} {H:Hp} {s:Shared} {a b:Addr} {kvs:List (List Key×V)} {k:List Key} {v:V} {r:Value} {A:Around} {E:Value→Shared→Prop} {Q:Unit→Shared→Prop} (hu:A.units+1 < cLine) (I:Inv X pins σ H s) (e:H a=some (.dT kvs)) (eb:H b=some (.tup (k.map kV))) (l:kvs.length < sizeLine) (rv:RelV v r)
  (h:∀ s',(∀ c o,c≠a→s.heap.get? c=some o→s'.heap.get? c=some o)→Inv X pins σ (upd H a (.dT (putK kvs k v))) s'→Q () s'):wpAny (model X.prog X.w) A.in1 (dictSet a (.ref b) r) Q E s:=by
 obtain⟨z,hd,xs,rel,dd⟩:=znS I.hok e
 have hz:xs.length≤sizeLine:=by rw [← bg rel]; exact z
 have hl:(putK kvs k v).length≤sizeLine:=by have:=zcs kvs k v; lia
 refine wpAny_dictSet_heap (hsz:=hz) (gG hu) (zf4 I.hok eb) dd fun h' dd' hs=>h _ (fun c o hc eo=>hs.extBut c o hc eo) ?_
 obtain⟨q,es,ep,hq,h2,h3,h4,_,h5⟩:=dd'
 refine zf5 I (by rw [e]; exact ie) hs ⟨q,hq⟩ ⟨hl,hd,_,(rel.put k eb rv).keeps fun c ys ec=>?_,q,es,ep,hq,h2,h3,h4,h5⟩
 rw [zn (znJ ec e (fun z=>nomatch z))]
 exact ec
def KyA (H:Hp):List V→List (List Key)→Prop:=Paired fun x k=>∃ c,x = .ref c∧H c=some (.tup (k.map kV))
theorem zno {X:Cx} {pins:List (Addr×Obj)} {σ:St} {A:Around} {R:Result→Shared→Prop} {H0:Hp} {a b n D:Nat} {xs ys:List V} {ks:List (List Key)} (hh:A.handled=none) (hu:A.units+1 < cLine) (ha:a < n) (hb:b < n)
  (hD:H0 D=none) (hfD:D∉zbT n) (hq1:SqL X.K H0 a xs) (hq2:SqL X.K H0 b ys) (hk:KyA H0 xs ks) (hnd:ks.Nodup) (hf:∀ c∈zbT n,zbR X pins H0 c)
  (hR:∀ s' H',Inv X pins σ H' s'→zu H0 H'→H' D=some (.dT (ks.zip ys))→R (.ok (.ret .none)) s') :
  ∀ (m i:Nat) (t:Tok) (s:Shared) (H:Hp),i+m=min xs.length ys.length→Inv X pins σ H s→zu H0 H→(∀ c∈zbT n,H c=none)→zp3 n a b i s.heap→H D=some (.dT ((ks.zip ys).take i)) →
   codeAny (model X.prog X.w) A (.builtin "dict.update.loop" ⟨[.ref D,.ref (n+4),.int i t,.none],[]⟩) R s:=by
 intro m
 induction m with
 | zero =>
  intro i t s H hi I hs hn st hHD
  obtain⟨⟨f0,f1,h1,hzf⟩,h2,⟨u0,v0,h3⟩,h4,h5⟩:=st
  obtain⟨its1,rv1,p1,hz1⟩:=I.list (hs.seq hq1)
  obtain⟨its2,rv2,p2,hz2⟩:=I.list (hs.seq hq2)
  have hl1:=rv1.length
  have hl2:=rv2.length
  refine codeAny_builtin zhq ?_
  rw [jl zdg _]
  show wpAny _ A.in1 (pyNext (.ref (n+4)) >>= _) _ _ s
  have hh2:A.in1.in1.handled=none:=by simp [hh]
  refine ae (zkZ (ff hh2 n a (nq (by lia)) its1.toArray) (ff hh2 (n+1) b (nq (by lia)) its2.toArray) (zcB ha hb) h1 hzf h2 h3 ⟨h4,p1.isList⟩ ⟨h5,p2.isList⟩ (by rw [ap,ap]; lia) fun h' tk kk=>?_)
  show wpAny _ A.in1 (Builtin.Dict.addKeywords D [] >>= _) _ _ _
  (refine ae (am (am ?_)))
  have I1:Inv X pins σ H { s with heap:=h',toks:=tk }:=zpD I (fun c hc=>⟨hn c hc,(hf c hc).2⟩) fun c o hc' e=>by
   simp only [aB,aQ,or_false,not_or] at hc'
   exact kk c o hc'.1 hc'.2.1 hc'.2.2.1 hc'.2.2.2 e
  refine hR _ _ I1 hs ?_
  rw [hHD,aM]
  rw [kB,← bg hk]
  lia
 | succ m ih =>
  intro i t s H hi I hs hn st hHD
  obtain⟨⟨f0,f1,h1,hzf⟩,h2,⟨u0,v0,h3⟩,h4,h5⟩:=st
  obtain⟨its1,rv1,p1,hz1⟩:=I.list (hs.seq hq1)
  obtain⟨its2,rv2,p2,hz2⟩:=I.list (hs.seq hq2)
  have hl1:=rv1.length
  have hl2:=rv2.length
  have hx:xs[i]? = some (xs[i]'(by lia)):=aj _
  have hy:ys[i]? = some (ys[i]'(by lia)):=aj _
  generalize xs[i]'(by lia)=x at hx
  generalize ys[i]'(by lia)=y at hy
  obtain⟨u,huu,ru⟩:=rv1.get hx
  obtain⟨v,hv,rv⟩:=rv2.get hy
  refine codeAny_builtin zhq ?_
  rw [jl zdg _]
  show wpAny _ A.in1 (pyNext (.ref (n+4)) >>= _) _ _ s
  have hh2:A.in1.in1.handled=none:=by simp [hh]
  refine ae (ziF (ff hh2 n a (nq (by lia)) its1.toArray) (ff hh2 (n+1) b (nq (by lia)) its2.toArray) (zcB ha hb) h1 hzf h2 h3 ⟨h4,p1.isList⟩ ⟨h5,p2.isList⟩ (by rw [ap]; lia) (by rw [ap]; lia)
   fun x' y' h' tk g0 g1 a' b' px py ez ezf e2 e3 t4 t5 pp hsz kk=>?_)
  have eu:x'=u:=by
   have e1:its1[i]? = some x':=by simpa using px
   rw [huu] at e1; exact (aP e1).symm
  have ev:y'=v:=by
   have e1:its2[i]? = some y':=by simpa using py
   rw [hv] at e1; exact (aP e1).symm
  subst eu ev
  obtain⟨k,hki,kc,rfl,hkc⟩:=znn hk hx
  cases ru
  have hff:∀ c∈zbT n,zbR X pins H c:=fun c hc=>⟨hn c hc,(hf c hc).2⟩
  have hes:n+4 < s.heap.objs.size:=aJ h1
  have k1:∀ c o,c∉[n+4,n+3,n,n+1]→s.heap.get? c=some o→h'.get? c=some o:=fun c o hc' eo=>by
   simp only [aB,aQ,or_false,not_or] at hc'
   exact kk c o hc'.1 hc'.2.1 hc'.2.2.1 hc'.2.2.2 eo
  have I1:Inv X pins σ H { s with heap:=h',toks:=tk }:=zpD I hff k1
  show wpAny _ A.in1 (holding [.ref s.heap.objs.size] _ >>= _) _ _ _
  (refine ae (bV ?_))
  (refine ae (wpAny_tryCatch ?_))
  unfold Builtin.Dict.pairItems
  have hT:({ s with heap:=h',toks:=tk }:Shared).TypeIs (.ref s.heap.objs.size) "tuple":=⟨_,pp,rfl⟩
  (refine ae (fG hT ?_))
  rw [if_pos (by decide)]
  refine ae (cY pp rfl (am ?_))
  show wpAny _ A.in1 (holding [.ref kc,y'] (dictSet D (.ref kc) y')) _ _ _
  have hlt:((ks.zip ys).take i).length < sizeLine:=by
   rw [aD]
   lia
  refine bV (zj6 (A:=A) hu I1 hHD (hs _ _ hkc) hlt rv fun s2 k2 I2=>?_)
  rw [zk2 _ (zj5 (znm hnd hki)),← zlJ hki hy] at I2
  have nD:∀ c,c∈zbT n→c≠D:=fun c hc z=>hfD (by rw [← z]; exact hc)
  refine am ⟨plainId_quiet zdg _,?_⟩
  show codeAny _ A (.builtin "dict.update.loop" ⟨[.ref D,.ref (n+4),.int ((i+1:Nat):Int) _,.none],[]⟩) R s2
  refine ih (i+1) _ s2 _ (by lia) I2 (fun c o e=>?_) (fun c hc=>?_) ?_ zc
  ·rw [zn (zw e hD)]
   exact hs c o e
  ·rw [zn (nD c hc)]
   exact hn c hc
  ·exact⟨⟨g0,g1,k2 _ _ (nD _ (by simp)) ez,ezf⟩,k2 _ _ (nD _ (by simp)) e2,⟨_,_,k2 _ _ (nD _ (by simp)) e3⟩,t4.1.at fun o e=>k2 _ o (nD _ (by simp)) e,t5.1.at fun o e=>k2 _ o (nD _ (by simp)) e⟩
def tDZ (K:ai) (ta:TA):TE:=fun σ H Q=>ta σ H fun vs H1=>∃ a b xs ys ks,vs = [.ref a,.ref b]∧SqL K H1 a xs∧SqL K H1 b ys∧KyA H1 xs ks∧ks.Nodup∧∀ D H',H1 D=none→zu H1 H'→H' D=some (.dT (ks.zip ys))→Q (.ref D) H'
theorem zib {X:Cx} {p p2 pos pos2:Pos} {a b:Expr} {ta:TA} (hu:X.A.units+2 < cLine) (hc:X.calm=true) (hg:Gl X "dict") (hm:X.mg "dict" = none) (hg2:Gl X "zip") (hm2:X.mg "zip" = none) (ha:PA X [a,b] ta) (hs:starEach [a,b] X.env = [(false,eval a X.env),(false,eval b X.env)]:=by rfl) (hs2:starEach [b] X.env = [(false,eval b X.env)]:=by rfl)
  (hs3:starEach [.Call (.Name "zip" p2) [a,b] [] pos2] X.env = [(false,eval (.Call (.Name "zip" p2) [a,b] [] pos2) X.env)]:=by rfl) :
  PE X (.Call (.Name "dict" p) [.Call (.Name "zip" p2) [a,b] [] pos2] [] pos) (tDZ X.K ta):=by
 intro pins s σ H Q I h
 refine Call_ (zbp I hg hm boot_dict (bv ?_ hs3 rfl))
 rw [hs3]
 show wpAny _ _ (spliced ((false,eval (.Call (.Name "zip" p2) [a,b] [] pos2) X.env) :: [])) _ _ s
 refine eC ?_
 refine Call_ (zbp I hg2 hm2 kg (bv (thn (ha pos2 pins s σ H _ I h) fun us s1 ⟨vs,H1,I1,r1,q1⟩=>?_) (by rw [hs,hs2]) (by rw [hs2]; rfl)))
 obtain⟨l1,l2,xs,ys,ks,e,hq1,hq2,hky,hnd,q⟩:=q1
 subst e
 cases r1 with
 | cons r rr =>
  cases rr with
  | cons r' rr =>
   cases rr
   cases r
   cases r'
   obtain⟨its1,rv1,pl1,hz1⟩:=I1.list hq1
   obtain⟨its2,rv2,pl2,hz2⟩:=I1.list hq2
   have hlt1:l1 < s1.heap.objs.size:=by obtain⟨_,_,e,_⟩:=pl1; exact aJ e
   have hlt2:l2 < s1.heap.objs.size:=by obtain⟨_,_,e,_⟩:=pl2; exact aJ e
   refine call_zip_2 pl1.isList pl2.isList fun h' b1 b2 b3 b4 b5 b6 kk=>?_
   refine fU ?_
   have I2:Inv X pins σ H1 { s1 with heap:=h' }:=I1.kept (t':=s1.toks) kk
   have hfp:∀ c∈zbT s1.heap.objs.size,zbR X pins H1 c:=fun c hc=>by
    have hle:s1.heap.objs.size≤c:=by
     simp only [zbT,aB,aQ,or_false] at hc
     rcases hc with z | z | z | z | z <;> subst z
     all_goals first | exact fg _ _ | exact ag _
    exact I1.fpOk hle (I1.hok.fresh hle)
   generalize hn:s1.heap.objs.size=n at b1 b2 b3 b4 b5 b6 hlt1 hlt2 hfp ⊢
   refine callType_codes (Q₁:=fun obj s₁=>obj = .ref h'.objs.size∧s₁ = { s1 with heap:=h'.push { cls:=.type "dict",data:=.dict #[] } }) F.kt_called_dict (F.kt_typeCall_dict_1 _) F.entry_dict_init (kt_code_dict_new _ ⟨rfl,rfl⟩) ?_
   rintro obj s₁ ⟨rfl,rfl⟩
   have hpn:∀ c o,h'.get? c=some o→(h'.push { cls:=.type "dict",data:=.dict #[] }).get? c=some o:=fun c o e=>ak _ e
   have I3:Inv X pins σ (upd H1 h'.objs.size (.dT [])) { s1 with heap:=h'.push { cls:=.type "dict",data:=.dict #[] } } :=
    I2.laid (a:=h'.objs.size) (o:=.dT []) (t':=s1.toks) hpn (ag _) (zg3 h' I2.big)
   have hT:({ s1 with heap:=h'.push { cls:=.type "dict",data:=.dict #[] } }:Shared).TypeIs (.ref h'.objs.size) "dict":=⟨_,aL _ rfl,rfl⟩
   refine⟨hT,F.args_dict_init_2 _ _,?_⟩
   (unfold Builtin.«dict.__init__»; refine ae ?_; unfold Builtin.Dict.selfAndRest)
   (refine ae (i5 hT ?_))
   show wpAny _ _ (pure (h'.objs.size,[ba (n+4)])) _ _ _
   refine (am ?_)
   show wpAny _ _ (iC "dict.__init__" h'.objs.size (.ref (n+4)) [] .none) _ _ _
   (unfold iC)
   have hz3:=hpn _ _ b1
   have hTz:({ s1 with heap:=h'.push { cls:=.type "dict",data:=.dict #[] } }:Shared).TypeIs (.ref (n+4)) "zip":=⟨_,hz3,rfl⟩
   refine ae (fG hTz ?_)
   rw [if_pos (by decide)]
   have hh:X.A.handled=none:=I.ok.hd hc
   refine ae (znl hz3 (by simp [hh]) fun h2 tk kk2=>?_)
   rw [if_pos (by rfl)]
   refine ae (cb ?_)
   have I4:Inv X pins σ (upd H1 h'.objs.size (.dT [])) { s1 with heap:=h2,toks:=tk }:=Inv.kept (s:={ s1 with heap:=h'.push { cls:=.type "dict",data:=.dict #[] } }) (t':=tk) I3 kk2
   refine ae (zf3 (kk2 _ _ hz3) (am ⟨plainId_quiet zdg _,?_⟩))
   have D0:H1 h'.objs.size=none:=I2.hok.fresh (ag _)
   have up:∀ c o,h'.get? c=some o→h2.get? c=some o:=fun c o e=>kk2 c o (hpn c o e)
   refine zno (X:=X) (pins:=pins) (σ:=σ) (A:=X.A.in1) (H0:=H1) (a:=l1) (b:=l2) (n:=n) (D:=h'.objs.size) (xs:=xs) (ys:=ys) (ks:=ks) (by simp [hh]) (by simp only [d9]; lia) hlt1 hlt2 D0 ?_ hq1 hq2 hky hnd hfp (fun s' H' I' e1 e2=>?_) (min xs.length ys.length) 0 _ _ _ (by lia) I4 (fun c o e=>?_) (fun c hc=>?_) ?_ ?_
   ·rw [b6]
    simp
   ·exact⟨rfl,.ref h'.objs.size,_,I',rfl,q _ _ D0 e1 e2⟩
   ·rw [zn (zw e D0)]
    exact e
   ·rw [zn]
    ·exact (hfp c hc).1
    ·rw [b6]
     simp only [zbT,aB,aQ,or_false] at hc
     rcases hc with z | z | z | z | z <;> subst z <;> exact nq (by lia)
   ·exact⟨⟨_,_,up _ _ b1,.inl rfl,_,rfl⟩,up _ _ b2,⟨_,_,up _ _ b3⟩,b4.at fun o e=>up _ o e,b5.at fun o e=>up _ o e⟩
   ·rw [dv]
    exact zc
end L2
end
section
namespace PySem
theorem zdh:typeLookup (.type "list") (dunderI "add")=pure (some (.builtin "list.__iadd__")):=by rw [dN,cF]; kernel_rfl
theorem ze6:seqSlot? (.type "list") (dunderI "add")=pure (some (.builtin "list.__iadd__")):=by
 unfold seqSlot?
 rw [zdh]
 kernel_rfl
theorem zgj:fillsInplaceSlot (.type "list") "add" (Operator.Add == .Add)=pure false:=by
 unfold fillsInplaceSlot
 show (typeLookup (.type "list") (dunderI "add") >>= fun fi=>pure (fi.isSome && !isSeqSlot fi))=pure false
 rw [zdh]
 kernel_rfl
theorem zj7 {M:Model} {A:Around} {E:Value→Shared→Prop} {s:Shared} {a b:Value} {Q:Value→Shared→Prop} (ha:s.TypeIs a "list") (hb:s.TypeIs b "list")
  (hc:wpAny M A (call (.builtin "list.__iadd__") [a,b]) Q E s):wpAny M A (inplaceOp .Add a b) Q E s:=by
 (unfold inplaceOp; refine bV ?_)
 refine ae (fG ha (ae (dB zgj ?_)))
 (show wpAny M A (if false=true then _ else _) Q E s)
 rw [if_neg aO]
 refine ae (wpAny_binaryOp1_none (nm:="add") ha hb noFill_list_add ?_)
 refine ae (dB ze6 ?_)
 exact (ae (cb hc))
end PySem
namespace L2
open PySem PySem.Spec PyProof.Rows
def zoQ:R2:=fun x y H Q=>∃ l b xs zs,x = .ref l∧y = .ref b∧H l=some (.lst xs)∧H b=some (.lst zs)∧xs.length+zs.length≤sizeLine∧Q (.ref l) (upd H l (.lst (xs++zs)))
theorem zlK {X:Cx}:OpR X (inplaceOp .Add) zoQ:=by
 intro pins s σ H x y v u Q I rx ry h
 obtain⟨l,b,xs,zs,rfl,rfl,hH,hB,hz,q⟩:=h
 cases rx
 cases ry
 obtain⟨z,its,n,r,hl,e⟩:=I.lstM hH
 obtain⟨z2,its2,n2,r2,hl2,e2⟩:=I.lstM hB
 have hsz:its.toArray.size+its2.toArray.size≤sizeLine:=by rw [ap,ap]; lia
 have hlong:¬ (!its.toArray.isEmpty && d8 (its.toArray.size+its2.toArray.size))=true:=by
  rw [zgJ hsz,kF]
  exact aO
 refine zj7 ⟨_,e,rfl⟩ ⟨_,e2,rfl⟩ (dA F.slot_list_iadd ⟨_,e,rfl⟩ F.entry_list_iadd (F.args_list_iadd_2 _ _)
  (AutoSeq1.list___iadd___list_list_0 l its.toArray n b its2.toArray n2 hlong (by rw [ap]; lia) (by lia)) ⟨e,e2,?_⟩)
 refine⟨.ref l,_,I.lset (its':=its++its2) hH e (by simp) (r.append r2) ?_,rfl,q⟩
 rw [ao]
 lia
end L2
end
section
namespace My
open PySem L2 PyProof.Rows
def sh (b:Int):Nat→(Nat→Int)→Nat→Int
 | 0,_,_=>0
 | n+1,l,0=>l 0+b*sh b n (fun t=>l (t+1)) 0
 | n+1,l,j+1=>sh b n (fun t=>l (t+1)) j+b*sh b n (fun t=>l (t+1)) (j+1)
theorem zdi {b:Int}:∀ {n:Nat} {l:Nat→Int} {j:Nat},n≤j→sh b n l j=0
 | 0,_,_,_=>by simp [sh]
 | n+1,l,0,h=>by lia
 | n+1,l,j+1,h=>by
  rw [sh,zdi (by lia),zdi (by lia)]; simp
theorem zgk {b:Int}:∀ {n:Nat} {u v:Nat→Int} {j:Nat},sh b n (fun t=>u t+v t) j=sh b n u j+sh b n v j
 | 0,_,_,_=>by simp [sh]
 | n+1,u,v,0=>by
  have h:=zgk (b:=b) (n:=n) (u:=fun t=>u (t+1)) (v:=fun t=>v (t+1)) (j:=0)
  simp only [sh,h]; grind
 | n+1,u,v,j+1=>by
  have h:=zgk (b:=b) (n:=n) (u:=fun t=>u (t+1)) (v:=fun t=>v (t+1)) (j:=j)
  have h':=zgk (b:=b) (n:=n) (u:=fun t=>u (t+1)) (v:=fun t=>v (t+1)) (j:=j+1)
  simp only [sh,h,h']; grind
theorem zgl {b c:Int}:∀ {n:Nat} {u:Nat→Int} {j:Nat},sh b n (fun t=>c*u t) j=c*sh b n u j
 | 0,_,_=>by simp [sh]
 | n+1,u,0=>by
  have h:=zgl (b:=b) (c:=c) (n:=n) (u:=fun t=>u (t+1)) (j:=0)
  simp only [sh,h]; grind
 | n+1,u,j+1=>by
  have h:=zgl (b:=b) (c:=c) (n:=n) (u:=fun t=>u (t+1)) (j:=j)
  have h':=zgl (b:=b) (c:=c) (n:=n) (u:=fun t=>u (t+1)) (j:=j+1)
  simp only [sh,h,h']; grind
theorem zhr {b:Int}:∀ {n:Nat} {u v:Nat→Int} {j:Nat},(∀ t,t < n→u t=v t)→sh b n u j=sh b n v j
 | 0,_,_,_,_=>by simp [sh]
 | n+1,u,v,0,h=>by
  rw [sh,sh,h 0 (by lia),zhr (n:=n) (v:=fun t=>v (t+1)) fun t ht=>h (t+1) (by lia)]
 | n+1,u,v,j+1,h=>by
  have e:=fun i=>zhr (b:=b) (n:=n) (u:=fun t=>u (t+1)) (v:=fun t=>v (t+1)) (j:=i) fun t ht=>h (t+1) (by lia)
  rw [sh,sh,e j,e (j+1)]
theorem zhs {p b b':Int} (hb:Cg p b b'):∀ {n:Nat} {u v:Nat→Int} {j:Nat},(∀ t,t < n→Cg p (u t) (v t))→Cg p (sh b n u j) (sh b' n v j)
 | 0,_,_,_,_=>by simp only [sh]; exact Cg.refl _ _
 | n+1,u,v,0,h=>by
  simp only [sh]
  exact (h 0 (by lia)).add (hb.mul (zhs hb fun t ht=>h (t+1) (by lia)))
 | n+1,u,v,j+1,h=>by
  simp only [sh]
  exact (zhs hb fun t ht=>h (t+1) (by lia)).add (hb.mul (zhs hb fun t ht=>h (t+1) (by lia)))
theorem zgm {b:Int}:∀ {n:Nat} {f:Nat→Int} {j:Nat},f n=0→sh b (n+1) f j=sh b n f j
 | 0,f,0,h=>by simp [sh,h]
 | 0,f,j+1,h=>by simp [sh]
 | n+1,f,0,h=>by
  rw [sh,zgm (n:=n) (f:=fun t=>f (t+1)) h]; simp only [sh]
 | n+1,f,j+1,h=>by
  have e:=fun i=>zgm (b:=b) (n:=n) (f:=fun t=>f (t+1)) (j:=i) h
  rw [sh,e j,e (j+1)]; simp only [sh]
theorem znp {b:Int} {n:Nat} {f:Nat→Int} {j:Nat}:∀ {m:Nat},n≤m→(∀ t,n≤t→t < m→f t=0)→sh b m f j=sh b n f j
 | m,h,z=>by
  induction m with
  | zero =>
   obtain rfl:n=0:=by lia
   rfl
  | succ m ih =>
   by_cases e:n=m+1
   ·rw [e]
   ·rw [zgm (z m (by lia) (by lia))]
    exact ih (by lia) fun t h1 h2=>z t h1 (by lia)
theorem zi9:∀ {n:Nat} {l:Nat→Int} {j:Nat},j < n→sh 0 n l j=l j
 | 0,_,_,h=>by lia
 | n+1,l,0,_=>by simp [sh]
 | n+1,l,j+1,h=>by
  rw [sh,zi9 (n:=n) (l:=fun t=>l (t+1)) (by lia)]; simp
theorem zlL {b b':Int}:∀ {n:Nat} {l:Nat→Int} {j:Nat},sh b' n (sh b n l) j=sh (b+b') n l j
 | 0,_,_=>by simp [sh]
 | n+1,l,j=>by
  have hz:sh b n (fun t=>l (t+1)) n=0:=zdi (ag _)
  have ih:=fun i=>zlL (b:=b) (b':=b') (n:=n) (l:=fun t=>l (t+1)) (j:=i)
  have e:sh b' (n+1) (sh b (n+1) l) j=sh b' (n+1) (fun t=>(if t=0 then l 0 else sh b n (fun t=>l (t+1)) (t - 1))+b*sh b n (fun t=>l (t+1)) t) j:=by
   refine zhr fun t _=>?_
   cases t <;> simp [sh]
  rw [e,zgk,zgl,zgm hz,ih]
  cases j with
  | zero =>
   simp only [sh,if_true]
   have e2:sh b' n (fun t=>if t+1=0 then l 0 else sh b n (fun t=>l (t+1)) (t+1 - 1)) 0=sh (b+b') n (fun t=>l (t+1)) 0:=by
    rw [← ih]; exact zhr fun t _=>by simp
   rw [e2]; grind
  | succ j =>
   simp only [sh]
   have e2:∀ i,sh b' n (fun t=>if t+1=0 then l 0 else sh b n (fun t=>l (t+1)) (t+1 - 1)) i=sh (b+b') n (fun t=>l (t+1)) i:=fun i=>by
    rw [← ih]; exact zhr fun t _=>by simp
   rw [e2,e2]; grind
def vl:Nat→(Nat→Int)→Int→Int
 | 0,_,_=>0
 | n+1,l,y=>l 0+y*vl n (fun t=>l (t+1)) y
theorem zlM {y:Int}:∀ {n:Nat} {u v:Nat→Int},(∀ t,t < n→u t=v t)→vl n u y=vl n v y
 | 0,_,_,_=>rfl
 | n+1,u,v,h=>by rw [vl,vl,h 0 (by lia),zlM (v:=fun t=>v (t+1)) fun t ht=>h (t+1) (by lia)]
theorem zlN {y:Int}:∀ {n:Nat} {u v:Nat→Int},vl n (fun t=>u t+v t) y=vl n u y+vl n v y
 | 0,_,_=>by simp [vl]
 | n+1,u,v=>by
  have h:=zlN (y:=y) (n:=n) (u:=fun t=>u (t+1)) (v:=fun t=>v (t+1))
  simp only [vl,h]; grind
theorem zlO {c y:Int}:∀ {n:Nat} {u:Nat→Int},vl n (fun t=>c*u t) y=c*vl n u y
 | 0,_=>by simp [vl]
 | n+1,u=>by
  have h:=zlO (c:=c) (y:=y) (n:=n) (u:=fun t=>u (t+1))
  simp only [vl,h]; grind
theorem zlP {p y y':Int} (hy:Cg p y y'):∀ {n:Nat} {u v:Nat→Int},(∀ t,t < n→Cg p (u t) (v t))→Cg p (vl n u y) (vl n v y')
 | 0,_,_,_=>Cg.refl _ _
 | n+1,u,v,h=>(h 0 (by lia)).add (hy.mul (zlP hy fun t ht=>h (t+1) (by lia)))
theorem zlQ {y:Int}:∀ {n:Nat} {f:Nat→Int},f n=0→vl (n+1) f y=vl n f y
 | 0,f,h=>by simp [vl,h]
 | n+1,f,h=>by rw [vl,zlQ (n:=n) (f:=fun t=>f (t+1)) h]; rfl
theorem znW {b y:Int}:∀ {n:Nat} {l:Nat→Int},vl n (sh b n l) y=vl n l (y+b)
 | 0,_=>rfl
 | n+1,l=>by
  have ih:=znW (b:=b) (y:=y) (n:=n) (l:=fun t=>l (t+1))
  have hz:sh b n (fun t=>l (t+1)) n=0:=zdi (ag _)
  have e:vl (n+1) (sh b (n+1) l) y=vl (n+1) (fun t=>(if t=0 then l 0 else sh b n (fun t=>l (t+1)) (t - 1))+b*sh b n (fun t=>l (t+1)) t) y:=by
   refine zlM fun t _=>?_
   cases t <;> simp [sh]
  rw [e,zlN,zlO,zlQ hz,ih]
  simp only [vl,if_true]
  have e2:vl n (fun t=>if t+1=0 then l 0 else sh b n (fun t=>l (t+1)) (t+1 - 1)) y=vl n (fun t=>l (t+1)) (y+b):=by
   rw [← ih]; exact zlM fun t _=>by simp
  rw [e2]; grind
def ch:Nat→Nat→Int
 | _,0=>1
 | 0,_+1=>0
 | t+1,j+1=>ch t j+ch t (j+1)
theorem zdj:∀ {t j:Nat},t < j→ch t j=0
 | _,0,h=>by lia
 | 0,j+1,_=>rfl
 | t+1,j+1,h=>by rw [ch,zdj (by lia),zdj (by lia)]; rfl
theorem zeL {b:Int}:∀ {n:Nat} {l:Nat→Int} {j:Nat},sh b n l j=sm n fun t=>ch t j*b ^ (t - j)*l t
 | 0,_,_=>rfl
 | n+1,l,0=>by
  rw [sh,zeL,zcF,← zbs]
  congr 1
  ·simp [ch]
  ·exact zW fun i _=>by simp only [ch,dG]; grind
 | n+1,l,j+1=>by
  rw [sh,zeL,zeL,zcF,← zbs,← zgf]
  have e0:ch 0 (j+1)*b ^ (0 - (j+1))*l 0=0:=by simp [ch]
  rw [e0,dH]
  refine zW fun i _=>?_
  have e1:i+1 - (j+1)=i - j:=by lia
  rw [ch,e1]
  by_cases h:j+1≤i
  ·have e2:i - j=(i - (j+1))+1:=by lia
   rw [e2,dE]; grind
  ·rw [zdj (t:=i) (j:=j+1) (by lia)]; simp
theorem zja {y:Int}:∀ {n:Nat} {l:Nat→Int},vl n l y=sm n fun t=>l t*y ^ t
 | 0,_=>rfl
 | n+1,l=>by
  rw [vl,zja,zcF,← zbs]
  congr 1
  ·simp
  ·exact zW fun t _=>by rw [dE]; grind
end My
end
section
namespace My
open PySem L2 PyProof.Rows
theorem zlR {l:List Nat} {d:Nat} (h:l.Nodup) (hl:∀ x∈l,x < d):l.length≤d:=by
 have h1:=zia (S:=aH d) h
 rw [iZ.mpr (fun x hx=>by have:=hl x hx; simpa using this),aV] at h1
 simpa using h1
theorem zjb {p:Int} (hp:p∈zo) {L N m:Nat} {vs:List (List Int)} {cl:List (Nat×List Int)} (E:Ech p L N m vs cl) (hm:m < N) {w0:List Int} (W0:Wh p L N m vs [] w0):∀ i,i≤cl.length→∃ w,Wh p L N m vs (cl.take i) w
 | 0,_=>⟨w0,by rw [dv]; exact W0⟩
 | i+1,hi=>by
  obtain⟨w,W⟩:=zjb hp E hm W0 i (by lia)
  exact⟨_,zi1 hp E hm (aj (by lia)) W⟩
theorem zlS {p:Int} (hp:p∈zo) {L:Nat} {vs:List (List Int)} (hv:∀ v∈vs,v.length=L∧∀ c∈v,0≤c∧c < p) (hI:Indep p L vs):∀ m,m≤vs.length→∃ cl,Ech p L vs.length m vs cl
 | 0,_=>⟨[],Ech.start p L vs.length vs⟩
 | m+1,hm=>by
  have rp:=zr hp
  obtain⟨cl,E⟩:=zlS hp hv hI m (by lia)
  have hvm:vs[m]? = some (vs[m]'(by lia)):=aj (by lia)
  obtain⟨h1,h2⟩:=hv _ (aG hvm)
  obtain⟨w,W⟩:=zjb hp E (by lia) (zhk hp (N:=vs.length) (by lia) hvm h1 h2) cl.length (ag _)
  rw [bA] at W
  by_cases hz:∀ x,x < L→gl w x=0
  ·exfalso
   obtain⟨_,d2,d3⟩:=zlq W (by lia) hz
   have:=hI _ d3 m (by lia)
   rw [d2] at this
   have:=this.eq (by lia) (by lia) (bF _) (by lia)
   lia
  ·obtain⟨x,hx⟩:=Classical.not_forall.mp hz
   obtain⟨hx1,hx2⟩:=Classical.not_imp.mp hx
   exact⟨_,zhl hp E (by lia) W hx1 hx2⟩
theorem zlT {p:Int} (hp:p∈zo) {L:Nat} {vs:List (List Int)} (hv:∀ v∈vs,v.length=L∧∀ c∈v,0≤c∧c < p) (hI:Indep p L vs):vs.length≤L:=by
 obtain⟨cl,E⟩:=zlS hp hv hI vs.length (ag _)
 have hn:(cl.map (·.1)).Nodup:=by
  rw [cU,ck,cC]
  intro i j hi hj hij e
  have h1:=E.up i j _ _ (aj hi) (aj hj) hij
  have h2:=(E.one j _ (aj hj)).2.2.2.2.1
  rw [e,h2] at h1
  cases h1
 have:=zlR hn fun x hx=>by
  obtain⟨a,ha,rfl⟩:=aE.mp hx
  obtain⟨j,hj⟩:=fh ha
  exact (E.one j a hj).1
 rw [ab,E.ln] at this
 exact this
end My
end
section
namespace My
open PySem L2 PyProof.Rows
abbrev Tm:=Nat×Nat
def cf (x:Int) (n u:Nat):Int:=ch n u*x ^ (n - u)
theorem zgn (x:Int) (n:Nat):cf x n 0=x ^ n:=by
 unfold cf
 cases n <;> simp [ch]
theorem znq (x:Int) (n u:Nat):cf x (n+1) (u+1)=cf x n u+x*cf x n (u+1):=by
 unfold cf
 by_cases h:u < n
 ·rw [show n+1 - (u+1)=n - u by lia,show n - u=(n - (u+1))+1 by lia,dE]
  show (ch n u+ch n (u+1))*_=_
  grind
 ·have h1:ch n (u+1)=0:=zdj (by lia)
  rw [show n+1 - (u+1)=n - u by lia]
  show (ch n u+ch n (u+1))*_=_
  rw [h1]
  simp
structure Co where
 x:Int
 y:Int
 u:Nat
 v:Nat
def cv (t:Tm) (c:Co):Int:=cf c.x t.1 c.u*cf c.y t.2 c.v
def pco (q:Int×Int×Nat):List Co:=(aH q.2.2).flatMap fun u=>(aH (q.2.2 - u)).map fun v=>⟨q.1,q.2.1,u,v⟩
def cos (pts:List (Int×Int×Nat)):List Co:=pts.flatMap pco
def zaI (p:Int) (pts:List (Int×Int×Nat)) (t:Tm):List Int:=(cos pts).map fun c=>cv t c % p
def tz (k:Nat) (t:Tm):Nat:=t.1+(k - 1)*t.2
def tms (k s:Nat):List Tm:=(aH (s / (k - 1)+1)).map fun j=>(s - (k - 1)*j,j)
def zN (k s:Nat):List Tm:=(aH s).flatMap (tms k)
theorem zaJ (k s:Nat):zN k (s+1)=zN k s++tms k s:=by
 unfold zN
 rw [cg,ci]
 simp
theorem zcH {k s:Nat} (hk:2≤k) {t:Tm}:t∈tms k s↔tz k t=s:=by
 unfold tms tz
 have k1:0 < k - 1:=by lia
 constructor
 ·intro h
  obtain⟨j,hj,rfl⟩:=aE.mp h
  have hj:=bd.mp hj
  have:(k - 1)*j≤s:=by
   have:=(eZ k1).mp (show j≤s / (k - 1) by lia)
   rw [eP]; exact this
  show s - (k - 1)*j+(k - 1)*j=s
  lia
 ·intro h
  refine aE.mpr ⟨t.2,bd.mpr ?_,?_⟩
  ·have:t.2≤s / (k - 1):=(eZ k1).mpr (by rw [eP]; lia)
   lia
  ·have:s - (k - 1)*t.2=t.1:=by lia
   rw [this]
theorem zaO {k s:Nat} (hk:2≤k) {t:Tm}:t∈zN k s↔tz k t < s:=by
 unfold zN
 rw [bO]
 constructor
 ·rintro⟨z,hz,h⟩
  rw [(zcH hk).mp h]
  exact bd.mp hz
 ·intro h
  exact⟨tz k t,bd.mpr h,(zcH hk).mpr rfl⟩
theorem zj8 (k s:Nat):(tms k s).Nodup:=by
 unfold tms
 rw [cU,ck]
 refine jY ?_ f'
 intro a b h e
 exact h (congrArg Prod.snd e)
theorem zaZ {k:Nat} (hk:2≤k):∀ s,(zN k s).Nodup
 | 0=>by simp [zN]
 | s+1=>by
  rw [zaJ,dS]
  refine⟨zaZ hk s,zj8 k s,fun a ha b hb e=>?_⟩
  subst e
  have h1:=(zaO hk).mp ha
  have h2:=(zcH hk).mp hb
  lia
theorem zci {k:Nat} (hk:2≤k):∀ s,(zN k s).Pairwise fun a b=>tz k a≤tz k b
 | 0=>by simp [zN]
 | s+1=>by
  rw [zaJ,jj]
  refine⟨zci hk s,?_,fun a ha b hb=>?_⟩
  ·refine fJ (R:=fun _ _=>True) ?_ (List.pairwise_of_forall fun _ _=>trivial)
   intro a b ha hb _
   rw [(zcH hk).mp ha,(zcH hk).mp hb]
   exact ag _
  ·have h1:=(zaO hk).mp ha
   have h2:=(zcH hk).mp hb
   lia
theorem zfI (k:Nat):∀ s,s≤(zN k s).length
 | 0=>bi _
 | s+1=>by
  rw [zaJ,ao]
  have:=zfI k s
  have h:1≤(tms k s).length:=by unfold tms; rw [ab,aV]; exact Nat.le_add_left _ _
  lia
theorem zfJ (k:Nat) {a:Nat}:∀ {b},a≤b→zN k a <+: zN k b
 | 0,h=>by
  obtain rfl:a=0:=by lia
  exact kr _
 | b+1,h=>by
  by_cases e:a=b+1
  ·rw [e]
   exact kr _
  ·exact (zfJ k (show a≤b by lia)).trans (by rw [zaJ]; exact List.prefix_append _ _)
def lsum (l:List Tm) (f:Tm→Int):Int:=(l.map f).sum
theorem zlU (f:Tm→Int):lsum [] f=0:=rfl
theorem za0 (a:Tm) (l:List Tm) (f:Tm→Int):lsum (a :: l) f=f a+lsum l f:=by simp [lsum]
theorem zcu (l m:List Tm) (f:Tm→Int):lsum (l++m) f=lsum l f+lsum m f:=by simp [lsum]
theorem zgo {p:Int} {f g:Tm→Int}:∀ {l:List Tm},(∀ t∈l,Cg p (f t) (g t))→Cg p (lsum l f) (lsum l g)
 | [],_=>Cg.refl p _
 | a :: l,h=>by
  rw [za0,za0]
  exact (h a aF).add (zgo fun t ht=>h t (av _ ht))
theorem zfK {f:Tm→Int}:∀ {l:List Tm},(∀ t∈l,f t=0)→lsum l f=0
 | [],_=>rfl
 | a :: l,h=>by rw [za0,h a aF,zfK fun t ht=>h t (av _ ht)]; rfl
theorem zlV {l m:List Int} (h:l.Perm m):l.sum=m.sum:=by
 induction h with
 | nil=>rfl
 | cons a _ ih=>simp [ih]
 | swap a b l=>simp only [cV]; lia
 | trans _ _ h1 h2=>rw [h1,h2]
theorem zj9 {l m:List Tm} {f:Tm→Int} (h:l.Perm m):lsum l f=lsum m f:=zlV (h.map f)
theorem zfL {l m:List Tm} {f:Tm→Int} (hl:l.Nodup) (hm:m.Nodup) (h:∀ t,t∈l↔t∈m):lsum l f=lsum m f:=zj9 ((gT hl hm).mpr h)
theorem zgp {f:Tm→Int} {g:Nat→Int}:∀ {l:List Tm} {n:Nat},n=l.length→(∀ i t,l[i]? = some t→g i=f t)→sm n g=lsum l f
 | [],_,rfl,_=>rfl
 | a :: l,_,rfl,h=>by
  rw [za0,bW,zcF,h 0 a rfl,zgp rfl fun i t e=>h (i+1) t (by simpa using e)]
def znr (p:Int) (L m:Nat) (vs:List (List Int)):Prop:=∀ u:Nat→Int,(∀ x,x < L→Cg p (sm m fun i=>u i*vx vs i x) 0)→∀ i,i < m→Cg p (u i) 0
theorem zns {p:Int} {L N m:Nat} {vs:List (List Int)} {cl:List (Nat×List Int)} (hm:m≤N) (E:Ech p L N m vs cl):znr p L m vs:=fun u hu i hi=>by
 have key:∀ y,sm N (fun i=>(if i < m then u i else 0)*vx vs i y)=sm m (fun i=>u i*vx vs i y):=fun y=>by
  rw [zd7 hm (f:=fun i=>(if i < m then u i else 0)*vx vs i y) (fun i h1 _=>by rw [if_neg (by lia)]; simp)]
  exact zW fun i hi=>by rw [if_pos hi]
 have h:=E.ii (fun y=>if y < L then sm m (fun i=>u i*vx vs i y) else if y - L < m then u (y - L) else 0) (fun x hx=>?_) (fun i h1 h2=>?_) (fun a ha=>?_) i (by lia)
 ·rw [if_neg (by lia),du,if_pos hi] at h
  exact h
 ·dsimp only
  rw [if_pos hx,← key]
  refine Cg.of_eq (zW fun i _=>?_)
  have e:(if L+i < L then sm m (fun i_1=>u i_1*vx vs i_1 (L+i)) else if L+i - L < m then u (L+i - L) else 0)=if i < m then u i else 0:=by rw [if_neg (by lia),du]
  rw [e]
 ·rw [if_neg (by lia),du,if_neg (by lia)]
  exact Cg.refl p 0
 ·obtain⟨j,hj⟩:=fh ha
  have:=(E.one j a hj).1
  rw [if_pos this]
  exact hu _ this
theorem zoR {p:Int} {pts:List (Int×Int×Nat)} {t:Tm} {x:Nat} {c:Co} (h:(cos pts)[x]? = some c):gl (zaI p pts t) x=cv t c % p:=zbF (by unfold zaI; rw [ah,h]; rfl)
theorem zjc (p:Int) (pts:List (Int×Int×Nat)) (t:Tm):(zaI p pts t).length=(cos pts).length:=by unfold zaI; rw [ab]
theorem znt {p:Int} (p0:0 < p) {pts:List (Int×Int×Nat)} {t:Tm}:∀ c∈zaI p pts t,0≤c∧c < p:=fun c hc=>by
 unfold zaI at hc
 obtain⟨d,_,rfl⟩:=aE.mp hc
 exact⟨aI _ (by lia),aC _ p0⟩
theorem zlW {p:Int} {pts:List (Int×Int×Nat)} {ts:List Tm} {i x:Nat} {t:Tm} {c:Co} (ht:ts[i]? = some t) (h:(cos pts)[x]? = some c):vx (ts.map (zaI p pts)) i x=cv t c % p:=by
 unfold vx
 rw [aN,ah,ht]
 exact zoR h
structure Lst (p:Int) (k:Nat) (pts:List (Int×Int×Nat)) (size:Nat) (g:Tm→Int):Prop where
 rg:∀ t,0≤g t∧g t < p
 top:∃ t,tz k t=size∧g t≠0
 out:∀ t,size < tz k t→g t=0
 ok:∀ c∈cos pts,Cg p (lsum (zN k (size+1)) fun t=>g t*cv t c) 0
 least:∀ h:Tm→Int,(∀ c∈cos pts,Cg p (lsum (zN k size) fun t=>h t*cv t c) 0)→∀ t,tz k t < size→Cg p (h t) 0
 few:(zN k size).length≤(cos pts).length
def gof (ts:List Tm) (c:List Int) (t:Tm):Int:=(iS t (ts.zip c)).getD 0
theorem zic:∀ {ts:List Tm} {c:List Int} {i:Nat} {t:Tm},ts.Nodup→ts[i]? = some t→gof ts c t=gl c i
 | [],_,_,_,_,h=>(by simp at h)
 | a :: ts,[],i,t,_,_=>by
  show (iS t ([]:List (Tm×Int))).getD 0=_
  rw [zaS (by simp)]
  rfl
 | a :: ts,b :: c,0,t,_,h=>by
  cases h
  unfold gof
  rw [dI,a8,beq_self_eq_true]
  rfl
 | a :: ts,b :: c,i+1,t,hn,h=>by
  (have hn':=dL.mp hn)
  have h':ts[i]? = some t:=by simpa using h
  have ne:t≠a:=fun e=>hn'.1 (by rw [← e]; exact aG h')
  have:=zic (c:=c) hn'.2 h'
  unfold gof at this ⊢
  rw [dI,a8,show (t == a)=false by simpa using ne,this]
  unfold gl
  simp
theorem zjd:∀ {ts:List Tm} {c:List Int} {t:Tm},gof ts c t≠0→∃ i,i < c.length∧ts[i]? = some t
 | [],_,_,h=>absurd rfl h
 | a :: ts,[],t,h=>absurd rfl h
 | a :: ts,b :: c,t,h=>by
  by_cases e:t=a
  ·exact⟨0,by simp,by rw [e]; rfl⟩
  ·unfold gof at h
   rw [dI,a8,show (t == a)=false by simpa using e] at h
   obtain⟨i,h1,h2⟩:=zjd (ts:=ts) (c:=c) (t:=t) h
   exact⟨i+1,by simpa using h1,by simpa using h2⟩
theorem znu {p:Int} (p0:0 < p) {ts:List Tm} {c:List Int} (hc:∀ z∈c,0≤z∧z < p) (t:Tm):0≤gof ts c t∧gof ts c t < p:=by
 unfold gof
 cases h:iS t (ts.zip c) with
 | none=>exact⟨bF _,p0⟩
 | some z =>
  have:(t,z)∈ts.zip c:=by
   clear hc
   induction ts generalizing c with
   | nil=>simp at h
   | cons a ts ih =>
    cases c with
    | nil=>simp at h
    | cons b c =>
     rw [dI,a8] at h
     cases e:(t == a) with
     | true =>
      rw [e] at h
      cases h
      rw [show t=a by simpa using e]
      exact aF
     | false =>
      rw [e] at h
      exact av _ (ih h)
  exact hc z (gf this).2
theorem zbM {f:Tm→Int} {q:Tm→Bool}:∀ {l:List Tm},(∀ t∈l,q t=false→f t=0)→lsum l f=lsum (l.filter q) f
 | [],_=>rfl
 | a :: l,h=>by
  have ih:=zbM (l:=l) (f:=f) (q:=q) fun t ht=>h t (av _ ht)
  cases e:q a with
  | true=>rw [eA e,za0,za0,ih]
  | false=>rw [eB (by rw [e]; simp),za0,h a aF e,ih]; lia
theorem zdw {k:Nat} {l:List Tm} (h:l.Pairwise fun a b=>tz k a≤tz k b) {i j:Nat} {a b:Tm} (ha:l[i]? = some a) (hb:l[j]? = some b) (hij:i≤j):tz k a≤tz k b:=by
 by_cases e:i=j
 ·subst e
  rw [ha] at hb
  cases hb
  exact ag _
 ·obtain⟨h1,e1⟩:=aA.mp ha
  obtain⟨h2,e2⟩:=aA.mp hb
  have:=cC.mp h i j h1 h2 (by lia)
  rw [e1,e2] at this
  exact this
theorem zoS {p:Int} (p0:0 < p) {k:Nat} (hk:2≤k) {pts:List (Int×Int×Nat)} {S:Nat} {ts:List Tm} (hts:ts=(zN k S).take ((cos pts).length+1)) {c:List Int} {m:Nat} (hc:IsP p (m+1) c) {top:Tm} (htop:ts[m]? = some top) (h1:gl c m=1)
  (hD:Dep p (cos pts).length (ts.map (zaI p pts)) c) (hI:znr p (cos pts).length m (ts.map (zaI p pts))):Lst p k pts (tz k top) (gof ts c):=by
 have hpre:ts <+: zN k S:=by rw [hts]; exact List.take_prefix _ _
 have hnd:ts.Nodup:=fN hpre.sublist (zaZ hk S)
 have hso:ts.Pairwise fun a b=>tz k a≤tz k b:=eX hpre.sublist (zci hk S)
 have hmt:m < ts.length:=(aA.mp htop).1
 have hml:m < (cos pts).length+1:=by
  rw [hts,aD] at hmt
  lia
 have hin:∀ t,gof ts c t≠0→∃ i,i≤m∧ts[i]? = some t:=fun t ht=>by
  obtain⟨i,h1,h2⟩:=zjd ht
  exact⟨i,by rw [hc.1] at h1; lia,h2⟩
 have topS:tz k top < S:=(zaO hk).mp (hpre.sublist.subset (aG htop))
 have sumAll:∀ F:Tm→Int,lsum (zN k (tz k top+1)) (fun t=>gof ts c t*F t)=lsum ts (fun t=>gof ts c t*F t):=fun F=>by
  rw [zbM (l:=zN k (tz k top+1)) (q:=fun t=>decide (gof ts c t≠0)) fun t _ e=>by
    rw [show gof ts c t=0 by simpa using e]; simp,
   zbM (l:=ts) (q:=fun t=>decide (gof ts c t≠0)) fun t _ e=>by
    rw [show gof ts c t=0 by simpa using e]; simp]
  refine zfL (fN gp (zaZ hk _)) (fN gp hnd) fun t=>?_
  rw [cw,cw,zaO hk]
  constructor
  ·rintro⟨_,h⟩
   obtain⟨i,_,hi⟩:=hin t (by simpa using h)
   exact⟨aG hi,h⟩
  ·rintro⟨_,h⟩
   obtain⟨i,him,hi⟩:=hin t (by simpa using h)
   exact⟨hW (zdw hso hi htop him),h⟩
 have preM:zN k (tz k top) <+: zN k S:=zfJ k (fC topS)
 have hM:(zN k (tz k top)).length≤m:=by
  refine ik fun hlt=>?_
  have hS:(zN k S)[m]? = some top:=by
   obtain⟨r,hr⟩:=hpre
   rw [← hr,bj hmt]
   exact htop
  obtain⟨r,hr⟩:=preM
  rw [← hr,bj hlt] at hS
  have:=(zaO hk).mp (aG hS)
  lia
 have atM:∀ i t,(zN k (tz k top))[i]? = some t→ts[i]? = some t:=fun i t e=>by
  have hi:=(aA.mp e).1
  obtain⟨r,hr⟩:=preM
  have hS:(zN k S)[i]? = some t:=by rw [← hr,bj hi]; exact e
  obtain⟨r2,hr2⟩:=hpre
  rw [← hr2,bj (by lia)] at hS
  exact hS
 refine⟨znu p0 hc.2,⟨top,rfl,by rw [zic hnd htop,h1]; decide⟩,fun t ht=>?_,fun d hd=>?_,fun h hh t ht=>?_,by lia⟩
 ·refine cE fun hne=>?_
  obtain⟨i,him,hi⟩:=hin t hne
  have:=zdw hso hi htop him
  lia
 ·rw [sumAll]
  obtain⟨x,hx⟩:=c7.mp hd
  have hx':=(aA.mp hx).1
  have:=hD x hx'
  rw [ab,zgp (l:=ts) (f:=fun t=>gof ts c t*(cv t d % p)) rfl fun i t e=>by rw [zic hnd e,zlW e hx]] at this
  exact (zgo fun t _=>(Cg.refl p _).mul (Cg.emod p _).symm).trans this
 ·have hu:=hI (fun i=>if i < (zN k (tz k top)).length then h (ts.getD i (0,0)) else 0) (fun x hx=>?_)
  ·obtain⟨i,hi⟩:=c7.mp ((zaO hk).mpr ht)
   have hil:=(aA.mp hi).1
   have:=hu i (by lia)
   rw [if_pos hil,aN,atM i t hi] at this
   exact this
  ·have hx2:(cos pts)[x]? = some ((cos pts)[x]'hx):=aj hx
   rw [zd7 hM fun i h2 _=>by rw [if_neg (by lia)]; simp]
   rw [zgp (l:=zN k (tz k top)) (f:=fun t=>h t*(cv t ((cos pts)[x]'hx) % p)) rfl fun i t e=>by
    rw [if_pos (aA.mp e).1,zlW (atM i t e) hx2,aN,atM i t e]
    rfl]
   exact (zgo fun t _=>(Cg.refl p _).mul (Cg.emod p _)).trans (hh _ (ed hx))
end My
end
section
namespace My
open PySem L2 PyProof.Rows
def tri (w:Nat):Nat:=w*(w+1) / 2
theorem zlX (w:Nat):tri (w+1)=tri w+(w+1):=by
 unfold tri
 rw [show (w+1)*(w+1+1)=w*(w+1)+2*(w+1) by grind,Nat.add_mul_div_left _ _ (by decide)]
theorem zht (n:Nat):∀ m,m≤n→((aH m).map fun u=>n - u).sum+tri (n - m)=tri n
 | 0,_=>by simp
 | m+1,h=>by
  have ih:=zht n m (by lia)
  rw [cg,au,kA]
  have:tri (n - m)=tri (n - (m+1))+(n - m):=by
   rw [show n - m=(n - (m+1))+1 by lia,zlX]
  (simp only [aS,fH,cV,List.sum_nil])
  lia
theorem znv (q:Int×Int×Nat):(pco q).length=tri q.2.2:=by
 unfold pco
 rw [List.length_flatMap]
 have:=zht q.2.2 q.2.2 (ag _)
 have e:(aH q.2.2).map (fun u=>((aH (q.2.2 - u)).map fun v=>(⟨q.1,q.2.1,u,v⟩:Co)).length)=(aH q.2.2).map fun u=>q.2.2 - u:=bU fun u _=>by rw [ab,aV]
 rw [e]
 have t0:tri (q.2.2 - q.2.2)=0:=by rw [fM]; rfl
 lia
def zcv (pts:List (Int×Int×Nat)):Nat:=(pts.map fun q=>tri q.2.2).sum
theorem zgq:∀ pts,(cos pts).length=zcv pts
 | []=>rfl
 | q :: pts=>by
  have ih:=zgq pts
  unfold cos zcv at ih ⊢
  rw [dr,ao,znv,ih]
  simp
theorem znw {pts:List (Int×Int×Nat)} {x y:Int} {w u v:Nat} (h:(x,y,w)∈pts) (hu:u < w) (hv:v < w - u):(⟨x,y,u,v⟩:Co)∈cos pts:=by
 unfold cos
 refine bO.mpr ⟨_,h,?_⟩
 unfold pco
 exact bO.mpr ⟨u,bd.mpr hu,aE.mpr ⟨v,bd.mpr hv,rfl⟩⟩
def zgr (k s:Nat) (g:Tm→Int):List (List Int):=(aH (s / (k - 1)+1)).map fun j=>(aH (s - (k - 1)*j+1)).map fun i=>g (i,j)
theorem zhu (k s:Nat) (g:Tm→Int):(zgr k s g).length=s / (k - 1)+1:=by unfold zgr; rw [ab,aV]
theorem zlY {k s j:Nat} {g:Tm→Int} (h:j < s / (k - 1)+1):(zgr k s g)[j]? = some ((aH (s - (k - 1)*j+1)).map fun i=>g (i,j)):=by
 unfold zgr
 rw [ah,bM h]
 rfl
theorem zka {f:Tm→Int} {n:Nat} {w:Nat→Nat}:lsum ((aH n).flatMap fun j=>(aH (w j)).map fun i=>(i,j)) f=sm n fun j=>sm (w j) fun i=>f (i,j):=by
 induction n with
 | zero=>rfl
 | succ n ih =>
  rw [cg,ci,zcu,ih]
  show _=sm n (fun j=>sm (w j) fun i=>f (i,j))+sm (w n) (fun i=>f (i,n))
  congr 1
  have:∀ m,lsum ((aH m).map fun i=>(i,n)) f=sm m fun i=>f (i,n):=by
   intro m
   induction m with
   | zero=>rfl
   | succ m ih2 =>
    rw [cg,au,zcu,ih2]
    show _+lsum [(m,n)] f=sm m (fun i=>f (i,n))+f (m,n)
    rw [za0,zlU]
    lia
  simp only [dr,gb,bD]
  exact this _
end My
end
section
namespace My
open PySem L2 PyProof.Rows
section
variable {K:ai}
theorem LsA.off {H:Hp} {l:Addr} {ls:List Addr} {vv:List (List Int)} (h:LsA H ls vv) (hl:H l=some (.lst (ls.map V.ref))):∀ (i:Nat) (b:Addr),ls[i]? = some b→b≠l:=by
 rintro i b hb rfl
 obtain⟨v,_,hv⟩:=Paired.get h hb
 rw [hl] at hv
 cases ls with
 | nil=>simp at hb
 | cons x r =>
  cases v with
  | nil=>simp at hv
  | cons y z=>simp at hv
theorem zlZ {many:Nat} {base:Int} {ds:List Int} (h:zfZ many base ds) {i:Int} (h0:0≤i) (h1:i < many):∃ d,atI (ds.map V.int) i=some (.int d)∧0≤d∧d < base:=by
 obtain⟨n,rfl⟩:∃ n:Nat,i=n:=⟨i.toNat,by lia⟩
 have hn:n < ds.length:=by rw [h.1]; lia
 refine⟨ds[n]'hn,zaG (by rw [ah,aj hn]; rfl),h.2 _ (ed hn)⟩
theorem zoT {H H':Hp} {ls:List Addr} {vv:List (List Int)} {D:Addr} (hD:D∉ls) (k:∀ b o,b≠D→H b=some o→H' b=some o) (h:LsA H ls vv):LsA H' ls vv:=by
 induction h with
 | nil=>exact .nil
 | cons h1 _ ih=>exact .cons (k _ _ (fun e=>hD (by rw [← e]; exact aF)) h1) (ih fun z=>hD (av _ z))
theorem zdI {α β:Type} {R:α→β→Prop}:∀ {as:List α} {bs:List β} {x:α} {y:β},Paired R (as++[x]) (bs++[y])→Paired R as bs∧R x y
 | [],[],_,_,h=>by cases h with | cons h1 _=>exact⟨.nil,h1⟩
 | [],b :: bs,_,_,h=>by have:=bg h; simp at this
 | a :: as,[],_,_,h=>by have:=bg h; simp at this
 | a :: as,b :: bs,_,_,h=>by
  cases h with
  | cons h1 h2 =>
   obtain⟨p1,p2⟩:=zdI h2
   exact⟨.cons h1 p1,p2⟩
theorem zl0 {H:Hp} {d:Nat} {x:V} (hx:zfo x=true):EqD K H d x x true:=by
 have h:=EqD.flat (K:=K) (H:=H) (d:=d) (x:=x) (y:=x) hx hx
 have e:eqV x x=true:=by
  cases x <;> simp_all [eqV,zfo]
 rw [e] at h
 exact h
theorem znx {H:Hp} {a b:Addr} {ms:List Int} (ha:H a=some (.tup (ms.map V.int))) (hb:H b=some (.tup (ms.map V.int))):EqD K H 8 (.ref a) (.ref b) true:=by
 by_cases hne:a=b
 ·subst hne
  exact .same
 ·have h:=EqD.tups (K:=K) (H:=H) (d:=7) (e:=fun _=>true) hne (SqT.of ha) (SqT.of hb) fun j x y h1 h2=>by
   rw [h1] at h2
   cases h2
   obtain⟨z,rfl,_⟩:=zag h1
   exact zl0 rfl
  have e:((aH (min (ms.map V.int).length (ms.map V.int).length)).all (fun _=>true) && (ms.map V.int).length == (ms.map V.int).length)=true:=by simp
  rw [e] at h
  exact h
theorem zny {H:Hp} {rs rs':List Addr} {qs:List (List Int)} (h1:zbH H rs qs) (h2:zbH H rs' qs):∀ (j:Nat) x y,(rs.map V.ref)[j]? = some x→(rs'.map V.ref)[j]? = some y→EqD K H 8 x y true:=fun j x y e1 e2=>by
 obtain⟨a,rfl,ha⟩:=zX e1
 obtain⟨b,rfl,hb⟩:=zX e2
 obtain⟨q,g1,g2⟩:=Paired.get h1 ha
 obtain⟨q',g3,g4⟩:=Paired.get h2 hb
 rw [g1] at g3
 cases g3
 exact znx g2 g4
theorem znz {xs:List V} {v:V}:atI (xs++[v]) (-1)=some v:=by
 unfold atI ixN
 rw [if_neg (by decide),if_pos (by rw [ao]; show -((xs.length+1:Nat):Int)≤-1; lia)]
 show (xs++[v])[(-1+((xs++[v]).length:Int)).toNat]? = some v
 rw [ao,show (-1+((xs.length + [v].length:Nat):Int)).toNat=xs.length by show (-1+((xs.length+1:Nat):Int)).toNat=_; lia,bJ (ag _),fM]
 rfl
end
end My
end
section
namespace L2
open PySem PySem.Spec PyProof.Rows Srt
def zhv:Value→Int
 | .int n _=>n
 | _=>0
theorem ints_map {vs:List Value} {ns:List Int} (h:IntsAre vs ns):vs.map zhv=ns:=by
 induction h with
 | nil=>rfl
 | cons n t _ ih=>rw [aS,ih]; rfl
theorem zgs {vs:List Value} {ns:List Int} (h:IntsAre vs ns):∀ v∈vs,∃ n t,v=fB n t:=by
 induction h with
 | nil=>intro v hv; cases hv
 | cons n t _ ih =>
  intro v hv
  rcases (aB.mp hv) with rfl | hv
  ·exact⟨n,t,rfl⟩
  ·exact ih v hv
theorem zeM:∀ {vs:List Value},(∀ v∈vs,∃ n t,v=fB n t)→zJ ((vs.map zhv).map V.int) vs
 | [],_=>.nil
 | v :: vs,h=>by
  obtain⟨n,t,rfl⟩:=h v aF
  exact .cons ⟨t,rfl⟩ (zeM fun u hu=>h u (av _ hu))
theorem zkb:∀ {vs:List Value} {ns:List Int},IntsAre vs ns→2≤vs.length→keyKind' vs.toArray=pure oneType'
 | [],_,_,h=>by simp at h
 | [_],_,_,h=>by simp at h
 | _ :: _ :: _,_,hI,_=>keyKind_ints hI
theorem zdk {X:Cx}:zbY X (.builtin "sorted") (fun xs H Q=>∃ (p:Addr) (ns:List Int),xs = [.ref p]∧SqL X.K H p (ns.map V.int) ∧
  ∀ (l:Addr) (ms:List Int),H l=none→ms.Perm ns→(ms.Pairwise fun a b=>a≤b)→Q (.ref l) (upd H l (.lst (ms.map V.int)))):=by
 intro pins s σ H xs us Q I r h
 obtain⟨p,ns,rfl,hq,q⟩:=h
 obtain⟨u,rfl,rx⟩:=vals1 r
 cases rx
 obtain⟨its,rv,pl,hz⟩:=I.list hq
 have hI:IntsAre its ns:=intsAre_of rv
 have hl:=rv.length
 refine zfB (vs:=its) (κ:=oneType') (val:=fun p=>zhv p.1) (by lia) (fun R hR=>?_) (fun s' kk h2 A' Q' E' hq'=>?_) (fun s' A' kk=>?_) fun h' tk out e D kk hD hlst hp hs=>?_
 ·exact collect_list pl.isList (hR _ _ fun b o e=>(jA _ _ _ _ (bu (aJ e))).trans (ak _ e)) (by lia)
 ·rw [zkb hI h2]
  exact am hq'
 ·intro x y hx hy Q E hQ
  obtain⟨a,t,ex⟩:=zgs hI _ (zb4 hx).1
  obtain⟨b,t',ey⟩:=zgs hI _ (zb4 hy).1
  rw [keyLt'_oneType,ex,ey]
  simp only [ex,ey,zhv] at hQ
  exact oneLt_int hQ
 ·have ho:∀ v∈out.toList,∃ n t,v=fB n t:=fun v hv=>zgs hI v (hp.mem_iff.mp hv)
  have hlen:=hp.length_eq
  obtain⟨hn,I2⟩:=I.above (tk:=tk) (D:=D) (o:=.lst ((out.toList.map zhv).map V.int)) kk hD ⟨by rw [ab,ab]; lia,out.toList,e,zeM ho,by simpa using hlst⟩
  refine⟨.ref D,_,I2,rfl,q D _ hn ?_ ?_⟩
  ·rw [← ints_map hI]
   exact hp.map _
  ·exact ck.mpr hs
theorem zdJ:∀ {ms ns:List Int},ms.Perm ns→(ms.Pairwise fun a b=>a≤b)→(ns.Pairwise fun a b=>a≤b)→ms=ns
 | [],ns,h,_,_=>(List.nil_perm.mp h).symm
 | m :: ms,[],h,_,_=>by simpa using h.length_eq
 | m :: ms,n :: ns,h,h1,h2=>by
  rw [fK] at h1 h2
  have e:m=n:=by
   have a:=h.mem_iff.mp (aF (a:=m) (l:=ms))
   have b:=h.mem_iff.mpr (aF (a:=n) (l:=ns))
   have a':n≤m:=by
    rcases aB.mp a with r | r
    ·lia
    ·exact h2.1 m r
   have b':m≤n:=by
    rcases aB.mp b with r | r
    ·lia
    ·exact h1.1 n r
   lia
  subst e
  rw [zdJ (List.Perm.cons_inv h) h1.2 h2.2]
end L2
end
section
namespace My
open PySem L2 PyProof.Rows
def top (i:Nat):Stmt:=PySem.Challenge.pw_slipcurve_k14_whole_places_exchanged.main.body.getD i (.Pass ⟨0,0,0,0⟩)
abbrev zcj:Stmt:=top 1
abbrev zcI:Stmt:=top 2
abbrev za7:Stmt:=top 3
abbrev zeN:Stmt:=top 4
abbrev zcJ:Stmt:=top 5
abbrev zaK:Stmt:=top 11
abbrev zeO:Stmt:=top 12
abbrev zbC:Stmt:=top 14
abbrev zaT:Stmt:=top 15
abbrev zbI:Stmt:=top 16
abbrev za8:Stmt:=top 18
abbrev zaC:Stmt:=top 19
abbrev zaP:Stmt:=top 20
abbrev zb5:Stmt:=top 21
abbrev zaj:Stmt:=top 22
abbrev zbm:Stmt:=top 23
abbrev zaU:Stmt:=top 25
abbrev zai:Stmt:=top 26
abbrev za9:Stmt:=top 27
abbrev zbn:Stmt:=top 28
abbrev zaD:Stmt:=top 30
abbrev s_beyond:Stmt:=top 31
abbrev zd9:Stmt:=top 32
abbrev z0:Stmt:=top 33
abbrev zbz:Stmt:=top 35
abbrev zdl:Stmt:=top 37
abbrev zcK:Stmt:=top 38
abbrev zcw:Stmt:=top 39
abbrev zcL:Stmt:=top 40
abbrev zaL:Stmt:=top 41
abbrev zdm:Stmt:=top 42
abbrev zba:Stmt:=top 43
structure Adr where
 SlipError:Addr
 TooFew:Addr
 NoCurve:Addr
 value_at:Addr
 inverse:Addr
 times_root:Addr
 bent:Addr
 through:Addr
 heard_points:Addr
 fits:Addr
 choices:Addr
 all_through:Addr
 all_near:Addr
 moved_powers:Addr
 numbers_at:Addr
 vectors_of:Addr
 without:Addr
 first_relation:Addr
 first_sum:Addr
 first_terms:Addr
 least_curve:Addr
 check_curves:Addr
 curve_for:Addr
 times_entries:Addr
 beyond:Addr
 sized:Addr
 joint_locator:Addr
 locator_of:Addr
 l_cell:Addr
 l_draws:Addr
 l_code:Addr
 l_value:Addr
 l_polynomial:Addr
 l_row:Addr
 law:Addr
structure Txt (K:ai) (mg:Str→Option Value) (t:Adr):Prop where
 len_:mg "len" = none
 range_:mg "range" = none
 list_:mg "list" = none
 tuple_:mg "tuple" = none
 min_:mg "min" = none
 max_:mg "max" = none
 int_:mg "int" = none
 zip_:mg "zip" = none
 enumerate_:mg "enumerate" = none
 sum_:mg "sum" = none
 dict_:mg "dict" = none
 reversed_:mg "reversed" = none
 sorted_:mg "sorted" = none
 ValueError_:mg "ValueError" = none
 x_SlipError:mg "SlipError" = some (.ref t.SlipError)
 x_TooFew:mg "TooFew" = some (.ref t.TooFew)
 x_NoCurve:mg "NoCurve" = some (.ref t.NoCurve)
 sb:kP K t.SlipError (.type "BaseException")=some true
 m_value_at:mg "value_at" = some (.ref t.value_at)
 m_inverse:mg "inverse" = some (.ref t.inverse)
 m_times_root:mg "times_root" = some (.ref t.times_root)
 m_bent:mg "bent" = some (.ref t.bent)
 m_through:mg "through" = some (.ref t.through)
 m_heard_points:mg "heard_points" = some (.ref t.heard_points)
 m_fits:mg "fits" = some (.ref t.fits)
 m_choices:mg "choices" = some (.ref t.choices)
 m_all_through:mg "all_through" = some (.ref t.all_through)
 m_all_near:mg "all_near" = some (.ref t.all_near)
 m_moved_powers:mg "moved_powers" = some (.ref t.moved_powers)
 m_numbers_at:mg "numbers_at" = some (.ref t.numbers_at)
 m_vectors_of:mg "vectors_of" = some (.ref t.vectors_of)
 m_without:mg "without" = some (.ref t.without)
 m_first_relation:mg "first_relation" = some (.ref t.first_relation)
 m_first_sum:mg "first_sum" = some (.ref t.first_sum)
 m_first_terms:mg "first_terms" = some (.ref t.first_terms)
 m_least_curve:mg "least_curve" = some (.ref t.least_curve)
 m_check_curves:mg "check_curves" = some (.ref t.check_curves)
 m_curve_for:mg "curve_for" = some (.ref t.curve_for)
 m_times_entries:mg "times_entries" = some (.ref t.times_entries)
 m_beyond:mg "beyond" = some (.ref t.beyond)
 m_sized:mg "sized" = some (.ref t.sized)
 m_joint_locator:mg "joint_locator" = some (.ref t.joint_locator)
 m_locator_of:mg "locator_of" = some (.ref t.locator_of)
 m_l_cell:mg "_law_cell" = some (.ref t.l_cell)
 m_l_draws:mg "_law_draws" = some (.ref t.l_draws)
 m_l_code:mg "_law_code" = some (.ref t.l_code)
 m_l_value:mg "_law_value" = some (.ref t.l_value)
 m_l_polynomial:mg "_law_polynomial" = some (.ref t.l_polynomial)
 m_l_row:mg "_law_row" = some (.ref t.l_row)
 f_value_at:∃ fd,Fun K "value_at" "value_at" zcj t.value_at fd∧Binds K fd ["p","polynomial","x"] []
 f_inverse:∃ fd,Fun K "inverse" "inverse" zcI t.inverse fd∧Binds K fd ["p","number"] []
 f_times_root:∃ fd,Fun K "times_root" "times_root" za7 t.times_root fd∧Binds K fd ["p","polynomial","root"] []
 f_bent:∃ fd,Fun K "bent" "bent" zeN t.bent fd∧Binds K fd ["p","polynomial","vanishing","point"] []
 f_through:∃ fd,Fun K "through" "through" zcJ t.through fd∧Binds K fd ["p","points"] []
 f_heard_points:∃ fd,Fun K "heard_points" "heard_points" zaK t.heard_points fd∧Binds K fd ["code","row"] []
 f_fits:∃ fd,Fun K "fits" "fits" zeO t.fits fd∧Binds K fd ["code","row","polynomial"] []
 f_choices:∃ fd,Fun K "choices" "choices" zbC t.choices fd∧Binds K fd ["things","many"] []
 f_all_through:∃ fd,Fun K "all_through" "all_through" zaT t.all_through fd∧Binds K fd ["code","points"] []
 f_all_near:∃ fd,Fun K "all_near" "all_near" zbI t.all_near fd∧Binds K fd ["code","row","t"] []
 f_moved_powers:∃ fd,Fun K "moved_powers" "moved_powers" za8 t.moved_powers fd∧Binds K fd ["p","by","most","kept"] []
 f_numbers_at:∃ fd,Fun K "numbers_at" "numbers_at" zaC t.numbers_at fd∧Binds K fd ["p","terms","point"] []
 f_vectors_of:∃ fd,Fun K "vectors_of" "vectors_of" zaP t.vectors_of fd∧Binds K fd ["p","terms","points"] []
 f_without:∃ fd,Fun K "without" "without" zb5 t.without fd∧Binds K fd ["p","vector","times","other"] []
 f_first_relation:∃ fd,Fun K "first_relation" "first_relation" zaj t.first_relation fd∧Binds K fd ["p","vectors"] []
 f_first_sum:∃ fd,Fun K "first_sum" "first_sum" zbm t.first_sum fd∧Binds K fd ["p","terms","points"] []
 f_first_terms:∃ fd,Fun K "first_terms" "first_terms" zaU t.first_terms fd∧Binds K fd ["k","many"] []
 f_least_curve:∃ fd,Fun K "least_curve" "least_curve" zai t.least_curve fd∧Binds K fd ["p","k","points"] []
 f_check_curves:∃ fd,Fun K "check_curves" "check_curves" za9 t.check_curves fd∧Binds K fd ["k"] []
 f_curve_for:∃ fd,Fun K "curve_for" "curve_for" zbn t.curve_for fd∧Binds K fd ["code","row","m"] []
 f_times_entries:∃ fd,Fun K "times_entries" "times_entries" zaD t.times_entries fd∧Binds K fd ["p","left","points"] []
 f_beyond:∃ fd,Fun K "beyond" "beyond" s_beyond t.beyond fd∧Binds K fd ["rights","many"] []
 f_sized:∃ fd,Fun K "sized" "sized" zd9 t.sized fd∧Binds K fd ["polynomial","many"] []
 f_joint_locator:∃ fd,Fun K "joint_locator" "joint_locator" z0 t.joint_locator fd∧Binds K fd ["code","rows"] []
 f_locator_of:∃ fd,Fun K "locator_of" "locator_of" zbz t.locator_of fd∧Binds K fd ["code","row"] []
 f_l_cell:∃ fd,Fun K "_law_cell" "_law_cell" zdl t.l_cell fd∧Binds K fd ["script","k"] []
 f_l_draws:∃ fd,Fun K "_law_draws" "_law_draws" zcK t.l_draws fd∧Binds K fd ["script","k","many","base"] []
 f_l_code:∃ fd,Fun K "_law_code" "_law_code" zcw t.l_code fd∧Binds K fd ["script","at","most_k","most_n"] []
 f_l_value:∃ fd,Fun K "_law_value" "_law_value" zcL t.l_value fd∧Binds K fd ["p","polynomial","x"] []
 f_l_polynomial:∃ fd,Fun K "_law_polynomial" "_law_polynomial" zaL t.l_polynomial fd∧Binds K fd ["draws","p","k"] []
 f_l_row:∃ fd,Fun K "_law_row" "_law_row" zdm t.l_row fd∧Binds K fd ["script","at","code"] []
section
variable {P:Program} {w:World} {K:ai} {mg:Str→Option Value} {base:Heap} {t:Adr}
theorem zkc:FnScope ["script","k"] ["script","k"] (zh zdl):=⟨rfl,rfl,rfl,by decide +kernel,rfl,by decide +kernel,by decide +kernel⟩
theorem zkd {fd:FuncData} (T:Txt K mg t) (F:Fun K "_law_cell" "_law_cell" zdl t.l_cell fd):FnOk P w K mg base CX0 1 t.l_cell fd ["script","k"] (zjK K):=by
 refine F.ok zkc (fun vs H Q E h=>?_) (fun cdv A outer s H vs Q E hr h=>?_)
 ·obtain⟨a,ns,k,rfl,_⟩:=h; rfl
 ·obtain⟨a,ns,k,rfl,hS,hlen,k0,k1,q⟩:=h
  refine⟨_,#[zd,#[zbj,#[zR,#[zin],#[pvx,1],#[zA,#[zI],T.len_,cq,#[za,#[pvx,0],#[ze]]],(zac _)],#[zm,#[zG,#[zH,#[zD],#[pvx,0],#[pvx,1]]]],#[zap]],by exact #[zd,#[zbj,#[zR,#[zfi],#[zA,#[zI],T.len_,cq,#[za,#[pvx,0],#[ze]]],#[zf],(zac _)],#[zm,#[zG,#[zi,#[zK],#[zi,#[zT],#[zf],#[pvx,1]],#[zf]]]],#[zap]],by exact #[zm,#[zG,#[zi,#[zK],#[zi,#[zC],#[zH,#[zD],#[pvx,0],#[zi,#[zC],#[pvx,1],#[zA,#[zI],T.len_,cq,#[za,#[pvx,0],#[ze]]]]],#[zf]],#[zi,#[zT],#[zf],#[pvx,1]]]]]]],?_⟩
  refine⟨_,rfl,_,rfl,a,_,rfl,.inl hS,_,_,rfl,rfl,_,rfl,?_⟩; rw [ab]
  refine zbq (fun h=>?_) (fun h=>?_)
  ·have h:k < (ns.length:Int):=by simpa using h
   obtain⟨c,hc⟩:=zdY k0 h
   exact⟨_,rfl,_,rfl,a,_,k,_,rfl,rfl,hS,hc,q c⟩
  ·have h:¬ k < (ns.length:Int):=by simpa using h
   refine⟨_,rfl,a,_,rfl,.inl hS,rfl,_,rfl,?_⟩
   rw [ab]
   refine zbq (fun h2=>?_) (fun h2=>?_)
   ·exact⟨_,rfl,_,_,rfl,rfl,.inl ⟨by decide,by decide⟩,_,_,rfl,rfl,q _⟩
   ·have h2:¬ V.int (ns.length:Int)=V.int 0:=by simpa using h2
    have hpos:0 < (ns.length:Int):=by
     have:(ns.length:Int)≠0:=fun z=>h2 (by rw [z])
     lia
    have m0:=aI k (show (ns.length:Int)≠0 by lia)
    have m1:=aC k hpos
    obtain⟨c,hc⟩:=zdY m0 m1
    refine⟨_,rfl,_,rfl,_,rfl,a,_,rfl,.inl hS,_,_,rfl,rfl,by rw [ab]; exact hpos,a,_,_,_,rfl,rfl,hS,by rw [ab]; exact hc,_,_,rfl,rfl,(by show (0:Int) < 1000003; decide),?_⟩
    exact⟨_,rfl,_,_,rfl,rfl,.inl ⟨by decide,by decide⟩,_,_,rfl,rfl,q _⟩
theorem zab:FnScope ["script","k","many","base","primes","cell","rest","row","j","mash"] ["script","k","many","base"] (zh zcK):=⟨rfl,rfl,rfl,by decide +kernel,rfl,by decide +kernel,by decide +kernel⟩
theorem zcZ {fd:FuncData} (T:Txt K mg t) (F:Fun K "_law_draws" "_law_draws" zcK t.l_draws fd):FnOk P w K mg base CX0 2 t.l_draws fd ["script","k","many","base"] (zhV K):=by
 obtain⟨fd_l_cell,F_l_cell,b_l_cell⟩:=T.f_l_cell
 have G_l_cell:=zkd (P:=P) (w:=w) (base:=base) T F_l_cell
 refine F.ok zab (fun vs H Q E h=>?_) (fun cdv A outer s H vs Q E hr h=>?_)
 ·obtain⟨a,ns,k,many,base,rfl,_⟩:=h
  rfl
 ·obtain⟨a,ns,k,many,bs,rfl,hS,hlen,k0,k1,m0,m1,b0,b1,q⟩:=h
  refine⟨_,#[zd,#[zl,4,zab.nd,(aq rfl),#[zax,#[zcQ,by exact #[zcQ,by exact #[zcQ,by exact #[zcQ,by exact #[zcQ,by exact #[za,#[zf],#[za,#[zf],#[za,#[zf],#[ze]]]]]]]]]]],by exact #[zd,#[zl,5,zab.nd,(aq rfl),#[zq,G_l_cell,(hr.mono (by decide)),T.m_l_cell,F_l_cell.kp,b_l_cell,#[zF],#[za,#[pvx,0],#[za,#[pvx,1],#[ze]]]]],by exact #[zd,#[zl,6,zab.nd,(aq rfl),#[zf]],by exact #[zd,#[zbj,#[zR,#[znK],#[pvx,5],#[zi,(@zod _),#[zf],#[zf]],(zac _)],#[zm,#[zl,6,zab.nd,(aq rfl),#[pvx,5]]],#[zap]],by exact #[zd,#[zl,7,zab.nd,(aq rfl),#[zY,#[ze]]],by exact #[zd,#[zbc,bH,#[zad,T.range_,#[za,#[pvx,2],#[ze]]],#[zg,8,zab.nd,(aq rfl)],#[zd,#[zl,9,zab.nd,(aq rfl),#[zi,#[zT],#[zi,#[zC],#[pvx,5],#[zH,#[zb9],#[pvx,4],#[zi,#[zC],#[pvx,8],#[zf]]]],#[zi,#[zK],#[zf],#[zi,#[zT],#[zi,#[zT],#[zf],#[pvx,8]],#[pvx,8]]]]],by exact #[zd,#[zl,9,zab.nd,(aq rfl),#[zi,#[zK],#[zi,#[zK],#[pvx,9],#[zi,#[zT],#[zi,#[zT],#[zf],#[zi,#[zK],#[pvx,8],#[zf]]],#[zi,#[zK],#[pvx,8],#[zf]]]],#[zi,#[zT],#[zf],#[pvx,1]]]],by exact #[zd,#[zl,9,zab.nd,(aq rfl),#[zi,#[zC],#[pvx,9],#[zH,#[zb9],#[pvx,4],#[zi,#[zC],#[zi,#[zK],#[zi,#[zT],#[zf],#[pvx,8]],#[pvx,1]],#[zf]]]]],by exact #[zd,#[zl,9,zab.nd,(aq rfl),#[zi,#[zC],#[zi,#[zT],#[zi,#[zT],#[pvx,9],#[pvx,9]],#[pvx,9]],#[zH,#[zb9],#[pvx,4],#[zi,#[zC],#[zi,#[zK],#[pvx,8],#[zf]],#[zf]]]]],by exact #[zd,#[zbj,#[zR,#[zgH],#[pvx,6],#[zf],(zac _)],#[zm,#[zl,9,zab.nd,(aq rfl),#[pvx,6]]],#[zap]],by exact #[zd,#[zcy,#[zfp,cp,dn,dq,#[zb0],#[pvx,7],#[za,#[zi,#[zC],#[pvx,9],#[pvx,3]],#[ze]]]],by exact #[zm,#[zl,6,zab.nd,(aq rfl),#[zi,#[zb8],#[pvx,6],#[pvx,3]]]]]]]]]]],by exact #[zm,#[zG,#[pvx,7]]]]]]]]],?_⟩
  refine⟨by show 8≤sizeLine; rw [aX]; decide,fun tp ht=>?_⟩
  have s1:zu H (upd H tp (.tup zmI)):=zb ht
  refine⟨_,rfl,_,rfl,a,ns,k,rfl,s1.seq hS,hlen,k0,k1,fun c=>?_⟩
  refine⟨_,rfl,_,_,rfl,rfl,⟨by decide,by decide,by decide⟩,_,_,rfl,rfl,_,rfl,?_⟩
  refine zbq (fun _=>⟨_,rfl,?_⟩) (fun _=>?_)
  all_goals
   refine⟨bi _,fun l hl=>?_⟩
   have hln:H l=none:=zu.free s1 hl
   have htl:tp≠l:=zw zc hl
   refine⟨_,rfl,many,rfl,by lia,by lia,zbX (lo:=0) (n:=many.toNat) (fun i σ H'=>∃ (r:Int) (v8 v9:Option V) (ds:List Int),σ = [some (.ref a),some (.int k),some (.int many),some (.int bs),some (.ref tp),some (.int c),some (.int r),some (.ref l),v8,v9]∧zfZ i bs ds∧zu H H'∧H' tp=some (.tup zmI)∧H' l=some (.lst (ds.map V.int)))
    ⟨_,none,none,[],rfl,⟨rfl,by simp⟩,zae s1 hln,by rw [zn htl]; exact zc,zc⟩ ?_ ?_⟩
   ·rintro i σ H2 hi ⟨r,v8,v9,ds,rfl,hd,s2,htp,hrow⟩
    obtain⟨q1,e1,q1p,q1l⟩:=zep (0+(i:Int))
    obtain⟨q2,e2,q2p,q2l⟩:=zep (3*(0+(i:Int))+k)
    obtain⟨q3,e3,q3p,q3l⟩:=zep (0+(i:Int)+5)
    have c1:=aI c (show q1≠0 by lia)
    have c2:=aC c q1p
    have hi':(i:Int) < 1000:=by lia
    refine⟨_,rfl,_,rfl,_,rfl,_,_,rfl,rfl,(by show (0:Int) < 8; decide),tp,_,_,_,rfl,rfl,SqT.of htp,e1,_,_,rfl,rfl,q1p,_,rfl,_,_,rfl,rfl,.inl ⟨by decide,by decide⟩,_,rfl,_,_,rfl,rfl,.inl ⟨by lia,by lia⟩,_,_,rfl,rfl,_,_,rfl,rfl,.inl ⟨by lia,by lia⟩,?_⟩
    refine⟨_,rfl,_,rfl,_,_,rfl,rfl,_,_,rfl,rfl,.inl ⟨by decide,by decide⟩,_,rfl,_,_,rfl,rfl,_,_,rfl,rfl,.inl ⟨by lia,by lia⟩,_,_,rfl,rfl,_,rfl,_,_,rfl,rfl,.inl ⟨by decide,by decide⟩,_,_,rfl,rfl,?_⟩
    refine⟨_,rfl,_,rfl,_,rfl,_,_,rfl,rfl,.inl ⟨by decide,by decide⟩,_,rfl,_,_,rfl,rfl,_,_,rfl,rfl,(by show (0:Int) < 8; decide),tp,_,_,_,rfl,rfl,SqT.of htp,e2,_,_,rfl,rfl,q2p,?_⟩
    generalize c % q1*(48271+2*(0+(i:Int))*(0+(i:Int)))+7919*(0+(i:Int)+1)*(0+(i:Int)+1)+104729*k=ms
    have d1:=aI ms (show q2≠0 by lia)
    have d2:=aC ms q2p
    refine⟨_,rfl,_,rfl,_,_,rfl,rfl,.inl ⟨by lia,by lia⟩,_,rfl,_,_,rfl,rfl,.inr ⟨by lia,by lia⟩,_,rfl,_,rfl,_,_,rfl,rfl,_,_,rfl,rfl,(by show (0:Int) < 8; decide),tp,_,_,_,rfl,rfl,SqT.of htp,e3,_,_,rfl,rfl,q3p,?_⟩
    refine⟨_,rfl,_,_,rfl,rfl,_,rfl,?_⟩
    have hdl:=hd.1
    refine zbq (fun _=>⟨_,rfl,?_⟩) (fun _=>?_)
    all_goals
     refine⟨_,rfl,.inl ⟨rfl,_,SqL.of hrow⟩,_,rfl,_,rfl,_,_,rfl,rfl,b0,l,_,_,rfl,rfl,hrow,zaa (by rw [ab]; lia),?_⟩
     refine⟨_,rfl,_,rfl,_,_,rfl,rfl,⟨b0,b1⟩,?_⟩
     refine⟨_,_,_,ds++[_],rfl,⟨by rw [ao,hdl]; rfl,fun d hm=>?_⟩,zae s2 hln,by rw [zn htl]; exact htp,by rw [zc,au]; rfl⟩; rcases a7.mp hm with hm | hm
     ·exact hd.2 d hm
     ·have e:=aW.mp hm
      rw [e]
      exact⟨aI _ (by lia),aC _ b0⟩
   ·rintro σ H2 ⟨r,v8,v9,ds,rfl,hd,s2,htp,hrow⟩
    exact⟨_,rfl,q l ds H2 hln s2 hd hrow⟩
theorem zbd:FnScope ["script","at","most_k","most_n","plan","primes","p","k","many","left"] ["script","at","most_k","most_n"] (zh zcw):=⟨rfl,rfl,rfl,by decide +kernel,rfl,by decide +kernel,by decide +kernel⟩
theorem zke {fd:FuncData} (T:Txt K mg t) (F:Fun K "_law_code" "_law_code" zcw t.l_code fd):FnOk P w K mg base CX0 3 t.l_code fd ["script","at","most_k","most_n"] (zjL K):=by
 obtain⟨fd_l_draws,F_l_draws,b_l_draws⟩:=T.f_l_draws
 have G_l_draws:=zcZ (P:=P) (w:=w) (base:=base) T F_l_draws
 refine F.ok zbd (fun vs H Q E h=>?_) (fun cdv A outer s H vs Q E hr h=>?_)
 ·obtain⟨a,ns,at',mk,mn,rfl,_⟩:=h
  rfl
 ·obtain⟨a,ns,at',mk,mn,rfl,hS,hlen,a0,a1,k1,k5,kn,n16,q⟩:=h
  refine⟨_,#[zd,#[zl,4,zbd.nd,(bP rfl),#[zq,G_l_draws,(hr.mono (by decide)),T.m_l_draws,F_l_draws.kp,b_l_draws,#[zF],#[za,#[pvx,0],by exact #[za,#[pvx,1],#[za,#[zf],#[za,#[zf],#[ze]]]]]]],by exact (by exact (@zkK _ 5 _ _ _ _ _ _ _ [5,7,11,13,17,19,23,29,31,37,41,43,47,53,59,61,67,71,73,79,83,89,97] (by decide +kernel) zbd.nd rfl (aq rfl) (by first | exact .inl rfl | exact .inr rfl) (by exact #[zd,#[zl,6,zbd.nd,(aq rfl),#[zH,#[zD],#[zY,#[za,#[zH,#[zD],#[pvx,5],#[zi,#[zC],#[zH,#[zD],#[pvx,4],#[zf]],#[zf]]],#[za,#[zH,#[zD],#[pvx,5],#[zi,#[zC],#[zH,#[zD],#[pvx,4],#[zf]],#[zf]]],#[ze]]]],#[zi,#[zC],#[zH,#[zD],#[pvx,4],#[zf]],#[zf]]]],by exact #[zd,#[zl,7,zbd.nd,(aq rfl),#[zi,#[zK],#[zf],#[zi,#[zC],#[zH,#[zD],#[pvx,4],#[zf]],#[zA,#[zfj],T.min_,boot_min,#[za,#[pvx,2],#[za,#[pvx,6],#[ze]]]]]]],by exact #[zd,#[zl,8,zbd.nd,(aq rfl),#[zi,#[zK],#[pvx,7],#[zi,#[zC],#[zH,#[zD],#[pvx,4],#[zf]],#[zi,#[zK],#[zi,#[zaR],#[zA,#[zfj],T.min_,boot_min,#[za,#[pvx,3],#[za,#[pvx,6],#[ze]]]],#[pvx,7]],#[zf]]]]],by exact #[zd,#[zl,9,zbd.nd,(bP rfl),#[zam,#[zcP],T.list_,boot_list,#[za,#[zam,#[zdF],T.range_,je,#[za,#[pvx,6],#[ze]]],#[ze]]]],by exact #[zm,#[zG,#[zax,#[za,#[pvx,6],#[za,#[pvx,7],#[za,#[zam,#[zah],T.tuple_,fj,#[za,#[zO,(CompSc.of (N':=["j","left","plan"]) (ix:=[none,some 9,some 4]) (zh zcw) ["script","at","most_k","most_n","plan","primes","p","k","many","left"] rfl rfl (by decide +kernel)),#[zZ],#[zad,T.range_,#[za,#[pvx,8],#[ze]]],(fun _ _ _ _=>#[zg,0,(show (["j","left","plan"]:List Str).Nodup by decide +kernel),(aq rfl)]),(fun _ _ _ _=>#[zt]),(fun _ _ _ _=>#[zkM,(K),cp,i9,ja,#[zgK],#[pvx,1],#[za,#[zi,#[zC],#[zH,#[za4,(K)],#[pvx,2],#[zi,#[zK],#[zf],#[pvx,0]]],#[zA,#[zaE,(K)],T.len_,cq,#[za,#[pvx,1],#[ze]]]],#[ze]]])],#[ze]]],#[ze]]]]]]]]]]])))],?_⟩
  refine⟨_,rfl,_,rfl,a,ns,at',20,27720,rfl,hS,hlen,a0,a1,by decide,by decide,by decide,by decide,fun l ds H1 hl s1 hd hpl=>?_⟩
  have hdl:ds.length=20:=hd.1
  have dat:∀ m:Int,0≤m→m < 20→∃ c:Int,atI (ds.map V.int) m=some (.int c):=fun m h0 h1=>zdY h0 (by lia)
  refine⟨by show 23≤sizeLine; rw [aX]; decide,fun pr hpr=>?_⟩
  have hlpr:l≠pr:=zw hpl hpr
  obtain⟨d0,ed0⟩:=dat 0 (by decide) (by decide)
  obtain⟨d1,ed1⟩:=dat 1 (by decide) (by decide)
  obtain⟨d2,ed2⟩:=dat 2 (by decide) (by decide)
  obtain⟨d3,ed3⟩:=dat 3 (by decide) (by decide)
  have hp2:(upd H1 pr (.lst (zo.map V.int))) l=some (.lst (ds.map V.int)):=by rw [zn hlpr]; exact hpl
  obtain⟨p1,mp1,ep1⟩:=zkR (ns:=zo) (k:=d0 % 23) (aI _ (by decide)) (aC _ (by decide))
  obtain⟨p2,mp2,ep2⟩:=zkR (ns:=zo) (k:=d0 % 3) (aI _ (by decide)) (by have:=aC d0 (show (0:Int) < 3 by decide); have e:(zo.length:Int)=23:=rfl; lia)
  obtain⟨p,ep,hpp⟩:=zot (x:=p1) (y:=p2) (m:=d1 % 2) (aI _ (by decide)) (aC _ (by decide))
  have mp:p∈zo:=by rcases hpp with e | e <;> rw [e] <;> assumption
  have rp:=zr mp
  refine⟨_,rfl,_,rfl,l,_,_,_,rfl,rfl,SqL.of hp2,ed0,_,_,rfl,rfl,(by show (0:Int) < 23; decide),pr,_,_,_,rfl,rfl,SqL.of zc,ep1,
   _,rfl,_,rfl,l,_,_,_,rfl,rfl,SqL.of hp2,ed0,_,_,rfl,rfl,(by show (0:Int) < 3; decide),pr,_,_,_,rfl,rfl,SqL.of zc,ep2,zaH,fun l2 hl2=>?_⟩
  have hll2:l≠l2:=zw hp2 hl2
  have hp3:(upd (upd H1 pr (.lst (zo.map V.int))) l2 (.lst [.int p1,.int p2])) l=some (.lst (ds.map V.int)):=by rw [zn hll2]; exact hp2
  refine⟨_,rfl,l,_,_,_,rfl,rfl,SqL.of hp3,ed1,_,_,rfl,rfl,(by show (0:Int) < 2; decide),l2,_,_,_,rfl,rfl,SqL.of zc,ep,?_⟩
  have hm1:(0:Int) < (if p < mk then p else mk):=by split <;> lia
  have hm2:(if p < mk then p else mk)≤mk:=by split <;> lia
  have hm3:(if p < mk then p else mk)≤p:=by split <;> lia
  refine⟨_,rfl,l,_,_,_,rfl,rfl,SqL.of hp3,ed2,_,rfl,_,rfl,_,_,rfl,_,_,rfl,rfl,hm1,_,_,rfl,rfl,?_⟩
  generalize (if p < mk then p else mk)=mm at hm1 hm2 hm3 ⊢
  have hk0:=aI d2 (show mm≠0 by lia)
  have hk1:=aC d2 hm1
  have hn1:(if p < mn then p else mn)≤mn:=by split <;> lia
  have hn2:(if p < mn then p else mn)≤p:=by split <;> lia
  have hn3:mm≤(if p < mn then p else mn):=by split <;> lia
  refine⟨_,rfl,_,rfl,l,_,_,_,rfl,rfl,SqL.of hp3,ed3,_,rfl,_,rfl,_,_,rfl,_,rfl,_,_,rfl,rfl,_,_,rfl,rfl,_,_,rfl,rfl,(by lia),_,_,rfl,rfl,?_⟩
  generalize (if p < mn then p else mn)=nn at hn1 hn2 hn3 ⊢
  have hq0:=aI d3 (show nn - (1+d2 % mm)+1≠0 by lia)
  have hq1:=aC d3 (show 0 < nn - (1+d2 % mm)+1 by lia)
  refine⟨_,rfl,p,rfl,fun r hr2=>⟨r,p,rfl,zc,by lia,by lia,fun lf hlf=>?_⟩⟩
  have hlr:l≠r:=zw hp3 hr2
  have hlf1:l≠lf:=by
   refine zw (H:=upd (upd (upd H1 pr (.lst (zo.map V.int))) l2 (.lst [.int p1,.int p2])) r (.rng 0 p)) (o:=.lst (ds.map V.int)) ?_ hlf
   rw [zn hlr]; exact hp3
  have sA:zu H (upd (upd H1 pr (.lst (zo.map V.int))) l2 (.lst [.int p1,.int p2])):=(s1.trans (zb hpr)).trans (zb hl2)
  have sB:=(sA.trans (zb (o:=.rng 0 p) hr2)).trans (zb (o:=.lst ((zbr 0 p.toNat).map V.int)) hlf)
  have hlfH:H lf=none:=(sA.trans (zb (o:=.rng 0 p) hr2)).free hlf
  obtain⟨nd0,rg0⟩:=zjM p
  refine⟨_,rfl,_,rfl,_,rfl,_,rfl,by lia,by lia,zS (n:=(1+d2 % mm+d3 % (nn - (1+d2 % mm)+1)).toNat) (fun i ys H'=>∃ xs ls:List Int,ys=xs.map V.int∧xs.length=i∧zu H H'∧H' l=some (.lst (ds.map V.int))∧H' lf=some (.lst (ls.map V.int))∧ls.length+i=p.toNat∧(xs++ls).Nodup∧∀ y∈xs++ls,0≤y∧y < p)
   ⟨[],zbr 0 p.toNat,rfl,rfl,sB,by rw [zn hlf1,zn hlr]; exact hp3,zc,by rw [zcO]; rfl,by simpa using nd0,by simpa using rg0⟩ (fun i ys H' hi _=>hi) (fun ys H' _=>ag _) ?_ ?_⟩
  ·rintro i x ys H4 H5 hi ⟨xs,ls,rfl,hxl,s4,hpl4,hlf4,hll,nd,rg⟩ ⟨rfl,rfl⟩
   refine gY ?_
   obtain⟨c,ec⟩:=dat (4+(0+(i:Int))) (by lia) (by lia)
   have lpos:0 < ls.length:=by lia
   have lm:((ls.map V.int).length:Int)=(ls.length:Int):=by rw [ab]
   have c0:=aI c (show (ls.length:Int)≠0 by lia)
   have c1:=aC c (show (0:Int) < ls.length by lia)
   have hsl:=aX
   obtain⟨y,ey⟩:∃ y,ls[(c % (ls.length:Int)).toNat]? = some y:=⟨ls[(c % (ls.length:Int)).toNat]'(by lia),by simp⟩
   refine⟨_,rfl,.inl ⟨rfl,_,SqL.of hlf4⟩,_,rfl,_,rfl,_,_,rfl,rfl,l,_,_,_,rfl,rfl,SqL.of hpl4,ec,_,rfl,lf,_,rfl,.inl (SqL.of hlf4),_,_,rfl,rfl,(by rw [lm]; lia),lf,_,_,(c % (ls.length:Int)).toNat,.int y,rfl,rfl,hlf4,?_⟩
   rw [lm]
   refine⟨by lia,by lia,by rw [ab]; exact fZ c0 c1,by rw [ah,ey]; rfl,zaa (by rw [ab]; lia),xs++[y],ls.eraseIdx (c % (ls.length:Int)).toNat,by rw [au]; rfl,by rw [ao,hxl]; rfl,zae s4 hlfH,by rw [zn hlf1]; exact hpl4,by rw [zc,zdq],?_,zmK ey nd rg⟩
   rw [List.length_eraseIdx]
   split <;> lia
  ·rintro ys H4 D ⟨xs,ls,rfl,hxl,s4,hpl4,hlf4,hll,nd,rg⟩ hD
   refine⟨D,_,rfl,.inl ⟨SqL.of zc,fun tt htt=>⟨by show 3≤sizeLine; rw [aX]; decide,fun c hc=>?_⟩⟩⟩
   have s5:=(s4.trans (zb (o:=.lst (xs.map V.int)) hD)).trans (zb (o:=.tup (xs.map V.int)) htt)
   refine q c tt p _ xs _ (s5.free hc) (s5.trans (zb hc)) ⟨mp,by lia,by lia,by lia,by lia,(dS.mp nd).1,fun y hy=>rg y (aU _ hy)⟩ zc ?_
   rw [zn (zw zc hc)]
   exact zc
theorem zbe:FnScope ["p","polynomial","x","total","power","number"] ["p","polynomial","x"] (zh zcL):=⟨rfl,rfl,rfl,by decide +kernel,rfl,by decide +kernel,by decide +kernel⟩
theorem zid {fd:FuncData} (T:Txt K mg t) (F:Fun K "_law_value" "_law_value" zcL t.l_value fd):FnOk P w K mg base CX0 1 t.l_value fd ["p","polynomial","x"] (zhW K):=by
 refine F.ok zbe (fun vs H Q E h=>?_) (fun cdv A outer s H vs Q E hr h=>?_)
 ·obtain⟨p,x,a,cs,rfl,_⟩:=h
  rfl
 ·obtain⟨p,x,a,cs,rfl,hS,p0,p1,x0,x1,q⟩:=h
  refine⟨_,#[zd,#[zl,3,zbe.nd,(aq rfl),#[zf]],by exact #[zd,#[zl,4,zbe.nd,(aq rfl),#[zf]],by exact #[zd,#[zbc,bH,(@zor _ _ _ _ #[pvx,1]),#[zg,5,zbe.nd,(aq rfl)],#[zd,#[zl,3,zbe.nd,(aq rfl),#[zi,#[zC],#[zi,#[zK],#[pvx,3],#[zi,#[zT],#[pvx,5],#[pvx,4]]],#[pvx,0]]],by exact #[zm,#[zl,4,zbe.nd,(aq rfl),#[zi,#[zC],#[zi,#[zT],#[pvx,4],#[pvx,2]],#[pvx,0]]]]]],by exact #[zm,#[zG,#[pvx,3]]]]]],?_⟩
  refine⟨_,rfl,a,rfl,?_⟩
  rcases hS with hS | hS
  ·refine .inl ⟨⟨_,hS⟩,zbW (K:=K) (a:=a) (xs:=cs.map V.int) (fun i σ H'=>H'=H∧∃ (total power:Int) (nb:Option V),σ = [some (.int p),some (.ref a),some (.int x),some (.int total),some (.int power),nb]∧0≤power∧power≤97∧lv p x total power (cs.drop i)=lv p x 0 1 cs)
    ⟨rfl,0,1,none,rfl,by decide,by decide,rfl⟩ (fun i σ H' _ ⟨e,_⟩=>by rw [e]; exact hS) ?_ ?_⟩
   ·rintro i y σ H1 hy ⟨rfl,total,power,nb,rfl,w0,w1,hl⟩
    obtain⟨c,rfl,hc⟩:=zag hy
    have m0:=aI (power*x) (show p≠0 by lia)
    have m1:=aC (power*x) p0
    refine⟨_,rfl,_,rfl,_,rfl,_,_,rfl,rfl,.inr ⟨by lia,by lia⟩,_,_,rfl,rfl,_,rfl,_,_,rfl,rfl,p0,?_⟩
    refine⟨_,rfl,_,rfl,_,_,rfl,rfl,.inl ⟨by lia,by lia⟩,_,rfl,_,_,rfl,rfl,p0,?_⟩
    exact⟨rfl,_,_,_,rfl,m0,by lia,(ziC hc).symm.trans hl⟩
   ·rintro σ H1 ⟨rfl,total,power,nb,rfl,w0,w1,hl⟩
    rw [ab,gc] at hl
    have hl:total=lv p x 0 1 cs:=hl
    rw [ziy p0] at hl
    rw [← hl] at q
    exact⟨_,rfl,q⟩
  ·refine .inr ⟨⟨_,hS⟩,zmw (K:=K) (a:=a) (xs:=cs.map V.int) (fun i σ H'=>H'=H∧∃ (total power:Int) (nb:Option V),σ = [some (.int p),some (.ref a),some (.int x),some (.int total),some (.int power),nb]∧0≤power∧power≤97∧lv p x total power (cs.drop i)=lv p x 0 1 cs)
    ⟨rfl,0,1,none,rfl,by decide,by decide,rfl⟩ (fun i σ H' _ ⟨e,_⟩=>by rw [e]; exact hS) ?_ ?_⟩
   ·rintro i y σ H1 hy ⟨rfl,total,power,nb,rfl,w0,w1,hl⟩
    obtain⟨c,rfl,hc⟩:=zag hy
    have m0:=aI (power*x) (show p≠0 by lia)
    have m1:=aC (power*x) p0
    refine⟨_,rfl,_,rfl,_,rfl,_,_,rfl,rfl,.inr ⟨by lia,by lia⟩,_,_,rfl,rfl,_,rfl,_,_,rfl,rfl,p0,?_⟩
    refine⟨_,rfl,_,rfl,_,_,rfl,rfl,.inl ⟨by lia,by lia⟩,_,rfl,_,_,rfl,rfl,p0,?_⟩
    exact⟨rfl,_,_,_,rfl,m0,by lia,(ziC hc).symm.trans hl⟩
   ·rintro σ H1 ⟨rfl,total,power,nb,rfl,w0,w1,hl⟩
    rw [ab,gc] at hl
    have hl:total=lv p x 0 1 cs:=hl
    rw [ziy p0] at hl
    rw [← hl] at q
    exact⟨_,rfl,q⟩
theorem zl1 (xs:List V) (j:Nat):za1 xs none (some (j:Int))=xs.take j:=by
 unfold za1
 rw [HT.sIx_nat,HT.sIx_none,dG,cZ]
 by_cases h:j≤xs.length
 ·rw [cD h]
 ·rw [show min j xs.length=xs.length by lia,aM (ag _),aM (show xs.length≤j by lia)]
def zkf (K:ai):Sp:=fun vs H Q _=>∃ (a:Addr) (ds:List Int) (p k:Int),vs = [.ref a,.int p,.int k]∧SqL K H a (ds.map V.int)∧ds.length≤1000∧0 < p ∧
 ∀ (l:Addr) (poly:List Int) (H':Hp),H l=none→zu H H'→(poly.length≤ds.length∧∀ x∈poly,0≤x∧x < p)→H' l=some (.tup (poly.map V.int))→(∀ n:Nat,k=(n:Int)→n≤ds.length→poly.length=n)→Q (.ref l) H'
theorem zdP:FnScope ["draws","p","k"] ["draws","p","k"] (zh zaL):=⟨rfl,rfl,rfl,by decide +kernel,rfl,by decide +kernel,by decide +kernel⟩
theorem zdQ {fd:FuncData} (T:Txt K mg t) (F:Fun K "_law_polynomial" "_law_polynomial" zaL t.l_polynomial fd):FnOk P w K mg base CX0 1 t.l_polynomial fd ["draws","p","k"] (zkf K):=by
 refine F.ok zdP (fun vs H Q E h=>?_) (fun cdv A outer s H vs Q E hr h=>?_)
 ·obtain⟨a,ds,p,k,rfl,_⟩:=h
  rfl
 ·obtain⟨a,ds,p,k,rfl,ha,hn,p0,q⟩:=h
  refine⟨_,#[zm,#[zG,#[zam,#[zah],T.tuple_,fj,#[za,#[zO,(CompSc.of (N':=["draw","p"]) (ix:=[none,some 1]) (zh zaL) ["draws","p","k"] rfl rfl (by decide +kernel)),#[zZ],#[zM,#[za3,zca,#[pvx,0],#[zbJ],#[zbf,#[pvx,2]]]],(fun _ _ _ _=>#[zg,0,(show (["draw","p"]:List Str).Nodup by decide +kernel),(aq rfl)]),(fun _ _ _ _=>#[zt]),(fun _ _ _ _=>#[zi,#[zC],#[pvx,0],#[pvx,1]])],#[ze]]]]],?_⟩
  obtain⟨ms,ems,lms⟩:=zgY ds none (some k)
  refine⟨_,rfl,_,rfl,_,rfl,a,_,rfl,ha,fun z hz=>?_⟩
  rw [ems]
  have s4:=zb (o:=.lst (ms.map V.int)) hz
  refine⟨z,rfl,⟨_,SqL.of zc⟩,zbB (K:=K) (xs:=ms.map V.int) (fs:=ms.map fun d=>V.int (d % p)) (SqL.of zc) (by rw [ab,ab]) (by rw [ab]; lia) ?_ ?_⟩
  ·intro j x y R B hx hy hR
   obtain⟨c,_,rfl,rfl⟩:=zgZ hx hy
   refine gY ?_
   exact⟨_,rfl,_,rfl,_,_,rfl,rfl,p0,hR⟩
  intro D hD
  have epol:(ms.map fun d=>V.int (d % p))=(ms.map (· % p)).map V.int:=by rw [bh]; rfl
  rw [epol]
  refine⟨D,_,rfl,.inl ⟨SqL.of zc,fun po hpo=>?_⟩⟩
  have s5:=s4.trans (zb (o:=.lst ((ms.map (· % p)).map V.int)) hD)
  refine q po _ _ (s5.free hpo) (s5.trans (zb hpo)) ⟨by rw [ab]; exact lms,fun x hx=>?_⟩ zc (fun n hkn hle=>?_)
  ·obtain⟨d,_,rfl⟩:=aE.mp hx
   exact⟨aI _ (by lia),aC _ p0⟩
  ·have h1:=congrArg eI ems
   rw [hkn,zl1,aD,ab,ab] at h1
   rw [ab]
   lia
def zl2 (K:ai):Sp:=fun vs H Q _=>∃ (a c tt:Addr) (ns:List Int) (at' p k:Int) (pl:List Int),vs = [.ref a,.int at',.ref c]∧SqL K H a (ns.map V.int)∧ns.length≤63∧0≤at'∧at'≤900∧za5 H c tt p k pl∧0 < p∧p≤97∧(∀ x∈pl,0≤x∧x < p)∧pl.length≤16 ∧
 ∀ (l:Addr) (rw:List (Option Int)) (H':Hp),H l=none→zu H H'→rw.length=pl.length→(∀ z,some z∈rw→0≤z∧z < p)→H' l=some (.lst (rw.map enc))→Q (.ref l) H'
theorem zoU {a b m:Int} (h0:0≤m) (h1:m < 6) (a0:0≤a) (a1:a < 3) (b0:0≤b) (b1:b < 3):∃ z:Int,atI [V.int 0,.int 0,.int a,.int b,.int 0,.int 0] m=some (.int z)∧0≤z∧z < 3:=by
 have:m=0∨m=1∨m=2∨m=3∨m=4∨m=5:=by lia
 rcases this with e | e | e | e | e | e <;> subst e
 ·exact⟨0,rfl,by decide,by decide⟩
 ·exact⟨0,rfl,by decide,by decide⟩
 ·exact⟨a,rfl,a0,a1⟩
 ·exact⟨b,rfl,b0,b1⟩
 ·exact⟨0,rfl,by decide,by decide⟩
 ·exact⟨0,rfl,by decide,by decide⟩
theorem znA {m:Int} (h0:0≤m) (h1:m < 6):∃ z:Int,atI [V.int 4,.int 9,.int 9,.int 9,.int 2,.int 1] m=some (.int z)∧0 < z:=by
 have:m=0∨m=1∨m=2∨m=3∨m=4∨m=5:=by lia
 rcases this with e | e | e | e | e | e <;> subst e <;> exact⟨_,rfl,by decide⟩
theorem znB {m:Int} (h0:0≤m) (h1:m < 2):∃ z:Int,atI [V.int 9,.int 3] m=some (.int z)∧0 < z:=by
 have:m=0∨m=1:=by lia
 rcases this with e | e <;> subst e <;> exact⟨_,rfl,by decide⟩
theorem zpE (n:Nat):(aw n [V.non]).flatten=(aw n (none:Option Int)).map enc:=by
 induction n with
 | zero=>rfl
 | succ n ih=>rw [b7,dR,ih,b7]; rfl
def zgt (H:Hp) (on:Addr):Prop:=∃ os:List Addr,os.length=3∧H on=some (.lst (os.map V.ref))∧∀ o∈os,∃ ms:List Int,H o=some (.tup (ms.map V.int))
theorem zgt.same {H H':Hp} {on:Addr} (s:zu H H') (h:zgt H on):zgt H' on:=by
 obtain⟨os,h1,h2,h3⟩:=h
 exact⟨os,h1,s _ _ h2,fun o ho=>let ⟨ms,e⟩:=h3 o ho; ⟨ms,s _ _ e⟩⟩
theorem zl3 {p:Int} {rw:List (Option Int)} (h:∀ z,some z∈rw→0≤z∧z < p):∀ z,some z∈rw++[none]→0≤z∧z < p:=by
 intro z hz
 rcases a7.mp hz with m | m
 ·exact h z m
 ·cases aW.mp m
theorem zhw {p i:Int} {rw:List (Option Int)} (h:∀ z,some z∈rw→0≤z∧z < p) (hi:0≤i∧i < p):∀ z,some z∈rw++[some i]→0≤z∧z < p:=by
 intro z hz
 rcases a7.mp hz with m | m
 ·exact h z m
 ·cases aW.mp m
  exact hi
theorem zhx {p x:Int} {cs:List Int} (hp:0 < p):0≤zp p x cs∧zp p x cs < p:=⟨zaA hp cs,zaB hp cs⟩
theorem zaq:FnScope ["script","at","code","p","k","places","plan","ones","slips","way","row","number","which","entry"] ["script","at","code"] (zh zdm):=⟨rfl,rfl,rfl,by decide +kernel,rfl,by decide +kernel,by decide +kernel⟩
theorem zl4 {fd:FuncData} (T:Txt K mg t) (F:Fun K "_law_row" "_law_row" zdm t.l_row fd):FnOk P w K mg base CX0 3 t.l_row fd ["script","at","code"] (zl2 K):=by
 obtain⟨fd_l_draws,F_l_draws,b_l_draws⟩:=T.f_l_draws
 have G_l_draws:=zcZ (P:=P) (w:=w) (base:=base) T F_l_draws
 obtain⟨fd_l_polynomial,F_l_polynomial,b_l_polynomial⟩:=T.f_l_polynomial
 have G_l_polynomial:=zdQ (P:=P) (w:=w) (base:=base) T F_l_polynomial
 obtain⟨fd_l_value,F_l_value,b_l_value⟩:=T.f_l_value
 have G_l_value:=zid (P:=P) (w:=w) (base:=base) T F_l_value
 refine F.ok zaq (fun vs H Q E h=>?_) (fun cdv A outer s H vs Q E hr h=>?_)
 ·obtain⟨a,c,tt,ns,at',p,k,pl,rfl,_⟩:=h
  rfl
 ·obtain⟨a,c,tt,ns,at',p,k,pl,rfl,hS,hlen,a0,a1,hc,p0,p1,hpl,hn,q⟩:=h
  refine⟨_,#[zd,#[zbD,#[pvx,2],#[za2,#[zj,#[zg,3,zaq.nd,(bP rfl)],#[zj,#[zg,4,zaq.nd,(bP rfl)],#[zj,#[zg,5,zaq.nd,(aq rfl)],#[zL]]]]]],by exact #[zd,#[zl,6,zaq.nd,(bP rfl),#[zq,G_l_draws,(hr.mono (by decide)),T.m_l_draws,F_l_draws.kp,b_l_draws,#[zF],#[za,#[pvx,0],by exact #[za,#[pvx,1],#[za,#[zf],#[za,#[zf],#[ze]]]]]]],by exact #[zd,#[zaz,7,zaq.nd,(aq rfl),(CompSc.of (N':=["j","plan","p","k"]) (ix:=[none,some 6,some 3,some 4]) (zh zdm) ["script","at","code","p","k","places","plan","ones","slips","way","row","number","which","entry"] rfl rfl (by decide +kernel)),#[zZ],#[zad,T.range_,#[za,#[zf],#[ze]]],(fun _ _ _ _=>#[zg,0,(show (["j","plan","p","k"]:List Str).Nodup by decide +kernel),(aq rfl)]),(fun _ _ _ _=>#[zt]),(fun _ _ _ _=>#[zq,G_l_polynomial,(hr.mono (by decide)),T.m_l_polynomial,F_l_polynomial.kp,b_l_polynomial,#[zF],#[za,#[za3,(zkL (K:=K) rfl),#[pvx,1],#[zbf,#[zi,#[zT],#[zf],#[pvx,0]]],#[zbJ]],#[za,#[pvx,2],#[za,#[pvx,3],#[ze]]]]])],by exact #[zd,#[zl,8,zaq.nd,(aq rfl),#[zq,G_l_draws,(hr.mono (by decide)),T.m_l_draws,F_l_draws.kp,b_l_draws,#[zF],#[za,#[pvx,0],by exact #[za,#[zi,#[zK],#[pvx,1],#[zf]],#[za,#[zf],#[za,#[zf],#[ze]]]]]]],by exact #[zd,#[zl,9,zaq.nd,(aq rfl),#[zi,#[zC],#[zH,#[zD],#[pvx,8],#[zf]],#[zf]]],by exact #[zd,#[zl,10,zaq.nd,(aq rfl),#[zY,#[ze]]],by exact #[zd,#[zbc,bH,#[zad,T.range_,#[za,#[zA,#[zI],T.len_,cq,#[za,#[pvx,5],#[ze]]],#[ze]]],#[zg,11,zaq.nd,(aq rfl)],#[zd,#[zl,12,zaq.nd,(aq rfl),#[zH,#[zD],#[zY,#[zcQ,by exact #[zcQ,by exact #[za,#[zi,#[zC],#[zH,#[zD],#[pvx,8],#[pvx,11]],#[zf]],by exact #[za,#[zi,#[zC],#[zH,#[zD],#[pvx,8],#[pvx,11]],#[zf]],#[za,#[zf],#[za,#[zf],#[ze]]]]]]]],#[pvx,9]]],by exact #[zd,#[zl,13,zaq.nd,(aq rfl),#[zq,G_l_value,(hr.mono (by decide)),T.m_l_value,F_l_value.kp,b_l_value,#[zF],#[za,#[pvx,3],#[za,#[zH,#[zD],#[pvx,7],#[pvx,12]],#[za,#[zH,#[zb9],#[pvx,5],#[pvx,11]],#[ze]]]]]],by exact #[zd,#[zbj,#[zR,#[zfi],#[zi,#[zC],#[zi,#[zb8],#[zH,#[zD],#[pvx,8],#[pvx,11]],#[zf]],#[zH,#[zD],#[zY,#[zcQ,by exact #[zcQ,by exact #[zcQ,by exact #[za,#[zf],#[za,#[zf],#[za,#[zf],#[ze]]]]]]]],#[pvx,9]]],#[zf],(zac _)],#[zm,#[zl,13,zaq.nd,(aq rfl),#[zi,#[zC],#[zi,#[zb8],#[zH,#[zD],#[pvx,8],#[pvx,11]],#[zf]],#[pvx,3]]]],#[zap]],by exact #[zd,#[zbj,(@PW.pt _ _ _ (@zn5 _ _ _ _ _ _ _ #[zR,#[zfi],#[zi,#[zC],#[zi,#[zb8],#[zH,#[zD],#[pvx,8],#[pvx,11]],#[zf]],#[zH,#[zD],#[zY,#[za,#[zf],#[za,#[zf],#[ze]]]],#[zi,#[zC],#[zH,#[zD],#[pvx,8],#[zf]],#[zf]]]],#[zf],(zac _)] (@zmv _ _ _ _ #[zR,#[zgH],#[zi,#[zC],#[zH,#[zD],#[pvx,8],#[zf]],#[zf]],#[zf],(zac _)]))),#[zm,#[zl,13,zaq.nd,(aq rfl),#[zdo]]],#[zap]],by exact #[zm,#[zcy,#[zfp,cp,dn,dq,#[zb0],#[pvx,10],#[za,#[pvx,13],#[ze]]]]]]]]]],by exact #[zm,#[zG,(@zkp _ _ _ _ _ _ _ _ #[zR,#[zfi],#[zi,#[zC],#[zH,#[zD],#[pvx,8],#[zf]],#[zf]],#[zf],(zac _)] #[zi,#[zfR],#[zY,#[za,#[zdo],#[ze]]],#[zA,#[zI],T.len_,cq,#[za,#[pvx,10],#[ze]]]] #[pvx,10])]]]]]]]]],?_⟩
  have hsl:=aX
  refine⟨_,rfl,c,_,rfl,SqT.of hc.1,rfl,_,_,rfl,_,_,rfl,_,_,rfl,rfl,?_⟩
  refine⟨_,rfl,_,rfl,a,ns,at',16,27720,rfl,hS,hlen,a0,by lia,by decide,by decide,by decide,by decide,fun l ds H1 hl s1 hd h1l=>?_⟩
  have hdl:ds.length=16:=hd.1
  refine⟨3,rfl,by decide,by decide,zS (n:=3) (fun i ys H'=>zu H1 H'∧∃ os:List Addr,os.length=i∧ys=os.map V.ref∧∀ o∈os,∃ ms:List Int,H' o=some (.tup (ms.map V.int))) ⟨fun _ _ e=>e,[],rfl,rfl,by simp⟩ (fun i ys H' hi _=>hi) (fun ys H' _=>ag _) ?_ ?_⟩
  ·rintro i xx ys H4 H5 hi ⟨s4,os,ho,rfl,hos⟩ ⟨rfl,rfl⟩
   refine gY ?_
   refine⟨_,rfl,_,rfl,_,_,rfl,rfl,.inl ⟨by decide,by decide⟩,_,rfl,l,_,rfl,SqL.of (s4 _ _ h1l),fun z hz=>?_⟩
   obtain⟨ms,ems,lms⟩:=zgY ds (some (3*(0+(i:Int)))) none
   rw [ems]
   refine⟨_,rfl,_,rfl,z,ms,p,k,rfl,SqL.of zc,by lia,p0,fun po poly H6 hpo s6 _ h6 _=>?_⟩
   have s5:=(zb (o:=.lst (ms.map V.int)) hz).trans s6
   refine⟨zaa (by rw [ab]; lia),s4.trans s5,os++[po],by rw [ao,ho]; rfl,by rw [au]; rfl,fun o hm=>?_⟩
   rcases (a7.mp hm) with hm | hm
   ·obtain⟨m2,e⟩:=hos o hm
    exact⟨m2,s5 _ _ e⟩
   ·rw [aW.mp hm]; exact⟨poly,h6⟩
  ·rintro ys H4 on ⟨s4,os,ho,rfl,hos⟩ hon
   have s5:=s1.trans (s4.trans (zb (o:=.lst (os.map V.ref)) hon))
   have hones:zgt (upd H4 on (.lst (os.map V.ref))) on:=⟨os,ho,zc,fun o hm=>let ⟨ms,e⟩:=hos o hm; ⟨ms,(zb hon) _ _ e⟩⟩
   generalize upd H4 on (.lst (os.map V.ref))=H5 at s5 hones ⊢
   refine⟨_,rfl,_,rfl,_,_,rfl,rfl,a,ns,at'+1,20,27720,rfl,s5.seq hS,hlen,by lia,by lia,by decide,by decide,by decide,by decide,fun sl es H6 hsl6 s6 he h6s=>?_⟩
   have hel:es.length=20:=he.1
   have her:=he.2
   have eat:∀ m:Int,0≤m→m < 20→∃ c:Int,atI (es.map V.int) m=some (.int c):=fun m h0 h1=>zdY h0 (by lia)
   obtain⟨d16,e16⟩:=eat 16 (by decide) (by decide)
   obtain⟨d17,e17⟩:=eat 17 (by decide) (by decide)
   obtain⟨d18,e18⟩:=eat 18 (by decide) (by decide)
   obtain⟨d19,e19⟩:=eat 19 (by decide) (by decide)
   have w0:=aI d16 (show (6:Int)≠0 by decide)
   have w1:=aC d16 (show (0:Int) < 6 by decide)
   refine⟨_,rfl,sl,_,_,_,rfl,rfl,SqL.of h6s,e16,_,_,rfl,rfl,(by show (0:Int) < 6; decide),?_⟩
   obtain⟨way,hway⟩:∃ way,d16 % 6=way:=⟨_,rfl⟩
   rw [hway] at w0 w1
   refine⟨bi _,fun ro hro=>?_⟩
   have hslro:sl≠ro:=zw h6s hro
   have hroH:H ro=none:=(s5.trans s6).free hro
   have hro5:H5 ro=none:=s6.free hro
   refine⟨_,rfl,tt,_,rfl,.inr (SqT.of ((((s5.trans s6).trans (zb hro))) _ _ hc.2)),_,rfl,by rw [ab]; lia,by rw [ab]; lia,?_⟩
   rw [ab,bf]
   refine zbX (lo:=0) (n:=pl.length) (fun i σ H'=>∃ (rw:List (Option Int)) (v11 v12 v13:Option V),σ = [some (.ref a),some (.int at'),some (.ref c),some (.int p),some (.int k),some (.ref tt),some (.ref l),some (.ref on),some (.ref sl),some (.int way),some (.ref ro),v11,v12,v13] ∧
    rw.length=i∧zu H5 H'∧H' ro=some (.lst (rw.map enc))∧H' sl=some (.lst (es.map V.int))∧∀ z,some z∈rw→0≤z∧z < p)
    ⟨[],none,none,none,by subst hway; rfl,rfl,s6.trans (zb hro),zc,by rw [zn hslro]; exact h6s,fun z hz=>by simp at hz⟩ ?_ ?_
   ·rintro i σ H7 hi ⟨rw,v11,v12,v13,rfl,hrl,s7,h7r,h7s,hrg⟩
    obtain⟨di,ei⟩:=eat (0+(i:Int)) (by lia) (by lia)
    obtain⟨x,hx⟩:∃ x,pl[i]? = some x:=⟨pl[i]'hi,by simp⟩
    obtain⟨x0,x1⟩:=hpl x (aG hx)
    have hxat:atI (pl.map V.int) (0+(i:Int))=some (.int x):=by rw [dH]; exact zaG (by rw [ah,hx]; rfl)
    have m20:=aI di (show (2:Int)≠0 by decide)
    have m21:=aC di (show (0:Int) < 2 by decide)
    have m30:=aI di (show (3:Int)≠0 by decide)
    have m31:=aC di (show (0:Int) < 3 by decide)
    obtain⟨wh,ewh,wh0,wh1⟩:=zoU w0 w1 m20 (by lia) m30 m31
    refine⟨_,rfl,_,rfl,sl,_,_,_,rfl,rfl,SqL.of h7s,ei,_,_,rfl,rfl,(by show (0:Int) < 2; decide),_,rfl,_,rfl,sl,_,_,_,rfl,rfl,SqL.of h7s,ei,_,_,rfl,rfl,(by show (0:Int) < 3; decide),by show 6≤sizeLine; lia,fun l6 hl6=>?_⟩
    refine⟨_,rfl,l6,_,_,_,rfl,rfl,SqL.of zc,ewh,?_⟩
    have s8:=s7.trans (zb (o:=.lst [.int 0,.int 0,.int (di % 2),.int (di % 3),.int 0,.int 0]) hl6)
    have h8r:=(zb (o:=.lst [.int 0,.int 0,.int (di % 2),.int (di % 3),.int 0,.int 0]) hl6) _ _ h7r
    have h8s:=(zb (o:=.lst [.int 0,.int 0,.int (di % 2),.int (di % 3),.int 0,.int 0]) hl6) _ _ h7s
    obtain⟨H8,hH8⟩:∃ H8,H8=upd H7 l6 (.lst [.int 0,.int 0,.int (di % 2),.int (di % 3),.int 0,.int 0]):=⟨_,rfl⟩
    rw [← hH8] at s8 h8r h8s ⊢
    have hc8:=hc.same (s5.trans s8)
    obtain⟨os8,o1,o2,o3⟩:=hones.same s8
    obtain⟨ow,how⟩:∃ ow,os8[wh.toNat]? = some ow:=⟨os8[wh.toNat]'(by lia),by simp⟩
    obtain⟨mw,hmw⟩:=o3 ow (aG how)
    have hoat:atI (os8.map V.ref) wh=some (.ref ow):=by
     have e:((wh.toNat:Nat):Int)=wh:=by lia
     rw [← e]
     exact zaG (by rw [ah,how]; rfl)
    refine⟨_,rfl,_,rfl,_,rfl,on,_,_,_,rfl,rfl,SqL.of o2,hoat,_,rfl,_,rfl,tt,_,_,_,rfl,rfl,SqT.of hc8.2,hxat,p,x,ow,mw,rfl,.inr (SqT.of hmw),p0,p1,x0,x1,?_⟩
    obtain⟨z6,ez6,z60⟩:=znA w0 w1
    refine⟨_,rfl,_,rfl,sl,_,_,_,rfl,rfl,SqL.of h8s,ei,_,_,rfl,rfl,⟨by decide,by decide⟩,by show 6≤sizeLine; lia,fun l7 hl7=>?_⟩
    have u7:=zb (o:=.lst [.int 4,.int 9,.int 9,.int 9,.int 2,.int 1]) hl7
    refine⟨_,rfl,l7,_,_,_,rfl,rfl,SqL.of zc,ez6,_,_,rfl,rfl,z60,rfl,_,rfl,?_⟩
    have s9:=s8.trans u7
    have h9r:=u7 _ _ h8r
    have h9s:=u7 _ _ h8s
    generalize upd H8 l7 (.lst [.int 4,.int 9,.int 9,.int 9,.int 2,.int 1])=H9 at s9 h9r h9s ⊢
    have t0:=aI d17 (show (2:Int)≠0 by decide)
    have t1:=aC d17 (show (0:Int) < 2 by decide)
    obtain⟨z2,ez2,z20⟩:=znB t0 t1
    refine zbq (fun _=>⟨_,rfl,_,rfl,sl,_,_,_,rfl,rfl,SqL.of h9s,ei,_,_,rfl,rfl,⟨by decide,by decide⟩,_,rfl,_,_,rfl,rfl,p0,?_⟩) (fun _=>?_)
    all_goals
     refine⟨_,rfl,_,rfl,sl,_,_,_,rfl,rfl,SqL.of h9s,ei,_,_,rfl,rfl,⟨by decide,by decide⟩,zaH,fun l8 hl8=>?_⟩
     have u8:=zb (o:=.lst [.int 9,.int 3]) hl8
     have sX:=s9.trans u8
     have hXr:=u8 _ _ h9r
     have hXs:=u8 _ _ h9s
     refine⟨_,rfl,sl,_,_,_,rfl,rfl,SqL.of hXs,e17,_,_,rfl,rfl,(by show (0:Int) < 2; decide),l8,_,_,_,rfl,rfl,SqL.of zc,ez2,_,_,rfl,rfl,z20,rfl,_,rfl,?_⟩; refine zbq (fun _=>?_) (fun _=>?_)
     ·refine⟨_,rfl,sl,_,_,_,rfl,rfl,SqL.of hXs,e18,_,_,rfl,rfl,(by show (0:Int) < 3; decide),_,_,rfl,rfl,_,rfl,?_⟩; refine zbq (fun _=>?_) (fun _=>?_)
      ·exact⟨_,rfl,.inl ⟨rfl,_,SqL.of hXr⟩,_,rfl,ro,_,_,rfl,rfl,hXr,zaa (by rw [ab]; lia),rw++[none],_,_,_,rfl,by rw [ao,hrl]; rfl,zae sX hro5,by rw [zc,au]; rfl,by rw [zn hslro]; exact hXs,zl3 hrg⟩
      ·exact⟨_,rfl,.inl ⟨rfl,_,SqL.of hXr⟩,_,rfl,ro,_,_,rfl,rfl,hXr,zaa (by rw [ab]; lia),rw++[some _],_,_,_,rfl,by rw [ao,hrl]; rfl,zae sX hro5,by rw [zc,au]; rfl,by rw [zn hslro]; exact hXs,zhw hrg (by first | exact⟨aI _ (by lia),aC _ p0⟩ | exact zhx p0)⟩
     ·refine zjA ?_
      exact⟨_,rfl,.inl ⟨rfl,_,SqL.of hXr⟩,_,rfl,ro,_,_,rfl,rfl,hXr,zaa (by rw [ab]; lia),rw++[some _],_,_,_,rfl,by rw [ao,hrl]; rfl,zae sX hro5,by rw [zc,au]; rfl,by rw [zn hslro]; exact hXs,zhw hrg (by first | exact⟨aI _ (by lia),aC _ p0⟩ | exact zhx p0)⟩
   ·rintro σ H7 ⟨rw,v11,v12,v13,rfl,hrl,s7,h7r,h7s,hrg⟩
    refine⟨_,rfl,sl,_,_,_,rfl,rfl,SqL.of h7s,e19,_,_,rfl,rfl,(by show (0:Int) < 30; decide),rfl,_,rfl,?_⟩
    refine zbq (fun _=>?_) (fun _=>⟨_,rfl,q ro rw H7 hroH (s5.trans s7) hrl hrg h7r⟩)
    refine⟨by show 1≤sizeLine; lia,fun z hz=>⟨_,rfl,ro,_,rfl,.inl (SqL.of ((zb hz) _ _ h7r)),z,_,[.non],rfl,rfl,zc,by rw [ab]; lia,by rw [ab]; lia,by rw [ab]; show 1*_≤sizeLine; lia,fun y hy=>?_⟩⟩
    have s8:=(s5.trans s7).trans (zb (o:=.lst [.non]) hz)
    refine q y (aw pl.length none) _ (s8.free hy) (s8.trans (zb hy)) (by rw [aT]) (fun z hz=>by cases ee hz) ?_
    rw [zc,ab,zpE,hrl,bf]
theorem zbN:FnScope ["p","polynomial","x","value","number"] ["p","polynomial","x"] (zh zcj):=⟨rfl,rfl,rfl,by decide +kernel,rfl,by decide +kernel,by decide +kernel⟩
theorem zcx {fd:FuncData} (T:Txt K mg t) (F:Fun K "value_at" "value_at" zcj t.value_at fd):FnOk P w K mg base CX0 1 t.value_at fd ["p","polynomial","x"] (zdG K):=by
 refine F.ok zbN (fun vs H Q E h=>?_) (fun cdv A outer s H vs Q E hr h=>?_)
 ·obtain⟨p,x,a,cs,rfl,_⟩:=h
  rfl
 ·obtain⟨p,x,a,cs,rfl,hS,p0,p1,x0,x1,q⟩:=h
  refine⟨_,#[zd,#[zl,3,zbN.nd,(aq rfl),#[zf]],by exact #[zd,#[zbc,bH,(@zoq _ _ _ _ _ _ rfl T.reversed_ #[za,#[pvx,1],#[ze]] (by rfl)),#[zg,4,zbN.nd,(aq rfl)],#[zm,#[zl,3,zbN.nd,(aq rfl),#[zi,#[zC],#[zi,#[zK],#[zi,#[zT],#[pvx,3],#[pvx,2]],#[pvx,4]],#[pvx,0]]]]],by exact #[zm,#[zG,#[pvx,3]]]]],?_⟩
  refine⟨_,rfl,a,cs.map V.int,rfl,?_⟩
  rcases hS with hS | hS
  ·refine .inl ⟨hS,?_⟩
   rw [ab]
   refine zhR (n:=cs.length) (fun i σ H'=>H'=H∧∃ nb,σ = [some (.int p),some (.ref a),some (.int x),some (.int (zp p x (cs.drop (cs.length - i)))),nb]) ⟨rfl,none,by rw [dG,gc]; rfl⟩
    (fun i σ H' hi ⟨e,_⟩=>⟨hi,cs.map V.int,by rw [e]; exact hS,by rw [ab]⟩) (fun σ H' _=>ag _) ?_ ?_
   ·rintro i y σ H1 H2 hi ⟨rfl,nb,rfl⟩ ⟨rfl,hy⟩
    obtain⟨c,rfl,hc⟩:=zag (hy _ hS)
    have v0:=zaA (x:=x) p0 (cs.drop (cs.length - i))
    have v1:=zaB (x:=x) p0 (cs.drop (cs.length - i))
    refine⟨_,rfl,_,rfl,_,_,rfl,rfl,.inl ⟨by lia,by lia⟩,_,rfl,_,_,rfl,rfl,_,rfl,_,_,rfl,rfl,p0,?_⟩
    refine⟨rfl,some (.int c),?_⟩
    rw [zfw hi hc]
    show _ = [some (V.int p),_,_,some (V.int ((c+x*zp p x (cs.drop (cs.length - i))) % p)),_]
    rw [Int.add_comm c,dF x]
    rfl
   ·rintro σ H1 ⟨rfl,nb,rfl⟩
    rw [fM,cZ]
    exact⟨_,rfl,q⟩
  ·refine .inr ⟨hS,?_⟩
   rw [ab]
   refine zhR (n:=cs.length) (fun i σ H'=>H'=H∧∃ nb,σ = [some (.int p),some (.ref a),some (.int x),some (.int (zp p x (cs.drop (cs.length - i)))),nb]) ⟨rfl,none,by rw [dG,gc]; rfl⟩
    (fun i σ H' hi ⟨e,_⟩=>⟨hi,cs.map V.int,by rw [e]; exact hS,by rw [ab]⟩) (fun σ H' _=>ag _) ?_ ?_
   ·rintro i y σ H1 H2 hi ⟨rfl,nb,rfl⟩ ⟨rfl,hy⟩
    obtain⟨c,rfl,hc⟩:=zag (hy _ hS)
    have v0:=zaA (x:=x) p0 (cs.drop (cs.length - i))
    have v1:=zaB (x:=x) p0 (cs.drop (cs.length - i))
    refine⟨_,rfl,_,rfl,_,_,rfl,rfl,.inl ⟨by lia,by lia⟩,_,rfl,_,_,rfl,rfl,_,rfl,_,_,rfl,rfl,p0,?_⟩
    refine⟨rfl,some (.int c),?_⟩
    rw [zfw hi hc]
    show _ = [some (V.int p),_,_,some (V.int ((c+x*zp p x (cs.drop (cs.length - i))) % p)),_]
    rw [Int.add_comm c,dF x]
    rfl
   ·rintro σ H1 ⟨rfl,nb,rfl⟩
    rw [fM,cZ]
    exact⟨_,rfl,q⟩
theorem zaX:FnScope ["p","number","product","square","left"] ["p","number"] (zh zcI):=⟨rfl,rfl,rfl,by decide +kernel,rfl,by decide +kernel,by decide +kernel⟩
theorem zeP {fd:FuncData} (T:Txt K mg t) (F:Fun K "inverse" "inverse" zcI t.inverse fd):FnOk P w K mg base CX0 1 t.inverse fd ["p","number"] (zhX K):=by
 refine F.ok zaX (fun vs H Q E h=>?_) (fun cdv A outer s H vs Q E hr h=>?_)
 ·obtain⟨p,h,rfl,_⟩:=h
  rfl
 ·obtain⟨p,hh,rfl,mp,h0,h1,q⟩:=h
  refine⟨_,#[zd,#[zl,2,zaX.nd,(aq rfl),#[zf]],by exact #[zd,#[zl,3,zaX.nd,(aq rfl),#[zi,#[zC],#[pvx,1],#[pvx,0]]],by exact #[zd,#[zl,4,zaX.nd,(aq rfl),#[zi,#[zaR],#[pvx,0],#[zf]]],by exact #[zd,#[zed,bH,#[zR,#[zgH],#[pvx,4],#[zf],(zac _)],#[zd,#[zbj,#[zR,#[zfi],#[zi,#[zC],#[pvx,4],#[zf]],#[zf],(zac _)],#[zm,#[zl,2,zaX.nd,(aq rfl),#[zi,#[zC],#[zi,#[zT],#[pvx,2],#[pvx,3]],#[pvx,0]]]],#[zap]],by exact #[zd,#[zl,3,zaX.nd,(aq rfl),#[zi,#[zC],#[zi,#[zT],#[pvx,3],#[pvx,3]],#[pvx,0]]],by exact #[zm,#[zfP,4,zaX.nd,(aq rfl),#[zf],zkv]]]]],by exact #[zm,#[zG,#[pvx,2]]]]]]],?_⟩
  have rp:=zr mp
  have e0:=aI hh (show p≠0 by lia)
  have e1:=aC hh (show 0 < p by lia)
  refine⟨_,rfl,_,rfl,_,_,rfl,rfl,(by show 0 < p; lia),_,rfl,_,_,rfl,rfl,?_⟩
  refine zkt (fun σ H'=>H'=H∧∃ (prod sq left:Int) (n:Nat),σ = [some (.int p),some (.int hh),some (.int prod),some (.int sq),some (.int left)]∧0≤prod∧prod < p∧0≤sq∧sq < p∧0≤left∧left < 2 ^ n∧zcA p n prod sq left=inv p hh) (fun σ _=>zou σ)
   ⟨rfl,1,hh % p,p - 2,7,rfl,by lia,by lia,e0,e1,by lia,by lia,rfl⟩ ?_ ?_
  ·rintro σ H1 ⟨rfl,prod,sq,left,n,rfl,b0,b1,s0,s1,l0,l1,hi⟩
   refine⟨_,rfl,_,_,rfl,rfl,_,rfl,?_⟩
   refine zbq (fun hl=>?_) (fun hl=>?_)
   ·have hl:0 < left:=by simpa using hl
    obtain⟨m,rfl⟩:∃ m,n=m+1:=by
     cases n with
     | zero=>lia
     | succ m=>exact⟨m,rfl⟩
    rw [zf0 hl l1] at hi
    have l2:left / 2 < 2 ^ m:=by
     have:(2:Int) ^ (m+1)=2 ^ m*2:=dE ..
     lia
    have m0:=aI (prod*sq) (show p≠0 by lia)
    have m1:=aC (prod*sq) (show 0 < p by lia)
    have n0:=aI (sq*sq) (show p≠0 by lia)
    have n1:=aC (sq*sq) (show 0 < p by lia)
    refine⟨_,rfl,_,_,rfl,rfl,(by show (0:Int) < 2; decide),rfl,_,rfl,?_⟩; refine zbq (fun ho=>?_) (fun ho=>?_)
    ·have ho:left % 2=1:=by simpa using ho
     rw [if_pos ho] at hi
     refine⟨_,rfl,_,rfl,_,_,rfl,rfl,.inl ⟨by lia,by lia⟩,_,rfl,_,_,rfl,rfl,(by show 0 < p; lia),?_⟩
     refine⟨_,rfl,_,rfl,_,_,rfl,rfl,.inl ⟨by lia,by lia⟩,_,rfl,_,_,rfl,rfl,(by show 0 < p; lia),?_⟩
     refine⟨_,rfl,_,_,rfl,rfl,⟨by decide,by decide⟩,⟨rfl,_,_,_,m,rfl,m0,m1,n0,n1,by lia,l2,hi⟩,?_⟩
     show (left / 2).toNat < left.toNat
     lia
    ·have ho:¬ left % 2=1:=by simpa using ho
     rw [if_neg ho] at hi
     refine⟨_,rfl,_,rfl,_,_,rfl,rfl,.inl ⟨by lia,by lia⟩,_,rfl,_,_,rfl,rfl,(by show 0 < p; lia),?_⟩
     refine⟨_,rfl,_,_,rfl,rfl,⟨by decide,by decide⟩,⟨rfl,_,_,_,m,rfl,b0,b1,n0,n1,by lia,l2,hi⟩,?_⟩
     show (left / 2).toNat < left.toNat
     lia
   ·have hl:¬ 0 < left:=by simpa using hl
    have el:left=0:=by lia
    subst el
    rw [zgW] at hi
    rw [← hi] at q
    exact⟨_,rfl,q⟩
  ·rintro σ H1 Q1 Q2 hq ⟨v,e,i,j,e1,e2,k,e3,q⟩
   exact⟨v,e,i,j,e1,e2,k,e3,hq _ _ q⟩
def zeQ (K:ai):Sp:=fun vs H Q _=>∃ (p r:Int) (a:Addr) (cs:List Int),vs = [.int p,.ref a,.int r]∧H a=some (.lst (cs.map V.int))∧cs.length≤1000∧0 < p∧-97≤r∧r≤97 ∧
 ∀ (l:Addr) (H':Hp),H l=none→zu H H'→H' l=some (.lst ((zbL p r cs).map V.int))→Q (.ref l) H'
theorem zbU:FnScope ["p","polynomial","root","raised","kept"] ["p","polynomial","root"] (zh za7):=⟨rfl,rfl,rfl,by decide +kernel,rfl,by decide +kernel,by decide +kernel⟩
theorem zcS {fd:FuncData} (T:Txt K mg t) (F:Fun K "times_root" "times_root" za7 t.times_root fd):FnOk P w K mg base CX0 1 t.times_root fd ["p","polynomial","root"] (zeQ K):=by
 refine F.ok zbU (fun vs H Q E h=>?_) (fun cdv A outer s H vs Q E hr h=>?_)
 ·obtain⟨p,r,a,cs,rfl,_⟩:=h
  rfl
 ·obtain⟨p,r,a,cs,rfl,ha,hlen,p0,r0,r1,q⟩:=h
  refine⟨_,#[zd,#[zl,3,zbU.nd,(aq rfl),#[zi,#[zcT],#[zY,#[za,#[zf],#[ze]]],#[pvx,1]]],by exact #[zd,#[zl,4,zbU.nd,(aq rfl),#[zi,#[zcT],#[pvx,1],#[zY,#[za,#[zf],#[ze]]]]],by exact #[zm,#[zG,#[zO,(CompSc.of (N':=["high","low","root","p"]) (ix:=[none,none,some 2,some 0]) (zh za7) ["p","polynomial","root","raised","kept"] rfl rfl (by decide +kernel)),#[zaW,#[zy,#[zy,#[zay]]]],#[zdW,T.zip_,#[za,#[pvx,3],#[za,#[pvx,4],#[ze]]]],(fun _ _ _ _=>#[zau,(K),2,#[zj,#[zg,0,(show (["high","low","root","p"]:List Str).Nodup by decide +kernel),(aq rfl)],#[zj,#[zg,1,(show (["high","low","root","p"]:List Str).Nodup by decide +kernel),(aq rfl)],#[zL]]]]),(fun _ _ _ _=>#[zt]),(fun _ _ _ _=>#[zi,#[zC],#[zi,#[zaR],#[pvx,0],#[zi,#[zT],#[pvx,2],#[pvx,1]]],#[pvx,3]])]]]]],?_⟩
  have hsl:=aX
  refine⟨by show 1≤sizeLine; lia,fun z hz=>⟨_,rfl,z,a,[.int 0],cs.map V.int,rfl,rfl,zc,by rw [zn (zw ha hz)]; exact ha,by rw [ab]; show 1+cs.length≤sizeLine; lia,fun ra hra=>?_⟩⟩
  have s1:zu H (upd (upd H z (.lst [.int 0])) ra (.lst ([.int 0]++cs.map V.int))):=(zb hz).trans (zb hra)
  refine⟨_,rfl,by show 1≤sizeLine; lia,fun z2 hz2=>⟨a,z2,cs.map V.int,[.int 0],rfl,rfl,by rw [zn (zw (s1 _ _ ha) hz2)]; exact s1 _ _ ha,zc,by rw [ab]; show cs.length+1≤sizeLine; lia,fun ke hke=>?_⟩⟩
  have s2:=s1.trans ((zb (o:=.lst [.int 0]) hz2).trans (zb (o:=.lst (cs.map V.int++[.int 0])) hke))
  have hra2:upd (upd (upd (upd H z (.lst [.int 0])) ra (.lst ([.int 0]++cs.map V.int))) z2 (.lst [.int 0])) ke (.lst (cs.map V.int++[.int 0])) ra=some (.lst ((0 :: cs).map V.int)) :=
   ((zb (o:=.lst [.int 0]) hz2).trans (zb (o:=.lst (cs.map V.int++[.int 0])) hke)) _ _ zc
  have hke2:upd (upd (upd (upd H z (.lst [.int 0])) ra (.lst ([.int 0]++cs.map V.int))) z2 (.lst [.int 0])) ke (.lst (cs.map V.int++[.int 0])) ke=some (.lst ((cs++[0]).map V.int)):=by rw [zc,au]; rfl
  generalize upd (upd (upd (upd H z (.lst [.int 0])) ra (.lst ([.int 0]++cs.map V.int))) z2 (.lst [.int 0])) ke (.lst (cs.map V.int++[.int 0]))=H2 at s2 hra2 hke2 ⊢
  refine⟨_,rfl,_,rfl,ra,ke,_,_,rfl,SqL.of hra2,SqL.of hke2,zS (n:=cs.length+1) (fun i ys H'=>ys=((zbL p r cs).take i).map V.int∧zu H2 H') ⟨by simp,fun _ _ e=>e⟩ ?_ ?_ ?_ ?_⟩
  ·rintro i ys H3 hi ⟨_,s3⟩
   obtain⟨x,hx⟩:∃ x,(0 :: cs)[i]? = some x:=⟨(0 :: cs)[i]'(by simpa using hi),by simp⟩
   obtain⟨y,hy⟩:∃ y,(cs++[0])[i]? = some y:=⟨(cs++[0])[i]'(by simpa using hi),by simp⟩
   exact⟨_,_,.int x,.int y,SqL.of (s3 _ _ hra2),SqL.of (s3 _ _ hke2),by rw [ah,hx]; rfl,by rw [ah,hy]; rfl⟩
  ·rintro ys H3 ⟨_,s3⟩
   exact⟨_,_,SqL.of (s3 _ _ hra2),SqL.of (s3 _ _ hke2),.inl (by simp)⟩
  ·rintro i x ys H3 H4 hi ⟨rfl,s3⟩ ⟨T,u,v,hT,rfl,rfl,hu,hv⟩
   obtain⟨x,rfl,hx⟩:=zag (hu _ (SqL.of (s3 _ _ hra2)))
   obtain⟨y,rfl,hy⟩:=zag (hv _ (SqL.of (s3 _ _ hke2)))
   refine gY2 (SqT.of zc) ?_
   refine⟨_,rfl,_,rfl,_,rfl,_,_,rfl,rfl,.inl ⟨by lia,by lia⟩,_,_,rfl,rfl,_,rfl,_,_,rfl,rfl,p0,zaa ?_,?_,s3.trans (zb hT)⟩
   ·rw [ab]
    exact aZ (fq _ _) (by lia)
   ·show _=(List.take (i+1) (bn (trF p r) (0 :: cs) (cs++[0]))).map V.int
    rw [zgX hx hy,au]
    rfl
  ·rintro ys H3 D ⟨rfl,s3⟩ hD
   refine q D _ ((s2.trans s3).free hD) ((s2.trans s3).trans (zb hD)) ?_
   rw [zc,aM (by rw [zb2]; exact ag _)]
theorem zl5 {p f:Int}:∀ (cs vs:List Int),vs.length≤cs.length→ad p f cs vs=bn (fun number other=>(number+f*other) % p) cs vs++cs.drop vs.length
 | [],[],_=>rfl
 | _ :: _,[],_=>rfl
 | [],_ :: _,h=>by simp at h
 | c :: cs,v :: vs,h=>by
  show (c+f*v) % p :: ad p f cs vs=(c+f*v) % p :: (bn _ cs vs++cs.drop vs.length)
  rw [zl5 cs vs (by simpa using h)]
theorem zl6 {xs:List V} {k:Nat} (h:k≤xs.length):za1 xs (some (k:Int)) none=xs.drop k:=by
 have e1:HT.sIx xs.length 0 (some (k:Int))=k:=by
  unfold HT.sIx
  simp
  split <;> lia
 have e2:HT.sIx xs.length xs.length none=xs.length:=rfl
 unfold za1
 rw [e1,e2]
 exact aM (by rw [bZ]; exact ag _)
def znC (K:ai):Sp:=fun vs H Q _=>∃ (p x y:Int) (c v b:Addr) (cs ws:List Int),vs = [.int p,.ref c,.ref v,.ref b]∧H c=some (.lst (cs.map V.int))∧H v=some (.lst (ws.map V.int))∧H b=some (.tup [.int x,.int y])∧p∈zo∧0≤x∧x < p∧0≤y∧y < 10000∧0 < zp p x ws∧zp p x ws < p∧ws.length≤cs.length∧cs.length≤1000 ∧
 ∀ (l:Addr) (H':Hp),H l=none→zu H H'→H' l=some (.lst ((ad p ((y - zp p x cs)*inv p (zp p x ws) % p) cs ws).map V.int))→Q (.ref l) H'
theorem zcM:FnScope ["p","polynomial","vanishing","point","x","y","missing","factor","added"] ["p","polynomial","vanishing","point"] (zh zeN):=⟨rfl,rfl,rfl,by decide +kernel,rfl,by decide +kernel,by decide +kernel⟩
theorem znD {fd:FuncData} (T:Txt K mg t) (F:Fun K "bent" "bent" zeN t.bent fd):FnOk P w K mg base CX0 2 t.bent fd ["p","polynomial","vanishing","point"] (znC K):=by
 obtain⟨fd_value_at,F_value_at,b_value_at⟩:=T.f_value_at
 have G_value_at:=zcx (P:=P) (w:=w) (base:=base) T F_value_at
 obtain⟨fd_inverse,F_inverse,b_inverse⟩:=T.f_inverse
 have G_inverse:=zeP (P:=P) (w:=w) (base:=base) T F_inverse
 refine F.ok zcM (fun vs H Q E h=>?_) (fun cdv A outer s H vs Q E hr h=>?_)
 ·obtain⟨p,x,y,c,v,b,cs,ws,rfl,_⟩:=h
  rfl
 ·obtain⟨p,x,y,c,v,b,cs,ws,rfl,hc,hv,hb,mp,x0,x1,y0,y1,g0,g1,hle,hlen,q⟩:=h
  refine⟨_,#[zd,#[zbD,#[pvx,3],#[za2,#[zj,#[zg,4,zcM.nd,(aq rfl)],#[zj,#[zg,5,zcM.nd,(aq rfl)],#[zL]]]]],by exact #[zd,#[zl,6,zcM.nd,(aq rfl),#[zi,#[zaR],#[pvx,5],#[zq,G_value_at,(hr.mono (by decide)),T.m_value_at,F_value_at.kp,b_value_at,#[zF],#[za,#[pvx,0],#[za,#[pvx,1],#[za,#[pvx,4],#[ze]]]]]]],by exact #[zd,#[zl,7,zcM.nd,(bP rfl),#[zi,#[zC],#[zi,#[zT],#[pvx,6],#[zq,G_inverse,(hr.mono (by decide)),T.m_inverse,F_inverse.kp,b_inverse,#[zF],#[za,#[pvx,0],#[za,#[zq,G_value_at,(hr.mono (by decide)),T.m_value_at,F_value_at.kp,b_value_at,#[zF],#[za,#[pvx,0],#[za,#[pvx,2],#[za,#[pvx,4],#[ze]]]]],#[ze]]]]],#[pvx,0]]],by exact #[zd,#[zaz,8,zcM.nd,(aq rfl),(CompSc.of (N':=["number","other","factor","p"]) (ix:=[none,none,some 7,some 0]) (zh zeN) ["p","polynomial","vanishing","point","x","y","missing","factor","added"] rfl rfl (by decide +kernel)),#[zaW,#[zy,#[zy,#[zay]]]],#[zdW,T.zip_,#[za,#[pvx,1],#[za,#[pvx,2],#[ze]]]],(fun _ _ _ _=>#[zau,(K),2,#[zj,#[zg,0,(show (["number","other","factor","p"]:List Str).Nodup by decide +kernel),(aq rfl)],#[zj,#[zg,1,(show (["number","other","factor","p"]:List Str).Nodup by decide +kernel),(aq rfl)],#[zL]]]]),(fun _ _ _ _=>#[zt]),(fun _ _ _ _=>#[zi,#[zC],#[zi,#[zK],#[pvx,0],#[zi,#[zT],#[pvx,2],#[pvx,1]]],#[pvx,3]])],by exact #[zm,#[zG,#[zi,#[zcT],#[pvx,8],#[za3,zca,#[pvx,1],#[zbf,#[zA,#[zI],T.len_,cq,#[za,#[pvx,8],#[ze]]]],#[zbJ]]]]]]]]],?_⟩
  have hsl:=aX
  have rp:=zr mp
  have p0:0 < p:=by lia
  have v0:=zaA (x:=x) p0 cs
  have v1:=zaB (x:=x) p0 cs
  refine⟨_,rfl,b,_,rfl,SqT.of hb,rfl,_,_,rfl,_,_,rfl,rfl,?_⟩
  refine⟨_,rfl,_,rfl,_,rfl,_,rfl,p,x,c,cs,rfl,.inl (SqL.of hc),p0,by lia,x0,x1,_,_,rfl,rfl,?_⟩
  refine⟨_,rfl,_,rfl,_,rfl,_,rfl,_,rfl,p,x,v,ws,rfl,.inl (SqL.of hv),p0,by lia,x0,x1,p,_,rfl,mp,by lia,by lia,_,_,rfl,rfl,.inl ⟨by lia,by lia⟩,_,rfl,_,_,rfl,rfl,p0,?_⟩
  have f0:=aI ((y - zp p x cs)*inv p (zp p x ws)) (show p≠0 by lia)
  have f1:=aC ((y - zp p x cs)*inv p (zp p x ws)) p0
  refine⟨_,rfl,_,rfl,c,v,_,_,rfl,SqL.of hc,SqL.of hv,zfx (n:=ws.length) (f:=fun number other=>(number+((y - zp p x cs)*inv p (zp p x ws) % p)*other) % p) hc hv hle (ag _) (.inr (ag _)) (by lia) ?_ ?_⟩
  ·intro j u w H6 T R B hu hv s6 hT hR
   refine gY2 (SqT.of zc) ?_
   exact⟨_,rfl,_,rfl,_,rfl,_,_,rfl,rfl,.inl ⟨by lia,by lia⟩,_,_,rfl,rfl,_,rfl,_,_,rfl,rfl,p0,hR⟩
  ·intro D H6 s6 hD
   obtain⟨f,hf⟩:∃ f,(y - zp p x cs)*inv p (zp p x ws) % p=f:=⟨_,rfl⟩
   rw [hf] at q ⊢
   have lz:(bn (fun number other=>(number+f*other) % p) cs ws).length=ws.length:=by rw [fo]; lia
   have s7:=s6.trans (zb (o:=.lst ((bn (fun number other=>(number+f*other) % p) cs ws).map V.int)) hD)
   have h7D:upd H6 D (.lst ((bn (fun number other=>(number+f*other) % p) cs ws).map V.int)) D=some (.lst ((bn (fun number other=>(number+f*other) % p) cs ws).map V.int)):=zc
   generalize upd H6 D (.lst ((bn (fun number other=>(number+f*other) % p) cs ws).map V.int))=H7 at s7 h7D ⊢
   have h7c:=s7 _ _ hc
   refine⟨_,rfl,_,rfl,_,rfl,D,_,rfl,.inl (SqL.of h7D),?_⟩
   refine⟨_,rfl,c,_,rfl,SqL.of h7c,fun z hz=>?_⟩
   have ec:za1 (cs.map V.int) (some ((((bn (fun number other=>(number+f*other) % p) cs ws).map V.int).length:Nat):Int)) none=(cs.drop ws.length).map V.int:=by
    rw [ab,lz,zl6 (by rw [ab]; exact hle),gP]
   rw [ec]
   have s8:=zb (o:=.lst ((cs.drop ws.length).map V.int)) hz
   refine⟨D,z,_,_,rfl,rfl,s8 _ _ h7D,zc,by rw [ab,ab,lz,bZ]; lia,fun l hl=>q l _ (((s7.trans s8).free hl)) ((s7.trans s8).trans (zb hl)) ?_⟩
   rw [zc,zl5 cs ws hle,au]
theorem zaY:FnScope ["p","points","polynomial","vanishing","x","y"] ["p","points"] (zh zcJ):=⟨rfl,rfl,rfl,by decide +kernel,rfl,by decide +kernel,by decide +kernel⟩
theorem zeR {fd:FuncData} (T:Txt K mg t) (F:Fun K "through" "through" zcJ t.through fd):FnOk P w K mg base CX0 3 t.through fd ["p","points"] (zhn K):=by
 obtain⟨fd_bent,F_bent,b_bent⟩:=T.f_bent
 have G_bent:=znD (P:=P) (w:=w) (base:=base) T F_bent
 obtain⟨fd_times_root,F_times_root,b_times_root⟩:=T.f_times_root
 have G_times_root:=zcS (P:=P) (w:=w) (base:=base) T F_times_root
 refine F.ok zaY (fun vs H Q E h=>?_) (fun cdv A outer s H vs Q E hr h=>?_)
 ·obtain⟨p,a,pts,rfl,_⟩:=h
  rfl
 ·obtain⟨p,a,pts,rfl,hP,hlen,mp,hp,hyr,q⟩:=h
  refine⟨_,#[zd,#[zl,2,zaY.nd,(aq rfl),#[zi,#[zfR],#[zY,#[za,#[zf],#[ze]]],#[zA,#[zI],T.len_,cq,#[za,#[pvx,1],#[ze]]]]],by exact #[zd,#[zl,3,zaY.nd,(aq rfl),#[zY,#[za,#[zf],#[ze]]]],by exact #[zd,#[zbc,bH,#[zM,#[pvx,1]],#[za2,#[zj,#[zg,4,zaY.nd,(aq rfl)],#[zj,#[zg,5,zaY.nd,(aq rfl)],#[zL]]]],#[zd,#[zl,2,zaY.nd,(aq rfl),#[zq,G_bent,(hr.mono (by decide)),T.m_bent,F_bent.kp,b_bent,#[zF],#[za,#[pvx,0],by exact #[za,#[pvx,2],#[za,#[pvx,3],#[za,#[zax,#[za,#[pvx,4],#[za,#[pvx,5],#[ze]]]],#[ze]]]]]]],by exact #[zm,#[zl,3,zaY.nd,(aq rfl),#[zq,G_times_root,(hr.mono (by decide)),T.m_times_root,F_times_root.kp,b_times_root,#[zF],#[za,#[pvx,0],#[za,#[pvx,3],#[za,#[pvx,4],#[ze]]]]]]]]],by exact #[zm,#[zG,#[zam,#[zah],T.tuple_,fj,#[za,#[pvx,2],#[ze]]]]]]]],?_⟩
  have hsl:=aX
  have rp:=zr mp
  have p0:0 < p:=by lia
  obtain⟨bs,hS,hbl,hb⟩:=id hP
  refine⟨by show 1≤sizeLine; lia,fun z hz=>⟨_,rfl,a,_,rfl,.inl ((zb hz).seq hS),z,_,[.int 0],rfl,rfl,zc,by rw [ab]; lia,by rw [ab]; lia,by rw [ab]; show 1*_≤sizeLine; lia,fun c hc=>?_⟩⟩
  have s0:=zb (o:=.lst [.int 0]) hz
  have hcH:H c=none:=s0.free hc
  refine⟨by show 1≤sizeLine; lia,fun v hv=>?_⟩
  have hcv:c≠v:=zw zc hv
  rw [ab,zc6,hbl,bf] at hv ⊢
  have s2:zu H (upd (upd (upd H z (.lst [.int 0])) c (.lst ((aw pts.length 0).map V.int))) v (.lst [.int 1])):=(s0.trans (zb hc)).trans (zb hv)
  refine⟨_,rfl,a,rfl,⟨_,s2.seq hS⟩,zbW (K:=K) (a:=a) (xs:=bs.map V.ref) (fun i σ H'=>∃ (c v:Addr) (s:List Int×List Int) (e4 e5:Option V),σ = [some (.int p),some (.ref a),some (.ref c),some (.ref v),e4,e5] ∧
   s=(pts.take i).foldl (zcq p) (aw pts.length 0,[1])∧Nw p pts.length ((pts.take i).map (md p)) s∧zu H H'∧H' c=some (.lst (s.1.map V.int))∧H' v=some (.lst (s.2.map V.int)))
   ⟨c,v,_,none,none,rfl,rfl,by rw [dv]; exact zgV mp _,s2,by rw [zn hcv]; exact zc,zc⟩ (fun i σ H' _ ⟨_,_,_,_,_,_,_,_,s3,_⟩=>s3.seq hS) ?_ ?_⟩
  ·rintro i y σ H1 hy ⟨c,v,s,e4,e5,rfl,hs,nw,s1,h1c,h1v⟩
   obtain⟨b,rfl,hbi⟩:=zX hy
   obtain⟨hi,_⟩:=aA.mp hbi
   obtain⟨⟨x,y⟩,hq⟩:∃ q,pts[i]? = some q:=⟨pts[i]'(by lia),by simp⟩
   have hbq:=s1 _ _ (hb i b _ hbi hq)
   have hsp:=zeq hq
   have hp':=hp
   rw [hsp,au,aS] at hp'
   have hap:=hp'.apart
   obtain⟨x0,x1,m0,m1⟩:=hp.rg _ (aE.mpr ⟨_,aG hq,rfl⟩)
   obtain⟨y0,y1⟩:=hyr _ (aG hq)
   dsimp only [md] at x0 x1 m0 m1 y0 y1
   have hil:i < pts.length:=by lia
   have htl:(pts.take i).length=i:=by rw [aD]; lia
   have nw2:=ziB mp nw (q:=md p (x,y)) (by rw [ab,htl]; exact hil) x0 x1 m0 m1 hap
   rw [zhm] at nw2
   obtain⟨hg0,hg1⟩:=ziA mp nw (q:=(x,y)) x0 x1 (fun a ha=>⟨(hap a ha).1,(hap a ha).2.1,(hap a ha).2.2.1⟩)
   dsimp only at hg0 hg1
   have hst:zcq p s (x,y)=(ad p ((y - zp p x s.1)*inv p (zp p x s.2) % p) s.1 s.2,zbL p x s.2):=rfl
   rw [hst] at nw2
   have l1:=nw.lc
   have l2:=nw.lv
   rw [ab,htl] at l2
   refine⟨b,_,rfl,SqT.of hbq,rfl,_,_,rfl,_,_,rfl,rfl,?_⟩
   refine⟨_,rfl,_,rfl,_,rfl,_,rfl,_,rfl,by show 2≤sizeLine; lia,fun tt ht=>?_⟩
   have t1:=zb (o:=.tup [.int x,.int y]) ht
   refine⟨p,x,y,c,v,tt,s.1,s.2,rfl,t1 _ _ h1c,t1 _ _ h1v,zc,mp,x0,x1,y0,y1,hg0,hg1,by lia,by lia,fun l H3 hl s3 h3l=>?_⟩
   have s4:=t1.trans s3
   refine⟨_,rfl,_,rfl,_,rfl,p,x,v,s.2,rfl,s4 _ _ h1v,by lia,p0,by lia,by lia,fun l2 H4 hl2 s5 h4l=>?_⟩
   refine⟨l,l2,zcq p s (x,y),_,_,rfl,?_,?_,(s1.trans s4).trans s5,?_,?_⟩
   ·rw [take_snoc hq,List.foldl_append,← hs]
    rfl
   ·rw [take_snoc hq,hst,au]
    exact nw2
   ·rw [hst]
    exact s5 _ _ h3l
   ·rw [hst]
    exact h4l
  ·rintro σ H1 ⟨c,v,s,e4,e5,rfl,hs,nw,s1,h1c,h1v⟩
   rw [ab,hbl,bA] at hs
   refine⟨_,rfl,c,_,rfl,.inl ⟨SqL.of h1c,fun l hl=>q l _ (s1.free hl) (s1.trans (zb hl)) ?_⟩⟩
   rw [zc,hs,zoN]
   rfl
theorem zaV:FnScope ["code","row","p","k","places"] ["code","row"] (zh zaK):=⟨rfl,rfl,rfl,by decide +kernel,rfl,by decide +kernel,by decide +kernel⟩
theorem zbu {fd:FuncData} (T:Txt K mg t) (F:Fun K "heard_points" "heard_points" zaK t.heard_points fd):FnOk P w K mg base CX0 1 t.heard_points fd ["code","row"] (zm8 K):=by
 refine F.ok zaV (fun vs H Q E h=>?_) (fun cdv A outer s H vs Q E hr h=>?_)
 ·obtain⟨c,tt,r,p,k,pl,rw,rfl,_⟩:=h
  rfl
 ·obtain⟨c,tt,r,p,k,pl,rw,rfl,hc,hr',hn,q⟩:=h
  refine⟨_,#[zd,#[zbD,#[pvx,0],#[za2,#[zj,#[zg,2,zaV.nd,(aq rfl)],#[zj,#[zg,3,zaV.nd,(aq rfl)],#[zj,#[zg,4,zaV.nd,(aq rfl)],#[zL]]]]]],by exact #[zm,#[zG,#[zO,(CompSc.of (N':=["place","entry"]) (ix:=[none,none]) (zh zaK) ["code","row","p","k","places"] rfl rfl (by decide +kernel)),#[zaW,#[zy,#[zy,#[zay]]]],(@zk1 _ _ _ _ _ _ _ _ _ rfl T.zip_ #[za,#[pvx,4],#[za,#[pvx,1],#[ze]]] (by rfl) (by rfl)),(fun _ _ _ _=>#[zau,(K),2,#[zj,#[zg,0,(show (["place","entry"]:List Str).Nodup by decide +kernel),(aq rfl)],#[zj,#[zg,1,(show (["place","entry"]:List Str).Nodup by decide +kernel),(aq rfl)],#[zL]]]]),(fun _ _ _ _=>#[zc4,#[zR,(@zmx _),#[pvx,1],#[zdo],(zac _)]]),(fun _ _ _ _=>#[zax,#[za,#[pvx,0],#[za,#[pvx,1],#[ze]]]])]]]],?_⟩
  have hsl:=aX
  have hl:=hr'.len
  refine⟨_,rfl,c,_,rfl,SqT.of hc.1,rfl,_,_,rfl,_,_,rfl,_,_,rfl,rfl,?_⟩
  refine⟨_,rfl,_,rfl,tt,r,_,_,rfl,SqT.of hc.2,hr'.at',zS (n:=pl.length) (fun i ys H'=>zu H H'∧∃ us:List Addr,ys=us.map V.ref∧PtB H' us (hps (pl.take i) (rw.take i))) ⟨fun _ _ e=>e,[],rfl,.nil⟩ ?_ ?_ ?_ ?_⟩
  ·rintro i ys H3 hi ⟨s3,_⟩
   obtain⟨o,ho⟩:∃ o,rw[i]? = some o:=⟨rw[i]'(by lia),by simp⟩
   exact⟨_,_,.int pl[i],enc o,SqT.of (s3 _ _ hc.2),s3.seq hr'.at',by rw [ah,aj hi]; rfl,by rw [ah,ho]; rfl⟩
  ·rintro ys H3 ⟨s3,_⟩
   exact⟨_,_,SqT.of (s3 _ _ hc.2),s3.seq hr'.at',.inl (by rw [ab])⟩
  ·rintro i xx ys H3 H4 hi ⟨s3,us,rfl,hus⟩ ⟨T,u,v,hT,rfl,rfl,hu,hv⟩
   obtain⟨x,rfl,hx⟩:=zag (hu _ (SqT.of (s3 _ _ hc.2)))
   obtain⟨o,rfl,ho⟩:=ziE (hv _ (s3.seq hr'.at'))
   have v4:=zb (o:=.tup [.int x,enc o]) hT
   have s4:=s3.trans v4
   have hs:=zeG hx ho
   have hul:=hus.length
   have hb:=zby (pl.take i) (rw.take i)
   rw [aD] at hb
   refine⟨T,_,rfl,SqT.of zc,rfl,_,_,rfl,_,_,rfl,rfl,?_⟩
   refine⟨_,rfl,rfl,_,rfl,?_⟩
   cases o with
   | none =>
    refine zjA ⟨s4,us,rfl,?_⟩
    rw [hs,bD]
    exact hus.same v4
   | some z =>
    refine zpX ⟨_,rfl,_,rfl,by show 2≤sizeLine; lia,fun T2 hT2=>⟨by rw [ab]; lia,s4.trans (zb hT2),us++[T2],by rw [au]; rfl,?_⟩⟩
    rw [hs]
    exact bR (hus.same (v4.trans (zb hT2))) zc
  ·rintro ys H3 D ⟨s3,us,rfl,hus⟩ hD
   rw [bA,aM (by lia)] at hus
   exact q D us _ (s3.free hD) (s3.trans (zb hD)) zc (hus.same (zb hD))
end
end My
end
section
namespace My
open PySem L2 PyProof.Rows
section
variable {P:Program} {w:World} {K:ai} {mg:Str→Option Value} {base:Heap} {t:Adr}
theorem zie:FnScope ["p","vector","times","other"] ["p","vector","times","other"] (zh zb5):=⟨rfl,rfl,rfl,by decide +kernel,rfl,by decide +kernel,by decide +kernel⟩
theorem zif {fd:FuncData} (T:Txt K mg t) (F:Fun K "without" "without" zb5 t.without fd):FnOk P w K mg base CX0 1 t.without fd ["p","vector","times","other"] (zh7 K):=by
 refine F.ok zie (fun vs H Q E h=>?_) (fun cdv A outer s H vs Q E hr h=>?_)
 ·obtain⟨p,tm,a,b,as,bs,rfl,_⟩:=h
  rfl
 ·obtain⟨p,tm,a,b,as,bs,rfl,ha,hb,hl,hn,p0,t0,t1,q⟩:=h
  refine⟨_,#[zm,#[zG,#[zO,(CompSc.of (N':=["number","less","times","p"]) (ix:=[none,none,some 2,some 0]) (zh zb5) ["p","vector","times","other"] rfl rfl (by decide +kernel)),#[zaW,#[zy,#[zy,#[zay]]]],#[zdW,T.zip_,#[za,#[pvx,1],#[za,#[pvx,3],#[ze]]]],(fun _ _ _ _=>#[zau,(K),2,#[zj,#[zg,0,(show (["number","less","times","p"]:List Str).Nodup by decide +kernel),(aq rfl)],#[zj,#[zg,1,(show (["number","less","times","p"]:List Str).Nodup by decide +kernel),(aq rfl)],#[zL]]]]),(fun _ _ _ _=>#[zt]),(fun _ _ _ _=>#[zi,#[zC],#[zi,#[zaR],#[pvx,0],#[zi,#[zT],#[pvx,2],#[pvx,1]]],#[pvx,3]])]]],?_⟩
  have hsl:=aX
  refine⟨_,rfl,_,rfl,a,b,_,_,rfl,SqL.of ha,SqL.of hb,zfx (n:=as.length) (f:=fun x y=>(x - tm*y) % p) ha hb (ag _) (by lia) (.inl (ag _)) (by lia) ?_ ?_⟩
  ·intro j u w H6 T R B hu hv s6 hT hR
   refine gY2 (SqT.of zc) ?_
   exact⟨_,rfl,_,rfl,_,rfl,_,_,rfl,rfl,.inl ⟨by lia,by lia⟩,_,_,rfl,rfl,_,rfl,_,_,rfl,rfl,p0,hR⟩
  ·intro D H6 s6 hD
   exact q D _ (s6.free hD) (s6.trans (zb hD)) zc
def zc0 (K:ai):Sp:=fun vs H Q _=>∃ (p:Int) (a:Addr) (ls:List Addr) (vv:List (List Int)) (L:Nat),vs = [.int p,.ref a]∧H a=some (.lst (ls.map V.ref))∧LsA H ls vv∧vv≠[]∧vv.length≤200∧L≤800∧(∀ v∈vv,v.length=L∧∀ c∈v,0≤c∧c < p)∧p∈zo ∧
 (∀ H',zu H H'→Indep p L vv→Q .non H')∧(∀ (l:Addr) (c:List Int) (m:Nat) (H':Hp),H l=none→zu H H'→H' l=some (.lst (c.map V.int))→IsP p (m+1) c→m < vv.length→gl c m=1→Dep p L vv c→znr p L m vv→Q (.ref l) H')
theorem zB:FnScope ["p","vectors","length","cleared","count","vector","whole","lead","other","leads","factor"] ["p","vectors"] (zh zaj):=⟨rfl,rfl,rfl,by decide +kernel,rfl,by decide +kernel,by decide +kernel⟩
theorem zbO {fd:FuncData} (T:Txt K mg t) (F:Fun K "first_relation" "first_relation" zaj t.first_relation fd):FnOk P w K mg base CX0 2 t.first_relation fd ["p","vectors"] (zc0 K):=by
 obtain⟨fd_without,F_without,b_without⟩:=T.f_without
 have G_without:=zif (P:=P) (w:=w) (base:=base) T F_without
 obtain⟨fd_inverse,F_inverse,b_inverse⟩:=T.f_inverse
 have G_inverse:=zeP (P:=P) (w:=w) (base:=base) T F_inverse
 refine F.ok zB (fun vs H Q E h=>?_) (fun cdv A outer s H vs Q E hr h=>?_)
 ·obtain⟨p,a,ls,vv,L,rfl,_⟩:=h
  rfl
 ·obtain⟨p,a,ls,vv,L,rfl,ha,hls,hne,hN,hL,hvv,hp,qn,qs⟩:=h
  refine⟨_,#[zd,#[zl,2,zB.nd,(aq rfl),#[zA,#[zI],T.len_,cq,#[za,#[zH,#[zD],#[pvx,1],#[zf]],#[ze]]]],by exact #[zd,#[zl,3,zB.nd,(aq rfl),#[zY,#[ze]]],by exact #[zd,#[zbc,bH,(@zkG _ _ _ _ _ _ _ _ rfl T.enumerate_ #[za,#[pvx,1],#[ze]] (by rfl)),#[za2,#[zj,#[zg,4,zB.nd,(aq rfl)],#[zj,#[zg,5,zB.nd,(aq rfl)],#[zL]]]],#[zd,#[zl,6,zB.nd,(bP rfl),#[zi,#[zcT],#[pvx,5],#[zi,#[zfR],#[zY,#[za,#[zf],#[ze]]],#[zA,#[zI],T.len_,cq,#[za,#[pvx,1],#[ze]]]]]],by exact #[zd,#[zbD,#[zf],(@zn9 _ _ _ _ _ _ _ #[pvx,6] #[zi,#[zK],#[pvx,2],#[pvx,4]] set_list (by intro _; rfl))],by exact #[zd,#[zbc,bH,#[zM,#[pvx,3]],#[za2,#[zj,#[zg,7,zB.nd,(aq rfl)],#[zj,#[zg,8,zB.nd,(aq rfl)],#[zL]]]],#[zm,#[zl,6,zB.nd,(bP rfl),#[zq,G_without,(hr.mono (by decide)),T.m_without,F_without.kp,b_without,#[zF],#[za,#[pvx,0],by exact #[za,#[pvx,6],#[za,#[zH,#[zD],#[pvx,6],#[pvx,7]],#[za,#[pvx,8],#[ze]]]]]]]]],by exact #[zd,#[zaz,9,zB.nd,(aq rfl),(CompSc.of (N':=["at","whole"]) (ix:=[none,some 6]) (zh zaj) ["p","vectors","length","cleared","count","vector","whole","lead","other","leads","factor"] rfl rfl (by decide +kernel)),#[zZ],#[zad,T.range_,#[za,#[pvx,2],#[ze]]],(fun _ _ _ _=>#[zg,0,(show (["at","whole"]:List Str).Nodup by decide +kernel),(aq rfl)]),(fun _ _ _ _=>#[zc4,#[zR,#[zkx],#[zH,#[za4,(K)],#[pvx,1],#[pvx,0]],#[zf],(zac _)]]),(fun _ _ _ _=>#[pvx,0])],by exact #[zd,#[zbj,(@zn6 _ _ _ _ (@zky _ _ _ #[pvx,9] (fun _=>rfl))),#[zm,#[zG,#[za3,zca,#[pvx,6],#[zbf,#[pvx,2]],#[zbf,#[zi,#[zK],#[zi,#[zK],#[pvx,2],#[pvx,4]],#[zf]]]]]],#[zap]],by exact #[zd,#[zl,10,zB.nd,(bP rfl),#[zq,G_inverse,(hr.mono (by decide)),T.m_inverse,F_inverse.kp,b_inverse,#[zF],#[za,#[pvx,0],#[za,#[zH,#[zD],#[pvx,6],#[zH,#[zD],#[pvx,9],#[zf]]],#[ze]]]]],by exact #[zm,#[zcy,#[zfp,cp,dn,dq,#[zb0],#[pvx,3],#[za,#[zax,#[za,#[zH,#[zD],#[pvx,9],#[zf]],#[za,#[zO,(CompSc.of (N':=["number","factor","p"]) (ix:=[none,some 10,some 0]) (zh zaj) ["p","vectors","length","cleared","count","vector","whole","lead","other","leads","factor"] rfl rfl (by decide +kernel)),#[zZ],#[zM,#[pvx,6]],(fun _ _ _ _=>#[zg,0,(show (["number","factor","p"]:List Str).Nodup by decide +kernel),(aq rfl)]),(fun _ _ _ _=>#[zt]),(fun _ _ _ _=>#[zi,#[zC],#[zi,#[zT],#[pvx,0],#[pvx,1]],#[pvx,2]])],#[ze]]]],#[ze]]]]]]]]]]]],by exact #[zm,#[zG,#[zdo]]]]]],?_⟩
  have hsl:=aX
  have rp:=zr hp
  have p0:0 < p:=by lia
  have hll:=hls.length
  have hN0:0 < vv.length:=jB.mpr hne
  obtain⟨l0,hl0⟩:∃ l0,ls[0]? = some l0:=⟨ls[0]'(by lia),by simp⟩
  obtain⟨v0,hv0,hv0a⟩:=Paired.get hls hl0
  have hv0L:=(hvv v0 (aG hv0)).1
  refine⟨_,rfl,a,_,_,.ref l0,rfl,rfl,SqL.of ha,zaG (j:=0) (by rw [ah,hl0]; rfl),l0,_,rfl,.inl (SqL.of hv0a),?_⟩
  rw [ab,hv0L]
  refine⟨by show 0≤sizeLine; lia,fun ca hca=>?_⟩
  have u1:=zb (o:=.lst []) hca
  refine⟨_,rfl,a,_,rfl,SqL.of (u1 _ _ ha),zhR (n:=vv.length) (fun i σ H'=>∃ (cs:List Addr) (cl:List (Nat×List Int)) (e4 e5 e6 e7 e8 e9 e10:Option V),σ = [some (.int p),some (.ref a),some (.int (L:Int)),some (.ref ca),e4,e5,e6,e7,e8,e9,e10]∧zu H H'∧H' ca=some (.lst (cs.map V.ref))∧ClA ca H' cs cl∧Ech p L vv.length i vv cl)
   ⟨[],[],none,none,none,none,none,none,none,rfl,u1,zc,.nil,Ech.start p L vv.length vv⟩ ?_ ?_ ?_ ?_⟩
  ·rintro i σ H1 hi ⟨cs,cl,e4,e5,e6,e7,e8,e9,e10,rfl,s1,_⟩
   exact⟨_,.ref (ls[i]'(by lia)),SqL.of (s1 _ _ ha),by rw [ah,aj (by lia)]; rfl⟩
  ·rintro σ H1 ⟨cs,cl,e4,e5,e6,e7,e8,e9,e10,rfl,s1,_⟩
   exact⟨_,SqL.of (s1 _ _ ha),by rw [ab]; lia⟩
  ·rintro i x σ H1 H2 hi ⟨cs,cl,e4,e5,e6,e7,e8,e9,e10,rfl,s1,h1c,hcl,E⟩ ⟨T,v,hT,rfl,rfl,hv⟩
   obtain⟨lv,rfl,hlv⟩:=zX (hv _ (SqL.of (s1 _ _ ha)))
   obtain⟨vec,hvec,hva⟩:=Paired.get hls hlv
   obtain⟨hvl,hvr⟩:=hvv vec (aG hvec)
   have t2:=zb (o:=.tup [.int (i:Int),.ref lv]) hT
   refine⟨T,_,rfl,SqT.of zc,rfl,_,_,rfl,_,_,rfl,rfl,?_⟩
   have s2:=s1.trans t2
   have h2c:=t2 _ _ h1c
   have hcl2:=hcl.same t2
   generalize upd H1 T (.tup [.int (i:Int),.ref lv])=H2 at t2 s2 h2c hcl2 ⊢
   refine⟨_,rfl,by show 1≤sizeLine; lia,fun z hz=>⟨_,rfl,a,_,rfl,.inl (SqL.of ((s2.trans (zb hz)) _ _ ha)),z,_,[.int 0],rfl,rfl,zc,by rw [ab]; lia,by rw [ab]; lia,by rw [ab]; show 1*_≤sizeLine; lia,fun y hy=>?_⟩⟩
   rw [ab,zc6,hll,bf]
   have t3:=(zb (o:=.lst [.int 0]) hz).trans (zb (o:=.lst ((aw vv.length (0:Int)).map V.int)) hy)
   have h3y:upd (upd H2 z (.lst [.int 0])) y (.lst ((aw vv.length (0:Int)).map V.int)) y=some (.lst ((aw vv.length (0:Int)).map V.int)):=zc
   generalize upd (upd H2 z (.lst [.int 0])) y (.lst ((aw vv.length (0:Int)).map V.int))=H3 at t3 h3y ⊢
   refine⟨lv,y,_,_,rfl,rfl,(s2.trans t3) _ _ hva,h3y,by rw [ab,ab,aT]; lia,fun wl hwl=>?_⟩
   rw [← au]
   have t4:=zb (o:=.lst ((vec++aw vv.length (0:Int)).map V.int)) hwl
   refine⟨_,rfl,_,rfl,_,rfl,_,_,rfl,rfl,wl,_,_,L+i,rfl,rfl,zc,?_,?_⟩
   ·rw [← fA]
    exact zmL (by rw [ab,ao,aT]; lia)
   have ew:((vec++aw vv.length (0:Int)).map V.int).set (L+i) (.int 1)=((vec++aw vv.length (0:Int)).set (L+i) 1).map V.int:=by rw [List.map_set]
   rw [ew,zms]
   have t4:=t3.trans (zb (o:=.lst (((vec++aw vv.length (0:Int)).set (L+i) 1).map V.int)) hwl)
   have h4w:upd H3 wl (.lst (((vec++aw vv.length (0:Int)).set (L+i) 1).map V.int)) wl=some (.lst (((vec++aw vv.length (0:Int)).set (L+i) 1).map V.int)):=zc
   have W0:=zhk hp (N:=vv.length) hi hvec hvl hvr
   have hwc:wl≠ca:=fun e=>by
    have:=t3 _ _ h2c
    rw [← e,hwl] at this
    cases this
   generalize upd H3 wl (.lst (((vec++aw vv.length (0:Int)).set (L+i) 1).map V.int))=H4 at t4 h4w ⊢
   generalize (vec++aw vv.length (0:Int)).set (L+i) 1=w0 at W0 h4w ⊢
   have s4:=s2.trans t4
   have h4c:=t4 _ _ h2c
   have hcl4:=hcl2.same t4
   have hcll:=hcl4.length
   refine⟨_,rfl,ca,rfl,⟨_,SqL.of h4c⟩,zbW (K:=K) (a:=ca) (xs:=cs.map V.ref) (fun j σ H'=>∃ (wa:Addr) (w:List Int) (e7 e8:Option V),σ = [some (.int p),some (.ref a),some (.int (L:Int)),some (.ref ca),some (.int (i:Int)),some (.ref lv),some (.ref wa),e7,e8,e9,e10]∧zu H4 H'∧H' wa=some (.lst (w.map V.int))∧wa≠ca∧Wh p L vv.length i vv (cl.take j) w)
    ⟨wl,w0,_,_,rfl,fun _ _ e=>e,h4w,hwc,W0⟩ (fun j σ H' _ ⟨_,_,_,_,_,s5,_⟩=>SqL.of (s5 _ _ h4c)) ?_ ?_⟩
   ·rintro j y σ H5 hy ⟨wa,w,e7,e8,rfl,s5,h5w,hwa,W⟩
    obtain⟨b,rfl,hb⟩:=zX hy
    obtain⟨aa,haa,oa,hb1,hb2,hb3⟩:=Paired.get hcl4 hb
    obtain⟨o1,o2,o3,_⟩:=E.one j aa haa
    refine⟨b,_,rfl,SqT.of (s5 _ _ hb1),rfl,_,_,rfl,_,_,rfl,rfl,?_⟩
    have hg:=zeH p0 W.rg aa.1
    refine⟨_,rfl,_,rfl,_,rfl,_,rfl,wa,_,_,.int (gl w aa.1),rfl,rfl,SqL.of h5w,zaG (by rw [ah,zbt (by rw [W.ln]; lia)]; rfl),_,rfl,p,gl w aa.1,wa,oa,w,aa.2,rfl,h5w,s5 _ _ hb2,by rw [W.ln,o2],by rw [W.ln]; lia,p0,hg.1,by lia,fun l H6 hl s6 h6l=>?_⟩
    refine⟨l,_,_,_,rfl,s5.trans s6,h6l,fun e=>?_,zi1 hp E hi haa W⟩
    have:=s5 _ _ h4c
    rw [← e,hl] at this
    cases this
   ·rintro σ H5 ⟨wa,w,e7,e8,rfl,s5,h5w,hwa,W⟩
    rw [ab,hcll,bA] at W
    have h5c:=s5 _ _ h4c
    have hcl5:=hcl4.same s5
    have s15:=s4.trans s5
    refine⟨_,rfl,_,rfl,by lia,by lia,?_⟩
    rw [bf]
    refine zS (n:=L) (fun j ys H'=>H'=H5∧ys=(((aH j).filter fun m=>decide (gl w m≠0)).map fun m:Nat=>(m:Int)).map V.int) ⟨rfl,rfl⟩ (fun j ys H' hj _=>hj) (fun ys H' _=>ag _) ?_ ?_
    ·rintro j xx ys H6 H7 hj ⟨rfl,rfl⟩ ⟨rfl,rfl⟩
     have hgj:(w.map V.int)[j]? = some (.int (gl w j)):=by rw [ah,zbt (by rw [W.ln]; lia)]; rfl
     refine⟨_,rfl,_,rfl,wa,_,_,.int (gl w j),rfl,rfl,SqL.of h5w,by rw [dH]; exact zaG hgj,rfl,_,rfl,?_⟩
     have hfl:=eS (fun m=>decide (gl w m≠0)) (aH j)
     rw [aV] at hfl
     rw [cg,eE,au,au]
     by_cases h0:gl w j=0
     ·refine zbq (fun h=>absurd h (by rw [h0]; simp)) (fun _=>⟨rfl,?_⟩)
      rw [eB (by simpa using h0),iM,fH,fH,bD]
     ·refine zbq (fun _=>⟨_,rfl,zaa (by rw [ab,ab]; lia),rfl,?_⟩) (fun h=>absurd (by simpa using h0) h)
      rw [eA (by simpa using h0),iM,dH]
      rfl
    ·rintro ys H6 D ⟨rfl,rfl⟩ hD
     have t7:=zb (o:=.lst ((((aH L).filter fun m=>decide (gl w m≠0)).map fun m:Nat=>(m:Int)).map V.int)) hD
     have h7D:upd H6 D (.lst ((((aH L).filter fun m=>decide (gl w m≠0)).map fun m:Nat=>(m:Int)).map V.int)) D=_:=zc
     generalize upd H6 D (.lst ((((aH L).filter fun m=>decide (gl w m≠0)).map fun m:Nat=>(m:Int)).map V.int))=H7 at t7 h7D ⊢
     have s7:=s15.trans t7
     have h7w:=t7 _ _ h5w
     have h7c:=t7 _ _ h5c
     have hcl7:=hcl5.same t7
     refine⟨_,rfl,_,.inl ⟨_,SqL.of h7D,rfl⟩,?_⟩
     cases hlds:(aH L).filter fun m=>decide (gl w m≠0) with
     | nil =>
      refine zbq (fun _=>?_) (fun h=>absurd rfl h)
      have hz:∀ x,x < L→gl w x=0:=fun x hx=>by
       have:=iZ.mp hlds x (bd.mpr hx)
       simpa using this
      refine⟨_,rfl,_,rfl,_,rfl,_,rfl,_,rfl,_,_,rfl,rfl,_,_,rfl,rfl,_,rfl,wa,_,rfl,SqL.of h7w,fun l hl=>?_⟩
      have ec:za1 (w.map V.int) (some (L:Int)) (some ((L:Int)+(i:Int)+1))=((w.drop L).take (i+1)).map V.int:=by
       rw [show (L:Int)+(i:Int)+1=((L+i+1:Nat):Int) by lia,zng (by rw [ab,W.ln]; lia),← gP,← dQ,show L+i+1 - L=i+1 by lia]
      rw [ec]
      obtain⟨d1,d2,d3⟩:=zlq W hi hz
      exact qs l _ i _ (s7.free hl) (s7.trans (zb hl)) zc d1 hi d2 d3 (zns (fC hi) E)
     | cons ld lds =>
      refine zbq (fun h=>absurd h (by simp)) (fun _=>?_)
      have hm:ld∈(aH L).filter fun m=>decide (gl w m≠0):=by rw [hlds]; exact aF
      (obtain⟨hm1,hm2⟩:=cw.mp hm)
      have hld:ld < L:=bd.mp hm1
      have hg0:gl w ld≠0:=by simpa using hm2
      obtain⟨g0,g1⟩:=zeH p0 W.rg ld
      rw [hlds] at h7D
      have hat0:atI ((((ld :: lds).map fun m:Nat=>(m:Int))).map V.int) 0=some (.int (ld:Int)):=zaG (j:=0) rfl
      refine⟨_,rfl,_,rfl,_,rfl,D,_,_,.int (ld:Int),rfl,rfl,SqL.of h7D,hat0,wa,_,_,.int (gl w ld),rfl,rfl,SqL.of h7w,zaG (by rw [ah,zbt (by rw [W.ln]; lia)]; rfl),p,gl w ld,rfl,hp,g0,g1,?_⟩
      refine⟨_,rfl,.inl ⟨rfl,_,SqL.of h7c⟩,_,rfl,D,_,_,.int (ld:Int),rfl,rfl,SqL.of h7D,hat0,_,rfl,wa,rfl,⟨_,SqL.of h7w⟩,zbB (fs:=(w.map fun x=>x*inv p (gl w ld) % p).map V.int) (SqL.of h7w) (by rw [ab,ab,ab]) (by rw [ab,W.ln]; lia) ?_ ?_⟩
      ·intro j x y R B hx hy hR
       obtain⟨n,rfl,hn⟩:=zag hx
       obtain⟨n',rfl,hn'⟩:=zag hy
       rw [ah,hn] at hn'
       cases hn'
       have hnr:=W.rg n (aG hn)
       exact gY ⟨_,rfl,_,rfl,_,_,rfl,rfl,.inl ⟨by lia,by lia⟩,_,rfl,_,_,rfl,rfl,p0,hR⟩
      ·intro D2 hD2
       have t8:=zb (o:=.lst ((w.map fun x=>x*inv p (gl w ld) % p).map V.int)) hD2
       have h8D:upd H7 D2 (.lst ((w.map fun x=>x*inv p (gl w ld) % p).map V.int)) D2=some (.lst ((w.map fun x=>x*inv p (gl w ld) % p).map V.int)):=zc
       have hDc:D2≠ca:=fun e=>by rw [e,h7c] at hD2; cases hD2
       generalize upd H7 D2 (.lst ((w.map fun x=>x*inv p (gl w ld) % p).map V.int))=H8 at t8 h8D ⊢
       refine⟨by show 2≤sizeLine; lia,fun tb htb=>?_⟩
       have t9:=zb (o:=.tup [.int (ld:Int),.ref D2]) htb
       have h9t:upd H8 tb (.tup [.int (ld:Int),.ref D2]) tb=some (.tup [.int (ld:Int),.ref D2]):=zc
       have h9c:=t9 _ _ (t8 _ _ h7c)
       have s9:=(s7.trans t8).trans t9
       have hcl9:=(hcl7.same t8).same t9
       have h9D:=t9 _ _ h8D
       generalize upd H8 tb (.tup [.int (ld:Int),.ref D2])=H9 at t9 h9t h9c s9 hcl9 h9D ⊢
       have hln:=E.ln
       refine⟨ca,_,_,rfl,rfl,h9c,by rw [ab,hcll,hln]; lia,cs++[tb],_,_,_,_,_,_,_,_,rfl,zae s9 hca,by rw [zc,au]; rfl,bR (hcl9.put h9c) ⟨D2,?_,?_,hDc⟩,zhl hp E hi W hld hg0⟩
       ·rw [zn (fun e=>by rw [e,h9c] at h9t; cases h9t)]
        exact h9t
       ·rw [zn hDc]
        exact h9D
  ·rintro σ H1 ⟨cs,cl,e4,e5,e6,e7,e8,e9,e10,rfl,s1,h1c,hcl,E⟩
   exact qn H1 s1 (zlp E)
theorem zdx:FnScope ["p","left","points"] ["p","left","points"] (zh zaD):=⟨rfl,rfl,rfl,by decide +kernel,rfl,by decide +kernel,by decide +kernel⟩
theorem zdy {fd:FuncData} (T:Txt K mg t) (F:Fun K "times_entries" "times_entries" zaD t.times_entries fd):FnOk P w K mg base CX0 4 t.times_entries fd ["p","left","points"] (zdt K):=by
 obtain⟨fd_through,F_through,b_through⟩:=T.f_through
 have G_through:=zeR (P:=P) (w:=w) (base:=base) T F_through
 obtain⟨fd_value_at,F_value_at,b_value_at⟩:=T.f_value_at
 have G_value_at:=zcx (P:=P) (w:=w) (base:=base) T F_value_at
 refine F.ok zdx (fun vs H Q E h=>?_) (fun cdv A outer s H vs Q E hr h=>?_)
 ·obtain⟨p,la,a,l,bs,pts,rfl,_⟩:=h
  rfl
 ·obtain⟨p,la,a,l,bs,pts,rfl,hla,ha,hB,hn,hp,hP,q⟩:=h
  refine⟨_,#[zm,#[zG,#[zq,G_through,(hr.mono (by decide)),T.m_through,F_through.kp,b_through,#[zF],#[za,#[pvx,0],#[za,#[zO,(CompSc.of (N':=["x","y","p","left"]) (ix:=[none,none,some 0,some 1]) (zh zaD) ["p","left","points"] rfl rfl (by decide +kernel)),#[zaW,#[zy,#[zy,#[zay]]]],#[zM,#[pvx,2]],(fun _ _ _ _=>#[zau,(K),2,#[zj,#[zg,0,(show (["x","y","p","left"]:List Str).Nodup by decide +kernel),(aq rfl)],#[zj,#[zg,1,(show (["x","y","p","left"]:List Str).Nodup by decide +kernel),(aq rfl)],#[zL]]]]),(fun _ _ _ _=>#[zt]),(fun _ _ _ _=>#[zax,#[za,#[pvx,0],#[za,#[zi,#[zT],#[zq,G_value_at,(hr.mono (by decide)),T.m_value_at,F_value_at.kp,b_value_at,#[zF],#[za,#[pvx,2],#[za,#[pvx,3],#[za,#[pvx,0],#[ze]]]]],#[pvx,1]],#[ze]]]])],#[ze]]]]]],?_⟩
  have hsl:=aX
  have rp:=zr hp
  have p0:0 < p:=by lia
  have hbl:=hB.length
  refine⟨_,rfl,_,rfl,a,rfl,⟨_,ha⟩,zS (n:=bs.length) (fun i ys H'=>zu H H'∧∃ us:List Addr,ys=us.map V.ref∧PtB H' us ((pts.take i).map fun a=>(a.1,zp p a.1 l*a.2))) ⟨fun _ _ e=>e,[],rfl,.nil⟩ ?_ ?_ ?_ ?_⟩
  ·rintro i ys H1 hi ⟨s1,_⟩
   exact⟨_,.ref bs[i],s1.seq ha,by rw [ah,aj hi]; rfl⟩
  ·rintro ys H1 ⟨s1,_⟩
   exact⟨_,s1.seq ha,by rw [ab]; exact ag _⟩
  ·rintro i y ys H1 H2 hi ⟨s1,us,rfl,hus⟩ ⟨rfl,hy⟩
   obtain⟨b,rfl,hb⟩:=zX (hy _ (s1.seq ha))
   obtain⟨pt,hpt,hat⟩:=Paired.get hB hb
   obtain⟨x0,x1,y0,y1⟩:=hP.rg pt (aG hpt)
   have hul:=hus.length
   rw [ab,aD] at hul
   have v0:=zaA (x:=pt.1) p0 l
   have v1:=zaB (x:=pt.1) p0 l
   refine gY2 (SqT.of (s1 _ _ hat)) ⟨_,rfl,_,rfl,_,rfl,_,rfl,p,pt.1,la,l,rfl,.inr (zoO s1 hla),p0,by lia,x0,x1,_,rfl,_,_,rfl,rfl,.inl ⟨by lia,by lia⟩,by show 2≤sizeLine; lia,fun z hz=>?_⟩
   refine⟨by rw [ab]; lia,s1.trans (zb hz),us++[z],by rw [au]; rfl,?_⟩
   rw [take_snoc hpt,au]
   exact bR (hus.same (zb hz)) zc
  ·rintro ys H1 D ⟨s1,us,rfl,hus⟩ hD
   rw [hbl,bA] at hus
   have t2:=zb (o:=.lst (us.map V.ref)) hD
   have h2D:upd H1 D (.lst (us.map V.ref)) D=some (.lst (us.map V.ref)):=zc
   have hus2:=hus.same t2
   generalize upd H1 D (.lst (us.map V.ref))=H2 at t2 h2D hus2 ⊢
   refine⟨p,D,_,rfl,hus2.pts h2D,by rw [ab]; lia,hp,by rw [zlz]; exact zcG p0 hP,fun q hq=>?_,fun z H3 hz s3 h3=>q z H3 ((s1.trans t2).free hz) ((s1.trans t2).trans s3) (by rw [zlz] at h3; exact h3)⟩
   obtain⟨b,hb,rfl⟩:=aE.mp hq
   obtain⟨_,_,y0,y1⟩:=hP.rg b hb
   have v0:=zaA (x:=b.1) p0 l
   have v1:=zaB (x:=b.1) p0 l
   dsimp only
   have h1:zp p b.1 l*b.2≤97*97:=Int.mul_le_mul (by lia) (by lia) y0 (by lia)
   have h2:=kJ v0 y0
   lia
theorem zkg:FnScope ["rights","many"] ["rights","many"] (zh s_beyond):=⟨rfl,rfl,rfl,by decide +kernel,rfl,by decide +kernel,by decide +kernel⟩
theorem zkh {fd:FuncData} (T:Txt K mg t) (F:Fun K "beyond" "beyond" s_beyond t.beyond fd):FnOk P w K mg base CX0 1 t.beyond fd ["rights","many"] (zj2 K):=by
 refine F.ok zkg (fun vs H Q E h=>?_) (fun cdv A outer s H vs Q E hr h=>?_)
 ·obtain⟨a,m,bs,rs,rfl,_⟩:=h
  rfl
 ·obtain⟨a,m,bs,rs,rfl,ha,hT,hlen,q⟩:=h
  refine⟨_,#[zm,#[zG,#[ziQ,(CompSc.of (N':=["right","number","many"]) (ix:=[none,none,some 1]) (zh s_beyond) ["rights","many"] rfl rfl (by decide +kernel)),(zcz (js:=[0]) (i:=0) (by decide)),(zcz (js:=[1]) (i:=1) (by decide)),#[zM,#[pvx,0]],(fun _ _ _ _=>#[zg,0,(show (["right","number","many"]:List Str).Nodup by decide +kernel),(aq rfl)]),(fun _ _ _ _=>#[zt]),(fun _ _ _ _=>(@znb _ (K) _ _ _ rfl #[za3,(zly (K:=K) rfl),#[pvx,0],#[zbf,#[pvx,2]],#[zbJ]])),(fun _ _ _ _=>#[zg,1,(show (["right","number","many"]:List Str).Nodup by decide +kernel),(aq rfl)]),(fun _ _ _ _=>#[zt]),(fun _ _ _ _=>#[pvx,1]),(by intros; rfl)]]],?_⟩
  have hsl:=aX
  have hbl:=hT.length
  refine⟨_,rfl,a,rfl,⟨_,ha⟩,zfD (n:=bs.length) (fun i ys H'=>ys=(bey m (rs.take i)).map V.int∧zu H H') ⟨rfl,fun _ _ e=>e⟩ ?_ ?_ ?_ ?_⟩
  ·rintro i ys H1 hi ⟨_,s1⟩
   exact⟨_,.ref bs[i],s1.seq ha,by rw [ah,aj hi]; rfl⟩
  ·rintro ys H1 ⟨_,s1⟩
   exact⟨_,s1.seq ha,by rw [ab]; exact ag _⟩
  ·rintro i y ys H1 H2 hi ⟨rfl,s1⟩ ⟨rfl,hy⟩
   obtain⟨b,rfl,hb⟩:=zX (hy _ (s1.seq ha))
   obtain⟨r,hr',hat⟩:=Paired.get hT hb
   have hlen1:=hlen (i+1)
   rw [zho m hr',ao] at hlen1
   refine gY ⟨_,rfl,_,rfl,_,rfl,b,_,rfl,SqT.of (s1 _ _ hat),fun z H3 t2 h2z=>?_⟩
   have ec:za1 (r.map V.int) (some (m:Int)) none=(r.drop m).map V.int:=by
    unfold za1
    rw [HT.sIx_nat,HT.sIx_none,ab,gP,aM (by rw [bZ,ab]; exact ag _)]
    by_cases h:m≤r.length
    ·rw [cD h]
    ·rw [show min m r.length=r.length by lia,eJ (by rw [ab]; exact ag _),eJ (by rw [ab]; lia)]
   rw [ec] at h2z
   refine⟨z,rfl,⟨_,h2z⟩,zfD (n:=(r.drop m).length) (fun j ys H'=>ys=(bey m (rs.take i)++(r.drop m).take j).map V.int∧H'=H3) ⟨by rw [dv,bD],rfl⟩ ?_ ?_ ?_ ?_⟩
   ·rintro j ys H4 hj ⟨_,rfl⟩
    exact⟨_,.int (r.drop m)[j],h2z,by rw [ah,aj hj]; rfl⟩
   ·rintro ys H4 ⟨_,rfl⟩
    exact⟨_,h2z,by rw [ab]; exact ag _⟩
   ·rintro j y ys H4 H5 hj ⟨rfl,rfl⟩ ⟨rfl,hy⟩
    obtain⟨n,rfl,hn⟩:=zag (hy _ (h2z))
    refine gY ⟨_,rfl,?_,?_,rfl⟩
    ·rw [ab,ao,aD]
     lia
    ·rw [take_snoc hn,← aY,au (l₂:=[n])]
     rfl
   ·rintro ys H4 ⟨rfl,rfl⟩
    exact⟨by rw [bA,zho m hr'],s1.trans t2⟩
  ·rintro ys H1 ⟨rfl,s1⟩ D hD
   rw [hbl,bA] at *
   exact q D _ (s1.free hD) (s1.trans (zb hD)) zc
theorem zl7:FnScope ["polynomial","many"] ["polynomial","many"] (zh zd9):=⟨rfl,rfl,rfl,by decide +kernel,rfl,by decide +kernel,by decide +kernel⟩
theorem zl8 {fd:FuncData} (T:Txt K mg t) (F:Fun K "sized" "sized" zd9 t.sized fd):FnOk P w K mg base CX0 1 t.sized fd ["polynomial","many"] (zlA K):=by
 refine F.ok zl7 (fun vs H Q E h=>?_) (fun cdv A outer s H vs Q E hr h=>?_)
 ·obtain⟨a,m,q,rfl,_⟩:=h
  rfl
 ·obtain⟨a,m,cs,rfl,ha,m1,hlen,q⟩:=h
  refine⟨_,#[zm,#[zG,#[za3,znd,#[zi,(@zne _),#[pvx,0],#[zi,(@znf _),#[zax,#[za,#[zf],#[ze]]],#[pvx,1]]],#[zbJ],#[zbf,#[pvx,1]]]]],?_⟩
  have hsl:=aX
  refine⟨_,rfl,by show 1≤sizeLine; lia,fun t1 ht1=>⟨_,rfl,t1,_,[.int 0],rfl,rfl,zc,by simp,by lia,by lia,by show 1*_≤sizeLine; lia,fun z H1 s1 h1z=>?_⟩⟩
  rw [bf,zc6] at h1z
  have s01:=(zb (o:=.tup [.int 0]) ht1).trans s1
  refine⟨a,z,_,_,rfl,rfl,s01 _ _ ha,h1z,by rw [ab,ab,aT]; lia,fun e=>?_,fun y H2 s2 h2y=>?_⟩
  ·have:=congrArg eI e
   rw [ab,aT] at this
   exact absurd this (by show ¬ m=0; lia)
  rw [← au] at h2y
  refine⟨_,rfl,_,rfl,y,_,rfl,h2y,fun x H3 s3 h3x=>?_⟩
  have ec:za1 ((cs++aw m 0).map V.int) none (some (m:Int))=(szd cs m).map V.int:=by
   unfold za1 szd
   rw [HT.sIx_nat,HT.sIx_none,cZ,dG,ab,ao,aT,cD (by lia),dQ]
  rw [ec] at h3x
  exact q x H3 ((s01.trans s2).trans s3) h3x
theorem zz:FnScope ["code","rows","p","k","places","parts","e","needed","relation","power","left"] ["code","rows"] (zh z0):=⟨rfl,rfl,rfl,by decide +kernel,rfl,by decide +kernel,by decide +kernel⟩
theorem zdz {fd:FuncData} (T:Txt K mg t) (F:Fun K "joint_locator" "joint_locator" z0 t.joint_locator fd):FnOk P w K mg base CX0 5 t.joint_locator fd ["code","rows"] (zdu K):=by
 obtain⟨fd_heard_points,F_heard_points,b_heard_points⟩:=T.f_heard_points
 have G_heard_points:=zbu (P:=P) (w:=w) (base:=base) T F_heard_points
 obtain⟨fd_times_entries,F_times_entries,b_times_entries⟩:=T.f_times_entries
 have G_times_entries:=zdy (P:=P) (w:=w) (base:=base) T F_times_entries
 obtain⟨fd_first_relation,F_first_relation,b_first_relation⟩:=T.f_first_relation
 have G_first_relation:=zbO (P:=P) (w:=w) (base:=base) T F_first_relation
 obtain⟨fd_beyond,F_beyond,b_beyond⟩:=T.f_beyond
 have G_beyond:=zkh (P:=P) (w:=w) (base:=base) T F_beyond
 obtain⟨fd_sized,F_sized,b_sized⟩:=T.f_sized
 have G_sized:=zl8 (P:=P) (w:=w) (base:=base) T F_sized
 refine F.ok zz (fun vs H Q E h=>?_) (fun cdv A outer s H vs Q E hr h=>?_)
 ·obtain⟨c,tt,ra,p,k,pl,rbs,rws,rfl,_⟩:=h
  rfl
 ·obtain⟨c,tt,ra,p,k,pl,rbs,rws,rfl,hc,hra,hrw,hrn,hn,hp,hnd,hpl,hok,k0,k1,q⟩:=h
  refine⟨_,#[zd,#[zbD,#[pvx,0],#[za2,#[zj,#[zg,2,zz.nd,(bP rfl)],#[zj,#[zg,3,zz.nd,(bP rfl)],#[zj,#[zg,4,zz.nd,(aq rfl)],#[zL]]]]]],by exact #[zd,#[zaz,5,zz.nd,(aq rfl),(CompSc.of (N':=["row","code"]) (ix:=[none,some 0]) (zh z0) ["code","rows","p","k","places","parts","e","needed","relation","power","left"] rfl rfl (by decide +kernel)),#[zZ],#[zM,#[pvx,1]],(fun _ _ _ _=>#[zg,0,(show (["row","code"]:List Str).Nodup by decide +kernel),(aq rfl)]),(fun _ _ _ _=>#[zt]),(fun _ _ _ _=>#[zq,G_heard_points,(hr.mono (by decide)),T.m_heard_points,F_heard_points.kp,b_heard_points,#[zF],#[za,#[pvx,1],#[za,#[pvx,0],#[ze]]]])],by exact #[zd,#[zl,6,zz.nd,(bP rfl),#[zku,zhK,#[zf]]],by exact #[zd,#[zl,7,zz.nd,(aq rfl),#[zY,#[ze]]],by exact #[zd,#[zl,8,zz.nd,(aq rfl),#[zdo]],by exact #[zd,#[zed,bH,#[zR,(@zof _),#[pvx,8],#[zdo],(zac _)],#[zd,#[zfP,6,zz.nd,(bP rfl),#[zf],zij],by exact #[zd,(zh6 #[zl,9,zz.nd,(bP rfl),#[zi,(@zfH _ (K) rfl),#[zi,(@zna _),#[zax,#[za,#[zf],#[ze]]],#[pvx,6]],#[zax,#[za,#[zf],#[ze]]]]]),by exact #[zd,#[zcy,#[zfp,cp,dn,dq,#[zb0],#[pvx,7],#[za,#[zO,(CompSc.of (N':=["points","p","power"]) (ix:=[none,some 2,some 9]) (zh z0) ["code","rows","p","k","places","parts","e","needed","relation","power","left"] rfl rfl (by decide +kernel)),#[zZ],#[zM,#[pvx,5]],(fun _ _ _ _=>#[zg,0,(show (["points","p","power"]:List Str).Nodup by decide +kernel),(aq rfl)]),(fun _ _ _ _=>#[zt]),(fun _ _ _ _=>#[zq,G_times_entries,(hr.mono (by decide)),T.m_times_entries,F_times_entries.kp,b_times_entries,#[zF],#[za,#[pvx,1],#[za,#[pvx,2],#[za,#[pvx,0],#[ze]]]]])],#[ze]]]],by exact #[zm,#[zl,8,zz.nd,(aq rfl),#[zq,G_first_relation,(hr.mono (by decide)),T.m_first_relation,F_first_relation.kp,b_first_relation,#[zF],#[za,#[pvx,2],#[za,#[zO,(CompSc.of (N':=["rights","k","e"]) (ix:=[none,some 3,some 6]) (zh z0) ["code","rows","p","k","places","parts","e","needed","relation","power","left"] rfl rfl (by decide +kernel)),#[zZ],#[zM,#[pvx,7]],(fun _ _ _ _=>#[zg,0,(show (["rights","k","e"]:List Str).Nodup by decide +kernel),(aq rfl)]),(fun _ _ _ _=>#[zt]),(fun _ _ _ _=>#[zq,G_beyond,(hr.mono (by decide)),T.m_beyond,F_beyond.kp,b_beyond,#[zF],#[za,#[pvx,0],#[za,#[zi,#[zK],#[pvx,1],#[pvx,2]],#[ze]]]])],#[ze]]]]]]]]]],by exact #[zd,#[zl,10,zz.nd,(bP rfl),#[zq,G_sized,(hr.mono (by decide)),T.m_sized,F_sized.kp,b_sized,#[zF],#[za,#[zam,#[zah],T.tuple_,fj,#[za,#[pvx,8],#[ze]]],#[za,#[zi,#[zK],#[pvx,6],#[zf]],#[ze]]]]],by exact #[zm,#[zG,#[zax,#[za,#[pvx,6],#[za,#[pvx,10],#[za,#[zO,(CompSc.of (N':=["points","p","left","k","e"]) (ix:=[none,some 2,some 10,some 3,some 6]) (zh z0) ["code","rows","p","k","places","parts","e","needed","relation","power","left"] rfl rfl (by decide +kernel)),#[zZ],#[zM,#[pvx,5]],(fun _ _ _ _=>#[zg,0,(show (["points","p","left","k","e"]:List Str).Nodup by decide +kernel),(aq rfl)]),(fun _ _ _ _=>#[zt]),(fun _ _ _ _=>#[zq,G_sized,(hr.mono (by decide)),T.m_sized,F_sized.kp,b_sized,#[zF],#[za,#[zq,G_times_entries,(hr.mono (by decide)),T.m_times_entries,F_times_entries.kp,b_times_entries,#[zF],#[za,#[pvx,1],#[za,#[pvx,2],#[za,#[pvx,0],#[ze]]]]],#[za,#[zi,#[zK],#[pvx,3],#[pvx,4]],#[ze]]]])],#[ze]]]]]]]]]]]]]],?_⟩
  have hsl:=aX
  have rp:=zr hp
  have p0:0 < p:=by lia
  have hrl:=hrw.length
  obtain⟨ptss,hptss⟩:∃ ptss,ptss=rws.map (hps pl):=⟨_,rfl⟩
  have hP:∀ pts∈ptss,Pts p pts:=fun pts h=>by
   rw [hptss] at h
   obtain⟨rw,h1,rfl⟩:=aE.mp h
   exact zdf hnd hpl (hok rw h1)
  have hPl:∀ pts∈ptss,pts.length≤16:=fun pts h=>by
   rw [hptss] at h
   obtain⟨rw,h1,rfl⟩:=aE.mp h
   exact aZ (zby pl rw) hn
  have hpt:ptss.length=rws.length:=by rw [hptss,ab]
  refine⟨_,rfl,c,_,rfl,SqT.of hc.1,rfl,_,_,rfl,_,_,rfl,_,_,rfl,rfl,?_⟩
  refine⟨_,rfl,ra,rfl,⟨_,hra⟩,zS (n:=rbs.length) (fun i ys H'=>zu H H'∧∃ us:List Addr,ys=us.map V.ref∧zgh H' us (ptss.take i)) ⟨fun _ _ e=>e,[],rfl,.nil⟩ ?_ ?_ ?_ ?_⟩
  ·rintro i ys H1 hi ⟨s1,_⟩
   exact⟨_,.ref rbs[i],s1.seq hra,by rw [ah,aj hi]; rfl⟩
  ·rintro ys H1 ⟨s1,_⟩
   exact⟨_,s1.seq hra,by rw [ab]; exact ag _⟩
  ·rintro i y ys H1 H2 hi ⟨s1,us,rfl,hus⟩ ⟨rfl,hy⟩
   obtain⟨b,rfl,hb⟩:=zX (hy _ (s1.seq hra))
   obtain⟨rw,hrwi,hat,hrwl⟩:=Paired.get hrw hb
   have hul:=hus.length
   rw [aD] at hul
   refine gY ⟨_,rfl,_,rfl,c,tt,b,p,k,pl,rw,rfl,hc.same s1,⟨SqL.of (s1 _ _ hat),hrwl⟩,by lia,fun l bs H3 hl3 s3 h3l hB=>?_⟩
   refine⟨by rw [ab]; lia,s1.trans s3,us++[l],by rw [au]; rfl,?_⟩
   have hpi:ptss[i]? = some (hps pl rw):=by rw [hptss,ah,hrwi]; rfl
   rw [take_snoc hpi]
   exact bR (hus.same s3) ⟨bs,h3l,hB⟩
  ·rintro ys H1 pa ⟨s1,us,rfl,hus⟩ hpa
   rw [hrl,← hpt,bA] at hus
   have t2:=zb (o:=.lst (us.map V.ref)) hpa
   have h2p:upd H1 pa (.lst (us.map V.ref)) pa=some (.lst (us.map V.ref)):=zc
   have hus2:=hus.same t2
   have s2:=s1.trans t2
   generalize upd H1 pa (.lst (us.map V.ref))=H2 at t2 h2p hus2 s2 ⊢
   have hul:=hus2.length
   refine⟨_,rfl,bi _,fun na hna=>?_⟩
   have t3:=zb (o:=.lst []) hna
   refine⟨fun m σ H'=>∃ (n:Nat) (ns:List Addr) (ev:Int) (rel:V) (e9 e10:Option V),σ = [some (.ref c),some (.ref ra),some (.int p),some (.int (k:Int)),some (.ref tt),some (.ref pa),some (.int ev),some (.ref na),some rel,e9,e10]∧zu H2 H'∧H' na=some (.lst (ns.map V.ref))∧NdA p ptss na H' ns (aH n) ∧
    ((rel = .non∧ev=(n:Int) - 1∧m=20 - n∧n≤16∧∀ e',e' < n→Indep p (zct k e' ptss) (za6 p k e' ptss))∨(∃ (rl:Addr) (cc:List Int) (mm e:Nat),rel = .ref rl∧ev=(e:Int)∧e≤16∧H' rl=some (.lst (cc.map V.int))∧IsP p (mm+1) cc∧mm < e+1∧gl cc mm=1∧Dep p (zct k e ptss) (za6 p k e ptss) cc∧∀ e',e' < e→Indep p (zct k e' ptss) (za6 p k e' ptss))),
    ⟨20,0,[],_,_,_,_,rfl,t3,zc,.nil,.inl ⟨rfl,rfl,rfl,by lia,fun _ h=>by lia⟩⟩,?_⟩
   rintro m σ H3 ⟨n,ns,ev,rel,e9,e10,rfl,s3,h3n,hnd3,hst⟩
   have hnl:=hnd3.length
   rw [aV] at hnl
   rcases hst with ⟨rfl,rfl,rfl,hn16,hind⟩ | ⟨rl,cc,mm,e,rfl,rfl,he16,h3r,hcc,hmm,hc1,hdep,hind⟩
   ·refine⟨_,rfl,rfl,_,rfl,?_⟩
    refine zbq (fun _=>?_) (fun h=>absurd rfl h)
    refine⟨fun σ' H'=>∃ m',m' < 20 - n∧∃ (n:Nat) (ns:List Addr) (ev:Int) (rel:V) (e9 e10:Option V),σ' = [some (.ref c),some (.ref ra),some (.int p),some (.int (k:Int)),some (.ref tt),some (.ref pa),some (.int ev),some (.ref na),some rel,e9,e10]∧zu H2 H'∧H' na=some (.lst (ns.map V.ref))∧NdA p ptss na H' ns (aH n) ∧
     ((rel = .non∧ev=(n:Int) - 1∧m'=20 - n∧n≤16∧∀ e',e' < n→Indep p (zct k e' ptss) (za6 p k e' ptss))∨(∃ (rl:Addr) (cc:List Int) (mm e:Nat),rel = .ref rl∧ev=(e:Int)∧e≤16∧H' rl=some (.lst (cc.map V.int))∧IsP p (mm+1) cc∧mm < e+1∧gl cc mm=1∧Dep p (zct k e ptss) (za6 p k e ptss) cc∧∀ e',e' < e→Indep p (zct k e' ptss) (za6 p k e' ptss))),fun _ _ z=>z,?_⟩
    refine⟨_,rfl,_,_,rfl,rfl,?_⟩
    have e1:(n:Int) - 1+1=(n:Int):=by lia
    refine⟨fun σ' H'=>∃ pw:Addr,σ' = [some (.ref c),some (.ref ra),some (.int p),some (.int (k:Int)),some (.ref tt),some (.ref pa),some (.int (n:Int)),some (.ref na),some .non,some (.ref pw),e10]∧zu H3 H'∧SqT K H' pw ((unit n).map V.int),?_,?_⟩
    ·refine⟨by show 1≤sizeLine; lia,fun t1 ht1=>⟨_,rfl,t1,_,[.int 0],rfl,rfl,SqT.of zc,by simp,by lia,by lia,by show 1*_≤sizeLine; lia,fun z H4 s4 h4z=>?_⟩⟩
     rw [e1,bf,zc6] at h4z
     have s34:=(zb (o:=.tup [.int 0]) ht1).trans s4
     refine⟨by show 1≤sizeLine; lia,fun t2 ht2=>⟨z,t2,_,_,rfl,rfl,zoO (zb ht2) h4z,SqT.of zc,by simp,by rw [ab,aT]; show n+1≤sizeLine; lia,fun e0=>?_,fun _ pw hpw=>?_⟩⟩
     ·have hn0:n=0:=by
       have:=congrArg eI e0
       rw [ab,aT] at this
       exact this
      subst hn0
      exact⟨t2,congrArg (fun v:Int=>[some (V.ref c),some (.ref ra),some (.int p),some (.int (k:Int)),some (.ref tt),some (.ref pa),some (.int v),some (.ref na),some .non,some (.ref t2),e10]) e1,s34.trans (zb ht2),SqT.of zc⟩
     ·refine⟨pw,congrArg (fun v:Int=>[some (V.ref c),some (.ref ra),some (.int p),some (.int (k:Int)),some (.ref tt),some (.ref pa),some (.int v),some (.ref na),some .non,some (.ref pw),e10]) e1,(s34.trans (zb ht2)).trans (zb hpw),?_⟩
      have:(unit n).map V.int=(aw n (0:Int)).map V.int++[.int 1]:=by unfold unit; rw [au]; rfl
      rw [this]
      exact SqT.of zc
    ·rintro σ' H4 ⟨pw,rfl,s4,h4p⟩
     have s24:=s3.trans s4
     have h4a:=s24 _ _ h2p
     have hus4:=hus2.same s24
     have h4n:=s4 _ _ h3n
     have hnd4:=hnd3.same s4
     refine⟨_,rfl,.inl ⟨rfl,_,SqL.of h4n⟩,_,rfl,pa,rfl,⟨_,SqL.of h4a⟩,zS (n:=us.length) (fun i ys H'=>zu H4 H'∧∃ ws:List Addr,ys=ws.map V.ref∧zbH H' ws ((ptss.take i).map fun pts=>Tp p pts n)) ⟨fun _ _ e=>e,[],rfl,.nil⟩ ?_ ?_ ?_ ?_⟩
     ·rintro i ys H5 hi ⟨s5,_⟩
      exact⟨_,.ref us[i],SqL.of (s5 _ _ h4a),by rw [ah,aj hi]; rfl⟩
     ·rintro ys H5 ⟨s5,_⟩
      exact⟨_,SqL.of (s5 _ _ h4a),by rw [ab]; exact ag _⟩
     ·rintro i y ys H5 H6 hi ⟨s5,ws,rfl,hws⟩ ⟨rfl,hy⟩
      obtain⟨b,rfl,hb⟩:=zX (hy _ (SqL.of (s5 _ _ h4a)))
      obtain⟨pts,hpts,bs,hat,hB⟩:=Paired.get hus4 hb
      have hwl:=hws.length
      rw [ab,aD] at hwl
      have hm:=aG hpts
      refine gY ⟨_,rfl,_,rfl,_,rfl,p,pw,b,unit n,bs,pts,rfl,zoO s5 h4p,SqL.of (s5 _ _ hat),hB.same s5,aZ (hPl pts hm) (by decide),hp,hP pts hm,fun z H7 hz s7 h7z=>?_⟩
      refine⟨by rw [ab]; lia,s5.trans s7,ws++[z],by rw [au]; rfl,?_⟩
      rw [take_snoc hpts,au]
      exact bR (hws.same s7) h7z
     ·rintro ys H5 D2 ⟨s5,ws,rfl,hws⟩ hD2
      rw [hul,bA] at hws
      have t6:=zb (o:=.lst (ws.map V.ref)) hD2
      have h6D:upd H5 D2 (.lst (ws.map V.ref)) D2=some (.lst (ws.map V.ref)):=zc
      have hDn:D2≠na:=fun e=>by
       have:=s5 _ _ h4n
       rw [← e,hD2] at this
       cases this
      have s46:=s5.trans t6
      have hws6:=hws.same t6
      generalize upd H5 D2 (.lst (ws.map V.ref))=H6 at t6 h6D s46 hws6 ⊢
      have h6n:=s46 _ _ h4n
      have hnd6:=hnd4.same s46
      refine⟨na,_,_,rfl,rfl,h6n,by rw [ab]; lia,?_⟩
      have s27:zu H2 (upd H6 na (.lst (ns.map V.ref++[.ref D2]))):=zae (s24.trans s46) hna
      have h7n:upd H6 na (.lst (ns.map V.ref++[.ref D2])) na=some (.lst ((ns++[D2]).map V.ref)):=by rw [zc,au]; rfl
      have hnd7:NdA p ptss na (upd H6 na (.lst (ns.map V.ref++[.ref D2]))) (ns++[D2]) (aH (n+1)):=by
       rw [cg]
       exact bR (hnd6.put h6n) ⟨ws,by rw [zn hDn]; exact h6D,hDn,hws6.put h6n⟩
      generalize upd H6 na (.lst (ns.map V.ref++[.ref D2]))=H7 at s27 h7n hnd7 ⊢
      have hn7:=hnd7.length
      rw [aV] at hn7
      refine⟨_,rfl,_,rfl,na,rfl,⟨_,SqL.of h7n⟩,zS (n:=(ns++[D2]).length) (fun i ys H'=>zu H7 H'∧∃ vs:List Addr,ys=vs.map V.ref∧LsA H' vs ((za6 p k n ptss).take i)) ⟨fun _ _ e=>e,[],rfl,.nil⟩ ?_ ?_ ?_ ?_⟩
      ·rintro i ys H8 hi ⟨s8,_⟩
       exact⟨_,.ref (ns++[D2])[i],SqL.of (s8 _ _ h7n),by rw [ah,aj hi]; rfl⟩
      ·rintro ys H8 ⟨s8,_⟩
       exact⟨_,SqL.of (s8 _ _ h7n),by rw [ab]; exact ag _⟩
      ·rintro i y ys H8 H9 hi ⟨s8,vs,rfl,hvs⟩ ⟨rfl,hy⟩
       obtain⟨b,rfl,hb⟩:=zX (hy _ (SqL.of (s8 _ _ h7n)))
       obtain⟨i',hi',us',hat,_,hT⟩:=Paired.get hnd7 hb
       have hin:i < n+1:=by lia
       rw [bM hin] at hi'
       cases hi'
       have hvl:=hvs.length
       rw [aD] at hvl
       refine gY ⟨_,rfl,_,rfl,_,rfl,_,_,rfl,rfl,b,k+n,us',_,(by show [V.ref b,V.int ((k:Int)+(n:Int))]=_; rw [fA]),SqL.of (s8 _ _ hat),hT.same s8,fun j=>?_,fun z Ha hz sa haz=>?_⟩
       ·rw [← dQ,zd8 hp fun q hq=>hP q (dY hq)]
        refine aZ (zh9 (b:=16) fun q hq=>?_) ?_
        ·have:=hPl q (dY hq)
         lia
        ·rw [aD]
         lia
       ·refine⟨by rw [ab]; lia,s8.trans sa,vs++[z],by rw [au]; rfl,?_⟩
        have hvi:(za6 p k n ptss)[i]? = some (bey (k+n) (ptss.map fun pts=>Tp p pts i)):=by
         unfold za6
         rw [ah,bM hin]
         rfl
        rw [take_snoc hvi]
        exact bR (hvs.same sa) haz
      ·rintro ys H8 D3 ⟨s8,vs,rfl,hvs⟩ hD3
       have hvn:(za6 p k n ptss).length=n+1:=by unfold za6; rw [ab,aV]
       rw [hn7,← hvn,bA] at hvs
       have t9:=zb (o:=.lst (vs.map V.ref)) hD3
       have h9D:upd H8 D3 (.lst (vs.map V.ref)) D3=some (.lst (vs.map V.ref)):=zc
       have hvs9:=hvs.same t9
       have s79:=s8.trans t9
       generalize upd H8 D3 (.lst (vs.map V.ref))=H9 at t9 h9D hvs9 s79 ⊢
       refine⟨p,D3,vs,za6 p k n ptss,zct k n ptss,rfl,h9D,hvs9,(fun e=>by (rw [e] at hvn; cases hvn)),by lia,?_,znj hp hP,hp,fun Ha sa hI=>?_,fun l cc mm Ha hl sa hal hcc hmm hc1 hD _=>?_⟩
       ·refine aZ (zh9 (b:=16) fun q hq=>?_) (by lia)
        have:=hPl q hq
        lia
       ·have hlt:=zlG hp hPl hI
        refine⟨20 - (n+1),by lia,n+1,ns++[D2],_,_,_,_,rfl,s27.trans (s79.trans sa),(s79.trans sa) _ _ h7n,hnd7.same (s79.trans sa),.inl ⟨rfl,by lia,rfl,by lia,fun e' he'=>?_⟩⟩
        by_cases e:e'=n
        ·subst e; exact hI
        ·exact hind e' (by lia)
       ·exact⟨0,by lia,n+1,ns++[D2],_,_,_,_,rfl,s27.trans (s79.trans sa),(s79.trans sa) _ _ h7n,hnd7.same (s79.trans sa),.inr ⟨l,cc,mm,n,rfl,rfl,hn16,hal,hcc,by lia,hc1,hD,hind⟩⟩
   ·refine⟨_,rfl,rfl,_,rfl,?_⟩
    refine zbq (fun h=>absurd h (by simp)) (fun _=>?_)
    have h3a:=s3 _ _ h2p
    have hus3:=hus2.same s3
    have hcl:cc.length=mm+1:=hcc.1
    refine⟨_,rfl,rl,_,rfl,.inl ⟨SqL.of h3r,fun tl htl=>?_⟩⟩
    have t4:=zb (o:=.tup (cc.map V.int)) htl
    have h4t:upd H3 tl (.tup (cc.map V.int)) tl=some (.tup (cc.map V.int)):=zc
    generalize upd H3 tl (.tup (cc.map V.int))=H4 at t4 h4t ⊢
    refine⟨_,rfl,_,_,rfl,rfl,tl,e+1,cc,rfl,h4t,by lia,by lia,fun lf H5 s5 h5f=>?_⟩
    have L:=zoP hp (k:=k) hP hcc hmm hc1 hdep hind
    generalize szd cc (e+1)=left at h5f L ⊢
    have s35:=t4.trans s5
    have h5a:=s35 _ _ h3a
    have hus5:=hus3.same s35
    refine⟨_,rfl,_,rfl,_,rfl,pa,rfl,⟨_,SqL.of h5a⟩,zS (n:=us.length) (fun i ys H'=>zu H5 H'∧∃ ws:List Addr,ys=ws.map V.ref∧zbH H' ws ((ptss.take i).map fun pts=>szd (thr p (tmP p left pts)) (k+e))) ⟨fun _ _ e=>e,[],rfl,.nil⟩ ?_ ?_ ?_ ?_⟩
    ·rintro i ys H6 hi ⟨s6,_⟩
     exact⟨_,.ref us[i],SqL.of (s6 _ _ h5a),by rw [ah,aj hi]; rfl⟩
    ·rintro ys H6 ⟨s6,_⟩
     exact⟨_,SqL.of (s6 _ _ h5a),by rw [ab]; exact ag _⟩
    ·rintro i y ys H6 H7 hi ⟨s6,ws,rfl,hws⟩ ⟨rfl,hy⟩
     obtain⟨b,rfl,hb⟩:=zX (hy _ (SqL.of (s6 _ _ h5a)))
     obtain⟨pts,hpts,bs,hat,hB⟩:=Paired.get hus5 hb
     have hwl:=hws.length
     rw [ab,aD] at hwl
     have hm:=aG hpts
     have hl16:=hPl pts hm
     refine gY ⟨_,rfl,_,rfl,_,rfl,p,lf,b,left,bs,pts,rfl,SqT.of (s6 _ _ h5f),SqL.of (s6 _ _ hat),hB.same s6,aZ hl16 (by decide),hp,hP pts hm,fun z H8 hz s8 h8z=>?_⟩
     refine⟨_,rfl,_,rfl,_,_,rfl,rfl,z,k+e,_,(by show [V.ref z,V.int ((k:Int)+(e:Int))]=_; rw [fA]),h8z,by lia,by rw [zcY hp (hP pts hm)]; lia,fun x H9 s9 h9x=>?_⟩
     refine⟨by rw [ab]; lia,s6.trans (s8.trans s9),ws++[x],by rw [au]; rfl,?_⟩
     rw [take_snoc hpts,au]
     exact bR (hws.same (s8.trans s9)) h9x
    ·rintro ys H6 D2 ⟨s6,ws,rfl,hws⟩ hD2
     rw [hul,bA] at hws
     have t7:=zb (o:=.lst (ws.map V.ref)) hD2
     have h7D:upd H6 D2 (.lst (ws.map V.ref)) D2=some (.lst (ws.map V.ref)):=zc
     have hws7:=hws.same t7
     have s57:=s6.trans t7
     generalize upd H6 D2 (.lst (ws.map V.ref))=H7 at t7 h7D hws7 s57 ⊢
     refine⟨by show 3≤sizeLine; lia,fun z hz=>?_⟩
     have t8:=zb (o:=.tup [.int (e:Int),.ref lf,.ref D2]) hz
     have s27:=(s2.trans s3).trans (s35.trans s57)
     exact q z lf D2 ws e left _ _ (s27.trans t8) zc ((s57.trans t8) _ _ h5f) (t8 _ _ h7D) (hws7.same t8) he16 (by rw [← hptss]; exact L)
theorem zbh:FnScope ["code","row","e","left","rights"] ["code","row"] (zh zbz):=⟨rfl,rfl,rfl,by decide +kernel,rfl,by decide +kernel,by decide +kernel⟩
theorem ze7 {fd:FuncData} (T:Txt K mg t) (F:Fun K "locator_of" "locator_of" zbz t.locator_of fd):FnOk P w K mg base CX0 6 t.locator_of fd ["code","row"] (ze5 K):=by
 obtain⟨fd_joint_locator,F_joint_locator,b_joint_locator⟩:=T.f_joint_locator
 have G_joint_locator:=zdz (P:=P) (w:=w) (base:=base) T F_joint_locator
 refine F.ok zbh (fun vs H Q E h=>?_) (fun cdv A outer s H vs Q E hr h=>?_)
 ·obtain⟨c,tt,r,p,k,pl,rw,rfl,_⟩:=h
  rfl
 ·obtain⟨c,tt,r,p,k,pl,rw,rfl,hc,hra,hrl,hn,hp,hnd,hpl,hrg,k0,k1,q⟩:=h
  refine⟨_,#[zd,#[zbD,#[zq,G_joint_locator,(hr.mono (by decide)),T.m_joint_locator,F_joint_locator.kp,b_joint_locator,#[zF],#[za,#[pvx,0],#[za,#[zY,#[za,#[pvx,1],#[ze]]],#[ze]]]],#[za2,#[zj,#[zg,2,zbh.nd,(aq rfl)],#[zj,#[zg,3,zbh.nd,(aq rfl)],#[zj,#[zg,4,zbh.nd,(aq rfl)],#[zL]]]]]],by exact #[zm,#[zG,#[zax,#[za,#[pvx,2],#[za,#[pvx,3],#[za,#[zH,#[zD],#[pvx,4],#[zf]],#[ze]]]]]]]],?_⟩
  have hsl:=aX
  refine⟨_,rfl,_,rfl,by show 1≤sizeLine; lia,fun ra hrA=>?_⟩
  have t1:=zb (o:=.lst [.ref r]) hrA
  refine⟨c,tt,ra,p,k,pl,[r],[rw],rfl,hc.same t1,SqL.of zc,.cons ⟨t1 _ _ hra,hrl⟩ .nil,(by show 1≤10; decide),hn,hp,hnd,hpl,fun rw' h=>?_,k0,k1,fun z la l3 us e left rights H2 s2 h2z h2l h2r hT he L=>?_⟩
  ·obtain rfl:rw'=rw:=by simpa using h
   exact hrg
  have hl:=hT.length
  have hr1:rights.length=1:=by rw [L.rt]; rfl
  obtain⟨u0,rfl⟩:∃ u0,us = [u0]:=i0.mp (by lia)
  obtain⟨right,rfl⟩:∃ r0,rights = [r0]:=i0.mp hr1
  obtain⟨r',hr',hu⟩:=Paired.get hT (i:=0) (a:=u0) rfl
  cases hr'
  refine⟨z,_,rfl,SqT.of h2z,rfl,_,_,rfl,_,_,rfl,_,_,rfl,rfl,?_⟩
  refine⟨_,rfl,_,rfl,_,rfl,l3,_,_,_,rfl,rfl,SqL.of h2r,rfl,by show 3≤sizeLine; lia,fun y hy=>?_⟩
  have s12:=t1.trans s2
  exact q y la u0 e left right _ (s12.trans (zb hy)) zc ((zb hy) _ _ h2l) ((zb hy) _ _ hu) he L
end
end My
end
section
namespace My
open PySem L2 PyProof.Rows
section
variable {P:Program} {w:World} {K:ai} {mg:Str→Option Value} {base:Heap} {t:Adr}
theorem zck:FnScope ["things","many","chosen","step"] ["things","many"] (zh zbC):=⟨rfl,rfl,rfl,by decide +kernel,rfl,by decide +kernel,by decide +kernel⟩
theorem zig {fd:FuncData} (T:Txt K mg t) (F:Fun K "choices" "choices" zbC t.choices fd):FnOk P w K mg base CX0 1 t.choices fd ["things","many"] (zh3 K):=by
 refine F.ok zck (fun vs H Q E h=>?_) (fun cdv A outer s H vs Q E hr h=>?_)
 ·obtain⟨a,m,xs,rfl,_⟩:=h
  rfl
 ·obtain⟨a,m,xs,rfl,hS,hx,hm,q⟩:=h
  refine⟨_,#[zd,#[zl,2,zck.nd,(aq rfl),#[zY,#[za,#[zax,#[za,#[zf],#[za,#[zY,#[ze]],#[ze]]]],#[ze]]]],by exact #[zd,#[zbc,bH,#[zad,T.range_,#[za,#[pvx,1],#[ze]]],#[zg,3,zck.nd,(aq rfl)],#[zm,(@zh2 _ _ _ _ _ _ _ _ _ _ _ _ _ _ _ _ _ _ _ _ _ (2) _ _ _ zck.nd rfl (aq rfl) (CompSc.of (N':=["start","picked","at","things"]) (ix:=[none,none,none,some 0]) (zh zbC) ["things","many","chosen","step"] rfl rfl (by decide +kernel)) rfl (zkE (js:=[0,1]) (zei (js:=[0,1]) (i:=0) (by decide) (zei (js:=[0,1]) (i:=1) (by decide) (zit (js:=[0,1]))))) (zcz (js:=[2]) (i:=2) (by decide)) (by decide) (by decide) #[zM,#[pvx,2]] (fun _ _ _ _=>#[zau,(K),2,#[zj,#[zg,0,(show (["start","picked","at","things"]:List Str).Nodup by decide +kernel),(aq rfl)],#[zj,#[zg,1,(show (["start","picked","at","things"]:List Str).Nodup by decide +kernel),(aq rfl)],#[zL]]]]) (fun _ _ _ _=>#[zt]) (fun _ _ _ _=>(@zjv _ _ _ _ _ _ _ rfl T.range_ #[za,#[pvx,0],#[za,#[zA,#[zaE,(K)],T.len_,cq,#[za,#[pvx,3],#[ze]]],#[ze]]] (by rfl) (by rfl))) (fun _ _ _ _=>#[zg,2,(show (["start","picked","at","things"]:List Str).Nodup by decide +kernel),(aq rfl)]) (fun _ _ _ _=>#[zt]) (fun _ _ _ _=>#[zax,#[za,#[zi,#[zK],#[pvx,2],#[zf]],#[za,#[zi,#[zcT],#[pvx,1],#[zY,#[za,#[zH,#[za4,(K)],#[pvx,3],#[pvx,2]],#[ze]]]],#[ze]]]]) (by rfl) (by intro _; rfl) (by intros; rfl) (by trivial))]],by exact #[zm,#[zG,#[zO,(CompSc.of (N':=["start","picked"]) (ix:=[none,none]) (zh zbC) ["things","many","chosen","step"] rfl rfl (by decide +kernel)),#[zaW,#[zy,#[zy,#[zay]]]],#[zM,#[pvx,2]],(fun _ _ _ _=>#[zau,(K),2,#[zj,#[zg,0,(show (["start","picked"]:List Str).Nodup by decide +kernel),(aq rfl)],#[zj,#[zg,1,(show (["start","picked"]:List Str).Nodup by decide +kernel),(aq rfl)],#[zL]]]]),(fun _ _ _ _=>#[zt]),(fun _ _ _ _=>#[pvx,1])]]]]],?_⟩
  have hsl:=aX
  refine⟨bi _,fun L0 hL0=>⟨by show 2≤sizeLine; lia,fun T0 hT0=>⟨by show 1≤sizeLine; lia,fun c hc=>?_⟩⟩⟩
  have u0:=zb (o:=.lst []) hL0
  have u1:=zb (o:=.tup [.int 0,.ref L0]) hT0
  have u2:=zb (o:=.lst [.ref T0]) hc
  have hch0:zeD (upd (upd (upd H L0 (.lst [])) T0 (.tup [.int 0,.ref L0])) c (.lst [.ref T0])) [T0] (chs xs 0):=.cons ⟨L0,u2 _ _ zc,(u1.trans u2) _ _ zc⟩ .nil
  have hc0:upd (upd (upd H L0 (.lst [])) T0 (.tup [.int 0,.ref L0])) c (.lst [.ref T0]) c=some (.lst ([T0].map V.ref)):=zc
  have s0:=(u0.trans u1).trans u2
  generalize upd (upd (upd H L0 (.lst [])) T0 (.tup [.int 0,.ref L0])) c (.lst [.ref T0])=H0 at hch0 hc0 s0 ⊢
  refine⟨_,rfl,_,rfl,by lia,by lia,?_⟩
  rw [bf]
  refine zbX (lo:=0) (n:=m) (fun i σ H'=>∃ (c:Addr) (ts:List Addr) (e3:Option V),σ = [some (.ref a),some (.int m),some (.ref c),e3]∧zu H H'∧H' c=some (.lst (ts.map V.ref))∧zeD H' ts (chs xs i)) ⟨c,[T0],none,rfl,s0,hc0,hch0⟩ ?_ ?_
  ·rintro i σ H1 hi ⟨c,ts,e3,rfl,s1,h1c,hch⟩
   have hcl:=hch.length
   have hsm:=zcE (xs:=xs) (i+1) hx
   have hfl:((chs xs i).flatMap (nxt xs)).length≤65536:=hsm
   refine⟨_,rfl,c,rfl,⟨_,SqL.of h1c⟩,zfD (n:=ts.length) (fun i' ys H'=>∃ us:List Addr,ys=us.map V.ref∧zu H1 H'∧zeD H' us (((chs xs i).take i').flatMap (nxt xs))) ⟨[],rfl,fun _ _ e=>e,.nil⟩ ?_ ?_ ?_ ?_⟩
   ·rintro i' ys H2 hi' ⟨us,_,s2,_⟩
    exact⟨_,.ref ts[i'],SqL.of (s2 _ _ h1c),by rw [ah,aj hi']; rfl⟩
   ·rintro ys H2 ⟨us,_,s2,_⟩
    exact⟨_,SqL.of (s2 _ _ h1c),by rw [ab]; exact ag _⟩
   ·rintro i' y ys H2 H3 hi' ⟨us,rfl,s2,hus⟩ ⟨rfl,hy⟩
    obtain⟨tt,rfl,htt⟩:=zX (hy _ (SqL.of (s2 _ _ h1c)))
    obtain⟨cc,hcc,hat⟩:=Paired.get hch htt
    obtain⟨L,hL1,hL2⟩:=hat.same s2
    have hle:=zoK (aG hcc)
    have hpl:=zhe (aG hcc)
    obtain⟨st,pk⟩:=cc
    dsimp only at hL1 hL2 hle hpl
    refine gY2 (SqT.of hL1) ?_
    refine⟨_,rfl,_,rfl,a,xs,rfl,.inl ((s1.trans s2).seq hS),_,_,rfl,⟨by lia,by lia,by lia,by lia⟩,?_⟩
    have en:((xs.length:Int) - (st:Int)).toNat=xs.length - st:=by lia
    rw [en]
    refine zfD (n:=xs.length - st) (fun j ys H'=>∃ us:List Addr,ys=us.map V.ref∧zu H3 H'∧zeD H' us (((chs xs i).take i').flatMap (nxt xs)++(nxt xs (st,pk)).take j)) ⟨us,rfl,fun _ _ e=>e,by rw [dv,bD]; exact hus⟩ (fun j ys H' hj _=>hj) (fun ys H' _=>ag _) ?_ ?_
    ·rintro j z ys H4 H5 hj ⟨us,rfl,s4,hus⟩ ⟨rfl,rfl⟩
     obtain⟨x,hx'⟩:∃ x,xs[st+j]? = some x:=⟨xs[st+j]'(by lia),by simp⟩
     have hat:atI xs ((st:Int)+(j:Int))=some x:=by
      have e:((st+j:Nat):Int)=(st:Int)+j:=by lia
      rw [← e]
      exact zaG hx'
     have hng:=zm1 (c:=(st,pk)) hx'
     have hul:=hus.length
     have hpart:=zj0 (f:=nxt xs) hcc (show j < (nxt xs (st,pk)).length by rw [zgb]; exact hj)
     have hnl:=zgb xs (st,pk)
     refine gY ?_
     refine⟨_,rfl,_,_,rfl,rfl,_,rfl,_,rfl,_,rfl,a,xs,_,x,rfl,rfl,((s1.trans s2).trans s4).seq hS,hat,by show 1≤sizeLine; lia,fun b hb=>?_⟩
     have v1:=zb (o:=.lst [x]) hb
     refine⟨L,b,pk,[x],rfl,rfl,(s4.trans v1) _ _ hL2,zc,by show pk.length+1≤sizeLine; lia,fun L2 hL2'=>⟨by show 2≤sizeLine; lia,fun T2 hT2=>⟨?_,us++[T2],by rw [au]; rfl,?_,?_⟩⟩⟩
     ·rw [ab,hul,ao,aD]
      lia
     ·exact s4.trans (v1.trans ((zb hL2').trans (zb hT2)))
     ·rw [take_snoc hng,← aY]
      refine bR (hus.same (v1.trans ((zb hL2').trans (zb hT2)))) ⟨L2,?_,(zb hT2) _ _ zc⟩
      rw [zc]
      show some (HO.tup [.int ((st:Int)+(j:Int)+1),.ref L2])=some (HO.tup [.int ((st+j+1:Nat):Int),.ref L2])
      have e:((st+j+1:Nat):Int)=(st:Int)+j+1:=by lia
      rw [e]
    ·rintro ys H4 ⟨us,rfl,s4,hus⟩
     rw [aM (l:=nxt xs (st,pk)) (by rw [zgb]; exact ag _)] at hus
     exact⟨us,rfl,s2.trans s4,by rw [zj1 hcc]; exact hus⟩
   ·rintro ys H2 ⟨us,rfl,s2,hus⟩ D hD
    rw [hcl,aM (ag _)] at hus
    exact⟨D,us,_,rfl,s1.trans (s2.trans (zb hD)),zc,hus.same (zb hD)⟩
  ·rintro σ H1 ⟨c,ts,e3,rfl,s1,h1c,hch⟩
   have hcl:=hch.length
   have hsm:=zcE (xs:=xs) m hx
   refine⟨_,rfl,c,rfl,⟨_,SqL.of h1c⟩,zS (n:=ts.length) (fun i ys H'=>H'=H1∧∃ us:List Addr,ys=us.map V.ref∧zhf H1 us (((chs xs m).map (·.2)).take i)) ⟨rfl,[],rfl,.nil⟩ ?_ ?_ ?_ ?_⟩
   ·rintro i ys H2 hi ⟨rfl,_⟩
    exact⟨_,.ref ts[i],SqL.of h1c,by rw [ah,aj hi]; rfl⟩
   ·rintro ys H2 ⟨rfl,_⟩
    exact⟨_,SqL.of h1c,by rw [ab]; exact ag _⟩
   ·rintro i y ys H2 H3 hi ⟨rfl,us,rfl,hus⟩ ⟨rfl,hy⟩
    obtain⟨tt,rfl,htt⟩:=zX (hy _ (SqL.of h1c))
    obtain⟨cc,hcc,L,hL1,hL2⟩:=Paired.get hch htt
    have hul:=hus.length
    refine gY2 (SqT.of hL1) ⟨_,rfl,?_,rfl,us++[L],by rw [au]; rfl,?_⟩
    ·rw [ab,hul,aD,ab]
     lia
    ·have hcc':((chs xs m).map (·.2))[i]? = some cc.2:=by rw [ah,hcc]; rfl
     rw [take_snoc hcc']
     exact bR hus hL2
   ·rintro ys H2 D ⟨rfl,us,rfl,hus⟩ hD
    rw [aM (by rw [ab,hcl]; exact ag _)] at hus
    exact q D us _ (s1.free hD) (s1.trans (zb hD)) zc (hus.same (zb hD))
theorem zea:FnScope ["code","row","polynomial","p","k","places"] ["code","row","polynomial"] (zh zeO):=⟨rfl,rfl,rfl,by decide +kernel,rfl,by decide +kernel,by decide +kernel⟩
theorem zje {fd:FuncData} (T:Txt K mg t) (F:Fun K "fits" "fits" zeO t.fits fd):FnOk P w K mg base CX0 2 t.fits fd ["code","row","polynomial"] (zmP K):=by
 obtain⟨fd_value_at,F_value_at,b_value_at⟩:=T.f_value_at
 have G_value_at:=zcx (P:=P) (w:=w) (base:=base) T F_value_at
 refine F.ok zea (fun vs H Q E h=>?_) (fun cdv A outer s H vs Q E hr h=>?_)
 ·obtain⟨c,tt,ra,po,p,k,pl,poly,rw,rfl,_⟩:=h
  rfl
 ·obtain⟨c,tt,ra,po,p,k,pl,poly,rw,rfl,hc,hra,hrl,hpo,p0,p1,hpl,hn,q⟩:=h
  refine⟨_,#[zd,#[zbD,#[pvx,0],#[za2,#[zj,#[zg,3,zea.nd,(bP rfl)],#[zj,#[zg,4,zea.nd,(aq rfl)],#[zj,#[zg,5,zea.nd,(aq rfl)],#[zL]]]]]],by exact #[zm,#[zG,#[zO,(CompSc.of (N':=["at","place","entry","p","polynomial"]) (ix:=[none,none,none,some 3,some 2]) (zh zeO) ["code","row","polynomial","p","k","places"] rfl rfl (by decide +kernel)),#[zaW,#[zy,(@zjC _ _ _ #[zaW,#[zy,#[zy,#[zay]]]] #[zay] zh0)]],(@zhZ _ _ _ _ _ _ _ _ _ _ _ rfl T.enumerate_ rfl T.zip_ #[za,#[pvx,5],#[za,#[pvx,1],#[ze]]] (by rfl) (by rfl) (by rfl)),(fun _ _ _ _=>#[zau,(K),2,#[zj,#[zg,0,(show (["at","place","entry","p","polynomial"]:List Str).Nodup by decide +kernel),(aq rfl)],#[zj,#[zau,(K),2,#[zj,#[zg,1,(show (["at","place","entry","p","polynomial"]:List Str).Nodup by decide +kernel),(aq rfl)],#[zj,#[zg,2,(show (["at","place","entry","p","polynomial"]:List Str).Nodup by decide +kernel),(aq rfl)],#[zL]]]],#[zL]]]]),(fun _ _ _ _=>#[zc4,#[zR,#[zfi],#[pvx,2],#[zq,G_value_at,(hr.mono (by decide)),T.m_value_at,F_value_at.kp,b_value_at,#[zF],#[za,#[pvx,3],#[za,#[pvx,4],#[za,#[pvx,1],#[ze]]]]],(zac _)]]),(fun _ _ _ _=>#[pvx,0])]]]],?_⟩
  refine⟨_,rfl,c,_,rfl,SqT.of hc.1,rfl,_,_,rfl,_,_,rfl,_,_,rfl,rfl,?_⟩
  refine⟨_,rfl,_,rfl,tt,ra,_,_,rfl,SqT.of hc.2,SqL.of hra,zS (n:=pl.length) (fun i ys H'=>ys=(zet p pl rw poly i).map V.int∧zu H H') ⟨rfl,fun _ _ e=>e⟩ ?_ ?_ ?_ ?_⟩
  ·rintro i ys H3 hi ⟨_,s3⟩
   obtain⟨o,ho⟩:∃ o,rw[i]? = some o:=⟨rw[i]'(by lia),by simp⟩
   exact⟨_,_,.int pl[i],enc o,SqT.of (s3 _ _ hc.2),SqL.of (s3 _ _ hra),by rw [ah,aj hi]; rfl,by rw [ah,ho]; rfl⟩
  ·rintro ys H3 ⟨_,s3⟩
   exact⟨_,_,SqT.of (s3 _ _ hc.2),SqL.of (s3 _ _ hra),by rw [ab]⟩
  ·rintro i xx ys H3 H4 hi ⟨rfl,s3⟩ ⟨T1,T2,u,v,hT1,hT2,hne,rfl,rfl,hu,hv⟩
   obtain⟨x,rfl,hx⟩:=zag (hu _ (SqT.of (s3 _ _ hc.2)))
   obtain⟨o,rfl,ho⟩:=ziE (hv _ (SqL.of (s3 _ _ hra)))
   obtain⟨x0,x1⟩:=hpl x (aG hx)
   have s4:zu H3 (upd (upd H3 T1 (.tup [.int x,enc o])) T2 (.tup [.int i,.ref T1])):=zae (zb hT1) hT2
   refine⟨T2,_,rfl,SqT.of zc,rfl,_,_,rfl,_,_,rfl,T1,_,rfl,SqT.of (by rw [zn hne]; exact zc),rfl,_,_,rfl,_,_,rfl,rfl,rfl,?_⟩
   refine⟨_,rfl,_,rfl,_,rfl,_,rfl,p,x,po,poly,rfl,.inr (SqT.of ((s3.trans s4) _ _ hpo)),p0,p1,x0,x1,zkX o _,_,rfl,?_⟩
   rw [zfz,zkY hx ho,au]
   have hlen:=zg2 p pl rw poly i
   refine zbq (fun h1=>⟨_,rfl,zaa (by rw [ab]; lia),?_,s3.trans s4⟩) (fun h1=>⟨?_,s3.trans s4⟩)
   ·rw [if_pos h1]
    rfl
   ·rw [if_neg h1]
    simp
  ·rintro ys H3 D ⟨rfl,s3⟩ hD
   exact q D _ (s3.free hD) (s3.trans (zb hD)) zc
theorem znX {p:Int} {pts:List (Int×Int)} (hP:Pts p pts):pts.map (md p)=pts:=by
 refine (bU fun q hq=>?_).trans (iY _)
 obtain⟨_,_,h1,h2⟩:=hP.rg q hq
 show (q.1,q.2 % p)=q
 rw [cu h1 h2]
theorem zaw:FnScope ["code","points","p","k","places","found","picked"] ["code","points"] (zh zaT):=⟨rfl,rfl,rfl,by decide +kernel,rfl,by decide +kernel,by decide +kernel⟩
theorem zeS {fd:FuncData} (T:Txt K mg t) (F:Fun K "all_through" "all_through" zaT t.all_through fd):FnOk P w K mg base CX0 4 t.all_through fd ["code","points"] (zeI K):=by
 obtain⟨fd_choices,F_choices,b_choices⟩:=T.f_choices
 have G_choices:=zig (P:=P) (w:=w) (base:=base) T F_choices
 obtain⟨fd_through,F_through,b_through⟩:=T.f_through
 have G_through:=zeR (P:=P) (w:=w) (base:=base) T F_through
 refine F.ok zaw (fun vs H Q E h=>?_) (fun cdv A outer s H vs Q E hr h=>?_)
 ·obtain⟨c,tt,a,p,k,pl,bs,pts,rfl,_⟩:=h
  rfl
 ·obtain⟨c,tt,a,p,k,pl,bs,pts,rfl,hc,hS,hB,hn,hp,hP,k0,k1,q⟩:=h
  have hu:(A.deeper (envOfC (bS "all_through") (zh zaT) s.heap.objs.size t.all_through cdv)).units+1 < cLine:=by have:=hr.units; lia
  refine⟨_,#[zd,#[zbD,#[pvx,0],#[za2,#[zj,#[zg,2,zaw.nd,(aq rfl)],#[zj,#[zg,3,zaw.nd,(aq rfl)],#[zj,#[zg,4,zaw.nd,(aq rfl)],#[zL]]]]]],by exact #[zd,#[zl,5,zaw.nd,(aq rfl),(@zk7 _ _)],by exact #[zd,#[zbc,bH,#[zM,#[zq,G_choices,(hr.mono (by decide)),T.m_choices,F_choices.kp,b_choices,#[zF],#[za,#[pvx,1],#[za,#[pvx,3],#[ze]]]]],#[zg,6,zaw.nd,(aq rfl)],#[zm,(@zmQ _ _ _ _ _ _ _ _ _ hu #[pvx,5] #[zq,G_through,(hr.mono (by decide)),T.m_through,F_through.kp,b_through,#[zF],#[za,#[pvx,2],#[za,#[pvx,6],#[ze]]]] #[zec] rfl)]],by exact #[zm,#[zG,#[zA,(@zga _ rfl),T.sorted_,j6,#[za,#[pvx,5],#[ze]]]]]]]],?_⟩
  have hsl:=aX
  have rp:=zr hp
  obtain⟨zs,rfl,rfl,hz⟩:=hB.zs
  rw [ab] at hn
  refine⟨_,rfl,c,_,rfl,SqT.of hc.1,rfl,_,_,rfl,_,_,rfl,_,_,rfl,rfl,fun D hD=>?_⟩
  have s0:=zb (o:=.dT []) hD
  have hD0:upd H D (.dT []) D=some (.dT []):=zc
  generalize upd H D (.dT [])=H0 at s0 hD0 ⊢
  refine⟨_,rfl,_,rfl,a,k,_,rfl,s0.seq hS,by rw [ab,ab]; lia,by lia,fun l ls H1 hl s1 h1l hpk=>?_⟩
  have hlD:l≠D:=fun e=>by rw [e,hD0] at hl; cases hl
  rw [bh,zfG (V.ref ∘ fun z:Addr×Int×Int=>z.1) zs k] at hpk
  have hpl:=hpk.length
  rw [ab,ab] at hpl
  have hsm:=zcE (xs:=zs) k hn
  obtain⟨zks,hzks⟩:∃ zks,(chs zs k).map (·.2)=zks:=⟨_,rfl⟩
  rw [hzks] at hpk
  have hzl:ls.length=zks.length:=by rw [hpl,← hzks,ab]
  have hH1D:H1 D=some (.dT []):=s1 _ _ hD0
  have hid:=zkW H1 D
  refine⟨l,rfl,⟨_,SqL.of h1l⟩,zbW (K:=K) (a:=l) (xs:=ls.map V.ref) (fun i σ H'=>∃ (kvs:List (List Key×V)) (mss:List (List Int)) (e6:Option V),σ = [some (.ref c),some (.ref a),some (.int p),some (.int k),some (.ref tt),some (.ref D),e6] ∧
   zu (hide H1 D) H'∧H' D=some (.dT kvs)∧KeysAre kvs mss∧mss.Nodup∧mss.length≤i∧∀ x,x∈mss↔∃ zk∈zks.take i,x=thr p (zk.map (·.2)))
   ⟨[],[],none,rfl,hid,hH1D,rfl,by simp,ag _,fun x=>by simp⟩ (fun i σ H' _ ⟨_,_,_,_,s3,_⟩=>SqL.of (s3 _ _ (zdZ h1l hlD))) ?_ ?_⟩
  ·rintro i y σ H2 hy ⟨kvs,mss,e6,rfl,s2,h2D,hkm,hnd,hml,hmem⟩
   obtain⟨b,rfl,hbi⟩:=zX hy
   obtain⟨hi,_⟩:=aA.mp hbi
   obtain⟨vk,hvk,hb1⟩:=Paired.get hpk hbi
   obtain⟨zk,hzk,rfl⟩:∃ zk,zks[i]? = some zk∧vk=zk.map (V.ref ∘ fun z:Addr×Int×Int=>z.1):=by
    rw [ah] at hvk
    cases e:zks[i]? with
    | none=>rw [e] at hvk; cases hvk
    | some zk=>rw [e] at hvk; exact⟨zk,rfl,(aP hvk).symm⟩
   have hbD:b≠D:=fun e=>by rw [e,hH1D] at hb1; cases hb1
   obtain⟨hsub,hlen⟩:=zgc.mp (by rw [hzks]; exact aG hzk:zk∈(chs zs k).map (·.2))
   have hPk:Pts p (zk.map (·.2)):=hP.sub (hsub.map _)
   have hpts:zkS K H2 b (zk.map (·.2)):=by
    refine⟨zk.map (·.1),?_,by rw [ab,ab],fun j b' q' h1 h2=>?_⟩
    ·have:=s2 _ _ (zdZ hb1 hbD)
     rw [bh]
     exact SqL.of this
    ·rw [ah] at h1 h2
     cases e:zk[j]? with
     | none=>rw [e] at h1; cases h1
     | some z =>
      rw [e] at h1 h2
      cases h1
      cases h2
      have hz1:=hz z (hsub.subset (aG e))
      have hzD:z.1≠D:=zw hz1 hD
      exact s2 _ _ (zdZ ((s0.trans s1) _ _ hz1) hzD)
   have hmf:kvs.length=mss.length:=by
    have:=congrArg eI hkm
    rw [ab,ab] at this
    exact this
   refine⟨_,rfl,_,rfl,_,rfl,p,b,_,rfl,hpts,by rw [ab]; lia,hp,(by rw [znX hPk]; exact hPk),(fun q hq=>by have:=hPk.rg q hq; lia),fun tl H3 htl s3 h3=>?_⟩
   rw [znX hPk] at h3
   have h3D:=s3 _ _ h2D
   refine⟨D,_,rfl,zk6.t (k:=(thr p (zk.map (·.2))).map cL) h3D (by rw [h3,bh]; rfl) (by lia),?_⟩
   obtain⟨mss',m1,m2,m3,m4⟩:=zls hkm hnd (thr p (zk.map (·.2))) (.bl true)
   refine⟨_,mss',_,rfl,?_,zc,m1,m2,by lia,fun x=>?_⟩
   ·refine zae (s2.trans s3) ?_
    unfold hide
    rw [if_pos rfl]
   ·rw [m4 x,hmem x,take_snoc hzk]
    constructor
    ·rintro (⟨zk',h1,h2⟩ | e)
     ·exact⟨zk',aU _ h1,h2⟩
     ·exact⟨zk,aK _ (aW.mpr rfl),e⟩
    ·rintro⟨zk',h1,h2⟩
     rcases (a7.mp h1) with h1 | h1
     ·exact .inl ⟨zk',h1,h2⟩
     ·rw [aW.mp h1] at h2
      exact .inr h2
  ·rintro σ H2 ⟨kvs,mss,e6,rfl,s2,h2D,hkm,hnd,hml,hmem⟩
   rw [ab,hzl] at hmem hml
   rw [bA] at hmem
   rw [← hzl,hpl] at hml
   have hall:∀ x,x∈mss↔∃ pk∈(chs (zs.map (·.2)) k).map (·.2),x=thr p pk:=fun x=>by
    rw [hmem x,zfG,hzks]
    constructor
    ·rintro⟨zk,h1,h2⟩
     exact⟨_,ft h1,h2⟩
    ·rintro⟨pk,h1,h2⟩
     obtain⟨zk,h3,rfl⟩:=aE.mp h1
     exact⟨zk,h3,h2⟩
   have hisP:∀ x∈mss,IsP p k x:=fun x hx=>by
    obtain⟨pk,h1,rfl⟩:=(hall x).mp hx
    exact ziW hp hP h1
   refine⟨_,rfl,D,k,p,kvs,mss,rfl,h2D,hkm,fun ms hm=>hisP ms hm,k0,by lia,fun r ps' hr' hperm hsort hH=>?_⟩
   have hHs:zu H H2:=fun x u e=>s2 _ _ (zdZ ((s0.trans s1) _ _ e) (zw e hD))
   have e1:ps'.map (fun q=>V.ref q.1)=(ps'.map (·.1)).map V.ref:=by rw [bh]; rfl
   rw [e1]
   refine q r (ps'.map (·.1)) (ps'.map (·.2)) _ (hHs.free hr') (hHs.trans (zb hr')) zc ((zbH.of hH).same (zb hr')) (by rw [hperm.length_eq]; lia) (zm5 (by lia) (fun x hx=>hisP x (hperm.mem_iff.mp hx)) (hperm.nodup_iff.mpr hnd) ?_) fun x=>?_
   ·rw [ck]
    exact hsort
   ·rw [hperm.mem_iff]
    exact hall x
def zgu (K:ai):Sp:=fun vs H Q _=>∃ (c tt r:Addr) (p:Int) (k:Nat) (T:Int) (pl:List Int) (rw:List (Option Int)),vs = [.ref c,.ref r,.int T]∧za5 H c tt p k pl∧H r=some (.lst (rw.map enc))∧rw.length=pl.length∧pl.length≤16∧p∈zo∧pl.Nodup∧(∀ x∈pl,0≤x∧x < p)∧(∀ z,some z∈rw→0≤z∧z < p)∧1≤k∧k≤100∧(k:Int)≤T ∧
 ∀ (l:Addr) (rs:List Addr) (qs:List (List Int)) (H':Hp),H l=none→zu H H'→H' l=some (.lst (rs.map V.ref))→zbH H' rs qs→zdN p k qs→(∀ q,q∈qs↔IsP p k q∧T≤(hits p q (hps pl rw):Int))→Q (.ref l) H'
theorem zbP:FnScope ["code","row","t","k","points","first"] ["code","row","t"] (zh zbI):=⟨rfl,rfl,rfl,by decide +kernel,rfl,by decide +kernel,by decide +kernel⟩
theorem zhy {fd:FuncData} (T:Txt K mg t) (F:Fun K "all_near" "all_near" zbI t.all_near fd):FnOk P w K mg base CX0 5 t.all_near fd ["code","row","t"] (zgu K):=by
 obtain⟨fd_heard_points,F_heard_points,b_heard_points⟩:=T.f_heard_points
 have G_heard_points:=zbu (P:=P) (w:=w) (base:=base) T F_heard_points
 obtain⟨fd_fits,F_fits,b_fits⟩:=T.f_fits
 have G_fits:=zje (P:=P) (w:=w) (base:=base) T F_fits
 obtain⟨fd_all_through,F_all_through,b_all_through⟩:=T.f_all_through
 have G_all_through:=zeS (P:=P) (w:=w) (base:=base) T F_all_through
 refine F.ok zbP (fun vs H Q E h=>?_) (fun cdv A outer s H vs Q E hr h=>?_)
 ·obtain⟨c,tt,r,p,k,T',pl,rw,rfl,_⟩:=h
  rfl
 ·obtain⟨c,tt,r,p,k,T',pl,rw,rfl,hc,hra,hrl,hn,hp,hnd,hpl,hrw,k0,k1,h1,q⟩:=h
  refine⟨_,#[zd,#[zl,3,zbP.nd,(aq rfl),#[zH,#[zb9],#[pvx,0],#[zf]]],by exact #[zd,#[zbj,#[zR,#[zin],#[pvx,2],#[pvx,3],(zac _)],#[zfe],#[zap]],by exact #[zd,#[zl,4,zbP.nd,(aq rfl),#[zq,G_heard_points,(hr.mono (by decide)),T.m_heard_points,F_heard_points.kp,b_heard_points,#[zF],#[za,#[pvx,0],#[za,#[pvx,1],#[ze]]]]],by exact #[zd,#[zbj,#[zR,#[zgH],#[pvx,2],#[zA,#[zI],T.len_,cq,#[za,#[pvx,4],#[ze]]],(zac _)],#[zm,#[zG,#[zY,#[ze]]]],#[zap]],by exact #[zd,#[zl,5,zbP.nd,(aq rfl),#[za3,zca,#[pvx,4],#[zbJ],#[zbf,#[zi,#[zK],#[zi,#[zaR],#[zA,#[zI],T.len_,cq,#[za,#[pvx,4],#[ze]]],#[pvx,2]],#[pvx,3]]]]],by exact #[zm,#[zG,#[zO,(CompSc.of (N':=["polynomial","code","row","t"]) (ix:=[none,some 0,some 1,some 2]) (zh zbI) ["code","row","t","k","points","first"] rfl rfl (by decide +kernel)),#[zZ],#[zM,#[zq,G_all_through,(hr.mono (by decide)),T.m_all_through,F_all_through.kp,b_all_through,#[zF],#[za,#[pvx,0],#[za,#[pvx,5],#[ze]]]]],(fun _ _ _ _=>#[zg,0,(show (["polynomial","code","row","t"]:List Str).Nodup by decide +kernel),(aq rfl)]),(fun _ _ _ _=>#[zc4,#[zR,#[znK],#[zA,#[zaE,(K)],T.len_,cq,#[za,#[zq,G_fits,(hr.mono (by decide)),T.m_fits,F_fits.kp,b_fits,#[zF],#[za,#[pvx,1],#[za,#[pvx,2],#[za,#[pvx,0],#[ze]]]]],#[ze]]],#[pvx,3],(zac _)]]),(fun _ _ _ _=>#[pvx,0])]]]]]]]],?_⟩
  have hsl:=aX
  have rp:=zr hp
  have hR:RowAt K H r pl.length rw:=⟨SqL.of hra,hrl⟩
  have hP:=zdf hnd hpl hrw
  have hhl:=zby pl rw
  refine⟨_,rfl,c,_,_,_,rfl,rfl,SqT.of hc.1,rfl,?_⟩
  refine⟨_,rfl,_,rfl,_,_,rfl,rfl,_,rfl,?_⟩
  ·refine zbq (fun h=>absurd (of_decide_eq_true h) (by lia)) (fun _=>?_)
   refine⟨_,rfl,_,rfl,c,tt,r,p,k,pl,rw,rfl,hc,hR,by lia,fun l bs H1 hl1 s1 h1l hB=>?_⟩
   have hbl:bs.length=(hps pl rw).length:=hB.length
   refine⟨_,rfl,_,rfl,l,_,rfl,.inl (SqL.of h1l),_,_,rfl,rfl,_,rfl,?_⟩
   rw [ab]
   refine zbq (fun hlt=>?_) (fun hge=>?_)
   ·have hlt:=of_decide_eq_true hlt
    refine⟨bi _,fun z hz=>q z [] [] _ (s1.free hz) (s1.trans (zb hz)) zc .nil ⟨by simp,.nil⟩ fun x=>?_⟩
    have:=eS (hit p x) (hps pl rw)
    constructor
    ·intro h; cases h
    ·rintro⟨_,h⟩
     unfold hits at h
     lia
   ·have hge:¬ T' > (bs.length:Int):=fun h=>hge (decide_eq_true h)
    obtain⟨tn,rfl⟩:∃ tn:Nat,T'=tn:=⟨T'.toNat,by lia⟩
    refine⟨_,rfl,_,rfl,l,_,rfl,.inl (SqL.of h1l),_,rfl,_,_,rfl,rfl,_,rfl,_,_,rfl,rfl,_,rfl,l,_,rfl,SqL.of h1l,fun z hz=>?_⟩
    have ecut:((bs.map V.ref).length:Int) - (tn:Int)+(k:Int)=((bs.length - tn+k:Nat):Int):=by rw [ab]; lia
    rw [ecut,zl1,← dQ]
    have v1:=zb (o:=.lst ((bs.take (bs.length - tn+k)).map V.ref)) hz
    have hzz:upd H1 z (.lst ((bs.take (bs.length - tn+k)).map V.ref)) z=some (.lst ((bs.take (bs.length - tn+k)).map V.ref)):=zc
    have s2:=s1.trans v1
    have hB2:=(hB.same v1).take (bs.length - tn+k)
    generalize upd H1 z (.lst ((bs.take (bs.length - tn+k)).map V.ref))=H2 at v1 hzz s2 hB2 ⊢
    have hPt:Pts p ((hps pl rw).take (bs.length - tn+k)):=hP.sub (cj _ _)
    refine⟨_,rfl,_,rfl,c,tt,z,p,k,pl,_,_,rfl,hc.same s2,SqL.of hzz,hB2,by rw [aD]; lia,hp,hPt,k0,k1,fun l2 rs qs H3 hl2 s3 h3l hT hql hRise hmem=>?_⟩
    have hrq:=hT.length
    have s13:=s2.trans s3
    refine⟨l2,rfl,⟨_,SqL.of h3l⟩,zS (n:=rs.length) (fun i ys H'=>zu H3 H'∧∃ us:List Addr,ys=us.map V.ref∧us.length≤i∧zbH H' us ((qs.take i).filter fun x=>decide ((tn:Int)≤(hits p x (hps pl rw):Int)))) ⟨fun _ _ e=>e,[],rfl,ag _,.nil⟩ ?_ ?_ ?_ ?_⟩
    ·rintro i ys H4 hi ⟨s4,_⟩
     exact⟨_,.ref rs[i],SqL.of (s4 _ _ h3l),by rw [ah,aj hi]; rfl⟩
    ·rintro ys H4 ⟨s4,_⟩
     exact⟨_,SqL.of (s4 _ _ h3l),by rw [ab]; exact ag _⟩
    ·rintro i y ys H4 H5 hi ⟨s4,us,rfl,hul,hus⟩ ⟨rfl,hy⟩
     obtain⟨rb,rfl,hrb⟩:=zX (hy _ (SqL.of (s4 _ _ h3l)))
     obtain⟨qq,hqq,hat⟩:=Paired.get hT hrb
     have s14:=s13.trans s4
     refine⟨_,rfl,_,rfl,_,rfl,c,tt,r,rb,p,k,pl,qq,rw,rfl,hc.same s14,s14 _ _ hra,hrl,s4 _ _ hat,by lia,by lia,hpl,by lia,fun fl H6 hfl s6 h6=>?_⟩
     refine⟨fl,_,rfl,.inl (SqL.of h6),_,rfl,_,_,rfl,rfl,_,rfl,?_⟩
     have ef:((zet p pl rw qq pl.length).map V.int).length=hits p qq (hps pl rw):=by rw [ab]; exact zge hrl
     rw [ef]
     have hsn:(qs.take (i+1)).filter (fun x=>decide ((tn:Int)≤(hits p x (hps pl rw):Int)))=(qs.take i).filter (fun x=>decide ((tn:Int)≤(hits p x (hps pl rw):Int)))++[qq].filter (fun x=>decide ((tn:Int)≤(hits p x (hps pl rw):Int))):=by rw [take_snoc hqq,eE]
     refine zbq (fun h=>⟨_,rfl,?_,s4.trans s6,us++[rb],by rw [au]; rfl,by rw [ao]; exact f8 hul,?_⟩) (fun h=>⟨s4.trans s6,us,rfl,by lia,?_⟩)
     ·rw [ab]; lia
     ·rw [hsn,eA (p:=fun x=>decide ((tn:Int)≤(hits p x (hps pl rw):Int))) h]
      exact bR (hus.same s6) ((s4.trans s6) _ _ hat)
     ·rw [hsn,eB (p:=fun x=>decide ((tn:Int)≤(hits p x (hps pl rw):Int))) h,iM,bD]
      exact hus.same s6
    ·rintro ys H4 D ⟨s4,us,rfl,hul,hus⟩ hD
     rw [hrq,bA] at hus
     have s14:=s13.trans s4
     refine q D us _ _ (s14.free hD) (s14.trans (zb hD)) zc (hus.same (zb hD)) (hRise.filter _) fun x=>?_
     rw [cw,hmem x,decide_eq_true_iff]
     constructor
     ·rintro⟨⟨pk,h1,rfl⟩,h2⟩
      exact⟨ziW hp hPt h1,h2⟩
     ·rintro⟨h1',h2⟩
      exact⟨zeF hp hP h1' (t:=tn) (by lia) (by lia) (by lia),h2⟩
end
end My
end
section
namespace My
open PySem L2 PyProof.Rows
section
variable {P:Program} {w:World} {K:ai} {mg:Str→Option Value} {base:Heap} {t:Adr}
def pwr (p x:Int) (kept n:Nat):List Int:=(aH kept).map fun u=>cf x n u % p
def pws (p x:Int) (kept n:Nat):List (List Int):=(aH n).map (pwr p x kept)
theorem zeT (p x:Int) (kept n:Nat):pws p x kept (n+1)=pws p x kept n++[pwr p x kept n]:=by
 unfold pws
 rw [cg,au]
 rfl
theorem zbb (p x:Int) (kept n:Nat):(pwr p x kept n).length=kept:=by unfold pwr; rw [ab,aV]
theorem zeU {p x:Int} {kept n u:Nat} (h:u < kept):gl (pwr p x kept n) u=cf x n u % p:=zbF (by unfold pwr; rw [ah,bM h]; rfl)
theorem zl9 {p x:Int} {kept n:Nat}:(zbL p (-x) (pwr p x kept n)).take kept=pwr p x kept (n+1):=by
 refine zlo (by rw [aD,zb2,zbb,zbb]; lia) fun u hu=>?_
 have hu:u < kept:=by rw [aD,zb2,zbb] at hu; lia
 rw [zeU hu]
 have e1:gl ((zbL p (-x) (pwr p x kept n)).take kept) u=gl (zbL p (-x) (pwr p x kept n)) u:=by
  unfold gl
  rw [aN,aN,bG hu]
 rw [e1]
 unfold zbL
 rw [zln (by rw [bW,zbb]; lia) (by rw [ao,zbb]; simp; lia)]
 have e2:gl (pwr p x kept n++[0]) u=cf x n u % p:=by
  rw [← zeU hu]
  unfold gl
  rw [aN,aN,bj (by rw [zbb]; exact hu)]
 rw [e2]
 show (_ - (-x)*_) % p=_
 cases u with
 | zero =>
  show (0 - (-x)*(cf x n 0 % p)) % p=cf x (n+1) 0 % p
  rw [zgn,zgn,dE]
  refine Cg.mod_eq ?_
  refine (((Cg.refl p 0).sub ((Cg.refl p (-x)).mul (Cg.emod p _)))).trans (Cg.of_eq (by grind))
 | succ u =>
  have e3:gl (0 :: pwr p x kept n) (u+1)=cf x n u % p:=by
   rw [← zeU (show u < kept by lia)]
   unfold gl
   simp
  rw [e3,znq]
  refine Cg.mod_eq ?_
  refine ((Cg.emod p _).sub ((Cg.refl p (-x)).mul (Cg.emod p _))).trans (Cg.of_eq (by grind))
theorem zma {p x:Int} (hp:1 < p) {kept:Nat} (hk:1≤kept):pwr p x kept 0=1 :: aw (kept - 1) 0:=by
 refine zlo (by rw [zbb,bW,aT]; lia) fun u hu=>?_
 rw [zbb] at hu
 rw [zeU hu]
 cases u with
 | zero =>
  rw [zgn,ir]
  show (1:Int) % p=1
  exact cu (by decide) hp
 | succ u =>
  have e:cf x 0 (u+1)=0:=by show (0:Int)*_=0; simp
  rw [e,Int.zero_emod]
  unfold gl
  rw [aN,cn,cJ,if_pos (by lia)]
  rfl
def zdR (K:ai):Sp:=fun vs H Q _=>∃ (p x:Int) (most kept:Nat),vs = [.int p,.int x,.int (most:Int),.int (kept:Int)]∧5≤p∧p≤97∧0≤x∧x < p∧most≤500∧1≤kept∧kept≤100 ∧
 ∀ (l:Addr) (ls:List Addr) (H':Hp),H l=none→zu H H'→H' l=some (.lst (ls.map V.ref))→LsA H' ls (pws p x kept (most+1))→Q (.ref l) H'
theorem zbv:FnScope ["p","by","most","kept","powers","power"] ["p","by","most","kept"] (zh za8):=⟨rfl,rfl,rfl,by decide +kernel,rfl,by decide +kernel,by decide +kernel⟩
theorem zdS {fd:FuncData} (T:Txt K mg t) (F:Fun K "moved_powers" "moved_powers" za8 t.moved_powers fd):FnOk P w K mg base CX0 2 t.moved_powers fd ["p","by","most","kept"] (zdR K):=by
 obtain⟨fd_times_root,F_times_root,b_times_root⟩:=T.f_times_root
 have G_times_root:=zcS (P:=P) (w:=w) (base:=base) T F_times_root
 refine F.ok zbv (fun vs H Q E h=>?_) (fun cdv A outer s H vs Q E hr h=>?_)
 ·obtain⟨p,x,most,kept,rfl,_⟩:=h
  rfl
 ·obtain⟨p,x,most,kept,rfl,p5,p97,x0,x1,hm,k1,k2,q⟩:=h
  refine⟨_,#[zd,#[zl,4,zbv.nd,(aq rfl),#[zY,#[za,#[zi,#[zcT],#[zY,#[za,#[zf],#[ze]]],#[zi,#[zfR],#[zY,#[za,#[zf],#[ze]]],#[zi,#[zaR],#[pvx,3],#[zf]]]],#[ze]]]],by exact #[zd,#[zbc,bH,#[zad,T.range_,#[za,#[pvx,2],#[ze]]],#[zg,5,zbv.nd,(aq rfl)],#[zm,#[zcy,#[zfp,cp,dn,dq,#[zb0],#[pvx,4],#[za,#[za3,zca,#[zq,G_times_root,(hr.mono (by decide)),T.m_times_root,F_times_root.kp,b_times_root,#[zF],#[za,#[pvx,0],#[za,#[zH,#[zD],#[pvx,4],#[zku,zhK,#[zf]]],#[za,#[zku,zhK,#[pvx,1]],#[ze]]]]],#[zbJ],#[zbf,#[pvx,3]]],#[ze]]]]]],by exact #[zm,#[zG,#[pvx,4]]]]],?_⟩
  have hsl:=aX
  refine⟨by show 1≤sizeLine; lia,fun A1 hA1=>?_⟩
  have u1:=zb (o:=.lst [V.int 1]) hA1
  have v1:upd H A1 (.lst [V.int 1]) A1=some (.lst [V.int 1]):=zc
  generalize upd H A1 (.lst [V.int 1])=H1 at u1 v1 ⊢
  refine⟨by show 1≤sizeLine; lia,fun A2 hA2=>?_⟩
  have u2:=u1.trans (zb (o:=.lst [V.int 0]) hA2)
  have v12:=(zb (o:=.lst [V.int 0]) hA2) _ _ v1
  have v2:upd H1 A2 (.lst [V.int 0]) A2=some (.lst [V.int 0]):=zc
  generalize upd H1 A2 (.lst [V.int 0])=H2 at u2 v12 v2 ⊢
  have ek:((kept:Int) - 1).toNat=kept - 1:=by lia
  refine⟨_,rfl,_,_,rfl,rfl,A2,_,_,rfl,rfl,v2,by lia,by lia,by rw [ek]; show 1*(kept - 1)≤sizeLine; lia,fun A3 hA3=>?_⟩
  rw [ek,List.flatten_replicate_singleton]
  have w3:=zb (o:=.lst (aw (kept - 1) (V.int 0))) hA3
  have v13:=w3 _ _ v12
  have v3:upd H2 A3 (.lst (aw (kept - 1) (V.int 0))) A3=some (.lst (aw (kept - 1) (V.int 0))):=zc
  have u3:=u2.trans w3
  generalize upd H2 A3 (.lst (aw (kept - 1) (V.int 0)))=H3 at u3 v13 v3 ⊢
  refine⟨A1,A3,_,_,rfl,rfl,v13,v3,by rw [aT]; show 1+(kept - 1)≤sizeLine; lia,fun A4 hA4=>?_⟩
  have ez:[V.int 1]++aw (kept - 1) (V.int 0)=(pwr p x kept 0).map V.int:=by rw [zma (by lia) k1,aS,List.map_replicate]; rfl
  rw [ez]
  have u4:=u3.trans (zb (o:=.lst ((pwr p x kept 0).map V.int)) hA4)
  have v4:upd H3 A4 (.lst ((pwr p x kept 0).map V.int)) A4=some (.lst ((pwr p x kept 0).map V.int)):=zc
  generalize upd H3 A4 (.lst ((pwr p x kept 0).map V.int))=H4 at u4 v4 ⊢
  refine⟨by show 1≤sizeLine; lia,fun PW hPW=>?_⟩
  have sw:=zb (o:=.lst [V.ref A4]) hPW
  have emt:((most:Int)).toNat=most:=by lia
  refine⟨_,rfl,_,rfl,by lia,by lia,zbX (lo:=0) (n:=((most:Int)).toNat) (fun i σ H'=>∃ (e5:Option V),σ = [some (.int p),some (.int x),some (.int (most:Int)),some (.int (kept:Int)),some (.ref PW),e5]∧zu H H'∧∃ ls:List Addr,H' PW=some (.lst (ls.map V.ref))∧LsA H' ls (pws p x kept (i+1))) ⟨none,rfl,u4.trans sw,[A4],zc,.cons (sw _ _ v4) .nil⟩ ?_ ?_⟩
  ·rintro i σ H5 hi ⟨e5,rfl,s5,ls,h5,hls⟩
   have hll:ls.length=i+1:=by rw [bg hls]; unfold pws; rw [ab,aV]
   rw [zeT] at hls
   obtain⟨ls',b,rfl⟩:∃ ls' b,ls=ls'++[b]:=⟨_,_,(List.dropLast_concat_getLast (l:=ls) (fun e=>by rw [e] at hll; simp at hll)).symm⟩
   obtain⟨hA,hB⟩:=zdI hls
   have hat:atI ((ls'++[b]).map V.ref) (-1)=some (.ref b):=by rw [au]; exact znz
   refine⟨_,rfl,.inl ⟨rfl,_,SqL.of h5⟩,_,rfl,_,rfl,_,rfl,PW,_,_,_,rfl,rfl,SqL.of h5,hat,_,rfl,_,rfl,p,-x,b,_,rfl,hB,by rw [zbb]; lia,by lia,by lia,by lia,fun l H6 hl s6 h6=>?_⟩
   refine⟨_,rfl,_,rfl,l,_,rfl,SqL.of h6,fun z hz=>?_⟩
   have ec:za1 ((zbL p (-x) (pwr p x kept i)).map V.int) none (some (kept:Int))=(pwr p x kept (i+1)).map V.int:=by
    unfold za1
    rw [HT.sIx_nat,HT.sIx_none,cZ,dG,ab,zb2,zbb,cD (by lia),← dQ,zl9]
   rw [ec]
   have sz:=zb (o:=.lst ((pwr p x kept (i+1)).map V.int)) hz
   have h6P:=s6 _ _ h5
   have h7P:=sz _ _ h6P
   have zP:z≠PW:=(zw h6P hz).symm
   refine⟨PW,_,_,rfl,rfl,h7P,by rw [ab,hll]; lia,?_⟩
   refine⟨_,rfl,zae ((s5.trans s6).trans sz) (u4.free hPW),(ls'++[b])++[z],by rw [zc]; simp,?_⟩
   rw [zeT]
   refine bR (zoT (D:=PW) (fun hm=>?_) (fun c o hc e=>by rw [zn hc]; exact e) (LsA.same (s6.trans sz) (by rw [zeT]; exact hls))) (by rw [zn zP]; exact zc)
   obtain⟨j,hj⟩:=c7.mp hm
   exact LsA.off hls h5 j PW hj rfl
  ·rintro σ H5 ⟨e5,rfl,s5,ls,h5,hls⟩
   rw [emt] at hls
   exact⟨_,rfl,q PW ls _ (u4.free hPW) s5 h5 hls⟩
def tI (t:Tm):Int×Int:=((t.1:Int),(t.2:Int))
theorem zjf {ns:List Nat} {M:Int} (hM:M∈ns.map fun n:Nat=>(n:Int)) (hM':∀ a∈ns.map (fun n:Nat=>(n:Int)),a≤M):∃ m:Nat,M=m∧m∈ns∧∀ n∈ns,n≤m:=by
 obtain⟨m,hm,rfl⟩:=aE.mp hM
 refine⟨m,rfl,hm,fun n hn=>?_⟩
 have:=hM' _ (aE.mpr ⟨n,hn,rfl⟩)
 lia
theorem zjg {K:ai} {H:Hp} {tl:Addr} {bs:List Addr} {ts:List Tm} (htl:H tl=some (.lst (bs.map V.ref))) (hpt:PtB H bs (ts.map tI)) (hlen:ts.length≤200) {g:TG} {tt:TT} {te:TE} {σ0:L2.St} {Q:VK} (f:Tm→Int)
  (hs:∀ (T:Addr) (t:Tm) (R:VK) (B:L2.St→Hp→Prop),t∈ts→SqT K H T [.int (t.1:Int),.int (t.2:Int)]→R (.int (f t)) H→g (.ref T) σ0 H fun σ2 H2=>tt σ2 H2 fun b H3=>if b=true then te σ2 H3 R else B σ2 H3)
  (hd:∀ D,H D=none→Q (.ref D) (upd H D (.lst ((ts.map f).map V.int)))):cGo g tt te σ0 (Itl K tl) Q H:=by
 have hbl:bs.length=ts.length:=by rw [bg hpt,ab]
 refine zbB (fs:=(ts.map f).map V.int) (SqL.of htl) (by rw [ab,ab,ab,hbl]) (by rw [ab]; lia) (fun i x y R B hx hy hR=>?_) hd
 obtain⟨b,rfl,hbi⟩:=zX hx
 obtain⟨q,hq,hT⟩:=Paired.get hpt hbi
 rw [ah] at hq
 obtain⟨t,ht,rfl⟩:=f7.mp hq
 rw [ah,ah,ht] at hy
 have hy:V.int (f t)=y:=by simpa using hy
 subst hy
 exact hs b t R B (aG ht) (SqT.of hT) hR
def nAt (t:Tm) (x y p:Int) (w m:Nat):List Int:=(aH m).flatMap fun u=>(aH (w - u)).map fun v=>cv t ⟨x,y,u,v⟩ % p
theorem zhz (t:Tm) (x y p:Int) (w m:Nat):nAt t x y p w (m+1)=nAt t x y p w m++(aH (w - m)).map fun v=>cv t ⟨x,y,m,v⟩ % p:=by
 unfold nAt
 rw [cg,ci]
 simp
theorem znE (t:Tm) (x y p:Int) (w:Nat):nAt t x y p w w=(pco (x,y,w)).map fun c=>cv t c % p:=by
 unfold nAt pco
 rw [km]
 congr 1
 funext u
 rw [bh]
 rfl
theorem zjh (t:Tm) (x y p:Int) (w:Nat):∀ m,(nAt t x y p w m).length≤w*m
 | 0=>by simp [nAt]
 | m+1=>by
  have ih:=zjh t x y p w m
  rw [zhz,ao,ab,aV,Nat.mul_succ]
  lia
theorem zmb {H:Hp} {l:Addr} {ls:List Addr} {p x:Int} {w n i u:Nat} (h:LsA H ls (pws p x w n)) (hi:i < n) (hu:u < w):∃ b,atI (ls.map V.ref) (i:Int)=some (.ref b)∧H b=some (.lst ((pwr p x w i).map V.int))∧atI ((pwr p x w i).map V.int) (u:Int)=some (.int (cf x i u % p)):=by
 have hl:ls.length=n:=by rw [bg h]; unfold pws; rw [ab,aV]
 have hb:ls[i]? = some (ls[i]'(by lia)):=aj (by lia)
 obtain⟨v,hv,hvb⟩:=Paired.get h hb
 unfold pws at hv
 rw [ah,bM hi] at hv
 cases hv
 refine⟨_,zaG (by rw [ah,hb]; rfl),hvb,zaG ?_⟩
 rw [ah,zbt (by rw [zbb]; exact hu),zeU hu]
 rfl
def ze8 (K:ai):Sp:=fun vs H Q _=>∃ (p:Int) (tl pt:Addr) (x y:Int) (w:Nat) (bs:List Addr) (ts:List Tm),vs = [.int p,.ref tl,.ref pt]∧5≤p∧p≤97∧0≤x∧x < p∧0≤y∧y < p∧1≤w∧w≤9∧H tl=some (.lst (bs.map V.ref))∧PtB H bs (ts.map tI)∧ts≠[]∧ts.length≤200∧(∀ t∈ts,t.1≤400∧t.2≤400)∧H pt=some (.tup [.int x,.int y,.int (w:Int)]) ∧
 ∀ (l:Addr) (ls:List Addr) (H':Hp),H l=none→zu H H'→H' l=some (.lst (ls.map V.ref))→LsA H' ls (ts.map fun t=>(pco (x,y,w)).map fun c=>cv t c % p)→Q (.ref l) H'
theorem zaF:FnScope ["p","terms","point","x","y","weight","by_x","by_y"] ["p","terms","point"] (zh zaC):=⟨rfl,rfl,rfl,by decide +kernel,rfl,by decide +kernel,by decide +kernel⟩
theorem ze9 {fd:FuncData} (T:Txt K mg t) (F:Fun K "numbers_at" "numbers_at" zaC t.numbers_at fd):FnOk P w K mg base CX0 3 t.numbers_at fd ["p","terms","point"] (ze8 K):=by
 obtain⟨fd_moved_powers,F_moved_powers,b_moved_powers⟩:=T.f_moved_powers
 have G_moved_powers:=zdS (P:=P) (w:=w) (base:=base) T F_moved_powers
 refine F.ok zaF (fun vs H Q E h=>?_) (fun cdv A outer s H vs Q E hr h=>?_)
 ·obtain⟨p,tl,pt,x,y,wt,bs,ts,rfl,_⟩:=h
  rfl
 ·obtain⟨p,tl,pt,x,y,wt,bs,ts,rfl,p5,p97,x0,x1,y0,y1,w1,w9,htl,hpt,hne,hlen,hts,hp,q⟩:=h
  refine⟨_,#[zd,#[zbD,#[pvx,2],#[za2,#[zj,#[zg,3,zaF.nd,(aq rfl)],#[zj,#[zg,4,zaF.nd,(aq rfl)],#[zj,#[zg,5,zaF.nd,(bP rfl)],#[zL]]]]]],by exact #[zd,#[zl,6,zaF.nd,(bP rfl),#[zq,G_moved_powers,(hr.mono (by decide)),T.m_moved_powers,F_moved_powers.kp,b_moved_powers,#[zF],#[za,#[pvx,0],by exact #[za,#[pvx,3],#[za,#[zA,#[zdv],T.max_,boot_max,#[za,#[zO,(CompSc.of (N':=["i","j"]) (ix:=[none,none]) (zh zaC) ["p","terms","point","x","y","weight","by_x","by_y"] rfl rfl (by decide +kernel)),#[zaW,#[zy,#[zy,#[zay]]]],#[zM,#[pvx,1]],(fun _ _ _ _=>#[zau,(K),2,#[zj,#[zg,0,(show (["i","j"]:List Str).Nodup by decide +kernel),(aq rfl)],#[zj,#[zg,1,(show (["i","j"]:List Str).Nodup by decide +kernel),(aq rfl)],#[zL]]]]),(fun _ _ _ _=>#[zt]),(fun _ _ _ _=>#[pvx,0])],#[ze]]],#[za,#[pvx,5],#[ze]]]]]]],by exact #[zd,#[zl,7,zaF.nd,(bP rfl),#[zq,G_moved_powers,(hr.mono (by decide)),T.m_moved_powers,F_moved_powers.kp,b_moved_powers,#[zF],#[za,#[pvx,0],by exact #[za,#[pvx,4],#[za,#[zA,#[zdv],T.max_,boot_max,#[za,#[zO,(CompSc.of (N':=["i","j"]) (ix:=[none,none]) (zh zaC) ["p","terms","point","x","y","weight","by_x","by_y"] rfl rfl (by decide +kernel)),#[zaW,#[zy,#[zy,#[zay]]]],#[zM,#[pvx,1]],(fun _ _ _ _=>#[zau,(K),2,#[zj,#[zg,0,(show (["i","j"]:List Str).Nodup by decide +kernel),(aq rfl)],#[zj,#[zg,1,(show (["i","j"]:List Str).Nodup by decide +kernel),(aq rfl)],#[zL]]]]),(fun _ _ _ _=>#[zt]),(fun _ _ _ _=>#[pvx,1])],#[ze]]],#[za,#[pvx,5],#[ze]]]]]]],by exact #[zm,#[zG,#[zO,(CompSc.of (N':=["i","j","weight","by_x","by_y","p"]) (ix:=[none,none,some 5,some 6,some 7,some 0]) (zh zaC) ["p","terms","point","x","y","weight","by_x","by_y"] rfl rfl (by decide +kernel)),#[zaW,#[zy,#[zy,#[zay]]]],#[zM,#[pvx,1]],(fun _ _ _ _=>#[zau,(K),2,#[zj,#[zg,0,(show (["i","j","weight","by_x","by_y","p"]:List Str).Nodup by decide +kernel),(bP rfl)],#[zj,#[zg,1,(show (["i","j","weight","by_x","by_y","p"]:List Str).Nodup by decide +kernel),(bP rfl)],#[zL]]]]),(fun _ _ _ _=>#[zt]),(fun _ _ _ _=>#[ziQ,(CompSc.of (N':=["u","v","by_x","i","by_y","j","p","weight"]) (ix:=[none,none,some 3,some 0,some 4,some 1,some 5,some 2]) ({ kind:=.function,names:=[(".0",.local),("i",.cell),("j",.cell),("range",.globalImplicit),("by_x",.cell),("by_y",.cell),("p",.cell),("weight",.cell)],isGenerator:=false,isCoroutine:=false }) ["i","j","weight","by_x","by_y","p"] (by with_unfolding_all rfl) rfl (by decide +kernel)),(zcz (js:=[0]) (i:=0) (by decide)),(zcz (js:=[1]) (i:=1) (by decide)),#[zad,T.range_,#[za,#[pvx,2],#[ze]]],(fun _ _ _ _=>#[zg,0,(show (["u","v","by_x","i","by_y","j","p","weight"]:List Str).Nodup by decide +kernel),(aq rfl)]),(fun _ _ _ _=>#[zt]),(fun _ _ _ _=>#[zad,T.range_,#[za,#[zi,#[zaR],#[pvx,7],#[pvx,0]],#[ze]]]),(fun _ _ _ _=>#[zg,1,(show (["u","v","by_x","i","by_y","j","p","weight"]:List Str).Nodup by decide +kernel),(aq rfl)]),(fun _ _ _ _=>#[zt]),(fun _ _ _ _=>#[zi,#[zC],#[zi,#[zT],#[zH,#[za4,(K)],#[zH,#[za4,(K)],#[pvx,2],#[pvx,3]],#[pvx,0]],#[zH,#[za4,(K)],#[zH,#[za4,(K)],#[pvx,4],#[pvx,5]],#[pvx,1]]],#[pvx,6]]),(by intros; rfl)])]]]]]],?_⟩
  have hsl:=aX
  have hbl:bs.length=ts.length:=by rw [bg hpt,ab]
  refine⟨_,rfl,pt,_,rfl,SqT.of hp,rfl,_,_,rfl,_,_,rfl,_,_,rfl,rfl,?_⟩
  refine⟨_,rfl,_,rfl,_,rfl,tl,rfl,⟨_,SqL.of htl⟩,zjg htl hpt hlen (fun t=>(t.1:Int)) (fun T t R B ht hT hR=>gY2 hT ⟨_,rfl,hR⟩) fun D hD=>?_⟩
  refine⟨D,ts.map fun t=>(t.1:Int),rfl,SqL.of zc,by simpa using hne,fun M hM hM'=>?_⟩
  obtain⟨mx,rfl,mx1,mx2⟩:=zjf (ns:=ts.map (·.1)) (by rw [bh]; exact hM) (by rw [bh]; exact hM')
  have mx4:mx≤400:=by obtain⟨t,ht,rfl⟩:=aE.mp mx1; exact (hts t ht).1
  have s0:=zb (o:=.lst ((ts.map fun t:Tm=>(t.1:Int)).map V.int)) hD
  generalize upd H D (.lst ((ts.map fun t:Tm=>(t.1:Int)).map V.int))=H0 at s0 ⊢
  refine⟨_,rfl,p,x,mx,wt,rfl,p5,p97,x0,x1,by lia,w1,by lia,fun l1 ls1 H1 hl1 s1 h1 g1=>?_⟩
  have s01:=s0.trans s1
  refine⟨_,rfl,_,rfl,_,rfl,tl,rfl,⟨_,SqL.of (s01 _ _ htl)⟩,zjg (s01 _ _ htl) (hpt.same s01) hlen (fun t=>(t.2:Int)) (fun T t R B ht hT hR=>gY2 hT ⟨_,rfl,hR⟩) fun D2 hD2=>?_⟩
  refine⟨D2,ts.map fun t=>(t.2:Int),rfl,SqL.of zc,by simpa using hne,fun M hM hM'=>?_⟩
  obtain⟨my,rfl,my1,my2⟩:=zjf (ns:=ts.map (·.2)) (by rw [bh]; exact hM) (by rw [bh]; exact hM')
  have my4:my≤400:=by obtain⟨t,ht,rfl⟩:=aE.mp my1; exact (hts t ht).2
  have s2:=zb (o:=.lst ((ts.map fun t:Tm=>(t.2:Int)).map V.int)) hD2
  generalize upd H1 D2 (.lst ((ts.map fun t:Tm=>(t.2:Int)).map V.int))=H2 at s2 ⊢
  refine⟨_,rfl,p,y,my,wt,rfl,p5,p97,y0,y1,by lia,w1,by lia,fun l2 ls2 H3 hl2 s3 h3 g3=>?_⟩
  have s13:=s2.trans s3
  have sA:=s01.trans s13
  have h1:=s13 _ _ h1
  have g1:=g1.same s13
  refine⟨_,rfl,tl,rfl,⟨_,SqL.of (sA _ _ htl)⟩,zS (n:=ts.length) (fun m ys H'=>zu H3 H'∧∃ us:List Addr,ys=us.map V.ref∧LsA H' us ((ts.take m).map fun t=>(pco (x,y,wt)).map fun c=>cv t c % p)) ⟨fun _ _ e=>e,[],rfl,.nil⟩ ?_ ?_ ?_ ?_⟩
  ·rintro m ys H4 hm ⟨s4,_⟩
   exact⟨_,.ref (bs[m]'(by lia)),SqL.of ((sA.trans s4) _ _ htl),by rw [ah,aj (by lia)]; rfl⟩
  ·rintro ys H4 ⟨s4,_⟩
   exact⟨_,SqL.of ((sA.trans s4) _ _ htl),by rw [ab]; lia⟩
  ·rintro m z ys H4 H5 hm ⟨s4,us,rfl,hus⟩ ⟨rfl,hx⟩
   have sA4:=sA.trans s4
   obtain⟨b,rfl,hbm⟩:=zX (hx _ (SqL.of (sA4 _ _ htl)))
   obtain⟨q',hq',hT⟩:=Paired.get (hpt.same sA4) hbm
   rw [ah] at hq'
   obtain⟨t,ht,rfl⟩:=f7.mp hq'
   have htm:=aG ht
   have hz:us.length=m:=by rw [bg hus,ab,aD]; lia
   have t1:t.1 < mx+1:=hW (mx2 _ (aE.mpr ⟨t,htm,rfl⟩))
   have t2:t.2 < my+1:=hW (my2 _ (aE.mpr ⟨t,htm,rfl⟩))
   have h4x:=s4 _ _ h1
   have h4y:=s4 _ _ h3
   have g4x:=g1.same s4
   have g4y:=g3.same s4
   refine gY2 (SqT.of hT) ?_
   have ew:((wt:Int)).toNat=wt:=by lia
   refine⟨_,rfl,_,rfl,by lia,by lia,?_⟩
   rw [ew]
   refine zfD (n:=wt) (fun u ys H'=>H'=H5∧ys=(nAt t x y p wt u).map V.int) ⟨rfl,rfl⟩ (fun i ys H' hi _=>hi) (fun ys H' _=>ag _) ?_ ?_
   ·rintro u xx ys H6 H7 hu ⟨rfl,rfl⟩ ⟨rfl,rfl⟩
    rw [show ((0:Int)+(u:Int))=(u:Int) from dH _]
    refine gY ?_
    have ewu:((wt:Int) - (u:Int)).toNat=wt - u:=by lia
    refine⟨_,rfl,_,rfl,_,_,rfl,rfl,_,rfl,by lia,by lia,?_⟩
    rw [ewu]
    refine zfD (n:=wt - u) (fun v ys H'=>H'=H7∧ys=(nAt t x y p wt u++(aH v).map fun v=>cv t ⟨x,y,u,v⟩ % p).map V.int) ⟨rfl,by simp⟩ (fun i ys H' hi _=>hi) (fun ys H' _=>ag _) ?_ ?_
    ·rintro v yy ys H8 H9 hv ⟨rfl,rfl⟩ ⟨rfl,rfl⟩
     rw [show ((0:Int)+(v:Int))=(v:Int) from dH _]
     obtain⟨bx,ax1,ax2,ax3⟩:=zmb (l:=l1) g4x t1 hu
     obtain⟨b2,ay1,ay2,ay3⟩:=zmb (l:=l2) g4y t2 (show v < wt by lia)
     have r0:=aI (cf x t.1 u) (show p≠0 by lia)
     have r1:=aC (cf x t.1 u) (show 0 < p by lia)
     have nl:=zjh t x y p wt u
     have nm:wt*u≤9*9:=kL (by lia) (by lia)
     refine gY ?_
     refine⟨_,rfl,_,rfl,l1,_,_,_,rfl,rfl,SqL.of h4x,ax1,_,rfl,bx,_,_,_,rfl,rfl,SqL.of ax2,ax3,_,rfl,_,rfl,l2,_,_,_,rfl,rfl,SqL.of h4y,ay1,_,rfl,b2,_,_,_,rfl,rfl,SqL.of ay2,ay3,_,_,rfl,rfl,.inl ⟨by lia,by lia⟩,_,rfl,_,_,rfl,rfl,by lia,?_⟩
     refine⟨by rw [ab,ao,ab,aV]; lia,rfl,?_⟩
     rw [cg,au,au,au,au,aY]
     have:cf x t.1 u % p*(cf y t.2 v % p) % p=cv t ⟨x,y,u,v⟩ % p:=by unfold cv; rw [← Int.mul_emod]
     show _++(_++[V.int (cf x t.1 u % p*(cf y t.2 v % p) % p)])=_
     rw [this]
     rfl
    ·rintro ys H8 ⟨rfl,rfl⟩
     refine⟨rfl,?_⟩
     rw [zhz]
   ·rintro ys H6 ⟨rfl,rfl⟩ D3 hD3
    refine⟨by rw [ab]; lia,s4.trans (zb hD3),us++[D3],by simp,?_⟩
    rw [take_snoc ht,au]
    refine bR (hus.same (zb hD3)) ?_
    rw [zc,znE]
  ·rintro ys H4 D3 ⟨s4,us,rfl,hus⟩ hD3
   rw [aM (ag _)] at hus
   have sf:=sA.trans s4
   exact q D3 us _ (sf.free hD3) (sf.trans (zb hD3)) zc (hus.same (zb hD3))
def W3 (H:Hp):List Addr→List (Int×Int×Nat)→Prop:=Paired fun b q=>H b=some (.tup [.int q.1,.int q.2.1,.int (q.2.2:Int)])
theorem W3.same {H H':Hp} (s:zu H H') {bs:List Addr} {pts:List (Int×Int×Nat)} (h:W3 H bs pts):W3 H' bs pts:=cI (fun _ _ z=>s _ _ z) h
def zmc (p:Int) (pts:List (Int×Int×Nat)):Prop:=∀ q∈pts,0≤q.1∧q.1 < p∧0≤q.2.1∧q.2.1 < p∧1≤q.2.2∧q.2.2≤9
theorem zmd {p:Int} {pts:List (Int×Int×Nat)} {q:Int×Int×Nat} {t:Tm}:zaI p (pts++[q]) t=zaI p pts t++(pco q).map fun c=>cv t c % p:=by
 unfold zaI cos
 rw [ci,au]
 simp
theorem zoV {pts:List (Int×Int×Nat)} (i:Nat):(cos (pts.take i)).length≤(cos pts).length:=by
 conv=>rhs; rw [← b8 i pts]
 unfold cos
 rw [ci,ao]
 lia
def zfa (K:ai):Sp:=fun vs H Q _=>∃ (p:Int) (tl pl:Addr) (bs cs:List Addr) (ts:List Tm) (pts:List (Int×Int×Nat)),vs = [.int p,.ref tl,.ref pl]∧5≤p∧p≤97∧H tl=some (.lst (bs.map V.ref))∧PtB H bs (ts.map tI)∧ts≠[]∧ts.length≤200∧(∀ t∈ts,t.1≤400∧t.2≤400)∧H pl=some (.lst (cs.map V.ref))∧W3 H cs pts∧zmc p pts∧(cos pts).length≤800∧pts.length≤1000 ∧
 ∀ (l:Addr) (ls:List Addr) (H':Hp),H l=none→zu H H'→H' l=some (.lst (ls.map V.ref))→LsA H' ls (ts.map (zaI p pts))→Q (.ref l) H'
theorem zbi:FnScope ["p","terms","points","vectors","point"] ["p","terms","points"] (zh zaP):=⟨rfl,rfl,rfl,by decide +kernel,rfl,by decide +kernel,by decide +kernel⟩
theorem zfb {fd:FuncData} (T:Txt K mg t) (F:Fun K "vectors_of" "vectors_of" zaP t.vectors_of fd):FnOk P w K mg base CX0 4 t.vectors_of fd ["p","terms","points"] (zfa K):=by
 obtain⟨fd_numbers_at,F_numbers_at,b_numbers_at⟩:=T.f_numbers_at
 have G_numbers_at:=ze9 (P:=P) (w:=w) (base:=base) T F_numbers_at
 refine F.ok zbi (fun vs H Q E h=>?_) (fun cdv A outer s H vs Q E hr h=>?_)
 ·obtain⟨p,tl,pl,bs,cs,ts,pts,rfl,_⟩:=h
  rfl
 ·obtain⟨p,tl,pl,bs,cs,ts,pts,rfl,p5,p97,htl,hpt,hne,hlen,hts,hpl,hcs,hg,hL,hn,q⟩:=h
  refine⟨_,#[zd,#[zaz,3,zbi.nd,(aq rfl),(CompSc.of (N':=["term"]) (ix:=[none]) (zh zaP) ["p","terms","points","vectors","point"] rfl rfl (by decide +kernel)),#[zZ],#[zM,#[pvx,1]],(fun _ _ _ _=>#[zg,0,(show (["term"]:List Str).Nodup by decide +kernel),(aq rfl)]),(fun _ _ _ _=>#[zt]),(fun _ _ _ _=>#[zY,#[ze]])],by exact #[zd,#[zbc,bH,#[zM,#[pvx,2]],#[zg,4,zbi.nd,(aq rfl)],#[zm,#[zaz,3,zbi.nd,(aq rfl),(CompSc.of (N':=["vector","numbers"]) (ix:=[none,none]) (zh zaP) ["p","terms","points","vectors","point"] rfl rfl (by decide +kernel)),#[zaW,#[zy,#[zy,#[zay]]]],#[zdW,T.zip_,#[za,#[pvx,3],#[za,#[zq,G_numbers_at,(hr.mono (by decide)),T.m_numbers_at,F_numbers_at.kp,b_numbers_at,#[zF],#[za,#[pvx,0],#[za,#[pvx,1],#[za,#[pvx,4],#[ze]]]]],#[ze]]]],(fun _ _ _ _=>#[zau,(K),2,#[zj,#[zg,0,(show (["vector","numbers"]:List Str).Nodup by decide +kernel),(aq rfl)],#[zj,#[zg,1,(show (["vector","numbers"]:List Str).Nodup by decide +kernel),(aq rfl)],#[zL]]]]),(fun _ _ _ _=>#[zt]),(fun _ _ _ _=>#[zi,#[zcT],#[pvx,0],#[pvx,1]])]]],by exact #[zm,#[zG,#[pvx,3]]]]],?_⟩
  have hsl:=aX
  have hbl:bs.length=ts.length:=by rw [bg hpt,ab]
  have hcl:=bg hcs
  refine⟨_,rfl,tl,rfl,⟨_,SqL.of htl⟩,zS (n:=ts.length) (fun m ys H'=>zu H H'∧∃ us:List Addr,ys=us.map V.ref∧LsA H' us ((ts.take m).map (zaI p []))) ⟨fun _ _ e=>e,[],rfl,.nil⟩ ?_ ?_ ?_ ?_⟩
  ·rintro m ys H4 hm ⟨s4,_⟩
   exact⟨_,.ref (bs[m]'(by lia)),SqL.of (s4 _ _ htl),by rw [ah,aj (by lia)]; rfl⟩
  ·rintro ys H4 ⟨s4,_⟩
   exact⟨_,SqL.of (s4 _ _ htl),by rw [ab]; lia⟩
  ·rintro m z ys H4 H5 hm ⟨s4,us,rfl,hus⟩ ⟨rfl,hx⟩
   have hz:us.length=m:=by rw [bg hus,ab,aD]; lia
   refine gY ?_
   refine⟨bi _,fun D hD=>⟨by rw [ab]; lia,s4.trans (zb hD),us++[D],by simp,?_⟩⟩
   have ht:ts[m]? = some (ts[m]'hm):=aj hm
   rw [take_snoc ht,au]
   exact bR (hus.same (zb hD)) zc
  ·rintro ys H4 V0 ⟨s4,us,rfl,hus⟩ hV
   rw [aM (ag _)] at hus
   have sV:=s4.trans (zb (o:=.lst (us.map V.ref)) hV)
   refine⟨_,rfl,pl,rfl,⟨_,SqL.of (sV _ _ hpl)⟩,zbW (K:=K) (a:=pl) (xs:=cs.map V.ref) (fun i σ H'=>∃ (vl:Addr) (ls:List Addr) (e4:Option V),σ = [some (.int p),some (.ref tl),some (.ref pl),some (.ref vl),e4]∧zu H H'∧H vl=none∧H' vl=some (.lst (ls.map V.ref))∧LsA H' ls (ts.map (zaI p (pts.take i)))) ⟨V0,us,none,rfl,sV,s4.free hV,zc,hus.same (zb hV)⟩ ?_ ?_ ?_⟩
   ·rintro i σ H' _ ⟨vl,ls,e4,rfl,s,_⟩
    exact SqL.of (s _ _ hpl)
   ·rintro i x σ H5 hx ⟨vl,ls,e4,rfl,s5,hvl,h5,hls⟩
    obtain⟨b,rfl,hb⟩:=zX hx
    obtain⟨⟨px,py,pw⟩,hq,hqb⟩:=Paired.get hcs hb
    obtain⟨g1,g2,g3,g4,g5,g6⟩:=hg _ (aG hq)
    refine⟨_,rfl,_,rfl,_,rfl,_,rfl,p,tl,b,px,py,pw,bs,ts,rfl,p5,p97,g1,g2,g3,g4,g5,g6,s5 _ _ htl,hpt.same s5,hne,hlen,hts,s5 _ _ hqb,fun nl nls H6 hnl s6 h6 g6'=>?_⟩
    have h6v:=s6 _ _ h5
    have hls6:=hls.same s6
    have l1:ls.length=ts.length:=by rw [bg hls,ab]
    have l2:nls.length=ts.length:=by rw [bg g6',ab]
    refine⟨vl,nl,_,_,rfl,SqL.of h6v,SqL.of h6,zS (n:=ts.length) (fun m ys H'=>zu H6 H'∧∃ us:List Addr,ys=us.map V.ref∧LsA H' us ((ts.take m).map (zaI p (pts.take (i+1))))) ⟨fun _ _ e=>e,[],rfl,.nil⟩ ?_ ?_ ?_ ?_⟩
    ·rintro m ys H7 hm ⟨s7,_⟩
     exact⟨_,_,.ref (ls[m]'(by lia)),.ref (nls[m]'(by lia)),SqL.of (s7 _ _ h6v),SqL.of (s7 _ _ h6),by rw [ah,aj (by lia)]; rfl,by rw [ah,aj (by lia)]; rfl⟩
    ·rintro ys H7 ⟨s7,_⟩
     exact⟨_,_,SqL.of (s7 _ _ h6v),SqL.of (s7 _ _ h6),by rw [ab,ab]; lia⟩
    ·rintro m z ys H7 H8 hm ⟨s7,us,rfl,hus⟩ ⟨T,u,v,hT,rfl,rfl,hu,hv⟩
     obtain⟨b1,rfl,hb1⟩:=zX (hu _ (SqL.of (s7 _ _ h6v)))
     obtain⟨b2,rfl,hb2⟩:=zX (hv _ (SqL.of (s7 _ _ h6)))
     obtain⟨w1,hw1,hw1b⟩:=Paired.get hls6 hb1
     obtain⟨w2,hw2,hw2b⟩:=Paired.get g6' hb2
     have ht:ts[m]? = some (ts[m]'hm):=aj hm
     rw [ah,ht] at hw1 hw2
     cases hw1
     cases hw2
     have hz:us.length=m:=by rw [bg hus,ab,aD]; lia
     refine gY2 (SqT.of zc) ?_
     have sT:=s7.trans (zb (o:=.tup [.ref b1,.ref b2]) hT)
     have husT:=hus.same (zb (o:=.tup [.ref b1,.ref b2]) hT)
     generalize upd H7 T (.tup [.ref b1,.ref b2])=H8 at sT husT ⊢
     have lv:=zoV (pts:=pts) (i+1)
     have ev:zaI p (pts.take (i+1)) (ts[m]'hm)=zaI p (pts.take i) (ts[m]'hm)++(pco (px,py,pw)).map fun c=>cv (ts[m]'hm) c % p:=by rw [take_snoc hq,zmd]
     have lz:(zaI p (pts.take i) (ts[m]'hm)).length+((pco (px,py,pw)).map fun c=>cv (ts[m]'hm) c % p).length=(cos (pts.take (i+1))).length:=by rw [← ao,← ev,zjc]
     refine⟨_,rfl,_,rfl,b1,b2,_,_,rfl,rfl,sT _ _ hw1b,sT _ _ hw2b,(by simp only [ab] at lz ⊢; lia),fun D hD=>⟨by rw [ab]; lia,sT.trans (zb hD),us++[D],by simp,?_⟩⟩
     rw [take_snoc ht,au]
     refine bR (husT.same (zb hD)) ?_
     rw [zc,ev,au]
    ·rintro ys H7 D ⟨s7,us,rfl,hus⟩ hD
     rw [aM (ag _)] at hus
     have s57:=s6.trans s7
     exact⟨D,us,_,rfl,(s5.trans s57).trans (zb hD),(s5.trans s57).free hD,zc,hus.same (zb hD)⟩
   ·rintro σ H5 ⟨vl,ls,e4,rfl,s5,hvl,h5,hls⟩
    rw [ab,hcl,aM (ag _)] at hls
    exact⟨_,rfl,q vl ls _ hvl s5 h5 hls⟩
def tK (t:Tm):List Key:=[cL (t.1:Int),cL (t.2:Int)]
theorem zme {t u:Tm} (h:tK t=tK u):t=u:=by
 unfold tK at h
 injection h with h1 h2
 injection h2 with h2 _
 have e1:(t.1:Int)=u.1:=iN h1
 have e2:(t.2:Int)=u.2:=iN h2
 exact j8 (by lia) (by lia)
theorem zmf {ts:List Tm} (h:ts.Nodup):(ts.map tK).Nodup:=by
 rw [cU,ck]
 exact jY (fun hne e=>hne (zme e)) h
theorem zoW {H:Hp} {bs:List Addr} {ts:List Tm} (h:PtB H bs (ts.map tI)):KyA H (bs.map V.ref) (ts.map tK):=by
 induction ts generalizing bs with
 | nil=>cases h; exact .nil
 | cons t ts ih =>
  cases h with
  | cons h1 h2=>exact .cons ⟨_,rfl,h1⟩ (ih h2)
def zgv (K:ai):Sp:=fun vs H Q _=>∃ (p:Int) (tl pl:Addr) (bs cs:List Addr) (ts:List Tm) (pts:List (Int×Int×Nat)),vs = [.int p,.ref tl,.ref pl]∧p∈zo∧H tl=some (.lst (bs.map V.ref))∧PtB H bs (ts.map tI)∧ts.Nodup∧ts.length=(cos pts).length+1∧ts.length≤200∧(∀ t∈ts,t.1≤400∧t.2≤400)∧H pl=some (.lst (cs.map V.ref))∧W3 H cs pts∧zmc p pts∧pts.length≤1000 ∧
 ∀ (D:Addr) (c:List Int) (m:Nat) (H':Hp),H D=none→zu H H'→H' D=some (.dT ((ts.map tK).zip (c.map V.int)))→IsP p (m+1) c→m < ts.length→gl c m=1→Dep p (cos pts).length (ts.map (zaI p pts)) c→znr p (cos pts).length m (ts.map (zaI p pts))→Q (.ref D) H'
theorem zdn:FnScope ["p","terms","points","relation"] ["p","terms","points"] (zh zbm):=⟨rfl,rfl,rfl,by decide +kernel,rfl,by decide +kernel,by decide +kernel⟩
theorem zgw {fd:FuncData} (T:Txt K mg t) (F:Fun K "first_sum" "first_sum" zbm t.first_sum fd):FnOk P w K mg base CX0 5 t.first_sum fd ["p","terms","points"] (zgv K):=by
 obtain⟨fd_first_relation,F_first_relation,b_first_relation⟩:=T.f_first_relation
 have G_first_relation:=zbO (P:=P) (w:=w) (base:=base) T F_first_relation
 obtain⟨fd_vectors_of,F_vectors_of,b_vectors_of⟩:=T.f_vectors_of
 have G_vectors_of:=zfb (P:=P) (w:=w) (base:=base) T F_vectors_of
 refine F.ok zdn (fun vs H Q E h=>?_) (fun cdv A outer s H vs Q E hr h=>?_)
 ·obtain⟨p,tl,pl,bs,cs,ts,pts,rfl,_⟩:=h
  rfl
 ·obtain⟨p,tl,pl,bs,cs,ts,pts,rfl,hp,htl,hpt,hnd,hlen,hl2,hts,hpl,hcs,hg,hn,q⟩:=h
  have hu:(A.deeper (envOfC (bS "first_sum") (zh zbm) s.heap.objs.size t.first_sum cdv)).units+20 < cLine:=by have:=hr.units; lia
  refine⟨_,#[zd,#[zl,3,zdn.nd,(aq rfl),#[zq,G_first_relation,(hr.mono (by decide)),T.m_first_relation,F_first_relation.kp,b_first_relation,#[zF],#[za,#[pvx,0],#[za,#[zq,G_vectors_of,(hr.mono (by decide)),T.m_vectors_of,F_vectors_of.kp,b_vectors_of,#[zF],#[za,#[pvx,0],#[za,#[pvx,1],#[za,#[pvx,2],#[ze]]]]],#[ze]]]]],by exact #[zm,#[zG,(zib (gH (jC (show 2≤20 by decide) _) hu) rfl rfl T.dict_ rfl T.zip_ #[za,#[pvx,1],#[za,#[pvx,3],#[ze]]])]]],?_⟩
  have hsl:=aX
  have rp:=zr hp
  have hne:ts≠[]:=fun e=>by rw [e] at hlen; simp at hlen
  have hv:∀ v∈ts.map (zaI p pts),v.length=(cos pts).length∧∀ c∈v,0≤c∧c < p:=fun v hv=>by
   obtain⟨t,_,rfl⟩:=aE.mp hv
   exact⟨zjc p pts t,znt (by lia)⟩
  refine⟨_,rfl,_,rfl,_,rfl,_,rfl,p,tl,pl,bs,cs,ts,pts,rfl,by lia,by lia,htl,hpt,hne,hl2,hts,hpl,hcs,hg,by lia,hn,fun vl vls H1 hvl s1 h1 g1=>?_⟩
  refine⟨p,vl,vls,ts.map (zaI p pts),(cos pts).length,rfl,h1,g1,by simpa using hne,by rw [ab]; exact hl2,by lia,hv,hp,fun H2 s2 hI=>?_,fun l c m H2 hl s2 h2 hc hm h1' hD hI=>?_⟩
  ·have:=zlT hp hv hI
   rw [ab] at this
   lia
  ·rw [ab] at hm
   have s12:=s1.trans s2
   exact⟨_,rfl,_,rfl,tl,l,_,_,_,rfl,SqL.of (s12 _ _ htl),SqL.of h2,zoW (hpt.same s12),zmf hnd,fun D H3 hD3 s3 h3=>q D c m H3 (s12.free hD3) (s12.trans s3) h3 hc hm h1' hD hI⟩
def zeV (K:ai):Sp:=fun vs H Q _=>∃ (k many:Nat),vs = [.int (k:Int),.int (many:Int)]∧2≤k∧k≤100∧many≤300 ∧
 ∀ (l:Addr) (us:List Addr) (S:Nat) (H':Hp),H l=none→zu H H'→H' l=some (.lst (us.map V.ref))→PtB H' us (((zN k S).take many).map tI)→S≤many→many≤(zN k S).length→Q (.ref l) H'
theorem zgx (k s:Nat):(tms k s).length=s / (k - 1)+1:=by unfold tms; rw [ab,aV]
theorem znF {H:Hp} {us:List Addr} {q:List (Int×Int)} (h:PtB H us q) (m:Nat):PtB H (us.take m) (q.take m):=by
 induction h generalizing m with
 | nil=>simp; exact .nil
 | cons h1 _ ih =>
  cases m with
  | zero=>exact .nil
  | succ m=>exact .cons h1 (ih m)
theorem zmg {H:Hp} {F:Addr} {xs:List V} {o:HO} {us:List Addr} {q:List (Int×Int)} (h:PtB H us q) (hF:H F=some (.lst xs)):PtB (upd H F o) us q:=cI (fun b v z=>by rw [zn (fun e=>by rw [e,hF] at z; cases z)]; exact z) h
theorem zoX {H:Hp} {us vs:List Addr} {q r:List (Int×Int)} (h1:PtB H us q) (h2:PtB H vs r):PtB H (us++vs) (q++r):=by
 induction h1 with
 | nil=>exact h2
 | cons a _ ih=>exact .cons a ih
theorem zaM:FnScope ["k","many","terms","size"] ["k","many"] (zh zaU):=⟨rfl,rfl,rfl,by decide +kernel,rfl,by decide +kernel,by decide +kernel⟩
theorem zeW {fd:FuncData} (T:Txt K mg t) (F:Fun K "first_terms" "first_terms" zaU t.first_terms fd):FnOk P w K mg base CX0 1 t.first_terms fd ["k","many"] (zeV K):=by
 refine F.ok zaM (fun vs H Q E h=>?_) (fun cdv A outer s H vs Q E hr h=>?_)
 ·obtain⟨k,many,rfl,_⟩:=h
  rfl
 ·obtain⟨k,many,rfl,k2,k100,hm,q⟩:=h
  refine⟨_,#[zd,#[zl,2,zaM.nd,(aq rfl),#[zY,#[ze]]],by exact #[zd,#[zl,3,zaM.nd,(bP rfl),#[zf]],by exact #[zd,#[zed,bH,#[zR,#[zin],#[zA,#[zI],T.len_,cq,#[za,#[pvx,2],#[ze]]],#[pvx,1],(zac _)],#[zd,#[zfP,2,zaM.nd,(aq rfl),#[zO,(CompSc.of (N':=["j","size","k"]) (ix:=[none,some 3,some 0]) (zh zaU) ["k","many","terms","size"] rfl rfl (by decide +kernel)),#[zZ],#[zad,T.range_,#[za,#[zi,#[zK],#[zi,#[zb8],#[pvx,3],#[zi,#[zaR],#[pvx,0],#[zf]]],#[zf]],#[ze]]],(fun _ _ _ _=>#[zg,0,(show (["j","size","k"]:List Str).Nodup by decide +kernel),(aq rfl)]),(fun _ _ _ _=>#[zt]),(fun _ _ _ _=>#[zax,#[za,#[zi,#[zaR],#[pvx,1],#[zi,#[zT],#[zi,#[zaR],#[pvx,2],#[zf]],#[pvx,0]]],#[za,#[pvx,0],#[ze]]]])],zlK],by exact #[zm,#[zfP,3,zaM.nd,(bP rfl),#[zf],zij]]]],by exact #[zm,#[zG,#[za3,zca,#[pvx,2],#[zbJ],#[zbf,#[pvx,1]]]]]]]],?_⟩
  have hsl:=aX
  refine⟨bi _,fun TL hTL=>?_⟩
  refine⟨fun μ σ H'=>∃ (S:Nat) (us:List Addr),μ=many+1 - S∧S≤many∧σ = [some (.int (k:Int)),some (.int (many:Int)),some (.ref TL),some (.int (S:Int))]∧zu H H'∧H' TL=some (.lst (us.map V.ref))∧PtB H' us ((zN k S).map tI),⟨many+1,0,[],rfl,bi _,rfl,zb hTL,zc,.nil⟩,?_⟩
  rintro μ σ H1 ⟨S,us,rfl,hS,rfl,s1,h1,hus⟩
  have hul:us.length=(zN k S).length:=by rw [bg hus,ab]
  have hSl:=zfI k S
  refine⟨_,rfl,TL,_,rfl,.inl (SqL.of h1),_,rfl,_,_,rfl,rfl,_,rfl,?_⟩
  rw [ab,hul]
  refine zbq (fun hlt=>?_) (fun hge=>?_)
  ·have hlt:=of_decide_eq_true hlt
   have hlt:(zN k S).length < many:=by lia
   refine⟨fun σ' H'=>∃ m',m' < many+1 - S∧∃ (S:Nat) (us:List Addr),m'=many+1 - S∧S≤many∧σ' = [some (.int (k:Int)),some (.int (many:Int)),some (.ref TL),some (.int (S:Int))]∧zu H H'∧H' TL=some (.lst (us.map V.ref))∧PtB H' us ((zN k S).map tI),fun _ _ z=>z,?_⟩
   have k1:0 < k - 1:=by lia
   have ek:((k:Int) - 1)=((k - 1:Nat):Int):=by lia
   have eN:((S:Int) / ((k:Int) - 1)+1)=((S / (k - 1)+1:Nat):Int):=by
    rw [ek]
    exact congrArg (· + 1) (iz S (k - 1)).symm
   have hq:S / (k - 1)≤S:=kC _ _
   refine⟨_,rfl,_,rfl,_,rfl,_,_,rfl,rfl,_,_,rfl,rfl,⟨by lia,by lia⟩,_,_,rfl,rfl,?_⟩
   refine⟨(S:Int) / ((k:Int) - 1)+1,rfl,by rw [eN]; exact bY (by decide) (jR _),by rw [eN]; exact jS (Int.ofNat_le.mpr (show S / (k - 1)+1≤301 from f8 (aZ hq (by lia)))) (by decide),?_⟩
   rw [eN,bf]
   refine zS (n:=S / (k - 1)+1) (fun m ys H'=>zu H1 H'∧∃ vs:List Addr,ys=vs.map V.ref∧PtB H' vs (((tms k S).take m).map tI)) ⟨fun _ _ e=>e,[],rfl,.nil⟩ (fun i ys H' hi _=>hi) (fun ys H' _=>ag _) ?_ ?_
   ·rintro j x ys H2 H3 hj ⟨s2,vs,rfl,hvs⟩ ⟨rfl,rfl⟩
    rw [show ((0:Int)+(j:Int))=(j:Int) from dH _]
    have hjs:(k - 1)*j≤S:=by
     have:=(eZ k1).mp (show j≤S / (k - 1) by lia)
     rw [eP]; exact this
    have hvl:vs.length=j:=by rw [bg hvs,ab,aD,zgx]; lia
    have eV:(S:Int) - ((k:Int) - 1)*(j:Int)=((S - (k - 1)*j:Nat):Int):=by
     rw [ek,kD hjs,fw]
    refine gY ?_
    refine⟨_,rfl,_,rfl,_,_,rfl,rfl,_,rfl,_,_,rfl,rfl,.inl ⟨by lia,by lia⟩,_,_,rfl,rfl,_,rfl,by show 2≤sizeLine; lia,fun T hT=>?_⟩
    have htm:(tms k S)[j]? = some (S - (k - 1)*j,j):=by unfold tms; rw [ah,bM hj]; rfl
    refine⟨by rw [ab]; lia,s2.trans (zb hT),vs++[T],by simp,?_⟩
    rw [take_snoc htm,au]
    refine bR (hvs.same (zb hT)) ?_
    rw [zc]
    show some (HO.tup [V.int ((S:Int) - ((k:Int) - 1)*(j:Int)),V.int (j:Int)])=_
    rw [eV]
    rfl
   ·rintro ys H2 D ⟨s2,vs,rfl,hvs⟩ hD
    rw [aM (by rw [zgx]; exact ag _)] at hvs
    have sD:=s2.trans (zb (o:=.lst (vs.map V.ref)) hD)
    have hvl:vs.length=S / (k - 1)+1:=by rw [bg hvs,ab,zgx]
    refine⟨TL,D,_,_,rfl,rfl,sD _ _ h1,zc,by rw [ab,ab]; lia,?_⟩
    refine⟨_,rfl,_,_,rfl,rfl,?_⟩
    refine⟨many+1 - (S+1),by lia,S+1,us++vs,rfl,by lia,rfl,zae (s1.trans sD) hTL,by rw [zc,au],?_⟩
    rw [zaJ,au]
    have a1:=zmg (o:=.lst (us.map V.ref++vs.map V.ref)) (hus.same sD) (sD _ _ h1)
    have a2:=zmg (o:=.lst (us.map V.ref++vs.map V.ref)) (hvs.same (zb (o:=.lst (vs.map V.ref)) hD)) (sD _ _ h1)
    exact zoX a1 a2
  ·have hge:¬ (((zN k S).length:Int) < (many:Int)):=fun h=>hge (decide_eq_true h)
   refine⟨_,rfl,_,rfl,_,rfl,TL,_,rfl,SqL.of h1,fun z hz=>?_⟩
   have ec:za1 (us.map V.ref) none (some (many:Int))=(us.take many).map V.ref:=by
    unfold za1
    rw [HT.sIx_nat,HT.sIx_none,cZ,dG,ab,cD (by lia),dQ]
   rw [ec]
   refine q z (us.take many) S _ (s1.free hz) (s1.trans (zb hz)) zc ?_ hS (by lia)
   have:=(znF hus many).same (zb (o:=.lst ((us.take many).map V.ref)) hz)
   rw [← dQ] at this
   exact this
theorem gY3 {K:ai} {i j l:Nat} {T:Addr} {x y z:V} {σ:L2.St} {H:Hp} {A B:L2.St→Hp→Prop} (hT:SqT K H T [x,y,z]) (h:A (((σ.set i (some x)).set j (some y)).set l (some z)) H) :
  zgF K 3 (zbV (zaQ i) (zbV (zaQ j) (zbV (zaQ l) zhH))) (.ref T) σ H (fun σ2 H2=>zmE σ2 H2 fun b H3=>if b=true then A σ2 H3 else B σ2 H3):=by
 refine⟨T,_,rfl,hT,rfl,x,_,rfl,y,_,rfl,z,_,rfl,rfl,?_⟩
 show (if true=true then A (((σ.set i (some x)).set j (some y)).set l (some z)) H else B (((σ.set i (some x)).set j (some y)).set l (some z)) H)
 rw [if_pos rfl]
 exact h
theorem zmh (w:Nat):(w:Int)*((w:Int)+1) / 2=(tri w:Int):=by
 unfold tri
 rw [show ((w:Int)*((w:Int)+1))=((w*(w+1):Nat):Int) by rw [fw]; rfl]
 exact (iz _ 2).symm
theorem zhA {α:Type} (f:α→Nat):∀ l:List α,(l.map fun q=>(f q:Int)).sum=((l.map f).sum:Int)
 | []=>rfl
 | a :: l=>by
  rw [aS,cV,aS,cV,zhA f l]
  lia
theorem zji:∀ {ts:List Tm} {c:List Int} {t:Tm},(zcV ((ts.map tK).zip (c.map V.int)) (tK t)).getD (.int 0) = .int (gof ts c t)
 | [],_,_=>rfl
 | _ :: _,[],_=>rfl
 | a :: ts,b :: c,t=>by
  have ih:=zji (ts:=ts) (c:=c) (t:=t)
  unfold zcV gof at ih ⊢
  rw [aS,aS,dI,dI,a8]
  by_cases e:t=a
  ·subst e
   rw [List.find?_cons_of_pos (by simp),beq_self_eq_true]
   rfl
  ·rw [List.find?_cons_of_neg (by simp; exact fun h=>e (zme h).symm),show (t == a)=false by simpa using e]
   exact ih
theorem znG {k:Nat} (hk:2≤k) (t:Tm):(t.1:Int)+((k:Int) - 1)*(t.2:Int)=(tz k t:Int):=by
 unfold tz
 rw [show ((k:Int) - 1)=((k - 1:Nat):Int) by lia,fA,fw]
theorem zki {k s j:Nat} {g:Tm→Int} (h:j < s / (k - 1)+1):(zgr k s g).take (j+1)=(zgr k s g).take j++[(aH (s - (k - 1)*j+1)).map fun i=>g (i,j)]:=take_snoc (zlY h)
def zeX (K:ai):Sp:=fun vs H Q _=>∃ (p:Int) (k:Nat) (pl:Addr) (cs:List Addr) (pts:List (Int×Int×Nat)),vs = [.int p,.int (k:Int),.ref pl]∧p∈zo∧2≤k∧k≤100∧H pl=some (.lst (cs.map V.ref))∧W3 H cs pts∧zmc p pts∧(cos pts).length≤199∧pts.length≤1000 ∧
 ∀ (z r:Addr) (ls:List Addr) (size:Nat) (g:Tm→Int) (H':Hp),H z=none→zu H H'→H' z=some (.tup [.int (size:Int),.ref r])→H' r=some (.tup (ls.map V.ref))→zbH H' ls (zgr k size g)→Lst p k pts size g→size≤200→Q (.ref z) H'
theorem zaN:FnScope ["p","k","points","asked","found","size","lines"] ["p","k","points"] (zh zai):=⟨rfl,rfl,rfl,by decide +kernel,rfl,by decide +kernel,by decide +kernel⟩
theorem zeY {fd:FuncData} (T:Txt K mg t) (F:Fun K "least_curve" "least_curve" zai t.least_curve fd):FnOk P w K mg base CX0 6 t.least_curve fd ["p","k","points"] (zeX K):=by
 obtain⟨fd_first_sum,F_first_sum,b_first_sum⟩:=T.f_first_sum
 have G_first_sum:=zgw (P:=P) (w:=w) (base:=base) T F_first_sum
 obtain⟨fd_first_terms,F_first_terms,b_first_terms⟩:=T.f_first_terms
 have G_first_terms:=zeW (P:=P) (w:=w) (base:=base) T F_first_terms
 refine F.ok zaN (fun vs H Q E h=>?_) (fun cdv A outer s H vs Q E hr h=>?_)
 ·obtain⟨p,k,pl,cs,pts,rfl,_⟩:=h
  rfl
 ·obtain⟨p,k,pl,cs,pts,rfl,hp,k2,k100,hpl,hcs,hg,hL,hn,q⟩:=h
  have hu:(A.deeper (envOfC (bS "least_curve") (zh zai) s.heap.objs.size t.least_curve cdv)).units+20 < cLine:=by have:=hr.units; lia
  refine⟨_,#[zd,#[zl,3,zaN.nd,(aq rfl),#[zA,(@zjQ _ rfl),T.sum_,boot_sum,#[za,#[zO,(CompSc.of (N':=["x","y","weight"]) (ix:=[none,none,none]) (zh zai) ["p","k","points","asked","found","size","lines"] rfl rfl (by decide +kernel)),#[zaW,#[zy,#[zy,#[zy,#[zay]]]]],#[zM,#[pvx,2]],(fun _ _ _ _=>#[zau,(K),3,#[zj,#[zg,0,(show (["x","y","weight"]:List Str).Nodup by decide +kernel),(aq rfl)],#[zj,#[zg,1,(show (["x","y","weight"]:List Str).Nodup by decide +kernel),(aq rfl)],#[zj,#[zg,2,(show (["x","y","weight"]:List Str).Nodup by decide +kernel),(aq rfl)],#[zL]]]]]),(fun _ _ _ _=>#[zt]),(fun _ _ _ _=>#[zi,#[zb8],#[zi,#[zT],#[pvx,2],#[zi,#[zK],#[pvx,2],#[zf]]],#[zf]])],#[ze]]]],by exact #[zd,#[zl,4,zaN.nd,(bP rfl),#[zq,G_first_sum,(hr.mono (by decide)),T.m_first_sum,F_first_sum.kp,b_first_sum,#[zF],#[za,#[pvx,0],#[za,#[zq,G_first_terms,(hr.mono (by decide)),T.m_first_terms,F_first_terms.kp,b_first_terms,#[zF],#[za,#[pvx,1],#[za,#[zi,#[zK],#[pvx,3],#[zf]],#[ze]]]],#[za,#[pvx,2],#[ze]]]]]],by exact #[zd,#[zl,5,zaN.nd,(bP rfl),#[zA,#[zdv],T.max_,boot_max,#[za,#[zO,(CompSc.of (N':=["i","j","k"]) (ix:=[none,none,some 1]) (zh zai) ["p","k","points","asked","found","size","lines"] rfl rfl (by decide +kernel)),#[zaW,#[zy,#[zy,#[zay]]]],(@zpx _ _ _ _ #[pvx,4]),(fun _ _ _ _=>#[zau,(K),2,#[zj,#[zg,0,(show (["i","j","k"]:List Str).Nodup by decide +kernel),(aq rfl)],#[zj,#[zg,1,(show (["i","j","k"]:List Str).Nodup by decide +kernel),(aq rfl)],#[zL]]]]),(fun _ _ _ _=>#[zt]),(fun _ _ _ _=>#[zi,#[zK],#[pvx,0],#[zi,#[zT],#[zi,#[zaR],#[pvx,2],#[zf]],#[pvx,1]]])],#[ze]]]],by exact #[zd,#[zaz,6,zaN.nd,(aq rfl),(CompSc.of (N':=["j","size","k","found"]) (ix:=[none,some 5,some 1,some 4]) (zh zai) ["p","k","points","asked","found","size","lines"] rfl rfl (by decide +kernel)),#[zZ],#[zad,T.range_,#[za,#[zi,#[zK],#[zi,#[zb8],#[pvx,5],#[zi,#[zaR],#[pvx,1],#[zf]]],#[zf]],#[ze]]],(fun _ _ _ _=>#[zg,0,(show (["j","size","k","found"]:List Str).Nodup by decide +kernel),(bP rfl)]),(fun _ _ _ _=>#[zt]),(fun _ _ _ _=>#[zam,(zeK (K:=K) rfl),T.tuple_,fj,#[za,#[zO,(CompSc.of (N':=["i","found","j"]) (ix:=[none,some 3,some 0]) ({ kind:=.function,names:=[(".0",.local),("j",.cell),("tuple",.globalImplicit),("range",.globalImplicit),("found",.cell),("k",.cell),("size",.cell)],isGenerator:=false,isCoroutine:=false }) ["j","size","k","found"] (by with_unfolding_all rfl) rfl (by decide +kernel)),#[zZ],#[zad,T.range_,#[za,#[zi,#[zK],#[zi,#[zaR],#[pvx,1],#[zi,#[zT],#[zi,#[zaR],#[pvx,2],#[zf]],#[pvx,0]]],#[zf]],#[ze]]],(fun _ _ _ _=>#[zg,0,(show (["i","found","j"]:List Str).Nodup by decide +kernel),(aq rfl)]),(fun _ _ _ _=>#[zt]),(fun _ _ _ _=>(@zk8 _ _ _ _ _ _ _ _ _ (gH (jC (show 1≤20 by decide) _) hu) #[pvx,1] #[zax,#[za,#[pvx,0],#[za,#[pvx,2],#[ze]]]] #[zf] ⟨rfl,rfl,rfl,rfl⟩))],#[ze]]])],by exact #[zm,#[zG,#[zax,#[za,#[pvx,5],#[za,#[zam,#[zah],T.tuple_,fj,#[za,#[pvx,6],#[ze]]],#[ze]]]]]]]]]],?_⟩
  have hsl:=aX
  have rp:=zr hp
  have hcl:=bg hcs
  refine⟨_,rfl,pl,rfl,⟨_,SqL.of hpl⟩,zbB (fs:=(pts.map fun q=>(tri q.2.2:Int)).map V.int) (SqL.of hpl) (by rw [ab,ab,ab,hcl]) (by rw [ab]; lia) (fun i x y R B hx hy hR=>?_) (fun D0 hD0=>?_)⟩
  ·obtain⟨b,rfl,hb⟩:=zX hx
   obtain⟨⟨px,py,pw⟩,hq,hqb⟩:=Paired.get hcs hb
   have hw9:=(hg _ (aG hq)).2.2.2.2.2
   rw [ah,ah,hq] at hy
   have hy:V.int (tri pw:Int)=y:=by simpa using hy
   subst hy
   refine gY3 (SqT.of hqb) ?_
   have hw9:pw≤9:=hw9
   refine⟨_,rfl,_,rfl,_,_,rfl,rfl,_,_,rfl,rfl,.inl ⟨by lia,by lia⟩,_,_,rfl,rfl,⟨by decide,by decide⟩,?_⟩
   show R (.int ((pw:Int)*((pw:Int)+1) / 2)) _
   rw [zmh]
   exact hR
  refine⟨D0,pts.map fun q=>(tri q.2.2:Int),rfl,SqL.of zc,?_⟩
  rw [zhA,show (pts.map fun q=>tri q.2.2).sum=zcv pts from rfl]
  have s0:=zb (o:=.lst ((pts.map fun q=>(tri q.2.2:Int)).map V.int)) hD0
  generalize upd H D0 (.lst ((pts.map fun q=>(tri q.2.2:Int)).map V.int))=H0 at s0 ⊢
  have hcn:=zgq pts
  refine⟨_,rfl,_,rfl,_,rfl,_,_,rfl,rfl,k,zcv pts+1,rfl,k2,k100,by lia,fun tl us S H1 htl s1 h1 hpt hS1 hS2=>?_⟩
  have s01:=s0.trans s1
  have tin:∀ t∈(zN k S).take (zcv pts+1),tz k t < S:=fun t ht=>(zaO k2).mp (dY ht)
  have tle:∀ t:Tm,t.1≤tz k t∧t.2≤tz k t:=fun t=>⟨by unfold tz; lia,by
   unfold tz
   have:1*t.2≤(k - 1)*t.2:=jm _ (by lia)
   lia⟩
  have hnd:((zN k S).take (zcv pts+1)).Nodup:=fN (cj _ _) (zaZ k2 S)
  have hlen:((zN k S).take (zcv pts+1)).length=zcv pts+1:=by rw [aD]; lia
  refine⟨_,rfl,p,tl,pl,us,cs,(zN k S).take (zcv pts+1),pts,rfl,hp,h1,hpt,hnd,by rw [hlen,hcn],by lia,fun t ht=>?_,s01 _ _ hpl,hcs.same s01,hg,hn,fun D c m H2 hD s2 h2 hc hm h1' hDp hI=>?_⟩
  ·have:=tin t ht
   have:=tle t
   lia
  rw [hlen] at hm
  have s02:=s01.trans s2
  have hDn:H D=none:=s01.free hD
  obtain⟨top,htop⟩:∃ top,((zN k S).take (zcv pts+1))[m]? = some top:=⟨((zN k S).take (zcv pts+1))[m]'(by lia),aj _⟩
  have LS:=zoS (p:=p) (by lia) k2 (pts:=pts) (S:=S) (ts:=(zN k S).take (zcv pts+1)) (by rw [hcn]) hc htop h1' hDp hI
  have hso:((zN k S).take (zcv pts+1)).Pairwise fun a b=>tz k a≤tz k b:=eX (cj _ _) (zci k2 S)
  have htopS:=tin top (aG htop)
  generalize (zN k S).take (zcv pts+1)=ts at *
  have hcl2:c.length=m+1:=hc.1
  have hzl:((ts.map tK).zip (c.map V.int)).length=m+1:=by rw [kB,ab,ab]; lia
  refine⟨_,rfl,D,_,rfl,h2,fun o=>?_⟩
  have s3:zu H (upd H2 D (.frz o (.dT ((ts.map tK).zip (c.map V.int))))):=zae s02 hDn
  have h3:upd H2 D (.frz o (.dT ((ts.map tK).zip (c.map V.int)))) D=some (.frz o (.dT ((ts.map tK).zip (c.map V.int)))):=zc
  generalize upd H2 D (.frz o (.dT ((ts.map tK).zip (c.map V.int))))=H3 at s3 h3 ⊢
  refine zS (n:=m+1) (fun i ys H'=>H'=H3∧ys=((ts.take i).map fun t=>(tz k t:Int)).map V.int) ⟨rfl,rfl⟩ ?_ ?_ ?_ ?_
  ·rintro i ys H' hi ⟨rfl,_⟩
   exact⟨h3,by lia⟩
  ·rintro ys H' ⟨rfl,_⟩
   exact⟨h3,by lia⟩
  ·rintro i x ys H' H4 hi ⟨rfl,rfl⟩ ⟨rfl,a,ky,rfl,hky,ha⟩
   have hti:ts[i]? = some (ts[i]'(by lia)):=aj (by lia)
   have ek:ky=tK (ts[i]'(by lia)):=by
    rw [ah] at hky
    obtain⟨q',hq',rfl⟩:=f7.mp hky
    have hq2:((ts.map tK).zip (c.map V.int))[i]? = some (q'.1,q'.2):=hq'
    rw [fz,ah,hti] at hq2
    exact (aP hq2.1).symm
   subst ek
   generalize ts[i]'(by lia)=tt at hti ha
   have htt:tz k tt < S:=tin tt (aG hti)
   have:=tle tt
   refine gY2 (SqT.of (xs:=[.int (tt.1:Int),.int (tt.2:Int)]) ha) ?_
   refine⟨_,rfl,_,rfl,_,_,rfl,rfl,_,rfl,_,_,rfl,rfl,.inl ⟨by lia,by lia⟩,_,_,rfl,rfl,?_⟩
   refine⟨by rw [ab,ab,aD]; lia,rfl,?_⟩
   show _++[V.int ((tt.1:Int)+((k:Int) - 1)*(tt.2:Int))]=_
   rw [znG k2,take_snoc hti,au,au]
   rfl
  rintro ys H' D2 ⟨rfl,rfl⟩ hD2
  refine⟨D2,(ts.take (m+1)).map fun t=>(tz k t:Int),rfl,SqL.of zc,fun e=>?_,fun M hM hM'=>?_⟩
  ·have:(ts.take (m+1)).length=0:=by rw [← ab (f:=fun t=>(tz k t:Int)),e]; rfl
   rw [aD] at this
   lia
  have eM:M=(tz k top:Int):=by
   obtain⟨t',ht',rfl⟩:=aE.mp hM
   obtain⟨i',hi'⟩:=c7.mp ht'
   have hlt':i' < m+1:=by have:=(aA.mp hi').1; rw [aD] at this; lia
   rw [bG hlt'] at hi'
   have b1:=zdw hso hi' htop (by lia)
   have b2:=hM' (tz k top:Int) (aE.mpr ⟨top,c7.mpr ⟨m,by rw [bG (by lia)]; exact htop⟩,rfl⟩)
   lia
  subst eM
  have w4:=zb (o:=.lst (((ts.take (m+1)).map fun t=>(tz k t:Int)).map V.int)) hD2
  have s4:=s3.trans w4
  have h4:=w4 _ _ h3
  generalize upd H' D2 (.lst (((ts.take (m+1)).map fun t=>(tz k t:Int)).map V.int))=H4 at s4 h4 ⊢
  have k1:0 < k - 1:=by lia
  have ek1:((k:Int) - 1)=((k - 1:Nat):Int):=by lia
  obtain⟨sz,esz⟩:∃ sz,tz k top=sz:=⟨_,rfl⟩
  rw [esz] at LS htopS ⊢
  have eN:((sz:Int) / ((k:Int) - 1)+1)=((sz / (k - 1)+1:Nat):Int):=by
   rw [ek1]
   exact congrArg (· + 1) (iz sz (k - 1)).symm
  have hqs:sz / (k - 1)≤sz:=kC _ _
  have hget:=fun t=>zji (ts:=ts) (c:=c) (t:=t)
  generalize (ts.map tK).zip (c.map V.int)=kvs at *
  generalize gof ts c=g at *
  refine⟨_,rfl,_,rfl,_,_,rfl,rfl,_,_,rfl,rfl,⟨by lia,by lia⟩,_,_,rfl,rfl,?_⟩
  refine⟨(sz:Int) / ((k:Int) - 1)+1,rfl,by rw [eN]; exact bY (by decide) (jR _),by rw [eN]; exact jS (Int.ofNat_le.mpr (show sz / (k - 1)+1≤301 from f8 (aZ hqs (by lia)))) (by decide),?_⟩
  rw [eN,bf]
  refine zS (n:=sz / (k - 1)+1) (fun j ys H'=>zu H4 H'∧∃ us:List Addr,ys=us.map V.ref∧zbH H' us ((zgr k sz g).take j)) ⟨fun _ _ e=>e,[],rfl,.nil⟩ (fun i ys H' hi _=>hi) (fun ys H' _=>ag _) ?_ ?_
  ·rintro j x ys H5 H6 hj ⟨s5,us,rfl,hus⟩ ⟨rfl,rfl⟩
   rw [show ((0:Int)+(j:Int))=(j:Int) from dH _]
   have hjs:(k - 1)*j≤sz:=by
    have:=(eZ k1).mp (show j≤sz / (k - 1) by lia)
    rw [eP]; exact this
   have hul:us.length=j:=by rw [bg hus,aD,zhu]; lia
   have eV:(sz:Int) - ((k:Int) - 1)*(j:Int)+1=((sz - (k - 1)*j+1:Nat):Int):=by
    rw [ek1,fA,kD hjs,fw]
    rfl
   refine gY ?_
   refine⟨_,rfl,_,rfl,_,_,rfl,rfl,_,rfl,_,_,rfl,rfl,.inl ⟨by lia,by lia⟩,_,_,rfl,rfl,_,_,rfl,rfl,?_⟩
   refine⟨(sz:Int) - ((k:Int) - 1)*(j:Int)+1,rfl,by rw [eV]; lia,by rw [eV]; lia,?_⟩
   rw [eV,bf]
   refine zS (n:=sz - (k - 1)*j+1) (fun i ys H'=>zu H6 H'∧ys=((aH i).map fun i=>g (i,j)).map V.int) ⟨fun _ _ e=>e,rfl⟩ (fun i ys H' hi _=>hi) (fun ys H' _=>ag _) ?_ ?_
   ·rintro i x ys H7 H8 hi ⟨s7,rfl⟩ ⟨rfl,rfl⟩
    rw [show ((0:Int)+(i:Int))=(i:Int) from dH _]
    have h7:=(s5.trans s7) _ _ h4
    refine gY ?_
    refine⟨_,rfl,D,rfl,.inr ⟨kvs,.inr ⟨o,h7⟩⟩,_,rfl,_,rfl,by show 2≤sizeLine; lia,fun T hT=>?_⟩
    have wT:=zb (o:=.tup [.int (i:Int),.int (j:Int)]) hT
    refine⟨_,.inr ⟨kvs,tK (i,j),T,.inr ⟨o,wT _ _ h7⟩,rfl,zc,rfl⟩,?_⟩
    rw [hget]
    refine⟨by rw [ab,ab,aV]; lia,s7.trans wT,?_⟩
    rw [cg,au,au]
    rfl
   ·rintro ys H7 D5 ⟨s7,rfl⟩ hD5
    refine⟨D5,_,rfl,.inl ⟨SqL.of zc,fun l hl=>?_⟩⟩
    have w7:=(s7.trans (zb (o:=.lst (((aH (sz - (k - 1)*j+1)).map fun i=>g (i,j)).map V.int)) hD5)).trans (zb (o:=.tup (((aH (sz - (k - 1)*j+1)).map fun i=>g (i,j)).map V.int)) hl)
    refine⟨by rw [ab]; lia,s5.trans w7,us++[l],by simp,?_⟩
    rw [zki hj]
    exact bR (hus.same w7) zc
  ·rintro ys H5 L1 ⟨s5,us,rfl,hus⟩ hL1
   rw [aM (by rw [zhu]; exact ag _)] at hus
   have w5:=s5.trans (zb (o:=.lst (us.map V.ref)) hL1)
   have hus5:=hus.same (zb (o:=.lst (us.map V.ref)) hL1)
   refine⟨_,rfl,_,rfl,L1,_,rfl,.inl ⟨SqL.of zc,fun r hr=>?_⟩⟩
   have w6:=w5.trans (zb (o:=.tup (us.map V.ref)) hr)
   have hus6:=hus5.same (zb (o:=.tup (us.map V.ref)) hr)
   refine⟨by show 2≤sizeLine; lia,fun z hz=>?_⟩
   have sf:=s4.trans w6
   have wz:=zb (o:=.tup [.int (sz:Int),.ref r]) hz
   exact q z r us sz g _ (sf.free hz) (sf.trans wz) zc (wz _ _ zc) (hus6.same wz) LS (by lia)
def zdT (K:ai):Sp:=fun vs H Q _=>∃ (k:Nat),vs = [.int (k:Int)]∧2≤k∧Q .non H
theorem zdU:FnScope ["k"] ["k"] (zh za9):=⟨rfl,rfl,rfl,by decide +kernel,rfl,by decide +kernel,by decide +kernel⟩
theorem zdV {fd:FuncData} (T:Txt K mg t) (F:Fun K "check_curves" "check_curves" za9 t.check_curves fd):FnOk P w K mg base CX0 1 t.check_curves fd ["k"] (zdT K):=by
 refine F.ok zdU (fun vs H Q E h=>?_) (fun cdv A outer s H vs Q E hr h=>?_)
 ·obtain⟨k,rfl,_⟩:=h
  rfl
 ·obtain⟨k,rfl,h1,q⟩:=h
  refine⟨_,#[zm,#[zbj,#[zR,#[zin],#[pvx,0],#[zf],(zac _)],#[zfe],#[zap]]],?_⟩
  refine⟨_,rfl,_,_,rfl,rfl,_,rfl,?_⟩
  exact zbq (fun h=>absurd (of_decide_eq_true h) (by lia)) (fun _=>q)
def wpt (m:Nat) (l:List (Int×Int)):List (Int×Int×Nat):=l.map fun q=>(q.1,q.2,m)
theorem zhB (m:Nat):∀ l,zcv (wpt m l)=l.length*tri m
 | []=>by simp [zcv,wpt]
 | a :: l=>by
  have ih:=zhB m l
  unfold zcv wpt at ih ⊢
  (simp only [aS,cV,bW])
  rw [ih,Nat.add_mul]
  lia
def zgy (K:ai):Sp:=fun vs H Q _=>∃ (c tt r:Addr) (p:Int) (k m:Nat) (pl:List Int) (rw:List (Option Int)),vs = [.ref c,.ref r,.int (m:Int)]∧za5 H c tt p k pl∧H r=some (.lst (rw.map enc))∧rw.length=pl.length∧pl.length≤16∧p∈zo∧pl.Nodup∧(∀ x∈pl,0≤x∧x < p)∧(∀ z,some z∈rw→0≤z∧z < p)∧2≤k∧k≤100∧1≤m∧m≤9∧(hps pl rw).length*tri m≤199 ∧
 ∀ (z r:Addr) (ls:List Addr) (size:Nat) (g:Tm→Int) (H':Hp),H z=none→zu H H'→H' z=some (.tup [.int (size:Int),.ref r])→H' r=some (.tup (ls.map V.ref))→zbH H' ls (zgr k size g)→Lst p k (wpt m (hps pl rw)) size g→size≤200→Q (.ref z) H'
theorem zbA:FnScope ["code","row","m","p","k","places"] ["code","row","m"] (zh zbn):=⟨rfl,rfl,rfl,by decide +kernel,rfl,by decide +kernel,by decide +kernel⟩
theorem zgz {fd:FuncData} (T:Txt K mg t) (F:Fun K "curve_for" "curve_for" zbn t.curve_for fd):FnOk P w K mg base CX0 7 t.curve_for fd ["code","row","m"] (zgy K):=by
 obtain⟨fd_check_curves,F_check_curves,b_check_curves⟩:=T.f_check_curves
 have G_check_curves:=zdV (P:=P) (w:=w) (base:=base) T F_check_curves
 obtain⟨fd_least_curve,F_least_curve,b_least_curve⟩:=T.f_least_curve
 have G_least_curve:=zeY (P:=P) (w:=w) (base:=base) T F_least_curve
 obtain⟨fd_heard_points,F_heard_points,b_heard_points⟩:=T.f_heard_points
 have G_heard_points:=zbu (P:=P) (w:=w) (base:=base) T F_heard_points
 refine F.ok zbA (fun vs H Q E h=>?_) (fun cdv A outer s H vs Q E hr h=>?_)
 ·obtain⟨c,tt,r,p,k,m,pl,rw,rfl,_⟩:=h
  rfl
 ·obtain⟨c,tt,r,p,k,m,pl,rw,rfl,hc,hra,hrl,hn,hp,hnd,hpl,hrw,h1,k1,m1,m9,hA,q⟩:=h
  refine⟨_,#[zd,#[zbD,#[pvx,0],#[za2,#[zj,#[zg,3,zbA.nd,(aq rfl)],#[zj,#[zg,4,zbA.nd,(aq rfl)],#[zj,#[zg,5,zbA.nd,(aq rfl)],#[zL]]]]]],by exact #[zd,#[zcy,#[zq,G_check_curves,(hr.mono (by decide)),T.m_check_curves,F_check_curves.kp,b_check_curves,#[zF],#[za,#[pvx,4],#[ze]]]],by exact #[zm,#[zG,#[zq,G_least_curve,(hr.mono (by decide)),T.m_least_curve,F_least_curve.kp,b_least_curve,#[zF],#[za,#[pvx,3],#[za,#[pvx,4],#[za,#[zO,(CompSc.of (N':=["place","entry","m"]) (ix:=[none,none,some 2]) (zh zbn) ["code","row","m","p","k","places"] rfl rfl (by decide +kernel)),#[zaW,#[zy,#[zy,#[zay]]]],#[zM,#[zq,G_heard_points,(hr.mono (by decide)),T.m_heard_points,F_heard_points.kp,b_heard_points,#[zF],#[za,#[pvx,0],#[za,#[pvx,1],#[ze]]]]],(fun _ _ _ _=>#[zau,(K),2,#[zj,#[zg,0,(show (["place","entry","m"]:List Str).Nodup by decide +kernel),(aq rfl)],#[zj,#[zg,1,(show (["place","entry","m"]:List Str).Nodup by decide +kernel),(aq rfl)],#[zL]]]]),(fun _ _ _ _=>#[zt]),(fun _ _ _ _=>#[zax,#[za,#[pvx,0],#[za,#[pvx,1],#[za,#[pvx,2],#[ze]]]]])],#[ze]]]]]]]]],?_⟩
  have hsl:=aX
  have rp:=zr hp
  have hR:RowAt K H r pl.length rw:=⟨SqL.of hra,hrl⟩
  have hP:=zdf hnd hpl hrw
  have hhl:=zby pl rw
  refine⟨_,rfl,c,_,rfl,SqT.of hc.1,rfl,_,_,rfl,_,_,rfl,_,_,rfl,rfl,?_⟩
  refine⟨_,rfl,k,rfl,h1,?_⟩
  refine⟨_,rfl,_,rfl,_,rfl,_,rfl,c,tt,r,p,k,pl,rw,rfl,hc,hR,by lia,fun l bs H1 hl1 s1 h1l hB=>?_⟩
  have hbl:bs.length=(hps pl rw).length:=hB.length
  refine⟨l,rfl,⟨_,SqL.of h1l⟩,zS (n:=bs.length) (fun i ys H'=>zu H1 H'∧∃ us:List Addr,ys=us.map V.ref∧W3 H' us (wpt m ((hps pl rw).take i))) ⟨fun _ _ e=>e,[],rfl,.nil⟩ ?_ ?_ ?_ ?_⟩
  ·rintro i ys H4 hi ⟨s4,_⟩
   exact⟨_,.ref (bs[i]'(by lia)),SqL.of (s4 _ _ h1l),by rw [ah,aj (by lia)]; rfl⟩
  ·rintro ys H4 ⟨s4,_⟩
   exact⟨_,SqL.of (s4 _ _ h1l),by rw [ab]; exact ag _⟩
  ·rintro i z ys H4 H5 hi ⟨s4,us,rfl,hus⟩ ⟨rfl,hx⟩
   obtain⟨b,rfl,hbm⟩:=zX (hx _ (SqL.of (s4 _ _ h1l)))
   obtain⟨q',hq',hT⟩:=Paired.get (hB.same s4) hbm
   have hz:us.length=i:=by rw [bg hus]; unfold wpt; rw [ab,aD]; lia
   refine gY2 (SqT.of hT) ?_
   refine⟨_,rfl,_,rfl,_,rfl,by show 3≤sizeLine; lia,fun T hT'=>⟨by rw [ab]; lia,s4.trans (zb hT'),us++[T],by simp,?_⟩⟩
   rw [take_snoc hq']
   unfold wpt
   rw [au]
   exact bR (hus.same (zb hT')) zc
  ·rintro ys H4 D ⟨s4,us,rfl,hus⟩ hD
   rw [aM (by lia)] at hus
   have w4:=s4.trans (zb (o:=.lst (us.map V.ref)) hD)
   refine⟨p,k,D,us,wpt m (hps pl rw),rfl,hp,h1,k1,zc,hus.same (zb hD),fun q' hq'=>?_,by rw [zgq,zhB]; exact hA,by unfold wpt; rw [ab]; lia,fun z r' ls size g H5 hz s5 h5 h6 h7 hL hs=>?_⟩
   ·obtain⟨a,ha,rfl⟩:=aE.mp hq'
    obtain⟨g1,g2,g3,g4⟩:=hP.rg a ha
    exact⟨g1,g2,g3,g4,m1,m9⟩
   ·have s14:=s1.trans w4
    exact q z r' ls size g H5 (s14.free hz) (s14.trans s5) h5 h6 h7 hL hs
end
end My
end
section
namespace My
open PySem L2 PyProof.Rows
theorem zdA {k a:Nat} {f:Tm→Int} (hk:2≤k) (hf:∀ t,a≤tz k t→f t=0):∀ {b:Nat},a≤b→lsum (zN k b) f=lsum (zN k a) f
 | 0,h=>by rw [show a=0 by lia]
 | b+1,h=>by
  by_cases e:a=b+1
  ·rw [e]
  ·have ih:=zdA hk hf (b:=b) (by lia)
   rw [zaJ,zcu,ih,zfK (l:=tms k b) fun t ht=>hf t ?_,Int.add_zero]
   have h1:t∈zN k (b+1):=by rw [zaJ]; exact aK _ ht
   have h2:¬ t∈zN k b:=fun z=>by
    have nd:=zaZ hk (b+1)
    rw [zaJ,dS] at nd
    exact nd.2.2 t z t ht rfl
   have h3:¬ tz k t < b:=fun z=>h2 ((zaO hk).mpr z)
   lia
theorem zmi {p:Int} {k s s':Nat} {pts pts':List (Int×Int×Nat)} {g g':Tm→Int} (hk:2≤k) (h:∀ c∈cos pts',c∈cos pts) (L:Lst p k pts s g) (L':Lst p k pts' s' g') (hp:0 < p):s'≤s:=by
 refine cE fun hs=>?_
 obtain⟨t,ht,h0⟩:=L.top
 refine h0 ?_
 have:=L'.least g (fun c hc=>by
  rw [zdA (a:=s+1) hk (fun t ht=>by rw [L.out t (by lia),cP]) (by lia)]
  exact L.ok c (h c hc)) t (by lia)
 exact this.eq (L.rg t).1 (L.rg t).2 (bF _) hp
theorem zjj {A B:List (Int×Int×Nat)} (h:∀ a∈A,a∈B):∀ c∈cos A,c∈cos B:=fun c hc=>by
 obtain⟨a,ha,hc⟩:=bO.mp hc
 exact bO.mpr ⟨a,h a ha,hc⟩
end My
end
section
namespace My
open PySem L2 PyProof.Rows
def af (a b:Int) (n:Nat) (l:Nat→Int) (i:Nat):Int:=a ^ i*sh b n l i
theorem zmj {a b:Int} {n:Nat} {l:Nat→Int} {j:Nat}:sh b n (fun t=>a ^ t*l t) j=a ^ j*sh (a*b) n l j:=by
 rw [zeL,zeL,← zbs]
 refine zW fun t _=>?_
 by_cases h:j≤t
 ·have e:a ^ t=a ^ j*a ^ (t - j):=by rw [← Int.pow_add]; congr 1; lia
  rw [e,j7]
  grind
 ·rw [zdj (by lia)]
  simp
theorem zpF {a b X:Int} {n:Nat} {l:Nat→Int} {u:Nat}:sh X n (af a b n l) u=a ^ u*sh (b+a*X) n l u:=by
 have:=zmj (a:=a) (b:=X) (n:=n) (l:=sh b n l) (j:=u)
 rw [zlL] at this
 exact this
theorem znH {a b:Int} {n m:Nat} {l:Nat→Int} {i:Nat} (hm:m≤n) (hl:∀ t,m≤t→t < n→l t=0) (hi:m≤i):af a b n l i=0:=by
 unfold af
 rw [znp hm hl,zdi hi,cN]
theorem zpG {a b X:Int} {n:Nat} {l:Nat→Int}:vl n (af a b n l) X=vl n l (a*X+b):=by
 rw [← znW,zja,zja]
 refine zW fun t _=>?_
 unfold af
 rw [j7]
 grind
theorem zmk {p a b:Int} (h:Cg p a b):∀ i:Nat,Cg p (a ^ i) (b ^ i)
 | 0=>by rw [ir,ir]; exact Cg.refl _ _
 | i+1=>by rw [dE,dE]; exact (zmk h i).mul h
theorem zjk {p a a' b:Int} (ha:Cg p (a'*a) 1) {n:Nat} {l:Nat→Int} (h:∀ i,i < n→Cg p (af a b n l i) 0) {j:Nat} (hj:j < n):Cg p (l j) 0:=by
 have h1:∀ i,i < n→Cg p (sh b n l i) 0:=fun i hi=>by
  have e1:Cg p (a' ^ i*(a ^ i*sh b n l i)) (a' ^ i*0):=(Cg.refl p _).mul (h i hi)
  have e2:Cg p ((a'*a) ^ i*sh b n l i) (1 ^ i*sh b n l i):=(zmk ha i).mul (Cg.refl _ _)
  rw [Int.one_pow,gB] at e2
  refine e2.symm.trans ((Cg.of_eq ?_).trans (e1.trans (Cg.of_eq (by simp))))
  rw [j7]
  grind
 have e3:l j=sh (-b) n (sh b n l) j:=by rw [zlL,show b + -b=0 by lia,zi9 hj]
 rw [e3]
 refine (zhs (Cg.refl _ _) h1).trans (Cg.of_eq ?_)
 rw [zeL]
 exact zbg fun t _=>by simp
def afL (p a b:Int) (n:Nat) (q:List Int):List Int:=(aH n).map fun i=>af a b n (gl q) i % p
theorem zbQ {p a b:Int} (p0:0 < p) (n:Nat) (q:List Int):IsP p n (afL p a b n q):=by
 refine⟨by unfold afL; rw [ab,aV],fun c hc=>?_⟩
 obtain⟨i,_,rfl⟩:=aE.mp hc
 exact⟨aI _ (by lia),aC _ p0⟩
theorem zml {p a b:Int} {n i:Nat} {q:List Int} (h:i < n):gl (afL p a b n q) i=af a b n (gl q) i % p:=zbF (by unfold afL; rw [ah,bM h]; rfl)
theorem zjl {p x:Int} {q:List Int} {n:Nat} (h:q.length≤n):Cg p (zp p x q) (vl n (gl q) x):=by
 rw [zja]
 exact zbG h
theorem zdB {p a b X x:Int} (p0:0 < p) {n:Nat} {q:List Int} (hq:q.length≤n) (hx:Cg p (a*X+b) x):zp p X (afL p a b n q)=zp p x q:=by
 refine Cg.eq (p:=p) ?_ (zaA p0 _) (zaB p0 _) (zaA p0 _) (zaB p0 _)
 refine (zjl (n:=n) (by rw [(zbQ p0 n q).1]; exact ag _)).trans ?_
 refine (zlP (v:=af a b n (gl q)) (Cg.refl _ _) fun t ht=>?_).trans ?_
 ·rw [zml ht]; exact Cg.emod _ _
 rw [zpG]
 exact (zlP hx fun _ _=>Cg.refl _ _).trans (zjl hq).symm
def afP (p by' on:Int) (a:Int×Int):Int×Int:=((by'*a.1+on) % p,a.2)
theorem zjm (p by' on:Int):∀ (pl:List Int) (rw:List (Option Int)),hps (pl.map fun x=>(by'*x+on) % p) rw=(hps pl rw).map (afP p by' on)
 | [],_=>by cases ‹List (Option Int)› <;> simp [hps]
 | _ :: _,[]=>by simp [hps]
 | x :: pl,o :: rw=>by
  have ih:=zjm p by' on pl rw
  cases o with
  | none=>simpa [hps] using ih
  | some y=>simp [hps,ih,afP]
theorem zbo {p by' on c:Int} (hc:Cg p (by'*c) 1) (x:Int):Cg p (c*((by'*x+on) % p) + -(c*on)) x:=by
 have h1:Cg p (c*((by'*x+on) % p) + -(c*on)) (c*(by'*x+on) + -(c*on)):=((Cg.refl p c).mul (Cg.emod _ _)).add (Cg.refl _ _)
 have h2:Cg p ((by'*c)*x) (1*x):=hc.mul (Cg.refl _ _)
 refine h1.trans ((Cg.of_eq ?_).trans (h2.trans (Cg.of_eq (by simp))))
 grind
theorem zoY {p by' on c:Int} (hc:Cg p (by'*c) 1) (X:Int):Cg p (by'*(c*X + -(c*on))+on) X:=by
 have h2:Cg p ((by'*c)*X+(on - (by'*c)*on)) (1*X+(on - 1*on)):=(hc.mul (Cg.refl _ _)).add ((Cg.refl _ _).sub (hc.mul (Cg.refl _ _)))
 refine (Cg.of_eq ?_).trans (h2.trans (Cg.of_eq (by lia)))
 grind
theorem zeZ {p by' on c:Int} (p0:0 < p) (hc:Cg p (by'*c) 1) {k:Nat} {q:List Int} (hq:q.length≤k) (pts:List (Int×Int)):hits p (afL p c (-(c*on)) k q) (pts.map (afP p by' on))=hits p q pts:=by
 unfold hits
 rw [List.filter_map,ab]
 congr 1
 refine jX fun a _=>?_
 show decide (zp p ((by'*a.1+on) % p) _=a.2)=decide (zp p a.1 q=a.2)
 rw [zdB p0 hq (zbo hc a.1)]
theorem zfM {p:Int} (hp:p∈zo) {k:Nat} (hk:(k:Int)≤p) {q q':List Int} (h:IsP p k q) (h':IsP p k q') (he:∀ x,0≤x→x < p→zp p x q=zp p x q'):q=q':=by
 refine zdH hp (xs:=(aH p.toNat).map Int.ofNat) (h.1.trans h'.1.symm) (by rw [ab,aV,h.1]; lia) ?_ (fun x hx=>?_) h.2 h'.2 fun x hx=>?_
 ·exact jZ _ (fun a b hab e=>hab (Int.ofNat.inj e)) f'
 ·obtain⟨i,hi,rfl⟩:=aE.mp hx
  have:=bd.mp hi
  simp only [jn]
  lia
 ·obtain⟨i,hi,rfl⟩:=aE.mp hx
  have:=bd.mp hi
  refine he _ ?_ ?_ <;> simp only [jn] <;> lia
theorem zmm {p by' on c T:Int} (hp:p∈zo) (hc:Cg p (by'*c) 1) {k:Nat} (hk:(k:Int)≤p) {pts:List (Int×Int)} {qs qs':List (List Int)} (nd:qs.Nodup) (nd':qs'.Nodup)
  (h:∀ q,q∈qs↔IsP p k q∧T≤(hits p q pts:Int)) (h':∀ q,q∈qs'↔IsP p k q∧T≤(hits p q (pts.map (afP p by' on)):Int)) :
  (qs.map fun q=>(hits p q pts:Int)).Perm (qs'.map fun q=>(hits p q (pts.map (afP p by' on)):Int)):=by
 have rp:=zr hp
 have p0:0 < p:=by lia
 have ev:∀ q,IsP p k q→∀ x,zp p ((by'*x+on) % p) (afL p c (-(c*on)) k q)=zp p x q:=fun q hq x=>zdB p0 (df hq.1) (zbo hc x)
 have hpm:(qs.map (afL p c (-(c*on)) k)).Perm qs':=by
  refine (gT ?_ nd').mpr fun q'=>?_
  ·refine ck.mpr ((jb.mp nd).imp fun {a b} ⟨ha,hb,hne⟩ e=>hne ?_)
   have Pa:=((h a).mp ha).1
   have Pb:=((h b).mp hb).1
   refine zfM hp hk Pa Pb fun x _ _=>?_
   rw [← ev a Pa x,← ev b Pb x,e]
  ·rw [h' q',aE]
   constructor
   ·rintro⟨q,hq,rfl⟩
    obtain⟨q1,q2⟩:=(h q).mp hq
    exact⟨zbQ p0 _ _,by rw [zeZ p0 hc (df q1.1)]; exact q2⟩
   ·rintro⟨q1,q2⟩
    have e:afL p c (-(c*on)) k (afL p by' on k q')=q':=zfM hp hk (zbQ p0 _ _) q1 fun X _ _=>by
     rw [zdB p0 (df (zbQ p0 _ _).1) (Cg.refl _ _),zdB p0 (df q1.1) (zoY hc X)]
    refine⟨afL p by' on k q',(h _).mpr ⟨zbQ p0 _ _,?_⟩,e⟩
    rw [← zeZ p0 hc (df (zbQ p0 _ _).1),e]
    exact q2
 have:=hpm.map fun q=>(hits p q (pts.map (afP p by' on)):Int)
 refine dO (List.Perm.of_eq ?_) this
 rw [bh]
 refine bU fun q hq=>?_
 show _=((hits p (afL p c (-(c*on)) k q) (pts.map (afP p by' on)):Nat):Int)
 rw [zeZ p0 hc (df ((h q).mp hq).1.1)]
theorem zjn {p:Int} {k e e':Nat} {pts pts':List (Int×Int)} {l l':List Int} {r r':List (List Int)} (h:∀ a∈pts',a∈pts) (L:LocOk p k [pts] e l r) (L':LocOk p k [pts'] e' l' r'):e'≤e:=by
 (refine cE fun hn=>?_)
 obtain⟨i,hi⟩:=L.nz
 refine hi (L'.mn e (by lia) l L.lf (fun pts hpts=>?_) i)
 obtain⟨h1,h2⟩:=L.ok _ (aW.mpr rfl)
 rw [aW.mp hpts]
 exact⟨_,h1,fun z hz=>h2 z (h z hz)⟩
theorem zjo {p by' on c:Int} (p0:0 < p) (hc:Cg p (by'*c) 1) {k e e':Nat} {pts:List (Int×Int)} {l l':List Int} {r r':List (List Int)} (L:LocOk p k [pts] e l r) (L':LocOk p k [pts.map (afP p by' on)] e' l' r'):e'≤e:=by
 (refine cE fun hn=>?_)
 obtain⟨i,hi⟩:=L.nz
 obtain⟨h1,h2⟩:=L.ok _ (aW.mpr rfl)
 have hz:=L'.mn e (by lia) (afL p c (-(c*on)) (e+1) l) (zbQ p0 _ _) (fun pts' hpts=>?_)
 ·have hie:i < e+1:=by
   refine cE fun h=>hi ?_
   exact zaS (by rw [L.lf.1]; lia)
  refine hi ?_
  have hr:0≤gl l i∧gl l i < p:=by
   have hil:i < l.length:=by rw [L.lf.1]; exact hie
   have:l[i]? = some l[i]:=aj hil
   rw [zbF this]
   exact L.lf.2 _ (ed hil)
  refine (zjk (a:=c) (a':=by') (b:=-(c*on)) (n:=e+1) (l:=gl l) hc (fun j hj=>?_) hie).eq hr.1 hr.2 (bF _) p0
  have:=hz j
  rw [zml hj] at this
  exact (Cg.emod _ _).symm.trans (Cg.of_eq this)
 ·rw [aW.mp hpts]
  refine⟨afL p c (-(c*on)) (k+e) (szd (thr p (tmP p l pts)) (k+e)),zbQ p0 _ _,fun a ha=>?_⟩
  obtain⟨b,hb,rfl⟩:=aE.mp ha
  show zp p ((by'*b.1+on) % p) _=zp p ((by'*b.1+on) % p) _*b.2 % p
  rw [zdB p0 (df h1.1) (zbo hc b.1),zdB p0 (df L.lf.1) (zbo hc b.1)]
  exact h2 b hb
theorem zhC {p by' on c:Int} (p0:0 < p) (hc:Cg p (by'*c) 1) {pts:List (Int×Int)} (hr:∀ a∈pts,0≤a.1∧a.1 < p):(pts.map (afP p by' on)).map (afP p c (-(c*on)))=pts:=by
 rw [bh]
 conv=>rhs; rw [← iY pts]
 refine bU fun a ha=>?_
 obtain⟨x,y⟩:=a
 show ((c*((by'*x+on) % p) + -(c*on)) % p,y)=(x,y)
 congr 1
 exact ((Cg.emod _ _).trans (zbo hc x)).eq (aI _ (by lia)) (aC _ p0) (hr _ ha).1 (hr _ ha).2
theorem zfN (w:Nat):∀ n,((aH n).flatMap fun j=>(aH w).map fun i=>((i,j):Tm)).Nodup
 | 0=>by simp
 | n+1=>by
  rw [cg,ci,dS]
  refine⟨zfN w n,?_,fun a ha b hb e=>?_⟩
  ·simp only [dr,gb,bD]
   exact jZ _ (fun a b hab e=>hab (congrArg Prod.fst e)) f'
  ·simp only [dr,gb,bD] at hb
   obtain⟨j,hj,ha⟩:=bO.mp ha
   obtain⟨i,_,rfl⟩:=aE.mp ha
   obtain⟨i',_,rfl⟩:=aE.mp hb
   have:=bd.mp hj
   have:=congrArg Prod.snd e
   simp only at this
   lia
theorem zhD {k s:Nat} (hk:2≤k) {f:Tm→Int} (hf:∀ t,s < tz k t→f t=0):lsum (zN k (s+1)) f=sm (s+1) fun j=>sm (s+1) fun i=>f (i,j):=by
 rw [← zka (n:=s+1) (w:=fun _=>s+1)]
 have nb:=zfN (s+1) (s+1)
 rw [zbM (q:=fun t=>decide (tz k t≤s)) (l:=(aH (s+1)).flatMap fun j=>(aH (s+1)).map fun i=>((i,j):Tm)) fun t _ ht=>hf t (by simpa using ht)]
 refine zfL (zaZ hk _) (nb.filter _) fun t=>?_
 rw [zaO hk,cw,decide_eq_true_iff]
 constructor
 ·intro h
  have h1:t.1≤tz k t:=fg _ _
  have h2:t.2≤tz k t:=by
   have:1*t.2≤(k - 1)*t.2:=jm _ (by lia)
   unfold tz
   lia
  refine⟨bO.mpr ⟨t.2,bd.mpr (by lia),aE.mpr ⟨t.1,bd.mpr (by lia),rfl⟩⟩,by lia⟩
 ·rintro⟨_,h⟩
  lia
theorem zjp {p by' on c:Int} (p0:0 < p) (hc:Cg p (by'*c) 1) {k m s s':Nat} (hk:2≤k) {pts:List (Int×Int)} {g g':Tm→Int} (L:Lst p k (pts.map fun q=>(q.1,q.2,m)) s g) (L':Lst p k ((pts.map (afP p by' on)).map fun q=>(q.1,q.2,m)) s' g'):s'≤s:=by
 (refine cE fun hn=>?_)
 obtain⟨d,hd⟩:∃ d,d = -(c*on):=⟨_,rfl⟩
 obtain⟨h,eh⟩:∃ h:Tm→Int,h=fun t=>af c d (s+1) (fun i=>g (i,t.2)) t.1:=⟨_,rfl⟩
 have hout:∀ t,s < tz k t→h t=0:=fun t ht=>by
  rw [eh]
  refine znH (m:=s+1 - (k - 1)*t.2) (by lia) (fun i hi hi2=>L.out _ ?_) ?_
  ·show s < i+(k - 1)*t.2
   lia
  ·have:s < t.1+(k - 1)*t.2:=ht
   lia
 have hz:=L'.least h (fun co hco=>by
  rw [zdA (a:=s+1) hk (fun t ht=>by rw [hout t (by lia),cP]) (by lia),zhD hk fun t ht=>by rw [hout t ht,cP]]
  obtain⟨q3,hq3,hco⟩:=bO.mp hco
  obtain⟨q',hq',rfl⟩:=aE.mp hq3
  obtain⟨q,hq,rfl⟩:=aE.mp hq'
  obtain⟨u,hu,hco⟩:=bO.mp hco
  obtain⟨v,hv,rfl⟩:=aE.mp hco
  have hu:=bd.mp hu
  have hv:=bd.mp hv
  have ok:=L.ok ⟨q.1,q.2,u,v⟩ (znw (aE.mpr ⟨q,hq,rfl⟩) hu hv)
  rw [zhD hk fun t ht=>by rw [L.out t ht,cP]] at ok
  have e1:∀ (G:Tm→Int) (X:Int) (j:Nat),sm (s+1) (fun i=>G (i,j)*cv (i,j) ⟨X,q.2,u,v⟩)=cf q.2 j v*sh X (s+1) (fun i=>G (i,j)) u:=fun G X j=>by
   rw [zeL,← zbs]
   refine zW fun i _=>?_
   unfold cv cf
   grind
  have e2:Cg p (sm (s+1) fun j=>sm (s+1) fun i=>h (i,j)*cv (i,j) ⟨(by'*q.1+on) % p,q.2,u,v⟩) (c ^ u*sm (s+1) fun j=>sm (s+1) fun i=>g (i,j)*cv (i,j) ⟨q.1,q.2,u,v⟩):=by
   rw [← zbs]
   refine zfF fun j _=>?_
   rw [e1,e1]
   have e3:sh ((by'*q.1+on) % p) (s+1) (fun i=>h (i,j)) u=c ^ u*sh (d+c*((by'*q.1+on) % p)) (s+1) (fun i=>g (i,j)) u:=by
    rw [← zpF,eh]
   rw [e3]
   have e4:Cg p (sh (d+c*((by'*q.1+on) % p)) (s+1) (fun i=>g (i,j)) u) (sh q.1 (s+1) (fun i=>g (i,j)) u):=zhs (by
    have:=zbo (on:=on) hc q.1
    rw [hd]
    exact (Cg.of_eq (by lia)).trans this) fun _ _=>Cg.refl _ _
   refine ((Cg.refl p (cf q.2 j v)).mul ((Cg.refl p (c ^ u)).mul e4)).trans (Cg.of_eq (by grind))
  exact e2.trans (((Cg.refl p _).mul ok).trans (Cg.of_eq (by simp))))
 obtain⟨t,ht,h0⟩:=L.top
 refine h0 ?_
 have ht1:t.1≤tz k t:=fg _ _
 refine (zjk (a:=c) (a':=by') (b:=d) (n:=s+1) (l:=fun i=>g (i,t.2)) hc (fun i hi=>?_) (show t.1 < s+1 by lia)).eq (L.rg t).1 (L.rg t).2 (bF _) p0
 by_cases hs:tz k (i,t.2)≤s
 ·have:=hz (i,t.2) (by lia)
  rw [eh] at this
  exact this
 ·have:=hout (i,t.2) (by lia)
  rw [eh] at this
  exact Cg.of_eq this
end My
end
section
namespace My
open PySem L2 PyProof.Rows
theorem zih {α:Type} (P:α→Int) (R:α→Option Int):∀ l:List α,hps (l.map P) (l.map R)=l.filterMap fun i=>(R i).map fun y=>(P i,y)
 | []=>rfl
 | a :: l=>by
  have ih:=zih P R l
  rw [aS,aS,eg]
  cases h:R a with
  | none=>simp [hps,ih]
  | some y=>simp [hps,ih]
def glO (rw:List (Option Int)) (y:Int):Option Int:=(rw[y.toNat]?).getD none
def glI (pl:List Int) (y:Int):Int:=gl pl y.toNat
theorem zmn {rw:List (Option Int)} {j:Nat} {o:Option Int} (h:rw[j]? = some o):glO rw (j:Int)=o:=by
 unfold glO
 rw [bf,h]
 rfl
theorem zmo {pl:List Int} {j:Nat} {o:Int} (h:pl[j]? = some o):glI pl (j:Int)=o:=by
 unfold glI
 rw [bf]
 exact zbF h
def ixs (n:Nat):List Int:=(aH n).map fun (i:Nat)=>(i:Int)
theorem zjq (pl:List Int):(ixs pl.length).map (glI pl)=pl:=by
 refine cK fun j=>?_
 unfold ixs
 rw [bh,ah]
 by_cases h:j < pl.length
 ·rw [bM h,aj h]
  exact congrArg some (zmo (aj h))
 ·rw [bq (by simpa using h),bq (by lia)]
  rfl
theorem zjr (rw:List (Option Int)):(ixs rw.length).map (glO rw)=rw:=by
 refine cK fun j=>?_
 unfold ixs
 rw [bh,ah]
 by_cases h:j < rw.length
 ·rw [bM h,aj h]
  exact congrArg some (zmn (aj h))
 ·rw [bq (by simpa using h),bq (by lia)]
  rfl
structure Trn (pl:List Int) (rw:List (Option Int)) (pl':List Int) (rw':List (Option Int)):Prop where
 a:pl'.Perm pl
 b:rw'.Perm rw
 c:(hps pl' rw').Perm (hps pl rw)
theorem zoZ {pl:List Int} {rw:List (Option Int)} {os:List Int} (hl:rw.length=pl.length) (h:os.Perm (ixs pl.length)):Trn pl rw (os.map (glI pl)) (os.map (glO rw)):=by
 refine⟨?_,?_,?_⟩
 ·have:=h.map (glI pl)
  rwa [zjq] at this
 ·have:=h.map (glO rw)
  rwa [← hl,zjr] at this
 ·rw [zih]
  have e:hps pl rw=(ixs pl.length).filterMap fun i=>(glO rw i).map fun y=>(glI pl i,y):=by
   rw [← zih,zjq,← hl,zjr]
  rw [e]
  exact h.filterMap _
theorem zkj {p:Int} {q:List Int} {a b:List (Int×Int)} (h:a.Perm b):hits p q a=hits p q b:=(h.filter _).length_eq
theorem zcl {p:Int} {k:Nat} {qs:List (List Int)} (h:zdN p k qs):qs.Nodup:=h.2.imp fun {a b} hab e=>by rw [e] at hab; lia
theorem znI {os ls:List Int} {n j:Nat} {y:Int} (h:(os++ls).Perm (ixs n)) (hy:ls[j]? = some y):((os++[y])++ls.eraseIdx j).Perm (ixs n):=by
 refine dO ?_ h
 rw [aY]
 exact List.Perm.append_left _ (zcU hy)
theorem zkk {p by' on c:Int} (p0:0 < p) (hc:Cg p (by'*c) 1) {pl:List Int} (nd:pl.Nodup) (rg:∀ x∈pl,0≤x∧x < p):(pl.map fun x=>(by'*x+on) % p).Nodup:=by
 refine ck.mpr ((jb.mp nd).imp fun {a b} ⟨ha,hb,hne⟩ e=>hne ?_)
 have h1:=zbo (on:=on) hc a
 have h2:=zbo (on:=on) hc b
 rw [e] at h1
 exact (h1.symm.trans h2).eq (rg a ha).1 (rg a ha).2 (rg b hb).1 (rg b hb).2
theorem zmp {p by' on c:Int} (p0:0 < p) (hc:Cg p (by'*c) 1) {k e e':Nat} {pts:List (Int×Int)} {l l':List Int} {r r':List (List Int)} (hr:∀ a∈pts,0≤a.1∧a.1 < p) (L:LocOk p k [pts] e l r) (L':LocOk p k [pts.map (afP p by' on)] e' l' r'):e'=e:=by
 have h1:=zjo p0 hc L L'
 have hc':Cg p (c*by') 1:=(Cg.of_eq (dF _ _)).trans hc
 rw [← zhC (on:=on) p0 hc hr] at L
 have h2:=zjo p0 hc' L' L
 lia
theorem zmq {p by' on c:Int} (p0:0 < p) (hc:Cg p (by'*c) 1) {k m s s':Nat} (hk:2≤k) {pts:List (Int×Int)} {g g':Tm→Int} (hr:∀ a∈pts,0≤a.1∧a.1 < p) (L:Lst p k (pts.map fun q=>(q.1,q.2,m)) s g) (L':Lst p k ((pts.map (afP p by' on)).map fun q=>(q.1,q.2,m)) s' g'):s'=s:=by
 have h1:=zjp p0 hc hk L L'
 have hc':Cg p (c*by') 1:=(Cg.of_eq (dF _ _)).trans hc
 rw [← zhC (on:=on) p0 hc hr] at L
 have h2:=zjp p0 hc' hk L' L
 lia
theorem zhE {p:Int} (hp:p∈zo) {pts:List (Int×Int)} (hP:Pts p pts) (hl:pts.length≤16) {k:Nat} {T:Int} (hT:(k:Int)≤T) {qs:List (List Int)} (nd:qs.Nodup) (h:∀ q,q∈qs↔IsP p k q∧T≤(hits p q pts:Int)):qs.length≤65536:=by
 have hs:∀ q∈qs,q∈((chs pts k).map (·.2)).map (thr p):=fun q hq=>by
  obtain⟨h1,h2⟩:=(h q).mp hq
  obtain⟨pk,hk,e⟩:=zeF hp hP (t:=k) (n:=pts.length) h1 (ag _) (by lia) (by lia)
  rw [bA] at hk
  exact aE.mpr ⟨pk,hk,e.symm⟩
 refine aZ (List.Nodup.length_le_of_subset nd hs) ?_
 rw [ab,ab]
 exact zcE k hl
theorem znY {qs:List (List Int)} {f:List Int→Int} {vs:List V} (hl:vs.length=qs.length) (h:∀ (i:Nat) v,vs[i]? = some v→∃ q,qs[i]? = some q∧v = .int (f q)):vs=(qs.map f).map V.int:=by
 refine cK fun i=>?_
 by_cases hi:i < vs.length
 ·obtain⟨q,hq,e⟩:=h i vs[i] (aj hi)
  rw [aj hi,ah,ah,hq,e]
  rfl
 ·rw [bq (by lia),bq (by rw [ab,ab]; lia)]
theorem zhF:∀ {vs:List V},(∀ (i:Nat) v,vs[i]? = some v→∃ n:Int,v = .int n)→∃ ss:List Int,vs=ss.map V.int
 | [],_=>⟨[],rfl⟩
 | v :: vs,h=>by
  obtain⟨n,rfl⟩:=h 0 v rfl
  obtain⟨ss,rfl⟩:=zhF (vs:=vs) fun i w hw=>h (i+1) w (by simpa using hw)
  exact⟨n :: ss,rfl⟩
theorem ze0 {vs ws:List V} (hl:vs.length=ws.length) (h:∀ (i:Nat) v w,vs[i]? = some v→ws[i]? = some w→v=w):vs=ws:=by
 refine cK fun i=>?_
 by_cases hi:i < vs.length
 ·have hj:i < ws.length:=by lia
  rw [aj hi,aj hj,h i _ _ (aj hi) (aj hj)]
 ·rw [bq (by lia),bq (by lia)]
def zhG (p:Int) (k:Nat) (pts:List (Int×Int)) (i:Nat) (v:V):Prop:=∃ (m size:Nat) (g:Tm→Int),([1,2]:List Nat)[i]? = some m∧v = .int (size:Int)∧Lst p k (pts.map fun q=>(q.1,q.2,m)) size g
theorem zkl {p:Int} {k:Nat} {pts:List (Int×Int)} {i:Nat} {v:V} (h:zhG p k pts i v):∃ n:Int,v = .int n:=let ⟨_,size,_,_,e,_⟩:=h; ⟨size,e⟩
theorem zkm {p:Int} (p0:0 < p) {k:Nat} (hk:2≤k) {pts pts':List (Int×Int)} (hp:pts'.Perm pts) {i:Nat} {v w:V} (h:zhG p k pts i v) (h':zhG p k pts' i w):w=v:=by
 obtain⟨m,s1,g1,e1,rfl,L1⟩:=h
 obtain⟨m',s2,g2,e2,rfl,L2⟩:=h'
 rw [e1] at e2
 cases e2
 have a:=zmi hk (zjj fun x hx=>(hp.map _).mem_iff.mp hx) L1 L2 p0
 have b:=zmi hk (zjj fun x hx=>(hp.map _).mem_iff.mpr hx) L2 L1 p0
 rw [show s2=s1 by lia]
theorem zmr {p by' on c:Int} (p0:0 < p) (hc:Cg p (by'*c) 1) {k:Nat} (hk:2≤k) {pts:List (Int×Int)} (hr:∀ a∈pts,0≤a.1∧a.1 < p) {i:Nat} {v w:V} (h:zhG p k pts i v) (h':zhG p k (pts.map (afP p by' on)) i w):w=v:=by
 obtain⟨m,s1,g1,e1,rfl,L1⟩:=h
 obtain⟨m',s2,g2,e2,rfl,L2⟩:=h'
 rw [e1] at e2
 cases e2
 rw [zmq p0 hc hk hr L1 L2]
theorem zb6 {K:ai} {a:Addr} {xs:List V} {g:TG} {ts:TT} {te:TE} {σ0:L2.St} {Q:VK} {H:Hp} (P:Nat→V→Prop) (ha:H a=some (.lst xs)) (hn:xs.length≤1000000)
  (hs:∀ (i:Nat) x H' (N:VK) (N':Hp→Prop),zu H H'→xs[i]? = some x→(∀ v H'',P i v→zu H' H''→N v H'')→g x σ0 H' fun σ2 H2=>ts σ2 H2 fun b H3=>if b=true then te σ2 H3 N else N' H3)
  (hd:∀ (vs:List V) H' D,zu H H'→vs.length=xs.length→(∀ (i:Nat) v,vs[i]? = some v→P i v)→H' D=none→Q (.ref D) (upd H' D (.lst vs))):cGo g ts te σ0 (Itl K a) Q H:=by
 refine zS (n:=xs.length) (fun i ys H'=>zu H H'∧ys.length=i∧∀ (j:Nat) v,ys[j]? = some v→P j v) ⟨fun _ _ e=>e,rfl,fun j v h=>by simp at h⟩ ?_ ?_ ?_ ?_
 ·rintro i ys H' hi ⟨s,_⟩
  exact⟨_,xs[i]'hi,SqL.of (s _ _ ha),aj hi⟩
 ·rintro ys H' ⟨s,_⟩
  exact⟨_,SqL.of (s _ _ ha),ag _⟩
 ·rintro i x ys H1 H2 hi ⟨s,hl,hP⟩ ⟨rfl,hx⟩
  refine hs i x H2 _ _ s (hx _ (SqL.of (s _ _ ha))) fun v H3 hv s3=>⟨by rw [hl,aX]; lia,s.trans s3,by rw [ao,hl]; rfl,fun j v' hj=>?_⟩
  by_cases e:j < ys.length
  ·rw [bj e] at hj
   exact hP j v' hj
  ·rw [bJ (by lia)] at hj
   have:j=i:=by
    have:=(aA.mp hj).1
    simp only [eL] at this
    lia
   subst this
   rw [hl,fM] at hj
   cases hj
   exact hv
 ·rintro ys H1 D ⟨s,hl,hP⟩ hD
  exact hd ys H1 D s hl hP hD
end My
end
section
namespace My
open PySem L2 PyProof.Rows
section
variable {P:Program} {w:World} {K:ai} {mg:Str→Option Value} {base:Heap} {t:Adr}
theorem zkn {H:Hp} {Q:VK} {a b:Addr} {xs ys:List V} (ha:SqL K H a xs) (hb:SqL K H b ys) (hl:xs.length=ys.length) (he:∀ (j:Nat) x y,xs[j]? = some x→ys[j]? = some y→EqD K H 8 x y true) (q:Q (.bl false) H):zmF K true (.ref a) (.ref b) H Q:=by
 refine⟨a,b,_,_,rfl,rfl,.inl ⟨ha,hb⟩,.inr ⟨hl,fun _=>true,he,?_⟩⟩
 have:(aH xs.length).all (fun _=>true)=true:=by simp
 rw [this]
 exact q
theorem zc1 {H:Hp} {Q:VK} {a b:Addr} {ms:List Int} (ha:H a=some (.lst (ms.map V.int))) (hb:H b=some (.lst (ms.map V.int))) (q:Q (.bl false) H):zmF K true (.ref a) (.ref b) H Q:=zjH (.inl ⟨SqL.of ha,SqL.of hb⟩) (by rw [decide_eq_true rfl]; exact q)
theorem zii {j:Nat} {x:V} (h:([V.int 1,V.int 2]:List V)[j]? = some x):∃ m:Nat,x = .int (m:Int)∧([1,2]:List Nat)[j]? = some m:=by
 match j,h with
 | 0,h=>cases h; exact⟨1,rfl,rfl⟩
 | 1,h=>cases h; exact⟨2,rfl,rfl⟩
 | n+2,h=>simp at h
theorem zgA {j m:Nat} (h:([1,2]:List Nat)[j]? = some m):1≤m∧m≤2:=by
 have:=aG h
 simp only [aB,aQ,or_false] at this
 lia
theorem zar:FnScope ["script","at","code","p","k","places","row","plan","left","order","by","on","turned","further","other","t","near","some","counts","e","sizes"] ["script"] (zh zba):=⟨rfl,rfl,rfl,by decide +kernel,rfl,by decide +kernel,by decide +kernel⟩
theorem zo0 {fd:FuncData} (T:Txt K mg t) (F:Fun K "law" "law" zba t.law fd):FnOk P w K mg base CX0 8 t.law fd ["script"] (zf1 K):=by
 obtain⟨fd_l_code,F_l_code,b_l_code⟩:=T.f_l_code
 have G_l_code:=zke (P:=P) (w:=w) (base:=base) T F_l_code
 obtain⟨fd_l_row,F_l_row,b_l_row⟩:=T.f_l_row
 have G_l_row:=zl4 (P:=P) (w:=w) (base:=base) T F_l_row
 obtain⟨fd_l_draws,F_l_draws,b_l_draws⟩:=T.f_l_draws
 have G_l_draws:=zcZ (P:=P) (w:=w) (base:=base) T F_l_draws
 obtain⟨fd_all_near,F_all_near,b_all_near⟩:=T.f_all_near
 have G_all_near:=zhy (P:=P) (w:=w) (base:=base) T F_all_near
 obtain⟨fd_fits,F_fits,b_fits⟩:=T.f_fits
 have G_fits:=zje (P:=P) (w:=w) (base:=base) T F_fits
 obtain⟨fd_locator_of,F_locator_of,b_locator_of⟩:=T.f_locator_of
 have G_locator_of:=ze7 (P:=P) (w:=w) (base:=base) T F_locator_of
 obtain⟨fd_curve_for,F_curve_for,b_curve_for⟩:=T.f_curve_for
 have G_curve_for:=zgz (P:=P) (w:=w) (base:=base) T F_curve_for
 refine F.ok zar (fun vs H Q E h=>?_) (fun cdv A outer s H vs Q E hr h=>?_)
 ·obtain⟨a,ns,rfl,_⟩:=h
  rfl
 ·obtain⟨a,ns,rfl,hS,hlen,q⟩:=h
  have hu:(A.deeper (envOfC (bS "law") (zh zba) s.heap.objs.size t.law cdv)).units+20 < cLine:=by have:=hr.units; lia
  refine⟨_,#[zd,#[zbc,bH,#[zad,T.range_,#[za,#[zf],#[ze]]],#[zg,1,zar.nd,(aq rfl)],#[zd,#[zl,2,zar.nd,(bP rfl),#[zq,G_l_code,(hr.mono (by decide)),T.m_l_code,F_l_code.kp,b_l_code,#[zF],#[za,#[pvx,0],by exact #[za,#[zi,#[zT],#[zf],#[pvx,1]],#[za,#[zf],#[za,#[zf],#[ze]]]]]]],by exact #[zd,#[zbD,#[pvx,2],#[za2,#[zj,#[zg,3,zar.nd,(bP rfl)],#[zj,#[zg,4,zar.nd,(aq rfl)],#[zj,#[zg,5,zar.nd,(bP rfl)],#[zL]]]]]],by exact #[zd,#[zl,6,zar.nd,(bP rfl),#[zq,G_l_row,(hr.mono (by decide)),T.m_l_row,F_l_row.kp,b_l_row,#[zF],#[za,#[pvx,0],#[za,#[zi,#[zK],#[zi,#[zT],#[zf],#[pvx,1]],#[zf]],#[za,#[pvx,2],#[ze]]]]]],by exact #[zd,#[zl,7,zar.nd,(bP rfl),#[zq,G_l_draws,(hr.mono (by decide)),T.m_l_draws,F_l_draws.kp,b_l_draws,#[zF],#[za,#[pvx,0],by exact #[za,#[zi,#[zK],#[zi,#[zT],#[zf],#[pvx,1]],#[zf]],#[za,#[zf],#[za,#[zf],#[ze]]]]]]],by exact #[zd,#[zl,8,zar.nd,(bP rfl),#[zam,#[zcP],T.list_,boot_list,#[za,#[zam,#[zdF],T.range_,je,#[za,#[zA,#[zI],T.len_,cq,#[za,#[pvx,5],#[ze]]],#[ze]]],#[ze]]]],by exact #[zd,#[zaz,9,zar.nd,(aq rfl),(CompSc.of (N':=["j","left","plan"]) (ix:=[none,some 8,some 7]) (zh zba) ["script","at","code","p","k","places","row","plan","left","order","by","on","turned","further","other","t","near","some","counts","e","sizes"] rfl rfl (by decide +kernel)),#[zZ],#[zad,T.range_,#[za,#[zA,#[zI],T.len_,cq,#[za,#[pvx,5],#[ze]]],#[ze]]],(fun _ _ _ _=>#[zg,0,(show (["j","left","plan"]:List Str).Nodup by decide +kernel),(aq rfl)]),(fun _ _ _ _=>#[zt]),(fun _ _ _ _=>#[zkM,(K),cp,i9,ja,#[zgK],#[pvx,1],#[za,#[zi,#[zC],#[zH,#[za4,(K)],#[pvx,2],#[pvx,0]],#[zA,#[zaE,(K)],T.len_,cq,#[za,#[pvx,1],#[ze]]]],#[ze]]])],by exact #[zd,#[zl,10,zar.nd,(bP rfl),#[zi,#[zK],#[zf],#[zi,#[zC],#[zH,#[zD],#[pvx,7],#[zf]],#[zi,#[zaR],#[pvx,3],#[zf]]]]],by exact #[zd,(zh6 #[zl,11,zar.nd,(bP rfl),#[zi,#[zC],#[zH,#[zD],#[pvx,7],#[zf]],#[pvx,3]]]),by exact #[zd,#[zl,12,zar.nd,(bP rfl),#[zax,#[za,#[pvx,3],#[za,#[pvx,4],#[za,#[zam,#[zah],T.tuple_,fj,#[za,#[zO,(CompSc.of (N':=["number","places"]) (ix:=[none,some 5]) (zh zba) ["script","at","code","p","k","places","row","plan","left","order","by","on","turned","further","other","t","near","some","counts","e","sizes"] rfl rfl (by decide +kernel)),#[zZ],#[zM,#[pvx,9]],(fun _ _ _ _=>#[zg,0,(show (["number","places"]:List Str).Nodup by decide +kernel),(aq rfl)]),(fun _ _ _ _=>#[zt]),(fun _ _ _ _=>#[zH,#[zdX,(K)],#[pvx,1],#[pvx,0]])],#[ze]]],#[ze]]]]]],by exact #[zd,#[zl,13,zar.nd,(bP rfl),#[zax,#[za,#[pvx,3],#[za,#[pvx,4],#[za,#[zam,#[zah],T.tuple_,fj,#[za,#[zO,(CompSc.of (N':=["x","by","on","p"]) (ix:=[none,some 10,some 11,some 3]) (zh zba) ["script","at","code","p","k","places","row","plan","left","order","by","on","turned","further","other","t","near","some","counts","e","sizes"] rfl rfl (by decide +kernel)),#[zZ],(@zkr _ _ _ _ #[pvx,5]),(fun _ _ _ _=>#[zg,0,(show (["x","by","on","p"]:List Str).Nodup by decide +kernel),(aq rfl)]),(fun _ _ _ _=>#[zt]),(fun _ _ _ _=>#[zi,#[zC],#[zi,#[zK],#[zi,#[zT],#[pvx,1],#[pvx,0]],#[pvx,2]],#[pvx,3]])],#[ze]]],#[ze]]]]]],by exact #[zd,(zh6 #[zl,14,zar.nd,(bP rfl),#[zO,(CompSc.of (N':=["number","row"]) (ix:=[none,some 6]) (zh zba) ["script","at","code","p","k","places","row","plan","left","order","by","on","turned","further","other","t","near","some","counts","e","sizes"] rfl rfl (by decide +kernel)),#[zZ],#[zM,#[pvx,9]],(fun _ _ _ _=>#[zg,0,(show (["number","row"]:List Str).Nodup by decide +kernel),(aq rfl)]),(fun _ _ _ _=>#[zt]),(fun _ _ _ _=>#[zH,#[za4,(K)],#[pvx,1],#[pvx,0]])]]),by exact #[zd,#[zbc,bH,#[zM,#[zY,#[za,#[pvx,4],#[za,#[zi,#[zK],#[pvx,4],#[zf]],#[za,#[zi,#[zK],#[pvx,4],#[zf]],#[ze]]]]]],#[zg,15,zar.nd,(aq rfl)],#[zd,#[zl,16,zar.nd,(aq rfl),#[zq,G_all_near,(hr.mono (by decide)),T.m_all_near,F_all_near.kp,b_all_near,#[zF],#[za,#[pvx,2],#[za,#[pvx,6],#[za,#[pvx,15],#[ze]]]]]],by exact #[zd,#[zbj,#[zR,#[zfY,hu],#[zq,G_all_near,(hr.mono (by decide)),T.m_all_near,F_all_near.kp,b_all_near,#[zF],#[za,#[pvx,12],#[za,#[pvx,14],#[za,#[pvx,15],#[ze]]]]],#[pvx,16],(zac _)],#[zm,#[zG,#[zec]]],#[zap]],by exact #[zd,#[zl,17,zar.nd,(aq rfl),#[zq,G_all_near,(hr.mono (by decide)),T.m_all_near,F_all_near.kp,b_all_near,#[zF],#[za,#[pvx,13],#[za,#[pvx,6],#[za,#[pvx,15],#[ze]]]]]],by exact #[zd,#[zl,18,zar.nd,(aq rfl),#[zA,zdk,T.sorted_,j6,#[za,#[zO,(CompSc.of (N':=["one","code","row"]) (ix:=[none,some 2,some 6]) (zh zba) ["script","at","code","p","k","places","row","plan","left","order","by","on","turned","further","other","t","near","some","counts","e","sizes"] rfl rfl (by decide +kernel)),#[zZ],#[zM,#[pvx,16]],(fun _ _ _ _=>#[zg,0,(show (["one","code","row"]:List Str).Nodup by decide +kernel),(aq rfl)]),(fun _ _ _ _=>#[zt]),(fun _ _ _ _=>#[zA,#[zaE,(K)],T.len_,cq,#[za,#[zq,G_fits,(hr.mono (by decide)),T.m_fits,F_fits.kp,b_fits,#[zF],#[za,#[pvx,1],#[za,#[pvx,2],#[za,#[pvx,0],#[ze]]]]],#[ze]]])],#[ze]]]],by exact #[zm,#[zbj,#[zR,#[zfY,hu],#[zA,zdk,T.sorted_,j6,#[za,#[zO,(CompSc.of (N':=["one","further","row"]) (ix:=[none,some 13,some 6]) (zh zba) ["script","at","code","p","k","places","row","plan","left","order","by","on","turned","further","other","t","near","some","counts","e","sizes"] rfl rfl (by decide +kernel)),#[zZ],#[zM,#[pvx,17]],(fun _ _ _ _=>#[zg,0,(show (["one","further","row"]:List Str).Nodup by decide +kernel),(aq rfl)]),(fun _ _ _ _=>#[zt]),(fun _ _ _ _=>#[zA,#[zaE,(K)],T.len_,cq,#[za,#[zq,G_fits,(hr.mono (by decide)),T.m_fits,F_fits.kp,b_fits,#[zF],#[za,#[pvx,1],#[za,#[pvx,2],#[za,#[pvx,0],#[ze]]]]],#[ze]]])],#[ze]]],#[pvx,18],(zac _)],#[zm,#[zG,#[zec]]],#[zap]]]]]]]],by exact #[zd,#[zl,19,zar.nd,(aq rfl),#[zH,#[zb9],#[zq,G_locator_of,(hr.mono (by decide)),T.m_locator_of,F_locator_of.kp,b_locator_of,#[zF],#[za,#[pvx,2],#[za,#[pvx,6],#[ze]]]],#[zf]]],by exact #[zd,#[zbj,(@PW.pt _ _ _ (@zo3 _ _ _ _ _ _ _ #[zR,#[zkx],#[zH,#[zb9],#[zq,G_locator_of,(hr.mono (by decide)),T.m_locator_of,F_locator_of.kp,b_locator_of,#[zF],#[za,#[pvx,12],#[za,#[pvx,14],#[ze]]]],#[zf]],#[pvx,19],(zac _)] (@zn4 _ _ _ _ #[zR,#[zkx],#[zH,#[zb9],#[zq,G_locator_of,(hr.mono (by decide)),T.m_locator_of,F_locator_of.kp,b_locator_of,#[zF],#[za,#[pvx,13],#[za,#[pvx,6],#[ze]]]],#[zf]],#[pvx,19],(zac _)]))),#[zm,#[zG,#[zec]]],#[zap]],by exact #[zm,#[zbj,#[zR,#[zgH],#[pvx,4],#[zf],(zac _)],#[zd,#[zaz,20,zar.nd,(aq rfl),(CompSc.of (N':=["m","code","row"]) (ix:=[none,some 2,some 6]) (zh zba) ["script","at","code","p","k","places","row","plan","left","order","by","on","turned","further","other","t","near","some","counts","e","sizes"] rfl rfl (by decide +kernel)),#[zZ],#[zM,#[zY,#[za,#[zf],#[za,#[zf],#[ze]]]]],(fun _ _ _ _=>#[zg,0,(show (["m","code","row"]:List Str).Nodup by decide +kernel),(aq rfl)]),(fun _ _ _ _=>#[zt]),(fun _ _ _ _=>#[zH,#[zdX,(K)],#[zq,G_curve_for,(hr.mono (by decide)),T.m_curve_for,F_curve_for.kp,b_curve_for,#[zF],#[za,#[pvx,1],#[za,#[pvx,2],#[za,#[pvx,0],#[ze]]]]],#[zf]])],by exact #[zd,#[zbj,#[zR,#[zfY,hu],#[zO,(CompSc.of (N':=["m","turned","other"]) (ix:=[none,some 12,some 14]) (zh zba) ["script","at","code","p","k","places","row","plan","left","order","by","on","turned","further","other","t","near","some","counts","e","sizes"] rfl rfl (by decide +kernel)),#[zZ],#[zM,#[zY,#[za,#[zf],#[za,#[zf],#[ze]]]]],(fun _ _ _ _=>#[zg,0,(show (["m","turned","other"]:List Str).Nodup by decide +kernel),(aq rfl)]),(fun _ _ _ _=>#[zt]),(fun _ _ _ _=>#[zH,#[zdX,(K)],#[zq,G_curve_for,(hr.mono (by decide)),T.m_curve_for,F_curve_for.kp,b_curve_for,#[zF],#[za,#[pvx,1],#[za,#[pvx,2],#[za,#[pvx,0],#[ze]]]]],#[zf]])],#[pvx,20],(zac _)],#[zm,#[zG,#[zec]]],#[zap]],by exact #[zm,#[zbj,#[zR,#[zfY,hu],#[zO,(CompSc.of (N':=["m","further","row"]) (ix:=[none,some 13,some 6]) (zh zba) ["script","at","code","p","k","places","row","plan","left","order","by","on","turned","further","other","t","near","some","counts","e","sizes"] rfl rfl (by decide +kernel)),#[zZ],#[zM,#[zY,#[za,#[zf],#[za,#[zf],#[ze]]]]],(fun _ _ _ _=>#[zg,0,(show (["m","further","row"]:List Str).Nodup by decide +kernel),(aq rfl)]),(fun _ _ _ _=>#[zt]),(fun _ _ _ _=>#[zH,#[zdX,(K)],#[zq,G_curve_for,(hr.mono (by decide)),T.m_curve_for,F_curve_for.kp,b_curve_for,#[zF],#[za,#[pvx,1],#[za,#[pvx,2],#[za,#[pvx,0],#[ze]]]]],#[zf]])],#[pvx,20],(zac _)],#[zm,#[zG,#[zec]]],#[zap]]]]],#[zap]]]]]]]]]]]]]]]]]],by exact #[zm,#[zG,#[zec]]]],?_⟩
  have hsl:=aX
  refine⟨2,rfl,by decide,by decide,?_⟩
  refine zbX (lo:=0) (n:=2) (fun i σ H'=>∃ (e1 e2 e3 e4 e5 e6 e7 e8 e9 e10 e11 e12 e13 e14 e15 e16 e17 e18 e19 e20:Option V),σ = [some (.ref a),e1,e2,e3,e4,e5,e6,e7,e8,e9,e10,e11,e12,e13,e14,e15,e16,e17,e18,e19,e20]∧zu H H') ⟨none,none,none,none,none,none,none,none,none,none,none,none,none,none,none,none,none,none,none,none,rfl,fun _ _ e=>e⟩ ?_ ?_
  ·rintro i σ H0 hi ⟨e1,e2,e3,e4,e5,e6,e7,e8,e9,e10,e11,e12,e13,e14,e15,e16,e17,e18,e19,e20,rfl,s0⟩
   refine⟨_,rfl,_,rfl,_,_,rfl,rfl,.inl ⟨by decide,by decide⟩,a,ns,4*(0+(i:Int)),4,10,rfl,s0.seq hS,hlen,by lia,by lia,by decide,by decide,by decide,by decide,fun c tt p kI pl H1 hc1 s1 co h1c h1t=>?_⟩
   have rp:=zr co.pr
   have k1:=co.k1
   have kk:=co.kk
   have kn:=co.kl
   have ln:=co.ln
   have p0:0 < p:=by lia
   obtain⟨k,rfl⟩:∃ k:Nat,kI=k:=⟨kI.toNat,by lia⟩
   have hcA:za5 H1 c tt p k pl:=⟨h1c,h1t⟩
   have s01:=s0.trans s1
   refine⟨_,rfl,c,_,rfl,SqT.of h1c,rfl,_,_,rfl,_,_,rfl,_,_,rfl,rfl,?_⟩
   refine⟨_,rfl,_,rfl,_,_,rfl,rfl,.inl ⟨by decide,by decide⟩,_,_,rfl,rfl,_,rfl,a,c,tt,ns,4*(0+(i:Int))+1,p,k,pl,rfl,s01.seq hS,hlen,by lia,by lia,hcA,by lia,by lia,co.rg,by lia,fun r rw H2 hr2 s2 hrl hrw h2r=>?_⟩
   have s02:=s01.trans s2
   refine⟨_,rfl,_,rfl,_,_,rfl,rfl,.inl ⟨by decide,by decide⟩,_,_,rfl,rfl,a,ns,4*(0+(i:Int))+3,20,27720,rfl,s02.seq hS,hlen,by lia,by lia,by decide,by decide,by decide,by decide,fun dl ds H3 hdl s3 ok h3=>?_⟩
   have hcC:=(hcA.same s2).same s3
   refine⟨_,rfl,tt,_,rfl,.inr (SqT.of hcC.2),?_⟩
   rw [ab]
   refine⟨_,rfl,fun R hR=>⟨R,_,rfl,zc,by lia,by lia,fun lf hlf=>?_⟩⟩
   rw [bf]
   have s4:=zb (o:=.rng 0 (pl.length:Int)) hR
   generalize upd H3 R (.rng 0 (pl.length:Int))=H4 at s4 hlf ⊢
   have e0:zbr 0 pl.length=ixs pl.length:=by unfold zbr ixs; simp
   rw [e0]
   have s5:=zb (o:=.lst ((ixs pl.length).map V.int)) hlf
   have h5l:upd H4 lf (.lst ((ixs pl.length).map V.int)) lf=some (.lst ((ixs pl.length).map V.int)):=zc
   generalize upd H4 lf (.lst ((ixs pl.length).map V.int))=H5 at s5 h5l ⊢
   have s35:=s4.trans s5
   refine⟨_,rfl,tt,_,rfl,.inr (SqT.of (hcC.same s35).2),?_⟩
   rw [ab]
   refine⟨_,rfl,by lia,by lia,?_⟩
   rw [bf]
   refine zS (n:=pl.length) (fun i ys H'=>∃ xs ls:List Int,ys=xs.map V.int∧xs.length=i∧zu H4 H'∧H' lf=some (.lst (ls.map V.int))∧(xs++ls).Perm (ixs pl.length))
    ⟨[],ixs pl.length,rfl,rfl,s5,h5l,kG _⟩ (fun i ys H' hi _=>hi) (fun ys H' _=>ag _) ?_ ?_
   ·rintro j x ys H6 H7 hj ⟨xs,ls,rfl,hxl,s6,h6l,hpm⟩ ⟨rfl,rfl⟩
    refine gY ?_
    have hln:=hpm.length_eq
    have hil:(ixs pl.length).length=pl.length:=by unfold ixs; rw [ab,aV]
    rw [ao,hil] at hln
    obtain⟨cc,ec,_⟩:=zlZ (i:=0+(j:Int)) ok (by lia) (by lia)
    have lm:((ls.map V.int).length:Int)=(ls.length:Int):=by rw [ab]
    have c0:=aI cc (show (ls.length:Int)≠0 by lia)
    have c1:=aC cc (show (0:Int) < ls.length by lia)
    obtain⟨y,ey⟩:∃ y,ls[(cc % (ls.length:Int)).toNat]? = some y:=⟨ls[(cc % (ls.length:Int)).toNat]'(by lia),by simp⟩
    refine⟨_,rfl,.inl ⟨rfl,_,SqL.of h6l⟩,_,rfl,_,rfl,dl,_,_,_,rfl,rfl,SqL.of ((s4.trans s6) _ _ h3),ec,_,rfl,lf,_,rfl,.inl (SqL.of h6l),_,_,rfl,rfl,(by rw [lm]; lia),lf,_,_,(cc % (ls.length:Int)).toNat,.int y,rfl,rfl,h6l,?_⟩
    rw [lm]
    refine⟨by lia,by lia,by rw [ab]; exact fZ c0 c1,by rw [ah,ey]; rfl,zaa (by rw [ab]; lia),xs++[y],ls.eraseIdx (cc % (ls.length:Int)).toNat,by rw [au]; rfl,by rw [ao,hxl]; rfl,zae s6 hlf,by rw [zc,zdq],znI hpm ey⟩
   rintro ys H6 D ⟨os,ls,rfl,hol,s6,h6l,hpm⟩ hD
   have hln:=hpm.length_eq
   have hil:(ixs pl.length).length=pl.length:=by unfold ixs; rw [ab,aV]
   rw [ao,hil] at hln
   obtain rfl:ls = []:=fT.mp (by lia)
   rw [bD] at hpm
   have w6:=zb (o:=.lst (os.map V.int)) hD
   have h7D:upd H6 D (.lst (os.map V.int)) D=some (.lst (os.map V.int)):=zc
   generalize upd H6 D (.lst (os.map V.int))=H7 at w6 h7D ⊢
   have s37:=s4.trans (s6.trans w6)
   have h7d:=s37 _ _ h3
   have hc7:=hcC.same s37
   obtain⟨d16,hd16,_⟩:=zlZ (i:=16) ok (by decide) (by decide)
   obtain⟨d17,hd17,_⟩:=zlZ (i:=17) ok (by decide) (by decide)
   have b0:=aI d16 (show p - 1≠0 by lia)
   have b1:=aC d16 (show 0 < p - 1 by lia)
   have o0:=aI d17 (show p≠0 by lia)
   have o1:=aC d17 p0
   refine⟨_,rfl,dl,_,_,_,rfl,rfl,SqL.of h7d,hd16,_,rfl,_,_,rfl,rfl,_,_,rfl,rfl,by lia,_,_,rfl,rfl,?_⟩
   refine⟨fun σ H'=>∃ bb oo:Int,σ = [some (.ref a),some (.int (0+(i:Int))),some (.ref c),some (.int p),some (.int (k:Int)),some (.ref tt),some (.ref r),some (.ref dl),some (.ref lf),some (.ref D),some (.int bb),some (.int oo),e12,e13,e14,e15,e16,e17,e18,e19,e20]∧H'=H7∧0 < bb∧bb < p∧0≤oo∧oo < p,?_,?_⟩
   ·exact⟨_,rfl,dl,_,_,_,rfl,rfl,SqL.of h7d,hd17,_,rfl,_,_,rfl,rfl,by lia,1+d16 % (p - 1),d17 % p,rfl,rfl,by lia,by lia,o0,o1⟩
   rintro σ' H7' ⟨bb,oo,rfl,rfl,bb0,bb1,oo0,oo1⟩
   have hcv:Cg p (bb*inv p bb) 1:=(Cg.of_eq (dF _ _)).trans (zek co.pr bb0 bb1)
   have TR:=zoZ hrl hpm
   have oix:∀ (j:Nat) (y:Int),os[j]? = some y→∃ n:Nat,y=n∧n < pl.length:=fun j y hy=>by
    have:=hpm.mem_iff.mp (aG hy)
    obtain⟨n,hn,rfl⟩:=aE.mp this
    exact⟨n,rfl,bd.mp hn⟩
   refine⟨_,rfl,_,rfl,_,rfl,D,rfl,⟨_,SqL.of h7D⟩,zbB (fs:=(os.map (glI pl)).map V.int) (SqL.of h7D) (by simp) (by rw [ab]; lia) (fun j x y R B hx hy hR=>?_) fun D1 hD1=>?_⟩
   ·obtain⟨o,rfl,ho⟩:=zag hx
    obtain⟨n,rfl,hn⟩:=oix j o ho
    rw [ah,ah,ho] at hy
    have hy:V.int (glI pl (n:Int))=y:=by simpa using hy
    subst hy
    refine⟨_,rfl,_,rfl,tt,_,_,_,rfl,rfl,SqT.of hc7.2,zaG (by rw [ah,aj hn]; rfl),?_⟩
    rw [zmo (aj hn)] at hR
    exact hR
   refine⟨D1,_,rfl,.inl ⟨SqL.of zc,fun t2 ht2=>⟨by show 3≤sizeLine; lia,fun c2 hc2=>?_⟩⟩⟩
   have w8:=((zb (o:=.lst ((os.map (glI pl)).map V.int)) hD1).trans (zb (o:=.tup ((os.map (glI pl)).map V.int)) ht2)).trans (zb (o:=.tup [.int p,.int (k:Int),.ref t2]) hc2)
   have hcT:za5 (upd (upd (upd H7' D1 (.lst ((os.map (glI pl)).map V.int))) t2 (.tup ((os.map (glI pl)).map V.int))) c2 (.tup [.int p,.int (k:Int),.ref t2])) c2 t2 p k (os.map (glI pl)):=⟨zc,(zb (o:=.tup [.int p,.int (k:Int),.ref t2]) hc2) _ _ zc⟩
   generalize upd (upd (upd H7' D1 (.lst ((os.map (glI pl)).map V.int))) t2 (.tup ((os.map (glI pl)).map V.int))) c2 (.tup [.int p,.int (k:Int),.ref t2])=H8 at w8 hcT ⊢
   have hc8:=hc7.same w8
   refine⟨_,rfl,_,rfl,_,rfl,tt,rfl,⟨_,SqT.of hc8.2⟩,zjN (fs:=(pl.map fun x=>(bb*x+oo) % p).map V.int) (SqT.of hc8.2) (by simp) (by rw [ab]; lia) (fun j x y R B hx hy hR=>?_) fun D2 hD2=>?_⟩
   ·obtain⟨o,rfl,ho⟩:=zag hx
    rw [ah,ah,ho] at hy
    have hy:V.int ((bb*o+oo) % p)=y:=by simpa using hy
    subst hy
    have:=co.rg o (aG ho)
    exact⟨_,rfl,_,rfl,_,_,rfl,rfl,.inl ⟨by lia,by lia⟩,_,rfl,_,_,rfl,rfl,_,rfl,_,_,rfl,rfl,p0,hR⟩
   refine⟨D2,_,rfl,.inl ⟨SqL.of zc,fun t3 ht3=>⟨by show 3≤sizeLine; lia,fun c3 hc3=>?_⟩⟩⟩
   have w9:=((zb (o:=.lst ((pl.map fun x=>(bb*x+oo) % p).map V.int)) hD2).trans (zb (o:=.tup ((pl.map fun x=>(bb*x+oo) % p).map V.int)) ht3)).trans (zb (o:=.tup [.int p,.int (k:Int),.ref t3]) hc3)
   have hcF:za5 (upd (upd (upd H8 D2 (.lst ((pl.map fun x=>(bb*x+oo) % p).map V.int))) t3 (.tup ((pl.map fun x=>(bb*x+oo) % p).map V.int))) c3 (.tup [.int p,.int (k:Int),.ref t3])) c3 t3 p k (pl.map fun x=>(bb*x+oo) % p):=⟨zc,(zb (o:=.tup [.int p,.int (k:Int),.ref t3]) hc3) _ _ zc⟩
   generalize upd (upd (upd H8 D2 (.lst ((pl.map fun x=>(bb*x+oo) % p).map V.int))) t3 (.tup ((pl.map fun x=>(bb*x+oo) % p).map V.int))) c3 (.tup [.int p,.int (k:Int),.ref t3])=H9 at w9 hcF ⊢
   have s79:=w8.trans w9
   have s29:=s3.trans (s37.trans s79)
   have h9r:=s29 _ _ h2r
   refine⟨fun σ H'=>∃ r2:Addr,σ = [some (.ref a),some (.int (0+(i:Int))),some (.ref c),some (.int p),some (.int (k:Int)),some (.ref tt),some (.ref r),some (.ref dl),some (.ref lf),some (.ref D),some (.int bb),some (.int oo),some (.ref c2),some (.ref c3),some (.ref r2),e15,e16,e17,e18,e19,e20]∧zu H9 H'∧H' r2=some (.lst ((os.map (glO rw)).map enc)),?_,?_⟩
   ·refine⟨_,rfl,D,rfl,⟨_,SqL.of (s79 _ _ h7D)⟩,zbB (fs:=(os.map (glO rw)).map enc) (SqL.of (s79 _ _ h7D)) (by simp) (by rw [ab]; lia) (fun j x y R B hx hy hR=>?_) fun D3 hD3=>⟨D3,rfl,zb hD3,zc⟩⟩
    obtain⟨o,rfl,ho⟩:=zag hx
    obtain⟨n,rfl,hn⟩:=oix j o ho
    rw [ah,ah,ho] at hy
    have hy:enc (glO rw (n:Int))=y:=by simpa using hy
    subst hy
    have hn':n < rw.length:=by lia
    refine⟨_,rfl,_,rfl,r,_,_,_,rfl,rfl,SqL.of h9r,zaG (by rw [ah,aj hn']; rfl),?_⟩
    rw [zmn (aj hn')] at hR
    exact hR
   rintro σ' H10 ⟨r2,rfl,s10,h10r⟩
   obtain⟨pT,epT⟩:∃ x,x=os.map (glI pl):=⟨_,rfl⟩
   obtain⟨rT,erT⟩:∃ x,x=os.map (glO rw):=⟨_,rfl⟩
   obtain⟨pF,epF⟩:∃ x,x=pl.map fun x=>(bb*x+oo) % p:=⟨_,rfl⟩
   rw [← epT] at hcT
   rw [← erT] at h10r
   rw [← epF] at hcF
   rw [← epT,← erT] at TR
   have hTl:pT.length=pl.length:=TR.a.length_eq
   have hFl:pF.length=pl.length:=by rw [epF,ab]
   have hTr:rT.length=pT.length:=by rw [hTl,TR.b.length_eq]; exact hrl
   have hTn:pT.Nodup:=TR.a.nodup_iff.mpr co.nd
   have hTg:∀ x∈pT,0≤x∧x < p:=fun x hx=>co.rg x (TR.a.mem_iff.mp hx)
   have hTw:∀ z,some z∈rT→0≤z∧z < p:=fun z hz=>hrw z (TR.b.mem_iff.mp hz)
   have hFn:pF.Nodup:=by rw [epF]; exact zkk p0 hcv co.nd co.rg
   have hFg:∀ x∈pF,0≤x∧x < p:=fun x hx=>by
    rw [epF] at hx
    obtain⟨y,_,rfl⟩:=aE.mp hx
    exact⟨aI _ (by lia),aC _ p0⟩
   have hFr:rw.length=pF.length:=by lia
   have hFh:hps pF rw=(hps pl rw).map (afP p bb oo):=by rw [epF]; exact zjm p bb oo pl rw
   have hPr:∀ a∈hps pl rw,0≤a.1∧a.1 < p:=fun a ha=>co.rg _ (zcg ha).1
   have hcA':=(hc8.same w9).same s10
   have hcT':=(hcT.same w9).same s10
   have hcF':=hcF.same s10
   have hrA':=s10 _ _ h9r
   have sX:=s02.trans (s29.trans s10)
   refine⟨_,rfl,_,rfl,_,_,rfl,rfl,_,rfl,_,_,rfl,rfl,by show 3≤sizeLine; lia,fun TL hTL=>?_⟩
   have w11:=zb (o:=.lst [V.int (k:Int),V.int ((k:Int)+1),V.int ((k:Int)+3)]) hTL
   have hT:upd H10 TL (.lst [V.int (k:Int),V.int ((k:Int)+1),V.int ((k:Int)+3)]) TL=some (.lst ([(k:Int),(k:Int)+1,(k:Int)+3].map V.int)):=zc
   generalize upd H10 TL (.lst [V.int (k:Int),V.int ((k:Int)+1),V.int ((k:Int)+3)])=H11 at w11 hT ⊢
   have hcA:=hcA'.same w11
   have hcT:=hcT'.same w11
   have hcF:=hcF'.same w11
   have hrA:=w11 _ _ hrA'
   have hrT:=w11 _ _ h10r
   have sY:=sX.trans w11
   have hP:=zdf co.nd co.rg hrw
   have hPF:=zdf hFn hFg hrw
   have hhl:=zby pl rw
   have hhf:=zby pF rw
   refine⟨TL,rfl,⟨_,SqL.of hT⟩,zbW (K:=K) (a:=TL) (xs:=[(k:Int),(k:Int)+1,(k:Int)+3].map V.int) (fun _ σ H'=>∃ (e15 e16 e17 e18:Option V),σ = [some (.ref a),some (.int (0+(i:Int))),some (.ref c),some (.int p),some (.int (k:Int)),some (.ref tt),some (.ref r),some (.ref dl),some (.ref lf),some (.ref D),some (.int bb),some (.int oo),some (.ref c2),some (.ref c3),some (.ref r2),e15,e16,e17,e18,e19,e20]∧zu H11 H')
    ⟨e15,e16,e17,e18,rfl,fun _ _ e=>e⟩ (fun i σ H' _ ⟨_,_,_,_,_,s8⟩=>SqL.of (s8 _ _ hT)) ?_ ?_⟩
   ·rintro i' y σ H12 hy ⟨e15,e16,e17,e18,rfl,s12⟩
    obtain⟨T',rfl,hT'⟩:=zag hy
    have hTk:(k:Int)≤T':=by
     have:=aG hT'
     simp only [aB,aQ,or_false] at this
     lia
    refine⟨_,rfl,_,rfl,_,rfl,c,tt,r,p,k,T',pl,rw,rfl,hcA.same s12,s12 _ _ hrA,hrl,by lia,co.pr,co.nd,co.rg,hrw,by lia,by lia,hTk,fun ml mrs mqs H13 hml s13 h13m hmT hmR hmm=>?_⟩
    have t13:=s12.trans s13
    refine⟨_,rfl,_,rfl,_,rfl,c2,t2,r2,p,k,T',pT,rT,rfl,hcT.same t13,t13 _ _ hrT,hTr,by lia,co.pr,hTn,hTg,hTw,by lia,by lia,hTk,fun nl nrs nqs H14 hnl s14 h14n hnT hnR hnm=>?_⟩
    obtain rfl:nqs=mqs:=ziY hnR hmR fun x=>by rw [hnm,hmm,zkj TR.c]
    have hmT14:=hmT.same s14
    refine⟨_,rfl,zkn (SqL.of h14n) (SqL.of (s14 _ _ h13m)) (by rw [ab,ab,hnT.length,hmT.length]) (zny hnT hmT14) ⟨_,rfl,zjA ?_⟩⟩
    have t14:=t13.trans s14
    refine⟨_,rfl,_,rfl,_,rfl,c3,t3,r,p,k,T',pF,rw,rfl,hcF.same t14,t14 _ _ hrA,hFr,by lia,co.pr,hFn,hFg,hrw,by lia,by lia,hTk,fun sl srs sqs H15 hsl' s15 h15s hsT hsR hsm=>?_⟩
    have t15:=t14.trans s15
    have h15m:=(s14.trans s15) _ _ h13m
    have hmT15:=hmT14.same s15
    have hml':=zhE co.pr hP (by lia) hTk (zcl hmR) hmm
    have hsl2:=zhE co.pr hPF (by lia) hTk (zcl hsR) hsm
    refine⟨_,rfl,ml,rfl,⟨_,SqL.of h15m⟩,zb6 (fun i v=>∃ q',nqs[i]? = some q'∧v = .int (hits p q' (hps pl rw):Int)) h15m (by rw [ab,hmT.length]; lia) (fun j x H' N N' sN hx hN=>?_) fun vs H16 D4 s16 hvl hvs hD4=>?_⟩
    ·obtain⟨b,rfl,hb⟩:=zX hx
     obtain⟨q',hq',hqa⟩:=Paired.get hmT15 hb
     refine gY ?_
     have u:=t15.trans sN
     refine⟨_,rfl,_,rfl,_,rfl,c,tt,r,b,p,k,pl,q',rw,rfl,hcA.same u,u _ _ hrA,hrl,sN _ _ hqa,by lia,by lia,co.rg,by lia,fun fl H'' hfl s'' h''=>⟨fl,_,rfl,.inl (SqL.of h''),?_⟩⟩
     rw [ab,zge hrl]
     exact hN _ _ ⟨q',hq',rfl⟩ s''
    rw [ab,hmT.length] at hvl
    obtain rfl:=znY hvl hvs
    refine⟨D4,_,rfl,SqL.of zc,fun cl ms hcl hmp hms=>?_⟩
    have v16:=zb (o:=.lst ((nqs.map fun q'=>(hits p q' (hps pl rw):Int)).map V.int)) hD4
    have v17:=zb (o:=.lst (ms.map V.int)) hcl
    have h17c:upd (upd H16 D4 (.lst ((nqs.map fun q'=>(hits p q' (hps pl rw):Int)).map V.int))) cl (.lst (ms.map V.int)) cl=some (.lst (ms.map V.int)):=zc
    generalize upd (upd H16 D4 (.lst ((nqs.map fun q'=>(hits p q' (hps pl rw):Int)).map V.int))) cl (.lst (ms.map V.int))=H17 at v17 h17c ⊢
    have t17:=s16.trans (v16.trans v17)
    have h17s:=t17 _ _ h15s
    have hsT17:=hsT.same t17
    refine⟨_,rfl,sl,rfl,⟨_,SqL.of h17s⟩,zb6 (fun i v=>∃ q',sqs[i]? = some q'∧v = .int (hits p q' (hps pF rw):Int)) h17s (by rw [ab,hsT.length]; lia) (fun j x H' N N' sN hx hN=>?_) fun vs H18 D5 s18 hvl hvs hD5=>?_⟩
    ·obtain⟨b,rfl,hb⟩:=zX hx
     obtain⟨q',hq',hqa⟩:=Paired.get hsT17 hb
     refine gY ?_
     have u:=t15.trans (t17.trans sN)
     refine⟨_,rfl,_,rfl,_,rfl,c3,t3,r,b,p,k,pF,q',rw,rfl,hcF.same u,u _ _ hrA,hFr,sN _ _ hqa,by lia,by lia,hFg,by lia,fun fl H'' hfl s'' h''=>⟨fl,_,rfl,.inl (SqL.of h''),?_⟩⟩
     rw [ab,zge hFr]
     exact hN _ _ ⟨q',hq',rfl⟩ s''
    rw [ab,hsT.length] at hvl
    obtain rfl:=znY hvl hvs
    refine⟨D5,_,rfl,SqL.of zc,fun cl2 ms2 hcl2 hmp2 hms2=>?_⟩
    have hsame:ms2=ms:=by
     rw [hFh] at hsm hmp2
     exact zdJ (hmp2.trans ((zmm co.pr hcv (by lia) (zcl hmR) (zcl hsR) hmm hsm).symm.trans hmp.symm)) hms2 hms
    subst hsame
    have v18:=(zb (o:=.lst ((sqs.map fun q'=>(hits p q' (hps pF rw):Int)).map V.int)) hD5).trans (zb (o:=.lst (ms2.map V.int)) hcl2)
    refine⟨_,rfl,zc1 zc ((s18.trans v18) _ _ h17c) ⟨_,rfl,zjA ?_⟩⟩
    exact⟨_,_,_,_,rfl,t15.trans (t17.trans (s18.trans v18))⟩
   rintro σ H12 ⟨e15,e16,e17,e18,rfl,s12⟩
   refine⟨_,rfl,_,rfl,c,tt,r,p,k,pl,rw,rfl,hcA.same s12,s12 _ _ hrA,hrl,by lia,co.pr,co.nd,co.rg,hrw,by lia,by lia,fun z1 la1 rb1 f1 left1 right1 H13 s13 h13z _ _ _ L1=>⟨z1,_,_,_,rfl,rfl,SqT.of h13z,rfl,?_⟩⟩
   have t13:=s12.trans s13
   refine⟨_,rfl,_,rfl,c2,t2,r2,p,k,pT,rT,rfl,hcT.same t13,t13 _ _ hrT,hTr,by lia,co.pr,hTn,hTg,hTw,by lia,by lia,fun z2 la2 rb2 f2 left2 right2 H14 s14 h14z _ _ _ L2=>⟨z2,_,_,_,rfl,rfl,SqT.of h14z,rfl,_,rfl,rfl,_,rfl,?_⟩⟩
   have e21:f2=f1:=by
    have a1:=zjn (fun x hx=>TR.c.mem_iff.mp hx) L1 L2
    have a2:=zjn (fun x hx=>TR.c.mem_iff.mpr hx) L2 L1
    lia
   subst e21
   refine zbq (fun h=>absurd h (by simp [eqV])) (fun _=>?_)
   have t14:=t13.trans s14
   refine⟨_,rfl,_,rfl,c3,t3,r,p,k,pF,rw,rfl,hcF.same t14,t14 _ _ hrA,hFr,by lia,co.pr,hFn,hFg,hrw,by lia,by lia,fun z3 la3 rb3 f3 left3 right3 H15 s15 h15z _ _ _ L3=>⟨z3,_,_,_,rfl,rfl,SqT.of h15z,rfl,_,rfl,rfl,_,rfl,?_⟩⟩
   rw [hFh] at L3
   obtain rfl:=zmp p0 hcv hPr L1 L3
   refine zbq (fun h=>absurd h (by simp [eqV])) (fun _=>?_)
   have t15:=t14.trans s15
   have sZ:=sY.trans t15
   refine⟨_,rfl,_,_,rfl,rfl,_,rfl,?_⟩
   refine zbq (fun hk2=>?_) (fun _=>⟨_,_,_,_,_,_,_,_,_,_,_,_,_,_,_,_,_,_,_,_,rfl,sZ⟩)
   have hk2:2≤k:=by
    have:=of_decide_eq_true hk2
    lia
   have hA:∀ (pl':List Int) (rw':List (Option Int)) (mn:Nat),pl'.length≤10→mn≤2→(hps pl' rw').length*tri mn≤199:=fun pl' rw' mn h1 h2=>aZ (kL (aZ (zby pl' rw') h1) (show tri mn≤3 by
    rcases (show mn=0∨mn=1∨mn=2 by lia) with rfl | rfl | rfl <;> decide)) (by decide)
   have h2l:2≤sizeLine:=by lia
   refine⟨h2l,fun M1 hM1=>?_⟩
   have v15:=zb (o:=.lst [V.int 1,V.int 2]) hM1
   have g15:upd H15 M1 (.lst [V.int 1,V.int 2]) M1=some (.lst [V.int 1,V.int 2]):=zc
   generalize upd H15 M1 (.lst [V.int 1,V.int 2])=H16 at v15 g15 ⊢
   refine⟨M1,rfl,⟨_,SqL.of g15⟩,zb6 (zhG p k (hps pl rw)) g15 (by decide) (fun j x H' N N' sN hx hN=>?_) fun vs H17 S1 s17 hvl hvs hS1=>?_⟩
   ·obtain⟨mn,rfl,hmn⟩:=zii hx
    obtain⟨hm1,hm2⟩:=zgA hmn
    refine gY ?_
    have u:=t15.trans (v15.trans sN)
    refine⟨_,rfl,_,rfl,_,rfl,c,tt,r,p,k,mn,pl,rw,rfl,hcA.same u,u _ _ hrA,hrl,by lia,co.pr,co.nd,co.rg,hrw,hk2,by lia,hm1,by lia,hA _ _ mn (by lia) hm2,fun z r' ls size g H'' hz s'' hz' _ _ Q' _=>⟨z,_,_,_,rfl,rfl,SqT.of hz',rfl,?_⟩⟩
    exact hN _ _ ⟨mn,size,g,hmn,rfl,Q'⟩ s''
   obtain⟨ss,rfl⟩:=zhF fun i v hv=>zkl (hvs i v hv)
   have v17:=zb (o:=.lst (ss.map V.int)) hS1
   have g17:upd H17 S1 (.lst (ss.map V.int)) S1=some (.lst (ss.map V.int)):=zc
   generalize upd H17 S1 (.lst (ss.map V.int))=H18 at v17 g17 ⊢
   have t18:=t15.trans (v15.trans (s17.trans v17))
   refine⟨h2l,fun M2 hM2=>?_⟩
   have v18:=zb (o:=.lst [V.int 1,V.int 2]) hM2
   have g18:upd H18 M2 (.lst [V.int 1,V.int 2]) M2=some (.lst [V.int 1,V.int 2]):=zc
   generalize upd H18 M2 (.lst [V.int 1,V.int 2])=H19 at v18 g18 ⊢
   refine⟨M2,rfl,⟨_,SqL.of g18⟩,zb6 (zhG p k (hps pT rT)) g18 (by decide) (fun j x H' N N' sN hx hN=>?_) fun ws H20 S2 s20 hwl hws hS2=>?_⟩
   ·obtain⟨mn,rfl,hmn⟩:=zii hx
    obtain⟨hm1,hm2⟩:=zgA hmn
    refine gY ?_
    have u:=t18.trans (v18.trans sN)
    refine⟨_,rfl,_,rfl,_,rfl,c2,t2,r2,p,k,mn,pT,rT,rfl,hcT.same u,u _ _ hrT,hTr,by lia,co.pr,hTn,hTg,hTw,hk2,by lia,hm1,by lia,hA _ _ mn (by lia) hm2,fun z r' ls size g H'' hz s'' hz' _ _ Q' _=>⟨z,_,_,_,rfl,rfl,SqT.of hz',rfl,?_⟩⟩
    exact hN _ _ ⟨mn,size,g,hmn,rfl,Q'⟩ s''
   obtain rfl:ws=ss.map V.int:=ze0 (by rw [hwl,hvl]) fun i w v hw hv=>zkm p0 hk2 TR.c (hvs i v hv) (hws i w hw)
   have v20:=zb (o:=.lst (ss.map V.int)) hS2
   refine⟨_,rfl,zc1 zc ((v18.trans (s20.trans v20)) _ _ g17) ⟨_,rfl,zjA ?_⟩⟩
   have t20:=t18.trans (v18.trans (s20.trans v20))
   have g20:=(v18.trans (s20.trans v20)) _ _ g17
   generalize upd H20 S2 (.lst (ss.map V.int))=H21 at t20 g20 ⊢
   refine⟨h2l,fun M3 hM3=>?_⟩
   have v21:=zb (o:=.lst [V.int 1,V.int 2]) hM3
   have g21:upd H21 M3 (.lst [V.int 1,V.int 2]) M3=some (.lst [V.int 1,V.int 2]):=zc
   generalize upd H21 M3 (.lst [V.int 1,V.int 2])=H22 at v21 g21 ⊢
   refine⟨M3,rfl,⟨_,SqL.of g21⟩,zb6 (zhG p k (hps pF rw)) g21 (by decide) (fun j x H' N N' sN hx hN=>?_) fun ws H23 S3 s23 hwl hws hS3=>?_⟩
   ·obtain⟨mn,rfl,hmn⟩:=zii hx
    obtain⟨hm1,hm2⟩:=zgA hmn
    refine gY ?_
    have u:=t20.trans (v21.trans sN)
    refine⟨_,rfl,_,rfl,_,rfl,c3,t3,r,p,k,mn,pF,rw,rfl,hcF.same u,u _ _ hrA,hFr,by lia,co.pr,hFn,hFg,hrw,hk2,by lia,hm1,by lia,hA _ _ mn (by lia) hm2,fun z r' ls size g H'' hz s'' hz' _ _ Q' _=>⟨z,_,_,_,rfl,rfl,SqT.of hz',rfl,?_⟩⟩
    exact hN _ _ ⟨mn,size,g,hmn,rfl,Q'⟩ s''
   obtain rfl:ws=ss.map V.int:=ze0 (by rw [hwl,hvl]) fun i w v hw hv=>zmr p0 hcv hk2 hPr (hvs i v hv) (by rw [← hFh]; exact hws i w hw)
   have v23:=zb (o:=.lst (ss.map V.int)) hS3
   refine⟨_,rfl,zc1 zc ((v21.trans (s23.trans v23)) _ _ g20) ⟨_,rfl,zjA ?_⟩⟩
   exact⟨_,_,_,_,_,_,_,_,_,_,_,_,_,_,_,_,_,_,_,_,rfl,sY.trans (t20.trans (v21.trans (s23.trans v23)))⟩
  ·rintro σ H1 ⟨e1,e2,e3,e4,e5,e6,e7,e8,e9,e10,e11,e12,e13,e14,e15,e16,e17,e18,e19,e20,rfl,s1⟩
   exact q _
end
end My
end
section
namespace My
open PySem L2 PyProof.Rows
structure Dn (K:ai) (x:Str) (st:Stmt) (f:Addr) (fd:FuncData):Prop where
 a:bI K mainGlobals x=some (some (.ref f))
 f:Fun K x x st f fd
theorem zal {K:ai} {x:Str} {st:Stmt} {f:Addr} {od an:Option Addr} {sl:Array (Option Value)} {oc kV dc pm cd ct:Value} (a:bI K mainGlobals x=some (some (.ref f))) (l:K.lookup f=some ⟨oc,od,.func (db x x (zbK st) (zbx st) (zh st) .none kV dc pm an cd ct),sl⟩) (c:fP K cd x=true) (k:fO K (.ref f)=true):Dn K x st f (db x x (zbK st) (zbx st) (zh st) .none kV dc pm an cd ct):=⟨a,zkC l c k⟩
theorem el1 {us:List Value} (e:us.length=1):∃ a,us = [a]:=match us,e with | [a],_=>⟨a,rfl⟩
theorem el2 {us:List Value} (e:us.length=2):∃ a b,us = [a,b]:=match us,e with | [a,b],_=>⟨a,b,rfl⟩
theorem el3 {us:List Value} (e:us.length=3):∃ a b c,us = [a,b,c]:=match us,e with | [a,b,c],_=>⟨a,b,c,rfl⟩
theorem el4 {us:List Value} (e:us.length=4):∃ a b c d,us = [a,b,c,d]:=match us,e with | [a,b,c,d],_=>⟨a,b,c,d,rfl⟩
theorem zo1 {l:iH} {w:World} {K:ai} {h:Heap} {mg:Str→Option Value} {fa fl A_SlipError A_TooFew A_NoCurve:Addr} (X:K.In h) (G:h.Ns mainGlobals mg) (hfa:mg "law" = some (.ref fa))
  {od an:Option Addr} {sl:Array (Option Value)} {oc kV dc pm cd ct:Value} (a_SlipError:bI K mainGlobals "SlipError" = some (some (.ref A_SlipError))) (a_TooFew:bI K mainGlobals "TooFew" = some (some (.ref A_TooFew))) (a_NoCurve:bI K mainGlobals "NoCurve" = some (some (.ref A_NoCurve))) (d_value_at:∃ f fd,Dn K "value_at" zcj f fd) (d_inverse:∃ f fd,Dn K "inverse" zcI f fd) (d_times_root:∃ f fd,Dn K "times_root" za7 f fd) (d_bent:∃ f fd,Dn K "bent" zeN f fd) (d_through:∃ f fd,Dn K "through" zcJ f fd) (d_heard_points:∃ f fd,Dn K "heard_points" zaK f fd) (d_fits:∃ f fd,Dn K "fits" zeO f fd) (d_choices:∃ f fd,Dn K "choices" zbC f fd) (d_all_through:∃ f fd,Dn K "all_through" zaT f fd) (d_all_near:∃ f fd,Dn K "all_near" zbI f fd) (d_moved_powers:∃ f fd,Dn K "moved_powers" za8 f fd) (d_numbers_at:∃ f fd,Dn K "numbers_at" zaC f fd) (d_vectors_of:∃ f fd,Dn K "vectors_of" zaP f fd) (d_without:∃ f fd,Dn K "without" zb5 f fd) (d_first_relation:∃ f fd,Dn K "first_relation" zaj f fd) (d_first_sum:∃ f fd,Dn K "first_sum" zbm f fd) (d_first_terms:∃ f fd,Dn K "first_terms" zaU f fd) (d_least_curve:∃ f fd,Dn K "least_curve" zai f fd) (d_check_curves:∃ f fd,Dn K "check_curves" za9 f fd) (d_curve_for:∃ f fd,Dn K "curve_for" zbn f fd) (d_times_entries:∃ f fd,Dn K "times_entries" zaD f fd) (d_beyond:∃ f fd,Dn K "beyond" s_beyond f fd) (d_sized:∃ f fd,Dn K "sized" zd9 f fd) (d_joint_locator:∃ f fd,Dn K "joint_locator" z0 f fd) (d_locator_of:∃ f fd,Dn K "locator_of" zbz f fd) (d_l_cell:∃ f fd,Dn K "_law_cell" zdl f fd) (d_l_draws:∃ f fd,Dn K "_law_draws" zcK f fd) (d_l_code:∃ f fd,Dn K "_law_code" zcw f fd) (d_l_value:∃ f fd,Dn K "_law_value" zcL f fd) (d_l_polynomial:∃ f fd,Dn K "_law_polynomial" zaL f fd) (d_l_row:∃ f fd,Dn K "_law_row" zdm f fd)   (sb:kP K A_SlipError (.type "BaseException")=some true)
  (al:bI K mainGlobals "law" = some (some (.ref fl))) (ll:K.lookup fl=some ⟨oc,od,.func (db "law" "law" (zbK zba) (zbx zba) (zh zba) .none kV dc pm an cd ct),sl⟩) (cl:fP K cd "law" = true) (kl:fO K (.ref fl)=true) (z_len:bI K mainGlobals "len" = some none) (z_range:bI K mainGlobals "range" = some none) (z_list:bI K mainGlobals "list" = some none) (z_tuple:bI K mainGlobals "tuple" = some none) (z_min:bI K mainGlobals "min" = some none) (z_max:bI K mainGlobals "max" = some none) (z_int:bI K mainGlobals "int" = some none) (z_zip:bI K mainGlobals "zip" = some none) (z_enumerate:bI K mainGlobals "enumerate" = some none) (z_sum:bI K mainGlobals "sum" = some none) (z_dict:bI K mainGlobals "dict" = some none) (z_reversed:bI K mainGlobals "reversed" = some none) (z_sorted:bI K mainGlobals "sorted" = some none) (z_ValueError:bI K mainGlobals "ValueError" = some none) :
  ∃ fd:FuncData,(∀ (s:Shared) (v:Value),BindsTo s fd ⟨[v],[]⟩ [("script",v)])∧∀ base:Heap,K.In base→base.Ns mainGlobals mg→FnOk l.prog w K mg base CX0 8 fa fd ["script"] (zf1 K):=by
 cases hfa.symm.trans (aR X G al)
 obtain⟨f_value_at,fd_value_at,D_value_at⟩:=d_value_at
 have b_value_at:=D_value_at.f.binds (ps:=["p","polynomial","x"]) fun _ _ _ _ _ _ _ h=>by obtain⟨_,_,_,rfl⟩:=el3 h; exact rfl
 obtain⟨f_inverse,fd_inverse,D_inverse⟩:=d_inverse
 have b_inverse:=D_inverse.f.binds (ps:=["p","number"]) fun _ _ _ _ _ _ _ h=>by obtain⟨_,_,rfl⟩:=el2 h; exact rfl
 obtain⟨f_times_root,fd_times_root,D_times_root⟩:=d_times_root
 have b_times_root:=D_times_root.f.binds (ps:=["p","polynomial","root"]) fun _ _ _ _ _ _ _ h=>by obtain⟨_,_,_,rfl⟩:=el3 h; exact rfl
 obtain⟨f_bent,fd_bent,D_bent⟩:=d_bent
 have b_bent:=D_bent.f.binds (ps:=["p","polynomial","vanishing","point"]) fun _ _ _ _ _ _ _ h=>by obtain⟨_,_,_,_,rfl⟩:=el4 h; exact rfl
 obtain⟨f_through,fd_through,D_through⟩:=d_through
 have b_through:=D_through.f.binds (ps:=["p","points"]) fun _ _ _ _ _ _ _ h=>by obtain⟨_,_,rfl⟩:=el2 h; exact rfl
 obtain⟨f_heard_points,fd_heard_points,D_heard_points⟩:=d_heard_points
 have b_heard_points:=D_heard_points.f.binds (ps:=["code","row"]) fun _ _ _ _ _ _ _ h=>by obtain⟨_,_,rfl⟩:=el2 h; exact rfl
 obtain⟨f_fits,fd_fits,D_fits⟩:=d_fits
 have b_fits:=D_fits.f.binds (ps:=["code","row","polynomial"]) fun _ _ _ _ _ _ _ h=>by obtain⟨_,_,_,rfl⟩:=el3 h; exact rfl
 obtain⟨f_choices,fd_choices,D_choices⟩:=d_choices
 have b_choices:=D_choices.f.binds (ps:=["things","many"]) fun _ _ _ _ _ _ _ h=>by obtain⟨_,_,rfl⟩:=el2 h; exact rfl
 obtain⟨f_all_through,fd_all_through,D_all_through⟩:=d_all_through
 have b_all_through:=D_all_through.f.binds (ps:=["code","points"]) fun _ _ _ _ _ _ _ h=>by obtain⟨_,_,rfl⟩:=el2 h; exact rfl
 obtain⟨f_all_near,fd_all_near,D_all_near⟩:=d_all_near
 have b_all_near:=D_all_near.f.binds (ps:=["code","row","t"]) fun _ _ _ _ _ _ _ h=>by obtain⟨_,_,_,rfl⟩:=el3 h; exact rfl
 obtain⟨f_moved_powers,fd_moved_powers,D_moved_powers⟩:=d_moved_powers
 have b_moved_powers:=D_moved_powers.f.binds (ps:=["p","by","most","kept"]) fun _ _ _ _ _ _ _ h=>by obtain⟨_,_,_,_,rfl⟩:=el4 h; exact rfl
 obtain⟨f_numbers_at,fd_numbers_at,D_numbers_at⟩:=d_numbers_at
 have b_numbers_at:=D_numbers_at.f.binds (ps:=["p","terms","point"]) fun _ _ _ _ _ _ _ h=>by obtain⟨_,_,_,rfl⟩:=el3 h; exact rfl
 obtain⟨f_vectors_of,fd_vectors_of,D_vectors_of⟩:=d_vectors_of
 have b_vectors_of:=D_vectors_of.f.binds (ps:=["p","terms","points"]) fun _ _ _ _ _ _ _ h=>by obtain⟨_,_,_,rfl⟩:=el3 h; exact rfl
 obtain⟨f_without,fd_without,D_without⟩:=d_without
 have b_without:=D_without.f.binds (ps:=["p","vector","times","other"]) fun _ _ _ _ _ _ _ h=>by obtain⟨_,_,_,_,rfl⟩:=el4 h; exact rfl
 obtain⟨f_first_relation,fd_first_relation,D_first_relation⟩:=d_first_relation
 have b_first_relation:=D_first_relation.f.binds (ps:=["p","vectors"]) fun _ _ _ _ _ _ _ h=>by obtain⟨_,_,rfl⟩:=el2 h; exact rfl
 obtain⟨f_first_sum,fd_first_sum,D_first_sum⟩:=d_first_sum
 have b_first_sum:=D_first_sum.f.binds (ps:=["p","terms","points"]) fun _ _ _ _ _ _ _ h=>by obtain⟨_,_,_,rfl⟩:=el3 h; exact rfl
 obtain⟨f_first_terms,fd_first_terms,D_first_terms⟩:=d_first_terms
 have b_first_terms:=D_first_terms.f.binds (ps:=["k","many"]) fun _ _ _ _ _ _ _ h=>by obtain⟨_,_,rfl⟩:=el2 h; exact rfl
 obtain⟨f_least_curve,fd_least_curve,D_least_curve⟩:=d_least_curve
 have b_least_curve:=D_least_curve.f.binds (ps:=["p","k","points"]) fun _ _ _ _ _ _ _ h=>by obtain⟨_,_,_,rfl⟩:=el3 h; exact rfl
 obtain⟨f_check_curves,fd_check_curves,D_check_curves⟩:=d_check_curves
 have b_check_curves:=D_check_curves.f.binds (ps:=["k"]) fun _ _ _ _ _ _ _ h=>by obtain⟨_,rfl⟩:=el1 h; exact rfl
 obtain⟨f_curve_for,fd_curve_for,D_curve_for⟩:=d_curve_for
 have b_curve_for:=D_curve_for.f.binds (ps:=["code","row","m"]) fun _ _ _ _ _ _ _ h=>by obtain⟨_,_,_,rfl⟩:=el3 h; exact rfl
 obtain⟨f_times_entries,fd_times_entries,D_times_entries⟩:=d_times_entries
 have b_times_entries:=D_times_entries.f.binds (ps:=["p","left","points"]) fun _ _ _ _ _ _ _ h=>by obtain⟨_,_,_,rfl⟩:=el3 h; exact rfl
 obtain⟨f_beyond,fd_beyond,D_beyond⟩:=d_beyond
 have b_beyond:=D_beyond.f.binds (ps:=["rights","many"]) fun _ _ _ _ _ _ _ h=>by obtain⟨_,_,rfl⟩:=el2 h; exact rfl
 obtain⟨f_sized,fd_sized,D_sized⟩:=d_sized
 have b_sized:=D_sized.f.binds (ps:=["polynomial","many"]) fun _ _ _ _ _ _ _ h=>by obtain⟨_,_,rfl⟩:=el2 h; exact rfl
 obtain⟨f_joint_locator,fd_joint_locator,D_joint_locator⟩:=d_joint_locator
 have b_joint_locator:=D_joint_locator.f.binds (ps:=["code","rows"]) fun _ _ _ _ _ _ _ h=>by obtain⟨_,_,rfl⟩:=el2 h; exact rfl
 obtain⟨f_locator_of,fd_locator_of,D_locator_of⟩:=d_locator_of
 have b_locator_of:=D_locator_of.f.binds (ps:=["code","row"]) fun _ _ _ _ _ _ _ h=>by obtain⟨_,_,rfl⟩:=el2 h; exact rfl
 obtain⟨f_l_cell,fd_l_cell,D_l_cell⟩:=d_l_cell
 have b_l_cell:=D_l_cell.f.binds (ps:=["script","k"]) fun _ _ _ _ _ _ _ h=>by obtain⟨_,_,rfl⟩:=el2 h; exact rfl
 obtain⟨f_l_draws,fd_l_draws,D_l_draws⟩:=d_l_draws
 have b_l_draws:=D_l_draws.f.binds (ps:=["script","k","many","base"]) fun _ _ _ _ _ _ _ h=>by obtain⟨_,_,_,_,rfl⟩:=el4 h; exact rfl
 obtain⟨f_l_code,fd_l_code,D_l_code⟩:=d_l_code
 have b_l_code:=D_l_code.f.binds (ps:=["script","at","most_k","most_n"]) fun _ _ _ _ _ _ _ h=>by obtain⟨_,_,_,_,rfl⟩:=el4 h; exact rfl
 obtain⟨f_l_value,fd_l_value,D_l_value⟩:=d_l_value
 have b_l_value:=D_l_value.f.binds (ps:=["p","polynomial","x"]) fun _ _ _ _ _ _ _ h=>by obtain⟨_,_,_,rfl⟩:=el3 h; exact rfl
 obtain⟨f_l_polynomial,fd_l_polynomial,D_l_polynomial⟩:=d_l_polynomial
 have b_l_polynomial:=D_l_polynomial.f.binds (ps:=["draws","p","k"]) fun _ _ _ _ _ _ _ h=>by obtain⟨_,_,_,rfl⟩:=el3 h; exact rfl
 obtain⟨f_l_row,fd_l_row,D_l_row⟩:=d_l_row
 have b_l_row:=D_l_row.f.binds (ps:=["script","at","code"]) fun _ _ _ _ _ _ _ h=>by obtain⟨_,_,_,rfl⟩:=el3 h; exact rfl
 let t:Adr:=⟨A_SlipError,A_TooFew,A_NoCurve,f_value_at,f_inverse,f_times_root,f_bent,f_through,f_heard_points,f_fits,f_choices,f_all_through,f_all_near,f_moved_powers,f_numbers_at,f_vectors_of,f_without,f_first_relation,f_first_sum,f_first_terms,f_least_curve,f_check_curves,f_curve_for,f_times_entries,f_beyond,f_sized,f_joint_locator,f_locator_of,f_l_cell,f_l_draws,f_l_code,f_l_value,f_l_polynomial,f_l_row,fa⟩
 have T:Txt K mg t:=⟨bE X G z_len,bE X G z_range,bE X G z_list,bE X G z_tuple,bE X G z_min,bE X G z_max,bE X G z_int,bE X G z_zip,bE X G z_enumerate,bE X G z_sum,bE X G z_dict,bE X G z_reversed,bE X G z_sorted,bE X G z_ValueError,aR X G a_SlipError,aR X G a_TooFew,aR X G a_NoCurve,sb,aR X G D_value_at.a,aR X G D_inverse.a,aR X G D_times_root.a,aR X G D_bent.a,aR X G D_through.a,aR X G D_heard_points.a,aR X G D_fits.a,aR X G D_choices.a,aR X G D_all_through.a,aR X G D_all_near.a,aR X G D_moved_powers.a,aR X G D_numbers_at.a,aR X G D_vectors_of.a,aR X G D_without.a,aR X G D_first_relation.a,aR X G D_first_sum.a,aR X G D_first_terms.a,aR X G D_least_curve.a,aR X G D_check_curves.a,aR X G D_curve_for.a,aR X G D_times_entries.a,aR X G D_beyond.a,aR X G D_sized.a,aR X G D_joint_locator.a,aR X G D_locator_of.a,aR X G D_l_cell.a,aR X G D_l_draws.a,aR X G D_l_code.a,aR X G D_l_value.a,aR X G D_l_polynomial.a,aR X G D_l_row.a,⟨_,D_value_at.f,b_value_at⟩,⟨_,D_inverse.f,b_inverse⟩,⟨_,D_times_root.f,b_times_root⟩,⟨_,D_bent.f,b_bent⟩,⟨_,D_through.f,b_through⟩,⟨_,D_heard_points.f,b_heard_points⟩,⟨_,D_fits.f,b_fits⟩,⟨_,D_choices.f,b_choices⟩,⟨_,D_all_through.f,b_all_through⟩,⟨_,D_all_near.f,b_all_near⟩,⟨_,D_moved_powers.f,b_moved_powers⟩,⟨_,D_numbers_at.f,b_numbers_at⟩,⟨_,D_vectors_of.f,b_vectors_of⟩,⟨_,D_without.f,b_without⟩,⟨_,D_first_relation.f,b_first_relation⟩,⟨_,D_first_sum.f,b_first_sum⟩,⟨_,D_first_terms.f,b_first_terms⟩,⟨_,D_least_curve.f,b_least_curve⟩,⟨_,D_check_curves.f,b_check_curves⟩,⟨_,D_curve_for.f,b_curve_for⟩,⟨_,D_times_entries.f,b_times_entries⟩,⟨_,D_beyond.f,b_beyond⟩,⟨_,D_sized.f,b_sized⟩,⟨_,D_joint_locator.f,b_joint_locator⟩,⟨_,D_locator_of.f,b_locator_of⟩,⟨_,D_l_cell.f,b_l_cell⟩,⟨_,D_l_draws.f,b_l_draws⟩,⟨_,D_l_code.f,b_l_code⟩,⟨_,D_l_value.f,b_l_value⟩,⟨_,D_l_polynomial.f,b_l_polynomial⟩,⟨_,D_l_row.f,b_l_row⟩⟩
 have FL:=zkC (st:=zba) ll cl kl
 exact⟨db "law" "law" (zbK zba) (zbx zba) (zh zba) .none kV dc pm an cd ct,fun s v=>.of_eq rfl,fun base _ _=>zo0 (t:=t) T FL⟩
theorem walk {l:iH} {q:Program} {loose:List Str} {XP:(Str→Option Value)→Heap→Prop} {YP:World→Heap→Prop} {d:DefRec} {K:Params→ai} (hn:l.most=some 63) (hdf:d.params.defaults = []) (hY:∀ (w:World) (h:Heap),YP w h→(K w.params).In h)
  (F:∀ (w:World) (mg:Str→Option Value) (fa:Addr) (h:Heap),(K w.params).In h→h.Ns mainGlobals mg→mg d.name=some (.ref fa)→∃ fd:FuncData,(∀ (s:Shared) (u:Value),BindsTo s fd ⟨[u],[]⟩ [("script",u)])∧∀ base:Heap,(K w.params).In base→base.Ns mainGlobals mg→FnOk l.prog w (K w.params) mg base CX0 8 fa fd ["script"] (zf1 (K w.params))):kO q loose XP YP l.row.toRowW d [] (fun f vs=>kw f vs) :=
 L2.zmD (n:=63) (k:=8) (x:="script") (CX:=fun _=>CX0) (sp:=fun w=>zf1 (K w.params)) hn (by decide) hdf ⟨rfl,by decide,by decide⟩ hY F (fun _ _ a ns hl _ hS=>⟨a,ns,rfl,hS,hl,fun _=>rfl⟩) fun _ _ _ _ _ z=>z
end My
namespace PySem.W.Fast
def tw31723796913841837:Unit:=()
def tw9461055970637987185:Unit:=()
def tw6754727625420099624:Unit:=()
def tw16313725846316849187:Unit:=()
def tw1561692031690315877:Unit:=()
def tw10397439940949817053:Unit:=()
def tw9777998238974179046:Unit:=()
def tw10607676828075584271:Unit:=()
def tw11907814437071582316:Unit:=()
def tw9445539794272055234:Unit:=()
def tw15579992164592288127:Unit:=()
def tw15461421396342447578:Unit:=()
def tw4167539190777306938:Unit:=()
def tw15392226316402637834:Unit:=()
def tw9577704631361196722:Unit:=()
def tw12169298337889701455:Unit:=()
def tw11967212779925077503:Unit:=()
def tw3111181004143429579:Unit:=()
def tw5794248398394518476:Unit:=()
def tw2546385728656344446:Unit:=()
def tw18128279352279020722:Unit:=()
def tw2242574712374483765:Unit:=()
def tw2724597983004208850:Unit:=()
def tw9503016921381834085:Unit:=()
def tw10655759521306816487:Unit:=()
def tw528420836017019509:Unit:=()
def tw9462827923986166323:Unit:=()
def tw11174758324647900074:Unit:=()
def tw4545294382044607643:Unit:=()
def tw15618474606560503488:Unit:=()
def tw17551910105541813690:Unit:=()
def tw10287248001285434408:Unit:=()
def tw13555859059076472949:Unit:=()
def tw14051041632872931279:Unit:=()
def tw16155775067161619184:Unit:=()
def tw2484141268552522569:Unit:=()
def tw4564221216160263985:Unit:=()
def tw5828277942229111147:Unit:=()
def tw11170789294604702527:Unit:=()
def tw13383556820306563165:Unit:=()
def tw6287980868238872124:Unit:=()
def tw3836845806813134059:Unit:=()
def tw5810798570106015156:Unit:=()
def tw15768159600883723:Unit:=()
def tw17632832359133841780:Unit:=()
def tw549579743479191667:Unit:=()
def tw11021958329747060453:Unit:=()
def tw6172167125465268358:Unit:=()
def tw13919108944273999938:Unit:=()
def tw6928038376052212581:Unit:=()
def tw14539931763357178401:Unit:=()
def tw7851636251991446251:Unit:=()
def tw7619041744820749716:Unit:=()
def tw10734351200520087387:Unit:=()
def tw15178591097869225286:Unit:=()
def tw1324475411167333098:Unit:=()
def tw2396765540256121654:Unit:=()
def tw2491705129423241777:Unit:=()
def tw6034038424834734182:Unit:=()
def tw9642786502531626672:Unit:=()
def tw12465830174613742854:Unit:=()
def tw8700512983521259252:Unit:=()
def tw12410205495521958828:Unit:=()
def tw18230943194346567107:Unit:=()
def tw15601355072796855454:Unit:=()
def tw15120193424568311759:Unit:=()
def tw16879303459441939049:Unit:=()
def tw11261293193235263885:Unit:=()
def tw3740682492595587552:Unit:=()
def tw10887861599290954751:Unit:=()
def tw2578592903311953863:Unit:=()
def tw10584553699760508479:Unit:=()
def tw8633259709422722838:Unit:=()
def tw9448995423595681481:Unit:=()
def tw10450743382534954053:Unit:=()
def tw14185091396505845400:Unit:=()
def tw12031438597047924718:Unit:=()
def tw10830200205091540809:Unit:=()
def tw8303020073641343898:Unit:=()
def tw8010040570070290348:Unit:=()
def tw11469643680616735891:Unit:=()
def tw2387873671723810777:Unit:=()
def tw17035332631051978124:Unit:=()
def tw2336204278202601925:Unit:=()
def tw6525197741488063549:Unit:=()
def tw10084247521976564364:Unit:=()
def tw4154749129108966365:Unit:=()
def tw1079327056373571704:Unit:=()
def tw10722889844577777582:Unit:=()
def tw6275184266737328736:Unit:=()
end PySem.W.Fast
open PySem PySem.W
open PyProof.Rows
set_option maxHeartbeats 0 in
theorem PySem.Challenge.cw_slipcurve_k14_whole_places_exchanged_holds : PySem.Challenge.rw_slipcurve_k14_whole_places_exchanged.Holds := by
 w_on; o_law; k_head; (case hw=>w_witness2)
 k_fill
 refine My.walk (l:=PySem.Challenge.rw_slipcurve_k14_whole_places_exchanged) rfl rfl (fun w h Y=>PySem.W.kIn_of Y) ?F
 case F =>
  intro w mg fa h KX G hmg
  refine' My.zo1 KX G hmg ?a_SlipError ?a_TooFew ?a_NoCurve ⟨_,_,My.zal ?da_value_at ?dl_value_at ?dc_value_at ?dk_value_at⟩ ⟨_,_,My.zal ?da_inverse ?dl_inverse ?dc_inverse ?dk_inverse⟩ ⟨_,_,My.zal ?da_times_root ?dl_times_root ?dc_times_root ?dk_times_root⟩ ⟨_,_,My.zal ?da_bent ?dl_bent ?dc_bent ?dk_bent⟩ ⟨_,_,My.zal ?da_through ?dl_through ?dc_through ?dk_through⟩ ⟨_,_,My.zal ?da_heard_points ?dl_heard_points ?dc_heard_points ?dk_heard_points⟩ ⟨_,_,My.zal ?da_fits ?dl_fits ?dc_fits ?dk_fits⟩ ⟨_,_,My.zal ?da_choices ?dl_choices ?dc_choices ?dk_choices⟩ ⟨_,_,My.zal ?da_all_through ?dl_all_through ?dc_all_through ?dk_all_through⟩ ⟨_,_,My.zal ?da_all_near ?dl_all_near ?dc_all_near ?dk_all_near⟩ ⟨_,_,My.zal ?da_moved_powers ?dl_moved_powers ?dc_moved_powers ?dk_moved_powers⟩ ⟨_,_,My.zal ?da_numbers_at ?dl_numbers_at ?dc_numbers_at ?dk_numbers_at⟩ ⟨_,_,My.zal ?da_vectors_of ?dl_vectors_of ?dc_vectors_of ?dk_vectors_of⟩ ⟨_,_,My.zal ?da_without ?dl_without ?dc_without ?dk_without⟩ ⟨_,_,My.zal ?da_first_relation ?dl_first_relation ?dc_first_relation ?dk_first_relation⟩ ⟨_,_,My.zal ?da_first_sum ?dl_first_sum ?dc_first_sum ?dk_first_sum⟩ ⟨_,_,My.zal ?da_first_terms ?dl_first_terms ?dc_first_terms ?dk_first_terms⟩ ⟨_,_,My.zal ?da_least_curve ?dl_least_curve ?dc_least_curve ?dk_least_curve⟩ ⟨_,_,My.zal ?da_check_curves ?dl_check_curves ?dc_check_curves ?dk_check_curves⟩ ⟨_,_,My.zal ?da_curve_for ?dl_curve_for ?dc_curve_for ?dk_curve_for⟩ ⟨_,_,My.zal ?da_times_entries ?dl_times_entries ?dc_times_entries ?dk_times_entries⟩ ⟨_,_,My.zal ?da_beyond ?dl_beyond ?dc_beyond ?dk_beyond⟩ ⟨_,_,My.zal ?da_sized ?dl_sized ?dc_sized ?dk_sized⟩ ⟨_,_,My.zal ?da_joint_locator ?dl_joint_locator ?dc_joint_locator ?dk_joint_locator⟩ ⟨_,_,My.zal ?da_locator_of ?dl_locator_of ?dc_locator_of ?dk_locator_of⟩ ⟨_,_,My.zal ?da_l_cell ?dl_l_cell ?dc_l_cell ?dk_l_cell⟩ ⟨_,_,My.zal ?da_l_draws ?dl_l_draws ?dc_l_draws ?dk_l_draws⟩ ⟨_,_,My.zal ?da_l_code ?dl_l_code ?dc_l_code ?dk_l_code⟩ ⟨_,_,My.zal ?da_l_value ?dl_l_value ?dc_l_value ?dk_l_value⟩ ⟨_,_,My.zal ?da_l_polynomial ?dl_l_polynomial ?dc_l_polynomial ?dk_l_polynomial⟩ ⟨_,_,My.zal ?da_l_row ?dl_l_row ?dc_l_row ?dk_l_row⟩ ?sb ?al ?ll ?cl ?kl ?z_len ?z_range ?z_list ?z_tuple ?z_min ?z_max ?z_int ?z_zip ?z_enumerate ?z_sum ?z_dict ?z_reversed ?z_sorted ?z_ValueError
  (case a_SlipError=>k_is)
  (case a_TooFew=>k_is)
  (case a_NoCurve=>k_is)
  (case da_value_at=>k_is)
  (case dl_value_at=>k_is)
  (case dc_value_at=>k_is)
  (case dk_value_at=>k_is)
  (case da_inverse=>k_is)
  (case dl_inverse=>k_is)
  (case dc_inverse=>k_is)
  (case dk_inverse=>k_is)
  (case da_times_root=>k_is)
  (case dl_times_root=>k_is)
  (case dc_times_root=>k_is)
  (case dk_times_root=>k_is)
  (case da_bent=>k_is)
  (case dl_bent=>k_is)
  (case dc_bent=>k_is)
  (case dk_bent=>k_is)
  (case da_through=>k_is)
  (case dl_through=>k_is)
  (case dc_through=>k_is)
  (case dk_through=>k_is)
  (case da_heard_points=>k_is)
  (case dl_heard_points=>k_is)
  (case dc_heard_points=>k_is)
  (case dk_heard_points=>k_is)
  (case da_fits=>k_is)
  (case dl_fits=>k_is)
  (case dc_fits=>k_is)
  (case dk_fits=>k_is)
  (case da_choices=>k_is)
  (case dl_choices=>k_is)
  (case dc_choices=>k_is)
  (case dk_choices=>k_is)
  (case da_all_through=>k_is)
  (case dl_all_through=>k_is)
  (case dc_all_through=>k_is)
  (case dk_all_through=>k_is)
  (case da_all_near=>k_is)
  (case dl_all_near=>k_is)
  (case dc_all_near=>k_is)
  (case dk_all_near=>k_is)
  (case da_moved_powers=>k_is)
  (case dl_moved_powers=>k_is)
  (case dc_moved_powers=>k_is)
  (case dk_moved_powers=>k_is)
  (case da_numbers_at=>k_is)
  (case dl_numbers_at=>k_is)
  (case dc_numbers_at=>k_is)
  (case dk_numbers_at=>k_is)
  (case da_vectors_of=>k_is)
  (case dl_vectors_of=>k_is)
  (case dc_vectors_of=>k_is)
  (case dk_vectors_of=>k_is)
  (case da_without=>k_is)
  (case dl_without=>k_is)
  (case dc_without=>k_is)
  (case dk_without=>k_is)
  (case da_first_relation=>k_is)
  (case dl_first_relation=>k_is)
  (case dc_first_relation=>k_is)
  (case dk_first_relation=>k_is)
  (case da_first_sum=>k_is)
  (case dl_first_sum=>k_is)
  (case dc_first_sum=>k_is)
  (case dk_first_sum=>k_is)
  (case da_first_terms=>k_is)
  (case dl_first_terms=>k_is)
  (case dc_first_terms=>k_is)
  (case dk_first_terms=>k_is)
  (case da_least_curve=>k_is)
  (case dl_least_curve=>k_is)
  (case dc_least_curve=>k_is)
  (case dk_least_curve=>k_is)
  (case da_check_curves=>k_is)
  (case dl_check_curves=>k_is)
  (case dc_check_curves=>k_is)
  (case dk_check_curves=>k_is)
  (case da_curve_for=>k_is)
  (case dl_curve_for=>k_is)
  (case dc_curve_for=>k_is)
  (case dk_curve_for=>k_is)
  (case da_times_entries=>k_is)
  (case dl_times_entries=>k_is)
  (case dc_times_entries=>k_is)
  (case dk_times_entries=>k_is)
  (case da_beyond=>k_is)
  (case dl_beyond=>k_is)
  (case dc_beyond=>k_is)
  (case dk_beyond=>k_is)
  (case da_sized=>k_is)
  (case dl_sized=>k_is)
  (case dc_sized=>k_is)
  (case dk_sized=>k_is)
  (case da_joint_locator=>k_is)
  (case dl_joint_locator=>k_is)
  (case dc_joint_locator=>k_is)
  (case dk_joint_locator=>k_is)
  (case da_locator_of=>k_is)
  (case dl_locator_of=>k_is)
  (case dc_locator_of=>k_is)
  (case dk_locator_of=>k_is)
  (case da_l_cell=>k_is)
  (case dl_l_cell=>k_is)
  (case dc_l_cell=>k_is)
  (case dk_l_cell=>k_is)
  (case da_l_draws=>k_is)
  (case dl_l_draws=>k_is)
  (case dc_l_draws=>k_is)
  (case dk_l_draws=>k_is)
  (case da_l_code=>k_is)
  (case dl_l_code=>k_is)
  (case dc_l_code=>k_is)
  (case dk_l_code=>k_is)
  (case da_l_value=>k_is)
  (case dl_l_value=>k_is)
  (case dc_l_value=>k_is)
  (case dk_l_value=>k_is)
  (case da_l_polynomial=>k_is)
  (case dl_l_polynomial=>k_is)
  (case dc_l_polynomial=>k_is)
  (case dk_l_polynomial=>k_is)
  (case da_l_row=>k_is)
  (case dl_l_row=>k_is)
  (case dc_l_row=>k_is)
  (case dk_l_row=>k_is)
  (case sb=>k_is)
  (case al=>k_is)
  (case ll=>k_is)
  (case cl=>k_is)
  (case kl=>k_is)
  (case z_len=>k_is)
  (case z_range=>k_is)
  (case z_list=>k_is)
  (case z_tuple=>k_is)
  (case z_min=>k_is)
  (case z_max=>k_is)
  (case z_int=>k_is)
  (case z_zip=>k_is)
  (case z_enumerate=>k_is)
  (case z_sum=>k_is)
  (case z_dict=>k_is)
  (case z_reversed=>k_is)
  (case z_sorted=>k_is)
  (case z_ValueError=>k_is)
#print axioms PySem.Challenge.cw_slipcurve_k14_whole_places_exchanged_holds
end