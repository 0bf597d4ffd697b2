import PyProof.Rows.All
import Wide.All
import OpenK.AllK
import Wide.FinOn
import Lean
import PyProof.EqAt
import PyProof.EqKinds
import PyProof.Rows.MinMaxN
import PyProof.ListMulRoad
import KE.KUnpackStar
import KE.KIntText
import PyProof.CallStr
import KE.KDictSum
import KE.KSortTup
import PyProof.Walk
import PyProof.Rows.SortRuns
import PyProof.Rows.ChunkEnd
import PyProof.Rows.Range3
import PyProof.Rows.SeqGen
import PyProof.ConsumeWalk
import PyProof.ListRange
import PyProof.NeKinds
import PyProof.TupleCall
import PySem.Challenge.RW_slipcurve_k26_whole_locators_together
set_option maxHeartbeats 3999000
open List renaming length_map→ab,getElem?_map→ag,replicate→aj,getElem?_eq_some_iff→ak,getElem?_eq_getElem→am,mem_of_getElem?→ap,size_toArray→aq,length_append→ar,mem_cons_of_mem→aw,map_append→aA,mem_map→aB,range→aD,mem_cons→aE,mem_cons_self→aF,mem_append_right→aH,length_take→aJ,length_replicate→aL,getD_eq_getElem?_getD→aN,take_of_length_le→aO,mem_append→aP,mem_append_left→aQ,zipWith→aT,mem_singleton→aU,append_assoc→aV,length_range→aW,take_length→aZ,not_mem_nil→a8,map_cons→bd,mem_range→bm,getElem?_append_right→bu,append_nil→bw,getElem?_of_mem→bx,lookup_cons→bz,map_map→bA,getElem?_append_left→bD,mem_filter→bF,getElem?_set_ne→bN,getElem?_range→bR,length_drop→bS,take_append_drop→cb,length_set→ck,getElem?_set_self→cp,take_sublist→cq,pairwise_map→cr,replicate_succ→cu,map_congr_left→cv,drop_eq_getElem_cons→cw,range_succ→cB,getElem?_take_of_lt→cC,length_cons→cD,getElem?_replicate→cH,map_nil→cJ,concat_eq_append→cT,extract_eq_take_drop→cU,mem_or_eq_of_mem_set→cV,nodup_cons→cY,eq_of_mem_replicate→dg,nodup_append→dk,getElem?_cons_succ→dn,flatMap_append→dq,nodup_range→dv,drop_zero→dw,take_zero→dz,mem_flatMap→dB,drop_eq_nil_of_le→dD,filter_append→dE,length_filter_le→dI,getElem?_eq_none→dJ,flatMap_cons→dP,pairwise_iff_getElem→dS,mem_of_mem_take→dU,length_zipWith→d8,getElem_of_mem→d9,filter_cons_of_pos→ed,filter_cons_of_neg→ee,forIn_cons→ek,getElem?_drop→er,length→et,drop_of_length_le→eB,flatten_cons→eC,getElem?_inj→eD,eq_nil_or_concat→eK,map_set→eM,all_eq_true→eP,nodup_iff_pairwise_ne→eR,filterMap_cons→eU,length_take_le→eV,mem_map_of_mem→eW,length_pos_iff→eX,filter_nil→fc,getElem?_cons_zero→fu,length_eq_zero_iff→fv,filter_eq_nil_iff→fG,any_cons→fH,map_take→fI,map_drop→fJ,sum_cons→fK,flatMap_nil→fO,drop_length→fP,length_singleton→fQ,foldl→fS,find?_cons→fW,length_nil→fX,mem_of_mem_drop→fY,forIn_nil→gf,nodup_nil→gh,take_nil→gH,ext_getElem?→gQ,getElem?_eq_none_iff→gW,getElem_mem→hW,nil_sublist→ie,sublist_nil→ig,any_eq_true→ij,of_mem_zip→iq,foldl_cons→ir,nil_append→iu,range_succ_eq_map→iG,length_eq_one_iff→iK,getElem?_zipWith→iN,drop_drop→iP,dropLast_concat→i3,replicate_succ'→i4,mem_filterMap→ji,filterMap_map→jm,forIn_toArray→jx,take_add_one→jG,getElem_take→jH,map_id→jP,zipIdx_cons→jX,zipIdx_nil→j9,take_take→kh,all_cons→kq
open PySem renaming wpAny_bind→ae,wpAny_pure→ao,sizeLine_eq→a7,wpAny_callSpecial?_slot→bh,wpAny_field→bp,wpAny_call_entry→bt,wpAny_newObj_type→bG,wpAny_setField_rec→bJ,boot_len→bM,wpAny_rule→b8,wpAny_holding→b9,wpAny_loadPart'→cA,wpAny_mono→cK,wpAny_attempt→cM,wpAny_typeNameOfWhole_keyiter→dm,wpAny_seqItems→du,wpAny_passesOwn→dF,wpAny_truthy_bool→dN,wpAny_setField→dW,mem_of_lookup→d7,wpAny_standAt→eg,call_meets→eh,wpAny_of_eq→eA,builtinLookup_eq_fast→eE,wpAny_isInstance→eQ,wpAny_pyIter_tuple→ff,wpAny_pyIter_enum→fz,wpAny_pyIter_zip→fM,wpAny_execs_nil→fR,typeLookup_type→fU,wpAny_updateSeq_pair→fV,isSubtype_type→gb,isSubtype_stop→gc,wpAny_newTuple→gg,seqIndex_of→gk,wpAny_Call_Name_kw→gr,wpAny_letOwnedTupleGo_enum→gD,wpAny_onRaise→gF,wpAny_pyIter_list→gK,wpAny_pyIter_slot→gO,wpAny_dictEntries→gR,typeIs_int→gU,wpAny_binaryOp_repeat_ref→gV,noFill_tuple_add→g6,wpAny_comprehension_free→g9,wpAny_specialOf→iz,wpAny_dictEpoch→iA,wpAny_ite_false→iB,wpAny_letGo→iH,wpAny_isOneOf_keyiter→iR,wpAny_loadName_local→iU,wpAny_pyIter_revIter→iX,seq_tuple_add→i6,wpAny_handled→i7,wpAny_loadName_cell→ja,codeAny_mono→jk,concat_meets→jl,wpAny_typeOf→jo,seqIndex_neg→jp,callType_new→jw,list_append→jE,wpAny_throw→jM,seqSlot_of→j3,wpAny_Name→j5,call→j8,Within→kx
open Nat renaming le_refl→af,zero_le→bb,le_trans→be,lt_of_lt_of_le→bg,ne_of_lt→bi,lt_irrefl→bY,add_sub_cancel→cF,zero_add→c8,min_eq_left→db,lt_succ_of_lt→dO,add_zero→dY,sub_self→d6,sub_zero→eL,ne_of_gt→fe,succ_mul→fi,add_sub_cancel_left→fw,lt_succ_self→fL,le_succ→gm,add_assoc→gG,le_of_succ_le→gM,le_of_lt→gZ,succ_ne_self→g8,pow_le_pow_right→iZ,mul_comm→jr,succ_le_succ→jR,le_of_not_lt→jU,le_add_right→jY,mul_le_mul→km
open PySem.W renaming Frag→ah,mg_of→aS,mg_none_of→bC,nsIn→bL,kia_one→cj,fnOf→cZ,keepIn→fk,codeIn→fm,methodObj→gJ,instObj→ip,OpenLaw→iw,cellsFrom_some→iE,lookIn→iL,kitOne→iM,mroIn→i5,kitx_list→jB,kitx_dict→jC,plainGet→jQ,findIn→kd,WalkO→kr
open PySem.Heap renaming get?_push_of_some→ai,lt_size→aG,get?_push_size→aI,SameBut→bj,size_push→bI,get?_update_self→dH,get?_update_other→fF,ExtBut→jL
open Or renaming inl→au,inr→cn
open PyProof.Rows renaming wpS_bind→av,wpS_pure→az,callWith_type1→bE,wpS_forRange→bT,wpS_mono→cQ,slot_tuple_getitem→cW,zipApart_new→c7,wpS_modify→dC,wpS_get→eI,boot_isinstance→fb,boot_tuple→f',wpS_lift→gi,assignInOrder_cons→gp,pairsOf_size→ic,subscriptTail_builtinR→iF,mirror_perm→iJ,pairsOf_toList→iS,boot_range→iV,listUpdate_at→i9,entry_tuple_getitem→jb,getElem?_mirror_all→je,args_tuple_getitem→jn,boot_list→jA,seqEpoch_at→jO
open Int renaming emod_lt_of_pos→aC,emod_nonneg→aK,toNat_natCast→bH,le_refl→bU,mul_zero→bV,emod_eq_of_lt→bW,le_trans→b7,zero_mul→cf,zero_add→cG,mul_le_mul_of_nonneg_right→de,mul_comm→df,natCast_add→dL,le_of_lt→eJ,pow_succ→f8,one_mul→gn,fdiv_eq_ediv_of_nonneg→gA,mul_one→iC,pow_zero→jy,sub_zero→jz,lt_trichotomy→jI,mul_nonneg→ki
open Bool renaming false_ne_true→aM,false_eq_true→bn,and_eq_true→dt,eq_iff_iff→dG,and_false→kg,and_true→ku
open Option.some renaming inj→aR,injEq→gS
open PySem.PassesOwn renaming never→aX
open PySem.Value renaming ref→aY,none→cX,int→io,type→iT,str→jf,bool→j4,isStrOf→ko
open PySem.Builtin.SmallTypes renaming nextOf→ba,ownedTupleIsFree→bQ,ownedTupleHandOut→cE,newRecord→kf
open PySem.Paired renaming mono→bq,snoc→bO,length→gw
open Array renaming getElem?_toList→br,length_toList→bv,toList_append→bK,getElem?_eq_some_iff→cN,toList_extract→da,perm_iff_toList_perm→eS,toList_reverse→fZ,toList_map→j0,size_map→kj,toList→ky
open PySem.Str renaming ofString→bP
open PySem.F renaming plainAttrs_list→bX,slot_list_append→cg,type_list_append→ci,slot_zip_next→c9,slot_dict_keyiterator_next→dA,slot_tuple_iterator_next→dM,slot_enumerate_next→eG,args_tuple_add_2→fg,entry_tuple_add→fq,args_zip_next_1→fC,slot_tuple_add→fE,entry_zip_next→fN,slot_int_rmul→fT,args_dict_keyiterator_next_1→f9,entry_dict_keyiterator_next→ga,args_tuple_iterator_next_1→ge,entry_tuple_iterator_next→gt,args_tuple_mul_2→gv,entry_tuple_mul→gT,slot_tuple_mul→il,args_enumerate_next_1→im,entry_enumerate_next→iI,args_list_append_2→iW,args_object_init_2→iY,entry_list_append→jc,slot_list_append→jq,args_int_rmul_2→jF,entry_int_rmul→jT,slot_dict_iter→jZ
open PySem.NameKind renaming free→bZ,cell→cL
open ForInStep renaming yield→cm,done→fo
open PySem.Heap.SameBut renaming update→cI
open PySem.Around renaming in1_units→cP
open Ne renaming symm→cR
open PySem.Obj renaming data_mapFields→cS,mapSeq→c6,isFreed_of_fields→eF,mapFields→gE,cls_mapFields→gN
open Sum renaming inl→dh,inr→gX
open False renaming elim→dQ
open PySem.Builtin.Slice renaming slicePlaces→dR,sliceAdjust→eY,sliceApplied→gB
open PySem.Builtin.Tuple renaming tupleExact→dX,tupleItemsOf→gC,tupleTooMany→gI
open List.Pairwise renaming imp_of_mem→dZ,nil→gL,sublist→iO,map→jJ
open True renaming intro→eN
open List.Perm renaming trans→eZ
open PySem.Builtin.List renaming listTooLong→fh
open PySem.AutoSeq1 renaming sub_tuple_tuple→fj,idx_int→ik
open Classical renaming axiomOfChoice→ft,em→ju
open PySem.Builtin.Dict_items renaming ownsTuple→gj
open PyProof.Rows.IsTup renaming new→gq
open PySem.SeqAt.EqAt renaming of_refs→gu,int_str→jg,str_int→jh,same→j7
open PySem.Calls renaming Name_function_global→gz,spliced_cons→jj,spliced_nil→jD
open PySem.SeqAt.RcAt renaming tuples→gP,lists_lengths→hU,lists→jW
open Option renaming getD_none→g7,isSome_some→jv,getD_some→jV,toList→kw,none→kC
open PyProof renaming noPylong_small→iD
open PySem.Builtin.Dict renaming showsAll→iQ
open List.cons renaming inj→i8
open PySem.SeqAt.RcNeAt renaming tuples→jd
open PySem.Data renaming fields→jK,seq→kA
open PySem.Shared renaming heap→jN
open PySem.IsL renaming update→jS
open PySem.SeqAt renaming EqAt→j6
open PySem.Draws renaming list→kb
open PyProof.Rows.SortSt renaming mk'→kc
open Prod renaming ext→kz
open Sum.inl renaming inj→kB
open PySem.W.KatTups renaming cons→kD
local macro_rules | `(tactic| trivial)=>`(tactic| first | exact .inl rfl | exact .inr rfl | assumption)
local macro_rules|`(#[$xs,*])=>do
 let a:=xs.getElems
 if h:a.size=0 then Lean.Macro.throwUnsupported else
 let s:=a[0].raw.getId.eraseMacroScopes.toString
 match [("_____eb","zd"),("________eee","zaJ zi zd6"),("________eeee","zy zhK"),("_","zf1 zr ze zC zZ zce zB zU zH zO zmb zbv zf2 zbb zfn zbj zba zdA zbf zG zbU zcM za3 zK zg9 zfo zdv zit zdi"),("_e__f","pvx"),("_________ereeeddrr","zw zaO"),("_____eer","za zj"),("___e","zl zbq zcf"),("____e","zE z9 zT zbw zd5 zg3 zcU zgX"),("_______eeeu","zM"),("____","zg zbB"),("__e____efeert","zp"),("_____e","zaK zgY"),("______b","zga"),("________________eefeeeneedrr","zt"),("________efeeei","zam"),("______feer","zaF"),("__e_efet","zf"),("____er","zbS"),("____________eeeeeerrrrr","zdx"),("_______ee","zgZ zd3 zd4"),("__e__feefdd","zcT"),("_f","zdh zcJ"),("_____________efeeeeei","zad"),("__f","zai"),("_ef","zbM zbg"),("__________eeee","zbi"),("______eee","zd7"),("__e______efeeet","zjx"),("___fe","zW"),("_________feerr","zcY"),("_e___e_fferr","zaT"),("______eerrr","zaG"),("______ferr","zav"),("_____________e___efeefeeeeerit","zaA"),("___","zcb"),("________feer","zcg"),("_______eeei","zcL"),("______ee","zma"),("_e","zfy"),("_______feerr","zdg"),("___ei","zd2")].find? fun q=>(q.2.splitOn " ").contains s with
 |none=>Lean.Macro.throwUnsupported
 |some (p,_)=>do
  let mut r:=#[]
  let mut i:=1
  for c in p.toList do
   if c=='e' then
    r:=r.push (a[i]!)
    i:=i+1
   else if c=='b' then
    r:=r.push (←`((by exact $(a[i]!))))
    i:=i+1
   else r:=r.push (←match c with|'_'=>`(_)|'r'=>`((by rfl))|'d'=>`((by decide))|'f'=>`(rfl)|'t'=>`((by trivial))|'i'=>`((by intro _; rfl))|'u'=>`((fun _ _=>rfl))|'n'=>`(.nil)|'l'=>`(Or.inl rfl)|'o'=>`(Or.inr rfl)|_=>`(nomark _))
  return Lean.Syntax.mkApp (←`(@$(⟨a[0].raw⟩):ident)) r
set_option Elab.async false
set_option linter.all false
set_option maxRecDepth 100000
namespace L2
open PySem PySem.Spec PyProof.Rows
abbrev Key:=Sum Int Str
def zeY:Key→Value→Bool
 | .inl k,v=>Value.isInt k v
 | .inr x,v=>ko x v
def znY (w:World):Key→Int
 | .inl k=>hashInt k
 | .inr x=>hashStr w x
theorem zaq:∀ {k:Key} {v:Value},zeY k v=true→(∃ i t,k=dh i∧v=io i t)∨(∃ x t,k=gX x∧v=jf x t)
 | .inl i,v,h=>by
  obtain⟨t,e⟩:=Value.isInt_shape (k:=i) (v:=v) h
  exact .inl ⟨i,t,rfl,e⟩
 | .inr x,v,h=>by
  obtain⟨t,e⟩:=Value.isStrOf_shape (x:=x) (v:=v) h
  exact .inr ⟨x,t,rfl,e⟩
theorem ziC (i:Int) (t:Tok):zeY (.inl i) (.int i t)=true:=by simp [zeY,Value.isInt]
theorem ziD (x:Str) (t:Tok):zeY (.inr x) (.str x t)=true:=by simp [zeY,ko]
theorem zmn (a b:Int):decide ((dh a:Key)=dh b)=(a == b):=by
 by_cases e:a=b
 ·subst e; simp
 ·have h:¬ (dh a:Key)=dh b:=fun q=>e (kB q)
  rw [decide_eq_false h]
  exact (beq_eq_false_iff_ne.mpr e).symm
theorem zmo (a b:Str):decide ((gX a:Key)=gX b)=decide (a=b):=by
 by_cases e:a=b
 ·subst e; simp
 ·have h:¬ (gX a:Key)=gX b:=fun q=>e (Sum.inr.inj q)
  rw [decide_eq_false h,decide_eq_false e]
theorem zmp (a:Int) (b:Str):decide ((dh a:Key)=gX b)=false:=decide_eq_false (fun q=>nomatch q)
theorem zmq (a:Str) (b:Int):decide ((gX a:Key)=dh b)=false:=decide_eq_false (fun q=>nomatch q)
def zaH (prog:Program) (w:World):PySem.KeyKind prog w Key where
 is:=zeY
 hash:=znY w
 inj:=fun v a b ha hb=>by
  rcases zaq ha with ⟨i,t,rfl,rfl⟩ | ⟨x,t,rfl,rfl⟩
  ·rcases zaq hb with ⟨j,u,rfl,e⟩ | ⟨y,u,rfl,e⟩
   ·injection e with e1 _; rw [e1]
   ·exact nomatch e
  ·rcases zaq hb with ⟨j,u,rfl,e⟩ | ⟨y,u,rfl,e⟩
   ·exact nomatch e
   ·injection e with e1 _; rw [e1]
 byValue:=fun k v h=>by
  rcases zaq h with ⟨i,t,rfl,rfl⟩ | ⟨x,t,rfl,rfl⟩ <;> rfl
 pyHash:=fun hv h=>by
  rcases zaq hv with ⟨i,t,rfl,rfl⟩ | ⟨x,t,rfl,rfl⟩
  ·exact wpAny_pyHash_int h
  ·exact wpAny_pyHash_str h
 eqBool:=fun hu hv h=>by
  rcases zaq hu with ⟨i,t,rfl,rfl⟩ | ⟨x,t,rfl,rfl⟩
  ·rcases zaq hv with ⟨j,u,rfl,rfl⟩ | ⟨y,u,rfl,rfl⟩
   ·rw [zmn] at h; exact wpAny_eqBool_int h
   ·rw [zmp] at h; exact jg i t y u _ _ _ _ h
  ·rcases zaq hv with ⟨j,u,rfl,rfl⟩ | ⟨y,u,rfl,rfl⟩
   ·rw [zmq] at h; exact jh x t j u _ _ _ _ h
   ·rw [zmo] at h; exact wpAny_eqBool_str h
 «strs»:=fun k x t v h=>by
  rcases zaq h with ⟨i,u,rfl,e⟩ | ⟨y,u,rfl,e⟩
  ·exact nomatch e
  ·injection e with e1 _
   subst e1
   cases v <;> rfl
theorem zfW (prog:Program) (w:World) (i:Int) (t:Tok):(zaH prog w).is (.inl i) (.int i t)=true:=ziC i t
theorem zfX (prog:Program) (w:World) (x:Str) (t:Tok):(zaH prog w).is (.inr x) (.str x t)=true:=ziD x t
inductive V where
 | non | bl (b:Bool) | int (i:Int) | str (x:Str) | byt (b:Array UInt8) | flt (b:UInt64) | ref (a:Addr) | ty (n:String)
 deriving DecidableEq
def RelV:V→Value→Prop
 | .non,u=>u=cX
 | .bl b,u=>u=j4 b
 | .int i,u=>∃ t,u=io i t
 | .str x,u=>∃ t,u=jf x t
 | .byt b,u=>∃ t,u=Value.bytes b t
 | .flt b,u=>∃ t,u=Value.float b t
 | .ref a,u=>u=aY a
 | .ty n,u=>u=iT n
abbrev zN:List V→List Value→Prop:=Paired RelV
theorem zN.length {xs:List V} {us:List Value} (r:zN xs us):xs.length=us.length:=gw r
theorem zN.get:∀ {xs:List V} {us:List Value} {i:Nat} {x:V},zN xs us→xs[i]? = some x→∃ u,us[i]? = some u∧RelV x u
 | _,_,_,_,.nil,e=>by simp at e
 | _,_,0,_,.cons r _,e=>by simp at e; subst e; exact⟨_,rfl,r⟩
 | _,_,i+1,x,.cons _ t,e=>by
  obtain⟨u,h1,h2⟩:=zN.get (i:=i) (x:=x) t (by simpa using e)
  exact⟨u,by simpa using h1,h2⟩
theorem zN.set {x:V} {u:Value} (r:RelV x u):∀ {xs:List V} {us:List Value} (i:Nat),zN xs us→zN (xs.set i x) (us.set i u)
 | _,_,_,.nil=>.nil
 | _,_,0,.cons _ t=>.cons r t
 | _,_,i+1,.cons q t=>.cons q (zN.set r i t)
theorem zN.append:∀ {xs ys:List V} {us ws:List Value},zN xs us→zN ys ws→zN (xs++ys) (us++ws)
 | _,_,_,_,.nil,s=>s
 | _,_,_,_,.cons r t,s=>.cons r (zN.append t s)
theorem zN.take:∀ {xs:List V} {us:List Value} (n:Nat),zN xs us→zN (xs.take n) (us.take n)
 | _,_,0,_=>.nil
 | _,_,_+1,.nil=>.nil
 | _,_,n+1,.cons r t=>.cons r (zN.take n t)
theorem zN.drop:∀ {xs:List V} {us:List Value} (n:Nat),zN xs us→zN (xs.drop n) (us.drop n)
 | _,_,0,r=>r
 | _,_,_+1,.nil=>.nil
 | _,_,n+1,.cons _ t=>zN.drop n t
def ziE:Option V→Option Value→Prop
 | some v,some u=>RelV v u
 | none,none=>True
 | _,_=>False
def KV {κ:Type}:List (κ×V)→List (κ×Value)→Prop:=Paired fun (p:κ×V) (q:κ×Value)=>p.1=q.1∧RelV p.2 q.2
def kV:Key→V
 | .inl i=>.int i
 | .inr x=>.str x
inductive HO where
 | lst (xs:List V)
 | tup (xs:List V)
 | dK (kO:List (Key×V)) | dT (kO:List (List Key×V))
 | set (S:Int→Bool) (n:Nat)
 | ins (C dx:Addr) (fs:List (Str×V))
 | own (x:Addr)
 | xd (fs:List (Str×V))
 | met (f x:Addr)
 | rng (lo hi:Int)
 | frz (o:Obj) (u:HO)
 | tbl (ps:Array Value)
 | ext (φ:Heap→Prop)
abbrev Hp:=Addr→Option HO
def kL (H:Hp) (a:Addr) (o:HO):Hp:=fun b=>if b=a then some o else H b
theorem zb {H:Hp} {a:Addr} {o:HO}:kL H a o a=some o:=by unfold kL; rw [if_pos rfl]
theorem zq {H:Hp} {a b:Addr} {o:HO} (h:b≠a):kL H a o b=H b:=by unfold kL; rw [if_neg h]
theorem zhG {H:Hp} {a:Addr} {o u:HO}:kL (kL H a o) a u=kL H a u:=by
 funext b; unfold kL; split <;> rfl
theorem znj {H:Hp} {a b:Addr} {o u:HO} (h:H a=some o) (h':H b=some u) (d:o≠u):a≠b:=by
 intro e; subst e; rw [h] at h'; exact d (aR h')
theorem zJ {H:Hp} {a b:Addr} {o:HO} (h:H a=some o) (h':H b=none):a≠b:=by
 intro e; subst e; rw [h] at h'; cases h'
section
variable (P:Program) (w:World)
def zak (H:Hp) (h:Heap) (a:Addr):HO→Prop
 | .lst xs=>xs.length≤sizeLine∧∃ (kK:List Value) (n:Nat),zN xs kK∧h.get? a=some { cls:=.type "list",data:=.seq kK.toArray n }
 | .tup xs=>xs.length≤sizeLine∧∃ kK:List Value,zN xs kK∧IsTup h a kK.toArray
 | .dK kO=>kO.length≤sizeLine∧(a == sysModules)=false∧∃ vs,KV kO vs∧h.DictOf (zaH P w) a vs
 | .dT kO=>kO.length≤sizeLine∧(a == sysModules)=false∧∃ xs:List (List Key×Addr×Value),
   Paired (fun (p:List Key×V) (q:List Key×Addr×Value)=>p.1=q.1∧H q.2.1=some (.tup (p.1.map kV))∧RelV p.2 q.2.2) kO xs ∧
   ∃ o es ep,h.get? a=some o∧o.ExactDict∧o.data = .dict es ep∧es.toList=xs.map (entryOfKey (tupleKind (zaH P w)))∧(xs.map (·.1)).Nodup
 | .set S n=>h.SetOf (intKind P w) a S n
 | .ins C dx fs=>H dx=some (.own a)∧fs.length≤1000∧dx≠a∧h.get? a=some (ip C dx) ∧
   ∃ mA,h.Ns1 dx mA∧(∀ f,ziE (fs.lookup f) (mA f))∧kx mA (fs.map (·.1))
 | .own _=>∃ o,h.get? a=some o
 | .xd fs=>∃ mA,h.Ns1 a mA∧∀ f,ziE (fs.lookup f) (mA f)
 | .rng lo hi=>∃ t u v,h.get? a=some { cls:=.type "range",data:=.fields #[.int lo t,.int hi u,.int 1 v] }
 | .frz o u=>h.get? a=some o∧zak H h a u
 | .tbl ps=>h.get? a=some { cls:=.none,data:=.fields ps }
 | .met f x=>h.get? a=some (gJ (.ref f) (.ref x))
 | .ext φ=>φ h∧(∃ o,h.get? a=some o)∧∀ h1 h2:Heap,φ h1→(∀ o,h1.get? a=some o→h2.get? a=some o)→φ h2
def HOk (H:Hp) (h:Heap):Prop:=∀ a o,H a=some o→zak P w H h a o
end
section
variable {P:Program} {w:World} {H H':Hp} {h h':Heap} {a:Addr} {o:HO}
theorem zak.lt (x:zak P w H h a o):a < h.objs.size:=by
 cases o with
 | lst xs=>obtain⟨_,_,_,_,e⟩:=x; exact aG e
 | tup xs=>obtain⟨_,_,_,p⟩:=x; exact p.lt
 | dK kO=>obtain⟨_,_,_,_,o,_,_,e,_⟩:=x; exact aG e
 | dT kO=>obtain⟨_,_,_,_,o,_,_,e,_⟩:=x; exact aG e
 | set S n=>obtain⟨o,_,_,_,e,_⟩:=x; exact aG e
 | ins C dx fs=>obtain⟨_,_,_,e,_⟩:=x; exact aG e
 | own y=>obtain⟨_,e⟩:=x; exact aG e
 | xd fs=>obtain⟨_,⟨_,_,_,e,_⟩,_⟩:=x; exact aG e
 | rng lo hi=>obtain⟨_,_,_,e⟩:=x; exact aG e
 | frz ob u=>obtain⟨e,_⟩:=x; exact aG e
 | tbl ps=>exact aG (show h.get? a=some _ from x)
 | met f y=>exact aG (show h.get? a=some _ from x)
 | ext φ=>obtain⟨_,⟨_,e⟩,_⟩:=x; exact aG e
theorem Paired.mapP {α β:Type} {F G:α→β→Prop}:∀ {l₁:List α} {l₂:List β},Paired F l₁ l₂→(∀ a b,F a b→G a b)→Paired G l₁ l₂
 | _,_,.nil,_=>.nil
 | _,_,.cons r t,f=>.cons (f _ _ r) (Paired.mapP t f)
theorem zak.stay (x:zak P w H h a o) (k:∀ b u,(b=a∨H b=some (.own a))→h.get? b=some u→h'.get? b=some u)
  (ho:∀ b,H b=some (.own a)→H' b=some (.own a)) (ht:∀ b xs,H b=some (.tup xs)→H' b=some (.tup xs)):zak P w H' h' a o:=by
 induction o with
 | lst xs=>obtain⟨z,kK,n,r,e⟩:=x; exact⟨z,kK,n,r,k _ _ (.inl rfl) e⟩
 | tup xs=>obtain⟨z,kK,r,ob,e,c⟩:=x; exact⟨z,kK,r,ob,k _ _ (.inl rfl) e,c⟩
 | dK kO=>obtain⟨z,y,vs,r,ob,es,ep,e,c⟩:=x; exact⟨z,y,vs,r,ob,es,ep,k _ _ (.inl rfl) e,c⟩
 | dT kO =>
  obtain⟨z,y,xs,r,ob,es,ep,e,c⟩:=x
  exact⟨z,y,xs,Paired.mapP r fun p q z=>⟨z.1,ht _ _ z.2.1,z.2.2⟩,ob,es,ep,k _ _ (.inl rfl) e,c⟩
 | set S n=>obtain⟨ob,es,ep,t,e,c⟩:=x; exact⟨ob,es,ep,t,k _ _ (.inl rfl) e,c⟩
 | ins C dx fs =>
  obtain⟨d,z,ne,e,mA,⟨od,es,ep,e2,c⟩,r⟩:=x
  exact⟨ho _ d,z,ne,k _ _ (.inl rfl) e,mA,⟨od,es,ep,k _ _ (.inr d) e2,c⟩,r⟩
 | own y=>obtain⟨ob,e⟩:=x; exact⟨ob,k _ _ (.inl rfl) e⟩
 | xd fs=>obtain⟨mA,⟨od,es,ep,e,c⟩,r⟩:=x; exact⟨mA,⟨od,es,ep,k _ _ (.inl rfl) e,c⟩,r⟩
 | rng lo hi=>obtain⟨t,u,v,e⟩:=x; exact⟨t,u,v,k _ _ (.inl rfl) e⟩
 | frz ob u ih=>obtain⟨e,q⟩:=x; exact⟨k _ _ (.inl rfl) e,ih q⟩
 | tbl ps =>
  have e:h.get? a=some { cls:=.none,data:=.fields ps }:=x
  show h'.get? a=some { cls:=.none,data:=.fields ps }
  exact k a _ (.inl rfl) e
 | met f y =>
  have e:h.get? a=some (gJ (.ref f) (.ref y)):=x
  show h'.get? a=some (gJ (.ref f) (.ref y))
  exact k a _ (.inl rfl) e
 | ext φ=>obtain⟨p,⟨o,e⟩,st⟩:=x; exact⟨st _ _ p fun o q=>k _ _ (.inl rfl) q,⟨o,k _ _ (.inl rfl) e⟩,st⟩
theorem HOk.lt (x:HOk P w H h) (e:H a=some o):a < h.objs.size:=(x a o e).lt
theorem HOk.fresh (x:HOk P w H h) (e:h.objs.size≤a):H a=none:=by
 cases q:H a with
 | none=>rfl
 | some u=>exact absurd (bg (x.lt q) e) (bY _)
theorem HOk.kept (x:HOk P w H h) (k:∀ b u,h.get? b=some u→h'.get? b=some u):HOk P w H h':=fun a o e =>
 (x a o e).stay (fun b u _ q=>k b u q) (fun _ q=>q) fun _ _ q=>q
theorem HOk.laid (x:HOk P w H h) (k:∀ b u,h.get? b=some u→h'.get? b=some u) (hp:h.objs.size≤a) (new:zak P w (kL H a o) h' a o):HOk P w (kL H a o) h':=fun b u e=>by
 have hn:=x.fresh hp
 by_cases hb:b=a
 ·subst hb; rw [zb] at e; cases e; exact new
 ·rw [zq hb] at e
  exact (x b u e).stay (fun c v _ q=>k c v q) (fun c q=>by rw [zq (zJ q hn)]; exact q) fun c xs q=>by rw [zq (zJ q hn)]; exact q
end
def Rd (H:Hp) (a:Addr) (u:HO):Prop:=H a=some u∨∃ o,H a=some (.frz o u)
theorem Rd.ok {P:Program} {w:World} {H:Hp} {h:Heap} {a:Addr} {u:HO} (r:Rd H a u) (x:HOk P w H h):zak P w H h a u:=by
 rcases r with r | ⟨o,r⟩
 ·exact x a u r
 ·obtain⟨_,q⟩:=x a _ r
  exact q
def Mut:Option HO→Prop
 | some (.lst _)=>True
 | some (.dK _)=>True
 | some (.dT _)=>True
 | some (.set _ _)=>True
 | some (.ins _ _ _)=>True
 | some (.ext _)=>True
 | _=>False
section
variable {P:Program} {w:World} {H:Hp} {h h':Heap} {x e:Addr} {o':HO}
theorem HOk.write (ok:HOk P w H h) (mu:Mut (H x)) (he:e=x∨H e=some (.own x)) (k:∀ b u,b≠e→h.get? b=some u→h'.get? b=some u) (xJ:∃ u,h'.get? e=some u)
  (new:zak P w (kL H x o') h' x o'):HOk P w (kL H x o') h':=fun b u q=>by
 have yq:∀ c y,H c=some (.own y)→c≠x:=fun c y r z=>by subst z; rw [r] at mu; exact mu
 have CA:∀ c xs,H c=some (.tup xs)→c≠x:=fun c xs r z=>by subst z; rw [r] at mu; exact mu
 by_cases hb:b=x
 ·subst hb; rw [zb] at q; cases q; exact new
 ·rw [zq hb] at q
  by_cases wx:b=e
  ·have q':H b=some (.own x):=by
    rcases he with z | z
    ·exact absurd (wx.trans z) hb
    ·rw [wx]; exact z
   rw [q] at q'; cases q'
   obtain⟨v,hv⟩:=xJ
   exact⟨v,by rw [wx]; exact hv⟩
  ·refine (ok b u q).stay (fun c v hc r=>k c v ?_ r) (fun c r=>by rw [zq (yq c b r)]; exact r) fun c xs r=>by rw [zq (CA c xs r)]; exact r
   rcases hc with rfl | hc
   ·exact wx
   ·rintro rfl
    rcases he with z | z
    ·exact yq c b hc z
    ·rw [hc] at z; cases z; exact hb rfl
end
structure Un (fs ex:List Addr) (H H':Hp) (h h':Heap):Prop where
 keep:∀ b o,h.get? b=some o→H b=none→b∉fs→b∉ex→h'.get? b=some o
 slot:∀ b o,h.get? b=some o→H b=none→b∈fs→b∉ex→∃ sl,h'.get? b=some { o with slots:=sl }
 free:∀ b o,h.get? b=some o→H b=none→b∉ex→H' b=none
 there:∀ b o,h.get? b=some o→b∉ex→∃ o',h'.get? b=some o'
 tups:∀ b xs,H b=some (.tup xs)→H' b=some (.tup xs)
 frzs:∀ b o u,H b=some (.frz o u)→H' b=some (.frz o u)
 tbls:∀ b ps,H b=some (.tbl ps)→∃ more,H' b=some (.tbl (ps++more))
section
variable {fs fs' ex ex':List Addr} {H H1 H2:Hp} {h h1 h2 h':Heap} {a x e:Addr} {o:HO}
theorem Un.any (u:Un fs ex H H1 h h1) {b:Addr} {ob:Obj} (q:h.get? b=some ob) (n:H b=none) (hx:b∉ex):∃ sl,h1.get? b=some { ob with slots:=sl }:=by
 by_cases hb:b∈fs
 ·exact u.slot b ob q n hb hx
 ·exact⟨ob.slots,u.keep b ob q n hb hx⟩
theorem Un.kept (k:∀ b u,h.get? b=some u→h'.get? b=some u):Un fs ex H H h h' :=
 ⟨fun b ob q _ _ _=>k b ob q,fun b ob q _ _ _=>⟨ob.slots,k b ob q⟩,fun _ _ _ n _=>n,fun b ob q _=>⟨ob,k b ob q⟩,fun _ _ q=>q,fun _ _ _ q=>q,fun _ ps q=>⟨#[],by rw [q]; simp⟩⟩
theorem Un.refl:Un fs ex H H h h:=Un.kept fun _ _ q=>q
theorem Un.laid (k:∀ b u,h.get? b=some u→h'.get? b=some u) (hp:h.objs.size≤a) (hn:H a=none):Un fs ex H (kL H a o) h h' where
 keep:=fun b u q _ _ _=>k b u q
 slot:=fun b u q _ _ _=>⟨u.slots,k b u q⟩
 free:=fun b u q n _=>by rw [zq (bi (bg (aG q) hp))]; exact n
 there:=fun b u q _=>⟨u,k b u q⟩
 tups:=fun b xs q=>by rw [zq (zJ q hn)]; exact q
 frzs:=fun b u xs q=>by rw [zq (zJ q hn)]; exact q
 tbls:=fun b ps q=>⟨#[],by rw [zq (zJ q hn),q]; simp⟩
theorem Un.write (mu:Mut (H x)) (he:e=x∨H e=some (.own x)) (k:∀ b u,b≠e→h.get? b=some u→h'.get? b=some u) (xJ:∃ u,h'.get? e=some u):Un fs ex H (kL H x o) h h':=by
 have hx:∀ b,H b=none→b≠x:=fun b n z=>by subst z; rw [n] at mu; exact mu
 have hb:∀ b,H b=none→b≠e:=fun b n z=>by
  subst z
  rcases he with r | r
  ·exact hx b n r
  ·rw [n] at r; cases r
 have hm:∀ b u,H b=some u→¬ Mut (some u)→b≠x:=fun b u q nm z=>by subst z; rw [q] at mu; exact nm mu
 refine⟨fun b u q n _ _=>k b u (hb b n) q,fun b u q n _ _=>⟨u.slots,k b u (hb b n) q⟩,fun b u q n _=>by rw [zq (hx b n)]; exact n,fun b u q _=>?_,
  fun b xs q=>by rw [zq (hm b _ q fun z=>z)]; exact q,fun b u xs q=>by rw [zq (hm b _ q fun z=>z)]; exact q,fun b ps q=>⟨#[],by rw [zq (hm b _ q fun z=>z),q]; simp⟩⟩
 by_cases wx:b=e
 ·subst wx; exact xJ
 ·exact⟨u,k b u wx q⟩
end
def trk (h:Heap) (H:Hp):List Addr:=(aD h.objs.size).filter fun a=>(H a).isSome
def zfm (h:Heap) (H:Hp):Heap:=PySem.W.hideAll h (trk h H)
theorem ziF (h:Heap) (H:Hp):(zfm h H).objs.size=h.objs.size:=PySem.W.hideAll_size _ _
theorem zjw {h:Heap} {H:Hp} {b:Addr} {o:Obj} (e:h.get? b=some o) (n:H b=none):(zfm h H).get? b=some o :=
 PySem.W.hideAll_get _ e fun hm=>by
  have q:(H b).isSome=true:=(bF.mp hm).2
  rw [n] at q; simp at q
theorem zk2 {h:Heap} {H:Hp} {b:Addr} {o:Obj} (e:(zfm h H).get? b=some o):h.get? b=some o∧H b=none:=by
 have e':h.get? b=some o:=PySem.W.of_hideAll (trk h H) e
 refine⟨e',?_⟩
 cases q:H b with
 | none=>rfl
 | some x =>
  have hm:b∈trk h H:=bF.mpr ⟨bm.mpr (aG e'),by simp [q]⟩
  have z:(zfm h H).get? b=none:=PySem.W.hideAll_none (trk h H) hm
  rw [z] at e; cases e
structure Mod (K:ah) (mg:Str→Option Value) (base:Heap):Prop where
 kin:K.In base
 glob:base.Ns mainGlobals mg
 blt:∃ mb,base.Ns builtinsNs mb∧∀ x:Str,x≠"__name__"→mb x=bootBuiltins x
 nolimit:base.NoLimit
structure Cx where
 prog:Program
 w:World
 K:ah
 mg:Str→Option Value
 base:Heap
 A:Around
 N:List Str
 s₀:Shared
 H₀:Hp
 env:Env
 outer:List Env
 stack:List Env
 ex:List Addr
 fn:Str→Bool
 calm:Bool
 pn:List (Addr×Obj)
 xe:Value→Shared→Prop
def frs (l:List Env):List Addr:=l.filterMap (·.frame)
abbrev Cx.fs (X:Cx):List Addr:=frs X.outer
def Vis (sc:Scope) (x:Str):Prop:=sc.names.lookup x=some .local∨sc.names.lookup x=some .cell∨sc.names.lookup x=some .free
def Loc (sc:Scope) (x:Str):Prop:=sc.names.lookup x=some .local∨sc.names.lookup x=some .cell
def Look (env:Env) (h:Heap) (m:Str→Option Value) (x:Str) (u:Value):Prop :=
 (env.kindOf x=some .local∧m x=some u)∨((env.kindOf x=some .cell∨env.kindOf x=some .free)∧∃ c,env.cells.lookup x=some c∧h.IsCell c (some u))
structure Cx.Ok (X:Cx):Prop where
 mod:Mod X.K X.mg X.base
 kind:X.env.scope.kind = .function
 glob:X.env.globals=mainGlobals
 blt:X.env.builtins=builtinsNs
 above:X.s₀.heap.objs.size≤X.env.locals
 inj:∀ x y c,X.env.cells.lookup x=some c→X.env.cells.lookup y=some c→x=y
 has:∀ x,(X.env.kindOf x=some .cell∨X.env.kindOf x=some .free)→∃ c,X.env.cells.lookup x=some c
 cab:∀ x c,X.fn x=true→X.env.cells.lookup x=some c→X.s₀.heap.objs.size≤c
 hd:X.calm=true→X.A.handled=none
 frames:X.A.frames=some X.stack
 stk:X.stack=X.outer∨(X.stack=X.env :: X.outer∧X.env.frame=some X.env.locals)
 exf:∀ b∈X.ex,b≠X.env.locals∧∀ x c,X.env.cells.lookup x=some c→c≠b
 bs:∀ b o,X.base.get? b=some o→X.s₀.heap.get? b=some o∧X.H₀ b=none
 bsz:X.base.objs.size≤X.s₀.heap.objs.size
 noex:∀ b o,X.base.get? b=some o→b∉X.ex
 exfs:∀ b∈X.ex,b∉X.fs
 funs:X.s₀.heap.FunFrames X.base X.outer
 frf:∀ b∈X.fs,X.H₀ b=none
structure Inv (X:Cx) (kE:List (Addr×Obj)) (σ:List (Option V)) (H:Hp) (s:Shared):Prop where
 ok:X.Ok
 os:s.os=X.s₀.os
 bare:AllBare s.gens
 base:Un X.fs X.ex X.H₀ H X.s₀.heap s.heap
 loc:∃ m,s.heap.Ns X.env.locals m∧∀ (i:Nat) (x:Str) (v:V),X.N[i]? = some x→σ[i]? = some (some v)→Vis X.env.scope x→∃ u,RelV v u∧Look X.env s.heap m x u
 cell:∀ x c,X.env.cells.lookup x=some c→∃ v,s.heap.IsCell c v
 free:H X.env.locals=none
 freeC:∀ x c,X.env.cells.lookup x=some c→H c=none
 pin:∀ p∈X.pn++kE,s.heap.get? p.1=some p.2∧H p.1=none∧p.1≠X.env.locals∧p.1∉X.fs∧∀ v,p.2.data≠.cell v
 hok:HOk X.prog X.w H s.heap
 len:σ.length=X.N.length
section
variable {X:Cx} {kE:List (Addr×Obj)} {σ:List (Option V)} {H H':Hp} {s:Shared} {h':Heap}
theorem Cx.Ok.nofr (ok:X.Ok) {b:Addr} {o:Obj} (e:X.base.get? b=some o):b∉X.fs:=fun hb=>by
 have:=(ok.funs.mem hb).1
 rw [e] at this; cases this
theorem Inv.bs (I:Inv X kE σ H s):∀ b o,X.base.get? b=some o→s.heap.get? b=some o∧H b=none:=fun b o e =>
 ⟨I.base.keep b o (I.ok.bs b o e).1 (I.ok.bs b o e).2 (I.ok.nofr e) (I.ok.noex b o e),I.base.free b o (I.ok.bs b o e).1 (I.ok.bs b o e).2 (I.ok.noex b o e)⟩
theorem Inv.bk (I:Inv X kE σ H s):∀ b o,X.base.get? b=some o→s.heap.get? b=some o:=fun b o e=>(I.bs b o e).1
theorem Inv.mod (I:Inv X kE σ H s):Mod X.K X.mg X.base:=I.ok.mod
theorem Inv.kIn (I:Inv X kE σ H s):X.K.In s.heap:=I.ok.mod.kin.keeps I.bk
theorem Inv.lt (I:Inv X kE σ H s):X.env.locals < s.heap.objs.size:=let ⟨_,hn,_⟩:=I.loc; hn.lt
theorem Inv.sz (I:Inv X kE σ H s):X.s₀.heap.objs.size≤s.heap.objs.size:=be I.ok.above (gZ I.lt)
theorem Inv.nofs (I:Inv X kE σ H s) {a:Addr} (h:s.heap.objs.size≤a):a∉X.fs:=fun hb=>by
 obtain⟨_,o,ho,_⟩:=I.ok.funs.mem hb
 exact absurd (bg (aG ho) (be I.sz h)) (bY _)
theorem Inv.cne (I:Inv X kE σ H s):∀ x c,X.env.cells.lookup x=some c→c≠X.env.locals:=fun x c e z=>by
 obtain⟨v,o,ho,hd⟩:=I.cell x c e
 obtain⟨m,⟨o',es,ep,tq,xK,_⟩,_⟩:=I.loc
 rw [z,tq] at ho; cases ho; rw [xK] at hd; cases hd
theorem Inv.funs (I:Inv X kE σ H s):s.heap.FunFrames X.base X.outer:=by
 have all:∀ (l:List Env),(∀ b∈frs l,b∈X.fs)→X.s₀.heap.FunFrames X.base l→s.heap.FunFrames X.base l:=by
  intro l
  induction l with
  | nil=>intro _ _; trivial
  | cons env r ih =>
   intro hs hl
   obtain⟨hk,⟨L,o,hf,hn,ho,hd⟩,hr⟩:=hl
   have hL:L∈X.fs:=hs L (by unfold frs; rw [eU,hf]; exact aF)
   obtain⟨sl,e⟩:=I.base.slot L o ho (I.ok.frf L hL) hL fun z=>I.ok.exfs L z hL
   exact⟨hk,⟨L,_,hf,hn,e,hd⟩,ih (fun b hb=>hs b (by unfold frs; rw [eU,hf]; exact aw _ hb)) hr⟩
 exact all X.outer (fun _ hb=>hb) I.ok.funs
theorem Inv.stack (I:Inv X kE σ H s):s.heap.FunFrames X.base X.stack:=by
 rcases I.ok.stk with e | ⟨e,hf⟩
 ·rw [e]; exact I.funs
 ·rw [e]
  obtain⟨m,hn,_⟩:=I.loc
  refine .cons (by rw [I.ok.kind]; decide) hf hn ?_ I.funs
  exact Heap.get?_none_of_le (be I.ok.bsz I.ok.above)
theorem Inv.stkSub (I:Inv X kE σ H s):∀ b∈frs X.stack,b∈X.env.locals :: X.fs:=fun b hb=>by
 rcases I.ok.stk with e | ⟨e,hf⟩
 ·rw [e] at hb; exact aw _ hb
 ·rw [e] at hb
  unfold frs at hb
  rw [eU,hf] at hb
  exact hb
theorem Inv.stkFree (I:Inv X kE σ H s):∀ b∈frs X.stack,H b=none:=fun b hb=>by
 rcases aE.mp (I.stkSub b hb) with e | hb
 ·rw [e]; exact I.free
 ·obtain⟨_,o,ho,_⟩:=I.ok.funs.mem hb
  exact I.base.free b o ho (I.ok.frf b hb) fun z=>I.ok.exfs b z hb
theorem Inv.step {g':Array GenState} {t':Nat} {d':Drawn} {ch:List Addr} (I:Inv X kE σ H s)
  (qT:∀ b∈ch,(b∈X.ex∨X.s₀.heap.objs.size≤b)∧b≠X.env.locals∧(∀ x c,X.env.cells.lookup x=some c→c≠b)∧∀ p∈X.pn++kE,p.1≠b)
  (keep:∀ b o,b≠X.env.locals→b∉X.fs→b∉ch→s.heap.get? b=some o→H b=none→h'.get? b=some o)
  (slot:∀ b o,b≠X.env.locals→b∈X.fs→b∉ch→s.heap.get? b=some o→H b=none→∃ sl,h'.get? b=some { o with slots:=sl }) (free:∀ b o,b∉ch→s.heap.get? b=some o→H b=none→H' b=none)
  (there:∀ b o,b∉ch→s.heap.get? b=some o→∃ o',h'.get? b=some o')
  (tups:∀ b xs,H b=some (.tup xs)→H' b=some (.tup xs)) (frzs:∀ b o u,H b=some (.frz o u)→H' b=some (.frz o u)) (tbls:∀ b ps,H b=some (.tbl ps)→∃ more,H' b=some (.tbl (ps++more)))
  (ns:∀ m,s.heap.Ns X.env.locals m→h'.Ns X.env.locals m) (hok:HOk X.prog X.w H' h') (hg:AllBare g') :
  Inv X kE σ H' { s with heap:=h',gens:=g',drawn:=d',toks:=t' }:=by
 have neL:∀ b o,X.s₀.heap.get? b=some o→b≠X.env.locals:=fun b o e=>bi (bg (aG e) I.ok.above)
 have BC:∀ b o,X.s₀.heap.get? b=some o→b∉X.ex→b∉ch:=fun b o e hx hb=>by
  rcases (qT b hb).1 with z | z
  ·exact hx z
  ·exact absurd (bg (aG e) z) (bY _)
 have cellK:∀ x c,X.env.cells.lookup x=some c→∀ v,s.heap.IsCell c v→h'.IsCell c v:=fun x c e v ⟨o,ho,hd⟩=>by
  have yr:c∉ch:=fun z=>(qT c z).2.2.1 x c e rfl
  by_cases hc:c∈X.fs
  ·obtain⟨sl,q⟩:=slot c o (I.cne x c e) hc yr ho (I.freeC x c e)
   exact⟨_,q,hd⟩
  ·exact⟨o,keep c o (I.cne x c e) hc yr ho (I.freeC x c e),hd⟩
 refine⟨I.ok,I.os,hg,⟨fun b o e n hb hx=>?_,fun b o e n hb hx=>?_,fun b o e n hx=>?_,fun b o e hx=>?_,fun b xs e=>tups b xs (I.base.tups b xs e),fun b o xs e=>frzs b o xs (I.base.frzs b o xs e),fun b ps e=>?_⟩,?_,fun x c e=>?_,?_,fun x c e=>?_,fun p hp=>?_,hok,I.len⟩
 ·exact keep b o (neL b o e) hb (BC b o e hx) (I.base.keep b o e n hb hx) (I.base.free b o e n hx)
 ·obtain⟨sl,e1⟩:=I.base.slot b o e n hb hx
  obtain⟨sl',e2⟩:=slot b _ (neL b o e) hb (BC b o e hx) e1 (I.base.free b o e n hx)
  exact⟨sl',e2⟩
 ·obtain⟨o',e1⟩:=I.base.there b o e hx
  exact free b o' (BC b o e hx) e1 (I.base.free b o e n hx)
 ·obtain⟨o',e1⟩:=I.base.there b o e hx
  exact there b o' (BC b o e hx) e1
 ·obtain⟨m1,e1⟩:=I.base.tbls b ps e
  obtain⟨m2,e2⟩:=tbls b _ e1
  exact⟨m1++m2,by rw [e2,Array.append_assoc]⟩
 ·obtain⟨m,hn,hl⟩:=I.loc
  refine⟨m,ns m hn,fun i x v e1 e2 e3=>?_⟩
  obtain⟨u,r,l⟩:=hl i x v e1 e2 e3
  refine⟨u,r,?_⟩
  rcases l with l | ⟨k,c,e,z⟩
  ·exact .inl l
  ·exact .inr ⟨k,c,e,cellK x c e _ z⟩
 ·obtain⟨v,z⟩:=I.cell x c e
  exact⟨v,cellK x c e v z⟩
 ·obtain⟨m,⟨o,_,_,ho,_⟩,_⟩:=I.loc
  exact free _ o (fun z=>(qT _ z).2.1 rfl) ho I.free
 ·obtain⟨v,o,ho,hd⟩:=I.cell x c e
  exact free c o (fun z=>(qT c z).2.2.1 x c e rfl) ho (I.freeC x c e)
 ·obtain⟨e,n,ne,nf,d⟩:=I.pin p hp
  have yr:p.1∉ch:=fun z=>(qT p.1 z).2.2.2 p hp rfl
  exact⟨keep p.1 p.2 ne nf yr e n,free p.1 p.2 yr e n,ne,nf,d⟩
theorem Inv.un {t':Nat} (I:Inv X kE σ H s) (u:Un X.fs [] H H' s.heap h') (hok:HOk X.prog X.w H' h'):Inv X kE σ H' { s with heap:=h',toks:=t' }:=by
 obtain⟨m,⟨o,es,ep,ho,r⟩,_⟩:=id I.loc
 obtain⟨sl,hL⟩:=u.any ho I.free (by simp)
 exact I.step (g':=s.gens) (d':=s.drawn) (ch:=[]) (fun _ z=>nomatch z) (fun b o _ hb _ e n=>u.keep b o e n hb (by simp)) (fun b o _ hb _ e n=>u.slot b o e n hb (by simp)) (fun b o _ e n=>u.free b o e n (by simp)) (fun b o _ e=>u.there b o e (by simp)) u.tups u.frzs u.tbls (fun m' hm=>by
  obtain⟨o',uZ,CB,tq,r'⟩:=hm
  rw [ho] at tq; cases tq
  exact⟨_,uZ,CB,hL,r'⟩) hok I.bare
theorem Inv.call {g':Array GenState} {t':Nat} {d':Drawn} {ch:List Addr} (I:Inv X kE σ H s) (u:Un (frs X.stack) ch H H' s.heap h') (hok:HOk X.prog X.w H' h') (hg:AllBare g')
  (qT:∀ b∈ch,(b∈X.ex∨X.s₀.heap.objs.size≤b)∧b≠X.env.locals∧(∀ x c,X.env.cells.lookup x=some c→c≠b)∧∀ p∈X.pn++kE,p.1≠b) :
  Inv X kE σ H' { s with heap:=h',gens:=g',drawn:=d',toks:=t' }:=by
 obtain⟨m,⟨o,es,ep,ho,r⟩,_⟩:=id I.loc
 obtain⟨sl,hL⟩:=u.any ho I.free fun z=>(qT _ z).2.1 rfl
 exact I.step (ch:=ch) qT (fun b o hL hb hc e n=>u.keep b o e n (fun z=>(aE.mp (I.stkSub b z)).elim hL hb) hc) (fun b o _ _ hc e n=>u.any e n hc) (fun b o hc e n=>u.free b o e n hc) (fun b o hc e=>u.there b o e hc) u.tups u.frzs u.tbls (fun m' hm=>by
  obtain⟨o',uZ,CB,tq,r'⟩:=hm
  rw [ho] at tq; cases tq
  exact⟨_,uZ,CB,hL,r'⟩) hok hg
theorem Inv.turned {t':Nat} {it:Addr} (I:Inv X kE σ H s) (k:∀ b o,b≠it→s.heap.get? b=some o→h'.get? b=some o) (hn:H it=none) (hL:it≠X.env.locals)
  (h1:it∈X.ex∨X.s₀.heap.objs.size≤it) (h2:∀ x c,X.env.cells.lookup x=some c→c≠it) (h3:∀ p∈X.pn++kE,p.1≠it):Inv X kE σ H { s with heap:=h',toks:=t' }:=by
 have rT:∀ b u,H b=some u→b≠it:=fun b u e z=>by rw [z,hn] at e; cases e
 refine I.step (g':=s.gens) (d':=s.drawn) (ch:=[it]) (fun b hb=>?_) (fun b o _ _ hc e _=>k b o (fun z=>hc (by simp [z])) e) (fun b o _ _ hc e _=>⟨o.slots,k b o (fun z=>hc (by simp [z])) e⟩) (fun _ _ _ _ n=>n)
  (fun b o hc e=>⟨o,k b o (fun z=>hc (by simp [z])) e⟩) (fun _ _ e=>e) (fun _ _ _ e=>e) (fun b ps e=>⟨#[],by rw [e]; simp⟩) (fun m hm=>?_) (fun b u e=>?_) I.bare
 ·have e:b=it:=by simpa using hb
  subst e
  exact⟨h1,hL,h2,h3⟩
 ·obtain⟨o,es,ep,ho,r⟩:=hm
  exact⟨o,es,ep,k _ o (cR hL) ho,r⟩
 ·refine (I.hok b u e).stay (fun c v hc q=>k c v ?_ q) (fun _ q=>q) fun _ _ q=>q
  rcases hc with z | z
  ·rw [z]; exact rT b u e
  ·exact rT c _ z
theorem Inv.tok (I:Inv X kE σ H s) (t:Nat):Inv X kE σ H { s with toks:=t }:=I.un (h':=s.heap) (t':=t) Un.refl I.hok
theorem Inv.kept {t':Nat} (I:Inv X kE σ H s) (k:∀ b u,s.heap.get? b=some u→h'.get? b=some u):Inv X kE σ H { s with heap:=h',toks:=t' }:=I.un (Un.kept k) (I.hok.kept k)
theorem Inv.laid {a:Addr} {o:HO} {t':Nat} (I:Inv X kE σ H s) (k:∀ b u,s.heap.get? b=some u→h'.get? b=some u) (hp:s.heap.objs.size≤a) (new:zak X.prog X.w (kL H a o) h' a o) :
  Inv X kE σ (kL H a o) { s with heap:=h',toks:=t' }:=I.un (Un.laid k hp (I.hok.fresh hp)) (I.hok.laid k hp new)
theorem Inv.write {x e:Addr} {o:HO} {t':Nat} (I:Inv X kE σ H s) (mu:Mut (H x)) (he:e=x∨H e=some (.own x)) (k:∀ b u,b≠e→s.heap.get? b=some u→h'.get? b=some u) (xJ:∃ u,h'.get? e=some u)
  (new:zak X.prog X.w (kL H x o) h' x o):Inv X kE σ (kL H x o) { s with heap:=h',toks:=t' }:=I.un (Un.write mu he k xJ) (I.hok.write mu he k xJ new)
theorem Inv.weak {σ':List (Option V)} (I:Inv X kE σ H s) (hl:σ'.length=σ.length) (w:∀ (i:Nat) v,σ'[i]? = some (some v)→σ[i]? = some (some v)):Inv X kE σ' H s :=
 ⟨I.ok,I.os,I.bare,I.base,let ⟨m,hn,BD⟩:=I.loc; ⟨m,hn,fun i x v e1 e2 e3=>BD i x v e1 (w i v e2) e3⟩,I.cell,I.free,I.freeC,I.pin,I.hok,hl.trans I.len⟩
theorem Inv.pins_of {oh:List (Addr×Obj)} (I:Inv X kE σ H s) (h:∀ p∈oh,s.heap.get? p.1=some p.2∧H p.1=none∧p.1≠X.env.locals∧p.1∉X.fs∧∀ v,p.2.data≠.cell v):Inv X oh σ H s :=
 ⟨I.ok,I.os,I.bare,I.base,I.loc,I.cell,I.free,I.freeC,fun p hp=>(aP.mp hp).elim (fun z=>I.pin p (aQ _ z)) (h p),I.hok,I.len⟩
theorem zfY {N:List Str} (hN:N.Nodup) {i j:Nat} {x:Str} (a:N[i]? = some x) (b:N[j]? = some x):i=j:=by
 obtain⟨h1,e1⟩:=ak.mp a
 obtain⟨h2,e2⟩:=ak.mp b
 exact (List.getElem_inj hN).mp (e1.trans e2.symm)
theorem zeZ {M:Model} {A:Around} {E:Value→Shared→Prop} {i:Nat} {x:Str} {v:V} {u:Value} {Q:Unit→Shared→Prop} (I:Inv X kE σ H s) (hN:X.N.Nodup) (hi:X.N[i]? = some x) (hx:Loc X.env.scope x) (r:RelV v u)
  (h:∀ s',Inv X kE (σ.set i (some v)) H s'→(∃ a,bj a s.heap s'.heap∧(a=X.env.locals∨X.env.cells.lookup x=some a))→Q () s') (hf:X.fn x=true∨X.env.scope.names.lookup x=some .local:=by first | exact .inl rfl | exact .inr rfl | assumption):wpAny M A (storeName X.env x u) Q E s:=by
 obtain⟨m,hn,hl⟩:=id I.loc
 have CC:(X.env.scope.kind == .class || (X.env.scope.kind == .module && X.env.locals != X.env.globals))=false:=by rw [I.ok.kind]; rfl
 have hiσ:i < σ.length:=by rw [I.len]; exact (ak.mp hi).1
 have cne:=I.cne
 have tracked:∀ {a:Addr} {h':Heap},(∃ o,s.heap.get? a=some o∧H a=none)→bj a s.heap h'→HOk X.prog X.w H h':=fun {a h'} ha hs b ob e=>by
  obtain⟨_,_,vO⟩:=ha
  refine (I.hok b ob e).stay (fun c w' hc q=>(hs.2 c ?_).trans q) (fun _ q=>q) fun _ _ q=>q
  rintro rfl
  rcases hc with rfl | hc
  ·rw [vO] at e; cases e
  ·rw [vO] at hc; cases hc
 rcases hx with hk | hk
 ·refine wpAny_storeName_local hk hn (fun h' xM hs=>?_) CC
  obtain⟨oL,_,_,yt,_⟩:=id hn
  refine h _ ⟨I.ok,I.os,I.bare,⟨fun b o e n hb hx=>?_,fun b o e n hb hx=>?_,I.base.free,fun b o e hx=>?_,I.base.tups,I.base.frzs,I.base.tbls⟩,⟨_,xM,fun j y v' e1 e2 e3=>?_⟩,fun y c e=>?_,I.free,I.freeC,fun p hp=>?_,tracked ⟨oL,yt,I.free⟩ hs,by simpa using I.len⟩ ⟨_,hs,.inl rfl⟩
  ·exact (hs.2 b (bi (bg (aG e) I.ok.above))).trans (I.base.keep b o e n hb hx)
  ·obtain⟨sl,e1⟩:=I.base.slot b o e n hb hx
   exact⟨sl,(hs.2 b (bi (bg (aG e) I.ok.above))).trans e1⟩
  ·obtain⟨o',e1⟩:=I.base.there b o e hx
   exact⟨o',(hs.2 b (bi (bg (aG e) I.ok.above))).trans e1⟩
  ·by_cases hj:j=i
   ·subst hj
    rw [hi] at e1; cases e1
    rw [cp hiσ] at e2
    cases e2
    exact⟨u,r,.inl ⟨hk,by simp⟩⟩
   ·rw [bN (cR hj)] at e2
    obtain⟨u',r',q⟩:=hl j y v' e1 e2 e3
    refine⟨u',r',?_⟩
    rcases q with ⟨k,e⟩ | ⟨k,c,e,z⟩
    ·refine .inl ⟨k,?_⟩
     have:y≠x:=fun e=>hj (zfY hN e1 (e ▸ hi))
     simp [this,e]
    ·exact .inr ⟨k,c,e,z.sameBut hs (cne y c e)⟩
  ·obtain⟨w',z⟩:=I.cell y c e
   exact⟨w',z.sameBut hs (cne y c e)⟩
  ·obtain⟨e,n,ne,nf,d⟩:=I.pin p hp
   exact⟨(hs.2 p.1 ne).trans e,n,ne,nf,d⟩
 ·have yu:X.fn x=true:=by
   rcases hf with z | z
   ·exact z
   ·rw [z] at hk; cases hk
  obtain⟨c,hc⟩:=I.ok.has x (.inl hk)
  obtain⟨w',z⟩:=I.cell x c hc
  refine wpAny_storeName_cell I.ok.kind hk hc z (fun h' kR hs=>?_)
  obtain⟨oc,hoc,CD⟩:=id z
  refine h { s with heap:=h' } ⟨I.ok,I.os,I.bare,⟨fun b o e n hb hx=>?_,fun b o e n hb hx=>?_,I.base.free,fun b o e hx=>?_,I.base.tups,I.base.frzs,I.base.tbls⟩,⟨m,hn.sameBut hs (cR (cne x c hc)),fun j y v' e1 e2 e3=>?_⟩,fun y c' e=>?_,I.free,I.freeC,fun p hp=>?_,tracked ⟨oc,hoc,I.freeC x c hc⟩ hs,by simpa using I.len⟩ ⟨c,hs,.inr hc⟩
  ·exact (hs.2 b (bi (bg (aG e) (I.ok.cab x c yu hc)))).trans (I.base.keep b o e n hb hx)
  ·obtain⟨sl,e1⟩:=I.base.slot b o e n hb hx
   exact⟨sl,(hs.2 b (bi (bg (aG e) (I.ok.cab x c yu hc)))).trans e1⟩
  ·obtain⟨o',e1⟩:=I.base.there b o e hx
   exact⟨o',(hs.2 b (bi (bg (aG e) (I.ok.cab x c yu hc)))).trans e1⟩
  ·by_cases hj:j=i
   ·subst hj
    rw [hi] at e1; cases e1
    rw [cp hiσ] at e2
    cases e2
    exact⟨u,r,.inr ⟨.inl hk,c,hc,kR⟩⟩
   ·rw [bN (cR hj)] at e2
    obtain⟨u',r',q⟩:=hl j y v' e1 e2 e3
    refine⟨u',r',?_⟩
    rcases q with q | ⟨k,c',e,z'⟩
    ·exact .inl q
    ·refine .inr ⟨k,c',e,z'.sameBut hs ?_⟩
     rintro rfl
     exact hj (zfY hN e1 (I.ok.inj _ _ _ e hc ▸ hi))
  ·by_cases lV:c'=c
   ·subst lV; exact⟨_,kR⟩
   ·obtain⟨w2,z2⟩:=I.cell y c' e
    exact⟨w2,z2.sameBut hs lV⟩
  ·obtain⟨e,n,ne,nf,d⟩:=I.pin p hp
   refine⟨(hs.2 p.1 ?_).trans e,n,ne,nf,d⟩
   intro q
   rw [q,hoc] at e
   have q':oc=p.2:=aR e
   exact d w' (by rw [← q']; exact CD)
theorem zca {M:Model} {A:Around} {E:Value→Shared→Prop} {i:Nat} {x:Str} {v:V} {u:Value} {Q:Unit→Shared→Prop} (I:Inv X kE σ H s) (hN:X.N.Nodup) (hi:X.N[i]? = some x) (hx:Loc X.env.scope x) (r:RelV v u)
  (h:∀ s',Inv X kE (σ.set i (some v)) H s'→Q () s') (hf:X.fn x=true∨X.env.scope.names.lookup x=some .local:=by first | exact .inl rfl | exact .inr rfl | assumption):wpAny M A (storeName X.env x u) Q E s :=
 zeZ I hN hi hx r (fun s' I' _=>h s' I') hf
theorem Inv.call' {s':Shared} {ch:List Addr} (I:Inv X kE σ H s) (ho:s'.os=s.os) (u:Un (frs X.stack) ch H H' s.heap s'.heap) (hok:HOk X.prog X.w H' s'.heap) (hg:AllBare s'.gens)
  (qT:∀ b∈ch,(b∈X.ex∨X.s₀.heap.objs.size≤b)∧b≠X.env.locals∧(∀ x c,X.env.cells.lookup x=some c→c≠b)∧∀ p∈X.pn++kE,p.1≠b):Inv X kE σ H' s':=by
 obtain⟨h',g',d',t',o'⟩:=s'
 have e:o'=s.os:=ho
 subst e
 exact I.call (g':=g') (t':=t') (d':=d') u hok hg qT
end
abbrev XK:=Value→Option Addr→Hp→Prop
abbrev St:=List (Option V)
abbrev VK:=V→Hp→Prop
abbrev TE:=St→Hp→VK→Prop
abbrev TT:=St→Hp→(Bool→Hp→Prop)→Prop
abbrev TA:=St→Hp→(List V→Hp→Prop)→Prop
structure Ends where
 nx:St→Hp→Prop
 rt:VK
 bk:St→Hp→Prop:=fun _ _=>False
 ct:St→Hp→Prop:=fun _ _=>False
abbrev TS:=Ends→St→Hp→Prop
def EP (X:Cx) (kE:List (Addr×Obj)) (σ:St) (Q:VK) (u:Value) (s':Shared):Prop:=∃ v H',Inv X kE σ H' s'∧RelV v u∧Q v H'
def TP (X:Cx) (kE:List (Addr×Obj)) (σ:St) (Q:Bool→Hp→Prop) (b:Bool) (s':Shared):Prop:=∃ H',Inv X kE σ H' s'∧Q b H'
def AP (X:Cx) (kE:List (Addr×Obj)) (σ:St) (Q:List V→Hp→Prop) (us:List Value) (s':Shared):Prop:=∃ vs H',Inv X kE σ H' s'∧zN vs us∧Q vs H'
def SP (X:Cx) (kE:List (Addr×Obj)) (D:Ends) (f:Flow) (s':Shared):Prop :=
 match f with
 | .next=>∃ σ' H',Inv X kE σ' H' s'∧D.nx σ' H'
 | .brk=>∃ σ' H',Inv X kE σ' H' s'∧D.bk σ' H'
 | .cont=>∃ σ' H',Inv X kE σ' H' s'∧D.ct σ' H'
 | .ret u=>∃ v σ' H',Inv X kE σ' H' s'∧RelV v u∧D.rt v H'
def PE (X:Cx) (e:Expr) (t:TE):Prop :=
 ∀ (kE:List (Addr×Obj)) (s:Shared) (σ:St) (H:Hp) (Q:VK),Inv X kE σ H s→t σ H Q→wpAny (model X.prog X.w) X.A (eval e X.env) (EP X kE σ Q) X.xe s
def PT (X:Cx) (e:Expr) (t:TT):Prop :=
 ∀ (kE:List (Addr×Obj)) (s:Shared) (σ:St) (H:Hp) (Q:Bool→Hp→Prop),Inv X kE σ H s→t σ H Q→wpAny (model X.prog X.w) X.A (isTrue e X.env (eval e X.env)) (TP X kE σ Q) X.xe s
def PW (X:Cx) (e:Expr) (t:TT):Prop :=
 ∀ (whole:Sem Value) (kE:List (Addr×Obj)) (s:Shared) (σ:St) (H:Hp) (Q:Bool→Hp→Prop),Inv X kE σ H s→t σ H Q→wpAny (model X.prog X.w) X.A (isTrue e X.env whole) (TP X kE σ Q) X.xe s
theorem PW.pt {X:Cx} {e:Expr} {t:TT} (h:PW X e t):PT X e t:=h _
def PA (X:Cx) (es:List Expr) (t:TA):Prop :=
 ∀ (pos:Pos) (kE:List (Addr×Obj)) (s:Shared) (σ:St) (H:Hp) (Q:List V→Hp→Prop),Inv X kE σ H s→t σ H Q→wpAny (model X.prog X.w) X.A (spliced (backTo pos (starEach es X.env))) (AP X kE σ Q) X.xe s
def PS (X:Cx) (st:Stmt) (t:TS):Prop :=
 ∀ (kE:List (Addr×Obj)) (s:Shared) (σ:St) (H:Hp) (D:Ends),Inv X kE σ H s→t D σ H→wpAny (model X.prog X.w) X.A (exec st X.env) (SP X kE D) X.xe s
def PSs (X:Cx) (st:List Stmt) (t:TS):Prop :=
 ∀ (kE:List (Addr×Obj)) (s:Shared) (σ:St) (H:Hp) (D:Ends),Inv X kE σ H s→t D σ H→wpAny (model X.prog X.w) X.A (execs st X.env) (SP X kE D) X.xe s
theorem thn {α:Type} {t:Sem α} {Q Q':α→Shared→Prop} {M:Model} {A:Around} {E:Value→Shared→Prop} {s:Shared} (h:wpAny M A t Q E s) (hQ:∀ a s,Q a s→Q' a s):wpAny M A t Q' E s:=cK h hQ fun _ _ x=>x
section
variable {X:Cx}
def znk (i:Nat):TE:=fun σ H Q=>∃ v,σ[i]? = some (some v)∧Q v H
def tC (v:V):TE:=fun _ H Q=>Q v H
theorem zmr {i:Nat} {x:Str} {pos:Pos} (hN:X.N[i]? = some x) (hv:Vis X.env.scope x) (hd:(x == ("__debug__" : Str))=false:=by decide) (si:(x == ("__classdict__" : Str))=false:=by decide):PE X (.Name x pos) (znk i):=by
 intro kE s σ H Q I h
 obtain⟨v,e,h⟩:=h
 obtain⟨m,hn,hl⟩:=I.loc
 obtain⟨u,r,l⟩:=hl i x v hN e hv
 have fin:EP X kE σ Q u s:=⟨v,H,I,r,h⟩
 rcases l with ⟨hk,hm⟩ | ⟨hk,c,hc,oj⟩
 ·exact j5 (iU I.ok.kind hk hn hm fin) hd
 ·rcases hk with hk | hk
  ·exact j5 (ja I.ok.kind hk hc oj fin) hd
  ·exact j5 (wpAny_loadName_free I.ok.kind hk hc oj fin si) hd
theorem zg {i j pos}:PE X (.Constant (.int i) j pos) (tC (.int i)):=fun _ _ _ H _ I h=>wpAny_Constant_int ⟨.int i,H,I.tok _,⟨_,rfl⟩,h⟩
theorem zbB {b j pos}:PE X (.Constant (.bool b) j pos) (tC (.bl b)):=fun _ _ _ H _ I h=>Constant_bool ⟨.bl b,H,I,rfl,h⟩
theorem zcb {j pos}:PE X (.Constant .none j pos) (tC .non):=fun _ _ _ H _ I h=>Constant_none ⟨.non,H,I,rfl,h⟩
def Gl (X:Cx) (x:Str):Prop:=X.env.kindOf x=some .globalImplicit
theorem zk3 {E:Value→Shared→Prop} {kE:List (Addr×Obj)} {s:Shared} {σ:St} {H:Hp} {x:Str} {u:Value} {pos:Pos} {Q:Value→Shared→Prop} (I:Inv X kE σ H s) (hg:Gl X x) (hm:X.mg x=some u) (h:Q u s)
  (hd:(x == ("__debug__" : Str))=false:=by decide):wpAny (model X.prog X.w) X.A (eval (.Name x pos) X.env) Q E s :=
 gz I.ok.kind hg (Calls.loadGlobal_global (by rw [I.ok.glob]; exact I.mod.glob.keeps I.bk) hm h) hd
theorem zbu {E:Value→Shared→Prop} {kE:List (Addr×Obj)} {s:Shared} {σ:St} {H:Hp} {x:Str} {u:Value} {pos:Pos} {Q:Value→Shared→Prop} (I:Inv X kE σ H s) (hg:Gl X x) (hm:X.mg x=none) (hv:bootBuiltins x=some u) (h:Q u s)
  (hn:x≠"__name__":=by decide) (hd:(x == ("__debug__" : Str))=false:=by decide):wpAny (model X.prog X.w) X.A (eval (.Name x pos) X.env) Q E s:=by
 obtain⟨mb,h1,h2⟩:=I.mod.blt
 exact gz I.ok.kind hg (Calls.loadGlobal_builtin (by rw [I.ok.glob]; exact I.mod.glob.keeps I.bk) hm (by rw [I.ok.blt]; exact h1.keeps I.bk) ((h2 x hn).trans hv) h) hd
theorem zcT {x:Str} {v:V} {u:Value} {pos:Pos} (hg:Gl X x) (hm:X.mg x=none) (hv:bootBuiltins x=some u) (r:RelV v u) (hn:x≠"__name__":=by decide) (hd:(x == ("__debug__" : Str))=false:=by decide):PE X (.Name x pos) (tC v) :=
 fun _ _ _ H _ I h=>zbu I hg hm hv ⟨v,H,I,r,h⟩ hn hd
variable {a b:Expr} {ta tb:TE} {pos:Pos}
def tB (t:TE):TT:=fun σ H Q=>t σ H fun x H1=>∃ c,x = .bl c∧Q c H1
theorem zd2 {e:Expr} {t:TE} (h:PE X e t) (he:∀ whole,isTrue e X.env whole=(do let v ← whole; standAt e.pos; holding [v] (truthy v)):=by intro _; rfl):PT X e (tB t):=by
 intro kE s σ H Q I hw
 refine isTrue_plain (thn (h kE s σ H _ I hw) fun v s1 ⟨x,H1,I1,r1,q1⟩=>?_) (he _)
 obtain⟨d,rfl,q⟩:=q1
 cases r1
 exact dN ⟨H1,I1,q⟩
variable {tA BE:TT} {rest:List Expr}
def znZ (t u:TT):TT:=fun σ H Q=>t σ H fun c H1=>if c=true then u σ H1 Q else Q false H1
def tOr (t u:TT):TT:=fun σ H Q=>t σ H fun c H1=>if c=true then Q true H1 else u σ H1 Q
def zn0 (t:TT):TT:=fun σ H Q=>t σ H fun c H1=>Q (!c) H1
theorem zcU (ha:PT X a tA):PW X (.BoolOp .And [a] pos) tA:=by
 intro wh kE s σ H Q I h
 refine isTrue_and (thn (ha kE s σ H Q I h) fun c s1 e=>?_)
 cases c with
 | true=>exact isTrue_and_nil e
 | false=>exact e
theorem zgX (ha:PT X a tA):PW X (.BoolOp .Or [a] pos) tA:=by
 intro wh kE s σ H Q I h
 refine isTrue_or (thn (ha kE s σ H Q I h) fun c s1 e=>?_)
 cases c with
 | false=>exact isTrue_or_nil e
 | true=>exact e
theorem zd3 (ha:PT X a tA) (hb:PW X (.BoolOp .And (b :: rest) pos) BE):PW X (.BoolOp .And (a :: b :: rest) pos) (znZ tA BE):=by
 intro wh kE s σ H Q I h
 refine isTrue_and (thn (ha kE s σ H _ I h) fun c s1 ⟨H1,I1,q1⟩=>?_)
 cases c with
 | true=>exact hb wh kE s1 σ H1 Q I1 q1
 | false=>exact⟨H1,I1,q1⟩
theorem zd4 (ha:PT X a tA) (hb:PW X (.BoolOp .Or (b :: rest) pos) BE):PW X (.BoolOp .Or (a :: b :: rest) pos) (tOr tA BE):=by
 intro wh kE s σ H Q I h
 refine isTrue_or (thn (ha kE s σ H _ I h) fun c s1 ⟨H1,I1,q1⟩=>?_)
 cases c with
 | true=>exact⟨H1,I1,q1⟩
 | false=>exact hb wh kE s1 σ H1 Q I1 q1
theorem zd5 (ha:PT X a tA):PT X (.UnaryOp .Not a pos) (zn0 tA):=by
 intro kE s σ H Q I h
 exact isTrue_not (ha kE s σ H (fun c H1=>Q (!c) H1) I h)
def znl (ta tb:TE):TE:=fun σ H Q=>ta σ H fun x H1=>∃ c,x = .bl c∧if c=true then tb σ H1 Q else Q (.bl false) H1
def znm (ta:TE):TE:=fun σ H Q=>ta σ H fun x H1=>∃ c,x = .bl c∧Q (.bl (!c)) H1
theorem zgY {op} {t:TE} (h:PE X a t):PE X (.BoolOp op [a] pos) t:=fun kE s σ H Q I hw=>BoolOp_one (h kE s σ H Q I hw)
theorem zgZ (ha:PE X a ta) (hb:PE X (.BoolOp .And (b :: rest) pos) tb):PE X (.BoolOp .And (a :: b :: rest) pos) (znl ta tb):=by
 intro kE s σ H Q I h
 refine BoolOp_and (thn (ha kE s σ H _ I h) fun v s1 ⟨x,H1,I1,r1,q1⟩=>?_)
 obtain⟨c,rfl,q1⟩:=q1
 cases r1
 refine dN ?_
 cases c with
 | true=>exact hb kE s1 σ H1 Q I1 q1
 | false=>exact⟨.bl false,H1,I1,rfl,q1⟩
theorem zms (ha:PE X a ta):PE X (.UnaryOp .Not a pos) (znm ta):=by
 intro kE s σ H Q I h
 refine UnaryOp_ (thn (ha kE s σ H _ I h) fun v s1 ⟨x,H1,I1,r1,q1⟩=>?_)
 obtain⟨c,rfl,q1⟩:=q1
 cases r1
 exact not_of (dN ⟨.bl (!c),H1,I1,rfl,q1⟩)
def tIf (t:TT) (ta tb:TE):TE:=fun σ H Q=>t σ H fun c H1=>if c=true then ta σ H1 Q else tb σ H1 Q
theorem zd6 {c:Expr} (hc:PT X c tA) (ha:PE X a ta) (hb:PE X b tb):PE X (.IfExp c a b pos) (tIf tA ta tb):=by
 intro kE s σ H Q I h
 refine wpAny_IfExp (thn (hc kE s σ H _ I h) fun d s1 ⟨H1,I1,q1⟩=>?_)
 cases d with
 | true=>exact ha kE s1 σ H1 Q I1 q1
 | false=>exact hb kE s1 σ H1 Q I1 q1
end
def kG (K:ah) (H:Hp) (a:Addr) (xs:List V):Prop :=
 Rd H a (.lst xs) ∨
  ∃ (o:Obj) (kK:Array Value) (n:Nat),K.lookup a=some o∧o.cls = .type "list"∧o.dict=none∧o.data = .seq kK n∧kK.size≤sizeLine∧zN xs kK.toList
def kP (K:ah) (H:Hp) (a:Addr) (xs:List V):Prop :=
 Rd H a (.tup xs) ∨
  ∃ (o:Obj) (kK:Array Value) (n:Nat),K.lookup a=some o∧o.cls = .type "tuple"∧o.data = .seq kK n∧kK.size≤sizeLine∧zN xs kK.toList
def zn1:Value→Option V
 | .none=>some .non
 | .bool b=>some (.bl b)
 | .int i _=>some (.int i)
 | .str x _=>some (.str x)
 | .bytes b _=>some (.byt b)
 | .float b _=>some (.flt b)
 | .ref a=>some (.ref a)
 | .type n=>some (.ty n)
 | _=>none
theorem RelV.abs {x:V} {u:Value} (r:RelV x u):zn1 u=some x:=by
 cases x with
 | non=>cases r; rfl
 | bl _=>cases r; rfl
 | int _=>obtain⟨t,rfl⟩:=r; rfl
 | str _=>obtain⟨t,rfl⟩:=r; rfl
 | byt _=>obtain⟨t,rfl⟩:=r; rfl
 | flt _=>obtain⟨t,rfl⟩:=r; rfl
 | ref _=>cases r; rfl
 | ty _=>cases r; rfl
theorem RelV.inj {x y:V} {u:Value} (r:RelV x u) (q:RelV y u):x=y:=aR (r.abs.symm.trans q.abs)
theorem zN.inj:∀ {xs ys:List V} {us:List Value},zN xs us→zN ys us→xs=ys
 | _,_,_,.nil,.nil=>rfl
 | _,_,_,.cons r t,.cons r' t'=>by rw [r.inj r',zN.inj t t']
section
variable {X:Cx} {kE:List (Addr×Obj)} {σ:St} {H:Hp} {s:Shared} {a:Addr} {xs ys:List V}
theorem kG.of {K:ah} (h:H a=some (.lst xs)):kG K H a xs:=.inl (.inl h)
theorem kP.of {K:ah} (h:H a=some (.tup xs)):kP K H a xs:=.inl (.inl h)
theorem Inv.list (I:Inv X kE σ H s) (h:kG X.K H a xs):∃ kK:List Value,zN xs kK∧PlainL s.heap a kK.toArray∧xs.length≤sizeLine:=by
 rcases h with h | ⟨o,kK,n,hk,hc,hd,hs,hz,r⟩
 ·obtain⟨z,kK,n,r,e⟩:=h.ok I.hok
  exact⟨kK,r,⟨_,n,e,rfl,rfl,rfl⟩,z⟩
 ·refine⟨kK.toList,r,⟨o,n,I.kIn a o hk,hc,hd,by simpa using hs⟩,?_⟩
  have e:=r.length
  simp only [bv] at e
  lia
theorem Inv.tuple (I:Inv X kE σ H s) (h:kP X.K H a xs):∃ kK:List Value,zN xs kK∧IsTup s.heap a kK.toArray∧xs.length≤sizeLine:=by
 rcases h with h | ⟨o,kK,n,hk,hc,hs,hz,r⟩
 ·obtain⟨z,kK,r,p⟩:=h.ok I.hok
  exact⟨kK,r,p,z⟩
 ·refine⟨kK.toList,r,⟨o,I.kIn a o hk,hc,n,by simpa using hs⟩,?_⟩
  have e:=r.length
  simp only [bv] at e
  lia
theorem Inv.list_inj (I:Inv X kE σ H s) (h:kG X.K H a xs) (h':kG X.K H a ys):xs=ys:=by
 obtain⟨kK,r,⟨o,n,e,_,_,d⟩,_⟩:=I.list h
 obtain⟨its',r',⟨o',n',e',_,_,d'⟩,_⟩:=I.list h'
 rw [e] at e'; cases e'
 rw [d] at d'
 injection d' with d1 _
 have:kK=its':=by simpa using congrArg ky d1
 subst this
 exact r.inj r'
theorem Inv.tuple_inj (I:Inv X kE σ H s) (h:kP X.K H a xs) (h':kP X.K H a ys):xs=ys:=by
 obtain⟨kK,r,⟨o,e,_,n,d⟩,_⟩:=I.tuple h
 obtain⟨its',r',⟨o',e',_,n',d'⟩,_⟩:=I.tuple h'
 rw [e] at e'; cases e'
 rw [d] at d'
 injection d' with d1 _
 have:kK=its':=by simpa using congrArg ky d1
 subst this
 exact r.inj r'
end
abbrev Cx.wish (X:Cx) (E:Value→Shared→Prop):Cx:={ X with xe:=E }
abbrev Cx.nox (X:Cx):Cx:=X.wish fun _ _=>False
theorem Cx.Ok.wish {X:Cx} (ok:X.Ok) (E:Value→Shared→Prop):(X.wish E).Ok :=
 ⟨ok.mod,ok.kind,ok.glob,ok.blt,ok.above,ok.inj,ok.has,ok.cab,ok.hd,ok.frames,ok.stk,ok.exf,ok.bs,ok.bsz,ok.noex,ok.exfs,ok.funs,ok.frf⟩
theorem Cx.Ok.unwish {X:Cx} {E:Value→Shared→Prop} (ok:(X.wish E).Ok):X.Ok :=
 ⟨ok.mod,ok.kind,ok.glob,ok.blt,ok.above,ok.inj,ok.has,ok.cab,ok.hd,ok.frames,ok.stk,ok.exf,ok.bs,ok.bsz,ok.noex,ok.exfs,ok.funs,ok.frf⟩
section
variable {X:Cx} {kE:List (Addr×Obj)} {σ:St} {H:Hp} {s:Shared} {E:Value→Shared→Prop}
theorem Inv.wish (I:Inv X kE σ H s) (E:Value→Shared→Prop):Inv (X.wish E) kE σ H s:=⟨I.ok.wish E,I.os,I.bare,I.base,I.loc,I.cell,I.free,I.freeC,I.pin,I.hok,I.len⟩
theorem Inv.unwish (I:Inv (X.wish E) kE σ H s):Inv X kE σ H s:=⟨I.ok.unwish,I.os,I.bare,I.base,I.loc,I.cell,I.free,I.freeC,I.pin,I.hok,I.len⟩
theorem SP.unwish {D:Ends} {f:Flow} {s':Shared} (h:SP (X.wish E) kE D f s'):SP X kE D f s':=by
 cases f with
 | next=>obtain⟨σ',H',I,q⟩:=h; exact⟨σ',H',I.unwish,q⟩
 | brk=>obtain⟨σ',H',I,q⟩:=h; exact⟨σ',H',I.unwish,q⟩
 | cont=>obtain⟨σ',H',I,q⟩:=h; exact⟨σ',H',I.unwish,q⟩
 | ret u=>obtain⟨v,σ',H',I,r,q⟩:=h; exact⟨v,σ',H',I.unwish,r,q⟩
theorem PSs.nox {st:List Stmt} {t:TS} (h:PSs X.nox st t):PSs X st t:=fun kE s σ H D I hw =>
 cK (h kE s σ H D (I.wish _) hw) (fun _ _ q=>q.unwish) fun _ _ z=>dQ z
end
section
variable {X:Cx} {st:Stmt} {rest:List Stmt} {t u:TS} {e:Expr} {te:TE} {pos:Pos}
def znn:TS:=fun D σ H=>D.nx σ H
def zno (t u:TS):TS:=fun D σ H=>t { D with nx:=u D } σ H
theorem zZ:PSs X [] znn:=fun _ _ σ H _ I h=>fR ⟨σ,H,I,h⟩
theorem zd (h1:PS X st t) (h2:PSs X rest u):PSs X (st :: rest) (zno t u):=by
 intro kE s σ H D I h
 refine wpAny_execs_cons (thn (h1 kE s σ H { D with nx:=u D } I h) fun f s1 q=>?_)
 cases f with
 | next =>
  obtain⟨σ',H',I',q⟩:=q
  exact h2 kE s1 σ' H' D I' q
 | ret v=>exact q
 | brk=>exact q
 | cont=>exact q
theorem zl (h1:PS X st t):PSs X [st] t:=by
 intro kE s σ H D I h
 refine wpAny_execs_cons (thn (h1 kE s σ H D I h) fun f s1 q=>?_)
 cases f with
 | next=>exact fR q
 | ret v=>exact q
 | brk=>exact q
 | cont=>exact q
theorem Inv.quiet {kE:List (Addr×Obj)} {σ:St} {H:Hp} {s:Shared} (I:Inv X kE σ H s):interactive X.env=false:=by simp [interactive,I.ok.kind]
def znp (te:TE):TS:=fun D σ H=>te σ H fun _ H1=>D.nx σ H1
theorem zbS (he:PE X e te) (hs:swapsWith e none pos.line X.env=pure false:=by rfl):PS X (.Expr e pos) (znp te):=by
 intro kE s σ H D I h
 exact wpAny_Expr_any (thn (he kE s σ H _ I h) fun v s1 ⟨x,H1,I1,r1,q1⟩=>⟨σ,H1,I1,q1⟩) I.quiet hs
def zn2 (te:TE):TS:=fun D σ H=>te σ H D.rt
theorem zE (he:PE X e te):PS X (.Return (some e) pos) (zn2 te):=by
 intro kE s σ H D I h
 exact wpAny_Return_some (thn (he kE s σ H _ I h) fun v s1 ⟨x,H1,I1,r1,q1⟩=>⟨x,σ,H1,I1,r1,q1⟩)
def zn3 (c:TT) (t u:TS):TS:=fun D σ H=>c σ H fun b H1=>if b=true then t D σ H1 else u D σ H1
theorem zaJ {c:Expr} {a b:List Stmt} {tc:TT} (hc:PT X c tc) (ha:PSs X a t) (hb:PSs X b u):PS X (.If c a b pos) (zn3 tc t u):=by
 intro kE s σ H D I h
 refine wpAny_If (thn (hc kE s σ H _ I h) fun d s1 ⟨H1,I1,q1⟩=>?_)
 cases d with
 | true=>exact ha kE s1 σ H1 D I1 q1
 | false=>exact hb kE s1 σ H1 D I1 q1
def zmt:TS:=fun _ _ _=>False
theorem ziG {sts:List Stmt}:PSs X sts zmt:=fun _ _ _ _ _ _ h=>h.elim
end
abbrev TG:=V→St→Hp→(St→Hp→Prop)→Prop
abbrev TGs:=List V→St→Hp→(St→Hp→Prop)→Prop
def PG (X:Cx) (target:Expr) (t:TG):Prop :=
 ∀ (kE:List (Addr×Obj)) (s:Shared) (σ:St) (H:Hp) (v:V) (u:Value) (Q:St→Hp→Prop),Inv X kE σ H s→RelV v u→t v σ H Q →
  wpAny (model X.prog X.w) X.A (assign target X.env u) (fun _ s'=>∃ σ' H',Inv X kE σ' H' s'∧Q σ' H') X.xe s
def PGs (X:Cx) (ts:List Expr) (t:TGs):Prop :=
 ∀ (kE:List (Addr×Obj)) (s:Shared) (σ:St) (H:Hp) (vs:List V) (us:List Value) (Q:St→Hp→Prop),Inv X kE σ H s→zN vs us→t vs σ H Q →
  wpAny (model X.prog X.w) X.A (assignInOrder ((assignEach ts X.env).map (·.2)) us) (fun _ s'=>∃ σ' H',Inv X kE σ' H' s'∧Q σ' H') X.xe s
abbrev zmu:=V→V→V→Hp→(Hp→Prop)→Prop
def znq (X:Cx) (t:zmu):Prop :=
 ∀ (kE:List (Addr×Obj)) (s:Shared) (σ:St) (H:Hp) (o i v:V) (ov iv u:Value) (Q:Hp→Prop),Inv X kE σ H s→RelV o ov→RelV i iv→RelV v u→t o i v H Q →
  wpAny (model X.prog X.w) X.A (setItem ov iv u) (fun _ s'=>∃ H',Inv X kE σ H' s'∧Q H') X.xe s
abbrev TIp:=V→V→Hp→VK→Prop
def PIp (X:Cx) (op:Operator) (t:TIp):Prop :=
 ∀ (kE:List (Addr×Obj)) (s:Shared) (σ:St) (H:Hp) (x y:V) (v u:Value) (Q:VK),Inv X kE σ H s→RelV x v→RelV y u→t x y H Q →
  wpAny (model X.prog X.w) X.A (inplaceOp op v u) (EP X kE σ Q) X.xe s
section
variable {X:Cx} {pos:Pos}
def za0 (i:Nat):TG:=fun v σ H Q=>Q (σ.set i (some v)) H
theorem zf {i:Nat} {x:Str} (hN:X.N.Nodup) (hi:X.N[i]? = some x) (hx:Loc X.env.scope x) (hf:X.fn x=true∨X.env.scope.names.lookup x=some .local:=by first | exact .inl rfl | exact .inr rfl | assumption):PG X (.Name x pos) (za0 i):=by
 intro kE s σ H v u Q I r h
 exact wpAny_assign_Name (zca I hN hi hx r (fun s' I'=>⟨_,H,I',h⟩) hf)
def ziH:TGs:=fun vs σ H Q=>vs = []∧Q σ H
def zcG (t:TG) (u:TGs):TGs:=fun vs σ H Q=>∃ v r,vs=v :: r∧t v σ H fun σ' H'=>u r σ' H' Q
theorem zK:PGs X [] ziH:=by
 intro kE s σ H vs us Q I r h
 obtain⟨e,h⟩:=h
 subst e
 cases r
 exact assignInOrder_nil ⟨σ,H,I,h⟩
theorem zj {e:Expr} {es:List Expr} {t:TG} {u:TGs} (h1:PG X e t) (h2:PGs X es u)
  (hs:(assignEach (e :: es) X.env).map (·.2)=assign e X.env :: (assignEach es X.env).map (·.2):=by rfl):PGs X (e :: es) (zcG t u):=by
 intro kE s σ H vs us Q I r h
 obtain⟨v,vr,e1,h⟩:=h
 subst e1
 cases r with
 | cons r rr =>
  rw [hs]
  refine gp (thn (h1 kE s σ H _ _ _ I r h) fun _ s1 ⟨σ1,H1,I1,q1⟩=>?_)
  exact h2 kE s1 σ1 H1 _ _ Q I1 rr q1
def zg0 (K:ah) (n:Nat) (t:TGs):TG:=fun v σ H Q=>∃ a xs,v = .ref a∧kP K H a xs∧xs.length=n∧t xs σ H Q
theorem zav {es:List Expr} {k:Nat} {t:TGs} {n:Nat} (hc:X.calm=true) (h:PGs X es t)
  (hn:(assignEach es X.env).length=n:=by rfl) (qU:(assignEach es X.env).findIdx? (·.1)=none:=by rfl):PG X (.Tuple es k pos) (zg0 X.K n t):=by
 intro kE s σ H v u Q I r hw
 obtain⟨a,xs,e1,hq,hl,hw⟩:=hw
 subst e1
 cases r
 obtain⟨kK,rv,ht,hz⟩:=I.tuple hq
 refine assign_Tuple_tuple (I.ok.hd hc) ht (by simp [hn,← hl,rv.length]) qU fun h' hx=>?_
 have I1:Inv X kE σ H { s with heap:=h' }:=I.kept (t':=s.toks) fun b o e=>hx b o (bi (aG e)) e
 exact h kE _ σ H xs _ Q I1 (by simpa using rv) hw
def zn4 (to ti:TE) (t:zmu):TG:=fun v σ H Q=>to σ H fun o H1=>ti σ H1 fun i H2=>t o i v H2 fun H3=>Q σ H3
theorem zcL {o i:Expr} {to ti:TE} {t:zmu} (ho:PE X o to) (hi:PE X i ti) (hs:znq X t)
  (ha:∀ v,assign (.Subscript o i pos) X.env v=(do
   let ov ← holding [v] (eval o X.env)
   let iv ← holding [v,ov] (eval i X.env)
   standAt pos
   holding [v,ov,iv] (setItem ov iv v)
   release [v,ov,iv] []):=by intro _; rfl):PG X (.Subscript o i pos) (zn4 to ti t):=by
 intro kE s σ H v u Q I r h
 rw [ha]
 refine ae (b9 (thn (ho kE s σ H _ I h) fun ov s1 ⟨x,H1,I1,r1,q1⟩=>?_))
 refine ae (b9 (thn (hi kE s1 σ H1 _ I1 q1) fun iv s2 ⟨y,H2,I2,r2,q2⟩=>?_))
 refine ae (eg (ae (b9 (thn (hs kE s2 σ H2 x y v ov iv u _ I2 r1 r2 r q2) fun _ s3 ⟨H3,I3,q3⟩=>?_))))
 exact wpAny_release ⟨σ,H3,I3,q3⟩
def zg1 (te:TE) (g:TG):TS:=fun D σ H=>te σ H fun x H1=>g x σ H1 D.nx
theorem zaG {tg e:Expr} {te:TE} {g:TG} (he:PE X e te) (hg:PG X tg g) (hs:swapsWithSole [tg] e pos.line X.env=pure false:=by rfl) (hw:swappedStores [tg] e X.env=pure none:=by rfl)
  (h1:(assignEach [tg] X.env).map (·.2) = [assign tg X.env]:=by rfl):PS X (.Assign [tg] e pos) (zg1 te g):=by
 intro kE s σ H D I h
 refine wpAny_Assign_stores (thn (he kE s σ H _ I h) fun v s1 ⟨x,H1,I1,r1,q1⟩=>?_) hs hw
 rw [h1]
 exact thn (hg kE s1 σ H1 x v _ I1 r1 q1) fun _ s2 q=>q
theorem zp {i:Nat} {x:Str} {e:Expr} {te:TE} {pos':Pos} (hN:X.N.Nodup) (hi:X.N[i]? = some x) (hx:Loc X.env.scope x) (he:PE X e te) (hs:swapsWith e (some (.Name x pos')) pos.line X.env=pure false:=by rfl) (hf:X.fn x=true∨X.env.scope.names.lookup x=some .local:=by first | exact .inl rfl | exact .inr rfl | assumption) :
  PS X (.Assign [.Name x pos'] e pos) (zg1 te (za0 i)):=by
 intro kE s σ H D I h
 refine wpAny_Assign_Name (thn (he kE s σ H _ I h) fun v s1 ⟨y,H1,I1,r1,q1⟩=>?_) hs
 exact zca I1 hN hi hx r1 (fun s2 I2=>⟨_,H1,I2,q1⟩) hf
def zn5 (i j:Nat) (ta:TA):TS:=fun D σ H=>ta σ H fun vs H1=>∃ v w,vs = [v,w]∧D.nx ((σ.set i (some v)).set j (some w)) H1
theorem zmv {i j:Nat} {x y:Str} {a b:Expr} {ta:TA} {px py pt:Pos} {kt k2 CF} (hc:X.calm=true) (hN:X.N.Nodup) (hi:X.N[i]? = some x) (hj:X.N[j]? = some y) (oE:i≠j)
  (hx:X.env.scope.names.lookup x=some .local) (hy:X.env.scope.names.lookup y=some .local) (ha:PA X [a,b] ta)
  (hw:swappedStores [.Tuple [.Name x px,.Name y py] kt pt] (.Tuple [a,b] k2 CF) X.env=pure (some [x,y]))
  (hs:swapsWithSole [.Tuple [.Name x px,.Name y py] kt pt] (.Tuple [a,b] k2 CF) pos.line X.env=pure false:=by rfl) :
  PS X (.Assign [.Tuple [.Name x px,.Name y py] kt pt] (.Tuple [a,b] k2 CF) pos) (zn5 i j ta):=by
 intro kE s σ H D I h
 rw [exec_Assign_arm]
 refine ae (eg ?_)
 rw [hs]
 refine ae (ao ?_)
 rw [if_neg (by decide)]
 refine ae (Tuple_ (thn (ha _ kE s σ H _ I h) fun us s1 ⟨vs,H1,I1,r1,q1⟩=>?_))
 obtain⟨v,w,e1,q1⟩:=q1
 subst e1
 obtain⟨u1,u2,rfl,rv,sj⟩:∃ u1 u2,us = [u1,u2]∧RelV v u1∧RelV w u2:=by
  cases r1 with
  | cons p q =>
   cases q with
   | cons p' q' =>
    cases q'
    exact⟨_,_,rfl,p,p'⟩
 refine bG ?_ (by show 2≤sizeLine; decide)
 have I2:Inv X kE σ H1 { s1 with heap:=s1.heap.push { cls:=.type "tuple",data:=.seq [u1,u2].toArray } }:=I1.kept (t':=s1.toks) fun b o e=>ai _ e
 rw [hw]
 refine ae (ao ?_)
 show wpAny (model X.prog X.w) X.A (do rule "assign.swapped-stores"; let items ← unpackItems (.ref s1.heap.objs.size) 2 none; assignInOrder [fun v=>bindName X.env y v,fun v=>bindName X.env x v] items.reverse; pure Flow.next) _ _ _
 refine ae (b8 (ae (unpackItems_tuple (items:=#[u1,u2]) (I.ok.hd hc) (gq s1.heap _) fun h' tL=>?_)))
 have I3:=I2.kept (h':=h') (t':=s1.toks) fun b o e=>tL b o (bi (aG e)) e
 show wpAny _ _ (assignInOrder [fun v=>bindName X.env y v,fun v=>bindName X.env x v] [u2,u1] >>= fun _=>pure Flow.next) _ _ _
 refine ae (gp (wpAny_bindName (zca I3 hN hj (.inl hy) sj (fun s2 I4=>?_) (.inr hy))))
 refine gp (wpAny_bindName (zca I4 hN hi (.inl hx) rv (fun s3 I5=>assignInOrder_nil (ao ?_)) (.inr hx)))
 rw [List.set_comm _ _ (cR oE)] at I5
 exact⟨_,H1,I5,q1⟩
def zn6 (i:Nat) (te:TE) (ti:TIp):TS:=fun D σ H=>∃ x,σ[i]? = some (some x)∧te σ H fun y H1=>ti x y H1 fun z H2=>D.nx (σ.set i (some z)) H2
theorem zjx {i:Nat} {x:Str} {e:Expr} {te:TE} {op:Operator} {ti:TIp} {pos':Pos} (hN:X.N.Nodup) (hi:X.N[i]? = some x) (hx:Loc X.env.scope x) (he:PE X e te) (ho:PIp X op ti) (hf:X.fn x=true∨X.env.scope.names.lookup x=some .local:=by first | exact .inl rfl | exact .inr rfl | assumption) :
  PS X (.AugAssign (.Name x pos') op e pos) (zn6 i te ti):=by
 intro kE s σ H D I h
 obtain⟨v,e1,h⟩:=h
 obtain⟨m,hn,hl⟩:=I.loc
 have vis:Vis X.env.scope x:=by rcases hx with k | k; exact .inl k; exact .inr (.inl k)
 obtain⟨u,r,l⟩:=hl i x v hi e1 vis
 refine wpAny_AugAssign_Name ?_
 have go:wpAny (model X.prog X.w) X.A (eval e X.env) (fun w s₂=>wpAny (model X.prog X.w) X.A (inplaceOp op u w) (fun r s₃=>wpAny (model X.prog X.w) X.A (storeName X.env x r) (fun _=>SP X kE D .next) X.xe s₃) X.xe s₂) X.xe s:=by
  refine thn (he kE s σ H _ I h) fun w s1 ⟨y,H1,I1,r1,q1⟩=>?_
  refine thn (ho kE s1 σ H1 v y u w _ I1 r r1 q1) fun z s2 ⟨zv,H2,I2,r2,q2⟩=>?_
  exact zca I2 hN hi hx r2 (fun s3 I3=>⟨_,H2,I3,q2⟩) hf
 rcases l with ⟨hk,hm⟩ | ⟨hk,c,hc,oj⟩
 ·exact iU I.ok.kind hk hn hm go
 ·rcases hk with hk | hk
  ·exact ja I.ok.kind hk hc oj go
  ·rcases hx with k | k
   ·have:X.env.scope.names.lookup x=some .free:=hk
    rw [k] at this; cases this
   ·have:X.env.scope.names.lookup x=some .free:=hk
    rw [k] at this; cases this
def zjy (c:TT) (tb:TS):TS:=fun D σ H=>∃ W:Nat→St→Hp→Prop,(∃ m,W m σ H)∧∀ m σ H,W m σ H →
 c σ H fun b H1=>if b=true then ∃ N:St→Hp→Prop,(∀ σ' H',N σ' H'→∃ m',m' < m∧W m' σ' H')∧tb { D with nx:=N,ct:=N,bk:=D.nx } σ H1 else D.nx σ H1
theorem zd7 {c:Expr} {body:List Stmt} {tc:TT} {tb:TS} (hp:PassesOwn (model X.prog X.w) X.A X.env X.xe) (hc:PT X c tc) (hb:PSs X body tb):PS X (.While c body [] pos) (zjy tc tb):=by
 intro kE s σ H D I h
 obtain⟨W,⟨m0,w0⟩,turn⟩:=h
 refine wpAny_While (codeAny_whileLoop (fun n s'=>∃ σ' H',Inv X kE σ' H' s'∧W n σ' H') ?_ m0 ⟨σ,H,I,w0⟩)
 rintro n s1 ⟨σ1,H1,I1,w1⟩
 refine dF hp (thn (hc kE s1 σ1 H1 _ I1 (turn n σ1 H1 w1)) fun b s2 ⟨H2,I2,q2⟩=>?_)
 cases b with
 | true =>
  obtain⟨N,hN,q2⟩:=q2
  rw [if_pos rfl]
  refine dF hp (thn (hb kE s2 σ1 H2 _ I2 q2) fun f s3 q3=>?_)
  cases f with
  | next =>
   obtain⟨σ3,H3,I3,n3⟩:=q3
   obtain⟨m',hm,w3⟩:=hN σ3 H3 n3
   exact⟨m',hm,σ3,H3,I3,w3⟩
  | cont =>
   obtain⟨σ3,H3,I3,n3⟩:=q3
   obtain⟨m',hm,w3⟩:=hN σ3 H3 n3
   exact⟨m',hm,σ3,H3,I3,w3⟩
  | brk=>exact q3
  | ret v=>exact q3
 | false =>
  rw [if_neg aM]
  exact fR ⟨σ1,H2,I2,q2⟩
end
structure It where
 go:Nat→Hp→Prop
 yld:Nat→Hp→V→Hp→Prop
 stop:Nat→Hp→Prop
def zcc (X:Cx) (kE:List (Addr×Obj)) (H:Hp) (b:Addr):Prop :=
 H b=none∧b≠X.env.locals∧b∉X.fs∧(b∈X.ex∨X.s₀.heap.objs.size≤b)∧(∀ x c,X.env.cells.lookup x=some c→c≠b)∧∀ p∈X.pn++kE,p.1≠b
theorem Inv.fpOk {X:Cx} {kE:List (Addr×Obj)} {σ:St} {H H':Hp} {s:Shared} {b:Addr} (I:Inv X kE σ H s) (hb:s.heap.objs.size≤b) (hn:H' b=none):zcc X kE H' b:=by
 refine⟨hn,fe (bg I.lt hb),I.nofs hb,.inr (be I.sz hb),fun x c e z=>?_,fun p hp z=>?_⟩
 ·obtain⟨v,q⟩:=I.cell x c e
  exact absurd (bg q.lt (by rw [z]; exact hb)) (bY _)
 ·exact absurd (bg (aG (I.pin p hp).1) (by rw [z]; exact hb)) (bY _)
structure Turn (P:Program) (w:World) (K:ah) (tg:Expr) (J:It) (fp:List Addr) (it:Addr) (tn:Nat→Heap→Prop):Prop where
 mem:it∈fp
 obj:∀ i h,tn i h→∀ b∈fp,∃ o,h.get? b=some o∧∀ v,o.data≠.cell v
 keep:∀ i h h',tn i h→(∀ b∈fp,∀ o,h.get? b=some o→h'.get? b=some o)→tn i h'
 item:∀ (X:Cx),X.prog=P→X.w=w→X.K=K→X.calm=true→∀ (i:Nat) (kE:List (Addr×Obj)) (s:Shared) (σ:St) (H:Hp) (E:Value→Shared→Prop),Inv X kE σ H s→(∀ b∈fp,zcc X kE H b)→tn i s.heap→J.go i H →
  wpAny (model P w) X.A (pyNext (.ref it)) (fun r s1=>∃ u,r=some u ∧
   wpAny (model P w) X.A (letOwnedTupleGo tg (.ref it) u) (fun _ s2=>∃ x H',Inv X kE σ H' s2∧RelV x u∧J.yld i H x H'∧tn (i+1) s2.heap∧∀ b∈fp,H' b=none) E s1) E s
 done:∀ (X:Cx),X.prog=P→X.w=w→X.K=K→X.calm=true→∀ (i:Nat) (kE:List (Addr×Obj)) (s:Shared) (σ:St) (H:Hp) (E:Value→Shared→Prop),Inv X kE σ H s→(∀ b∈fp,zcc X kE H b)→tn i s.heap→J.stop i H →
  wpAny (model P w) X.A (pyNext (.ref it)) (fun r s1=>r=none∧Inv X kE σ H s1) E s
 self:∀ (A:Around) (i:Nat) (s:Shared) (Q:Value→Shared→Prop) (E:Value→Shared→Prop),tn i s.heap→Q (.ref it) s→wpAny (model P w) A (pyIter (.ref it)) Q E s
abbrev TI:=St→Hp→(It→Hp→Prop)→Prop
def PIE (X:Cx) (kE:List (Addr×Obj)) (σ:St) (tg:Expr) (R:It→Hp→Prop) (wy:Value) (s2:Shared):Prop :=
 ∃ (it:Addr) (fp:List Addr) (tn:Nat→Heap→Prop) (J:It) (H':Hp),wy = .ref it∧Inv X kE σ H' s2∧Turn X.prog X.w X.K tg J fp it tn∧tn 0 s2.heap∧(∀ b∈fp,zcc X kE H' b)∧R J H'
def PI (X:Cx) (tg iter:Expr) (wi:TI):Prop :=
 ∀ (kE:List (Addr×Obj)) (s:Shared) (σ:St) (H:Hp) (R:It→Hp→Prop),Inv X kE σ H s→wi σ H R →
  wpAny (model X.prog X.w) X.A (eval iter X.env) (fun v s1=>wpAny (model X.prog X.w) X.A (pyIter v) (PIE X kE σ tg R) X.xe s1) X.xe s
theorem zfZ {M:Model} {A:Around} {E:Value→Shared→Prop} {s:Shared} {tg:Expr} {it:Addr} {u:Value} {o:Obj} {n:String} {vs:Array Value} {Q:Unit→Shared→Prop} (ho:s.heap.get? it=some o) (hc:o.cls = .type n) (hd:o.data = .fields vs)
  (hn:["enumerate","zip","dict_itemiterator","dict_reverseitemiterator","odict_iterator","itertools.zip_longest","itertools.pairwise"].contains n=false) (hQ:Q () s):wpAny M A (letOwnedTupleGo tg (.ref it) u) Q E s:=by
 unfold letOwnedTupleGo
 cases tg <;> first
  | exact ao hQ
  | (cases u <;> first
    | exact ao hQ
    | (refine ae (wpAny_load ho ?_)
       rw [hc,hd]
       show wpAny M A (if (["enumerate","zip","dict_itemiterator","dict_reverseitemiterator","odict_iterator","itertools.zip_longest","itertools.pairwise"].contains n && vs[0]? == some (rawInt _))=true then _ else _) Q E s
       rw [if_neg (by intro h; rw [hn,Bool.false_and] at h; cases h)]
       exact ao hQ))
def Itl (K:ah) (a:Addr):It :=
 ⟨fun i H=>∃ xs x,kG K H a xs∧xs[i]? = some x,fun i H x H'=>H'=H∧∀ xs,kG K H a xs→xs[i]? = some x,fun i H=>∃ xs,kG K H a xs∧xs.length≤i⟩
def Itt (K:ah) (a:Addr):It :=
 ⟨fun i H=>∃ xs x,kP K H a xs∧xs[i]? = some x,fun i H x H'=>H'=H∧∀ xs,kP K H a xs→xs[i]? = some x,fun i H=>∃ xs,kP K H a xs∧xs.length≤i⟩
def Itr (lo:Int) (n:Nat):It:=⟨fun i _=>i < n,fun i H x H'=>H'=H∧x = .int (lo+i),fun i _=>n≤i⟩
theorem ze0 {P:Program} {w:World} {K:ah} {tg:Expr} (a it:Addr):Turn P w K tg (Itl K a) [it] it (fun i h=>h.IsListIter it a i) where
 mem:=by simp
 obj:=fun i h st b hb=>by
  have e:b=it:=by simpa using hb
  subst e
  obtain⟨o,e,c,d⟩:=st
  exact⟨o,e,fun v z=>by rw [d] at z; cases z⟩
 keep:=fun i h h' st k=>st.at fun o e=>k it (by simp) o e
 item:=by
  intro X hP hw hK hc i kE s σ H E I hf st hg
  subst hP hw hK
  obtain⟨xs,x,hq,hx⟩:=hg
  obtain⟨kK,rv,p,hz⟩:=I.list hq
  obtain⟨u,hu,ru⟩:=rv.get hx
  obtain⟨f0,f1,f2,f3,f4,f5⟩:=hf it (by simp)
  refine wpAny_pyNext_list_item st p.isList (x:=u) (by simpa using hu) fun h' kM sb=>?_
  have I1:Inv X kE σ H { s with heap:=h' }:=I.turned (t':=s.toks) (fun b o hb e=>(sb.2 b hb).trans e) f0 f1 f3 f4 f5
  obtain⟨o,e,c,d⟩:=id kM
  exact⟨u,rfl,zfZ (s:={ s with heap:=h' }) e c d (by decide) ⟨x,H,I1,ru,⟨rfl,fun ys hy=>by rw [I.list_inj hy hq]; exact hx⟩,kM,fun b hb=>(hf b hb).1⟩⟩
 done:=by
  intro X hP hw hK hc i kE s σ H E I hf st hg
  subst hP hw hK
  obtain⟨xs,hq,hx⟩:=hg
  obtain⟨kK,rv,p,hz⟩:=I.list hq
  obtain⟨f0,f1,f2,f3,f4,f5⟩:=hf it (by simp)
  have hl:=rv.length
  exact wpAny_pyNext_list_end (I.ok.hd hc) st p.isList (by simp; lia) fun h' eb=>⟨rfl,I.turned (t':=s.toks) (fun b o hb e=>eb b o hb e) f0 f1 f3 f4 f5⟩
 self:=fun _ _ _ _ _ st h=>wpAny_pyIter_listiter st h
theorem zd8 {P:Program} {w:World} {K:ah} {tg:Expr} (a it:Addr):Turn P w K tg (Itt K a) [it] it (fun i h=>h.IsTupleIter it a i) where
 mem:=by simp
 obj:=fun i h st b hb=>by
  have e:b=it:=by simpa using hb
  subst e
  obtain⟨o,e,c,d⟩:=st
  exact⟨o,e,fun v z=>by rw [d] at z; cases z⟩
 keep:=fun i h h' st k=>st.at fun o e=>k it (by simp) o e
 item:=by
  intro X hP hw hK hc i kE s σ H E I hf st hg
  subst hP hw hK
  obtain⟨xs,x,hq,hx⟩:=hg
  obtain⟨kK,rv,p,hz⟩:=I.tuple hq
  obtain⟨u,hu,ru⟩:=rv.get hx
  obtain⟨f0,f1,f2,f3,f4,f5⟩:=hf it (by simp)
  refine wpAny_pyNext_tuple_item st (show s.heap.IsTuple a kK.toArray from p) (x:=u) (by simpa using hu) fun h' kM sb=>?_
  have I1:Inv X kE σ H { s with heap:=h' }:=I.turned (t':=s.toks) (fun b o hb e=>(sb.2 b hb).trans e) f0 f1 f3 f4 f5
  obtain⟨o,e,c,d⟩:=id kM
  exact⟨u,rfl,zfZ (s:={ s with heap:=h' }) e c d (by decide) ⟨x,H,I1,ru,⟨rfl,fun ys hy=>by rw [I.tuple_inj hy hq]; exact hx⟩,kM,fun b hb=>(hf b hb).1⟩⟩
 done:=by
  intro X hP hw hK hc i kE s σ H E I hf st hg
  subst hP hw hK
  obtain⟨xs,hq,hx⟩:=hg
  obtain⟨kK,rv,p,hz⟩:=I.tuple hq
  obtain⟨f0,f1,f2,f3,f4,f5⟩:=hf it (by simp)
  have hl:=rv.length
  exact wpAny_pyNext_tuple_end (I.ok.hd hc) st (show s.heap.IsTuple a kK.toArray from p) (by simp; lia) fun h' eb=>⟨rfl,I.turned (t':=s.toks) (fun b o hb e=>eb b o hb e) f0 f1 f3 f4 f5⟩
 self:=fun _ _ _ _ _ st h=>wpAny_pyIter_tupleiter st h
theorem zg2 {P:Program} {w:World} {K:ah} {tg:Expr} (it:Addr) (lo:Int) (n:Nat):Turn P w K tg (Itr lo n) [it] it (fun i h=>IsRangeIter h it (lo+(i:Nat)*1) ((n:Int) - (i:Nat)) 1) where
 mem:=by simp
 obj:=fun i h st b hb=>by
  have e:b=it:=by simpa using hb
  subst e
  exact⟨_,st,fun v z=>by
   have z':jK _=Data.cell v:=z
   cases z'⟩
 keep:=fun i h h' st k=>k it (by simp) _ st
 item:=by
  intro X hP hw hK hc i kE s σ H E I hf st hg
  subst hP hw hK
  obtain⟨f0,f1,f2,f3,f4,f5⟩:=hf it (by simp)
  have W:=Walks.range (prog:=X.prog) (w:=X.w) (I.ok.hd hc) it lo 1 n
  refine W.item i s _ _ hg st fun v h' tk hv kM kk=>?_
  obtain⟨t,rfl⟩:=hv
  have I1:Inv X kE σ H { s with heap:=h',toks:=tk }:=I.turned (fun b o hb e=>kk b o (by simpa using hb) e) f0 f1 f3 f4 f5
  refine⟨_,rfl,zfZ (s:={ s with heap:=h',toks:=tk }) (n:="range_iterator") kM rfl rfl (by decide) ⟨.int (lo+i),H,I1,⟨t,?_⟩,⟨rfl,rfl⟩,kM,fun b hb=>(hf b hb).1⟩⟩
  rw [iC]
 done:=by
  intro X hP hw hK hc i kE s σ H E I hf st hg
  subst hP hw hK
  obtain⟨f0,f1,f2,f3,f4,f5⟩:=hf it (by simp)
  exact wpAny_pyNext_range_end (I.ok.hd hc) st (by have:n≤i:=hg; lia) fun h' eb=>⟨rfl,I.turned (t':=s.toks) (fun b o hb e=>eb b o hb e) f0 f1 f3 f4 f5⟩
 self:=fun _ _ _ _ _ st h=>wpAny_pyIter_rangeiter st h
section
variable {X:Cx} {tg:Expr}
def zl9 (K:ah) (tl:TE):TI:=fun σ H R=>tl σ H fun x H1=>∃ a,x = .ref a∧(∃ xs,kG K H1 a xs)∧R (Itl K a) H1
def znr (K:ah) (tl:TE):TI:=fun σ H R=>tl σ H fun x H1=>∃ a,x = .ref a∧(∃ xs,kP K H1 a xs)∧R (Itt K a) H1
theorem zT {l:Expr} {tl:TE} (hl:PE X l tl):PI X tg l (zl9 X.K tl):=by
 intro kE s σ H R I h
 refine thn (hl kE s σ H _ I h) fun v s1 ⟨x,H1,I1,r1,q1⟩=>?_
 obtain⟨a,e,⟨xs,hq⟩,q⟩:=q1
 subst e
 cases r1
 obtain⟨kK,rv,p,hz⟩:=I1.list hq
 refine gK p.isList ?_
 refine⟨s1.heap.objs.size,[s1.heap.objs.size],_,_,H1,rfl,I1.kept (t':=s1.toks) fun b o e=>ai _ e,ze0 a _,⟨_,aI _ rfl,rfl,rfl⟩,fun b hb=>?_,q⟩
 have e:b=s1.heap.objs.size:=by simpa using hb
 subst e
 exact I1.fpOk (af _) (I1.hok.fresh (af _))
theorem zg3 {l:Expr} {tl:TE} (hl:PE X l tl):PI X tg l (znr X.K tl):=by
 intro kE s σ H R I h
 refine thn (hl kE s σ H _ I h) fun v s1 ⟨x,H1,I1,r1,q1⟩=>?_
 obtain⟨a,e,⟨xs,hq⟩,q⟩:=q1
 subst e
 cases r1
 obtain⟨kK,rv,p,hz⟩:=I1.tuple hq
 refine ff (show s1.heap.IsTuple a kK.toArray from p) ?_
 refine⟨s1.heap.objs.size,[s1.heap.objs.size],_,_,H1,rfl,I1.kept (t':=s1.toks) fun b o e=>ai _ e,zd8 a _,⟨_,aI _ rfl,rfl,rfl⟩,fun b hb=>?_,q⟩
 have e:b=s1.heap.objs.size:=by simpa using hb
 subst e
 exact I1.fpOk (af _) (I1.hok.fresh (af _))
theorem zf0 {kE:List (Addr×Obj)} {σ:St} {H:Hp} {s:Shared} {R:It→Hp→Prop} {E:Value→Shared→Prop} {lo hi:Int} {t u v:Tok} {tk:Nat} (I:Inv X kE σ H s) (h1:-(2 ^ 62)≤lo) (h2:lo < 2 ^ 62) (h3:-(2 ^ 62)≤hi) (h4:hi < 2 ^ 62)
  (q:R (Itr lo (hi - lo).toNat) H):wpAny (model X.prog X.w) X.A (pyIter (.ref s.heap.objs.size)) (PIE X kE σ tg R) E { s with heap:=s.heap.push { cls:=.type "range",data:=.fields #[.int lo t,.int hi u,.int 1 v] },toks:=tk }:=by
 refine wpAny_pyIter_range (IsRange.new ..) (small_one h1 h2 h3 h4) ?_
 have I1:Inv X kE σ H { s with heap:=s.heap.push { cls:=.type "range",data:=.fields #[.int lo t,.int hi u,.int 1 v] },toks:=tk }:=I.kept fun b o e=>ai _ e
 refine⟨(s.heap.push { cls:=.type "range",data:=.fields #[.int lo t,.int hi u,.int 1 v] }).objs.size,[(s.heap.push { cls:=.type "range",data:=.fields #[.int lo t,.int hi u,.int 1 v] }).objs.size],_,_,H,rfl,
  I1.kept (t':=tk) fun b o e=>ai _ e,zg2 _ lo (hi - lo).toNat,?_,fun b hb=>?_,q⟩
 ·have e1:lo+((0:Nat):Int)*1=lo:=by simp
  have e2:(((hi - lo).toNat:Nat):Int) - ((0:Nat):Int)=Builtin.Range.rangeSize lo hi 1:=by rw [rangeSize_one]; split <;> lia
  show IsRangeIter _ _ (lo+((0:Nat):Int)*1) ((((hi - lo).toNat:Nat):Int) - ((0:Nat):Int)) 1
  rw [e1,e2]
  exact aI _ rfl
 ·have e:b=(s.heap.push { cls:=.type "range",data:=.fields #[.int lo t,.int hi u,.int 1 v] }).objs.size:=by simpa using hb
  subst e
  exact I1.fpOk (af _) (I1.hok.fresh (af _))
def zns (ta:TA):TI:=fun σ H R=>ta σ H fun vs H1=>∃ j:Int,vs = [.int j]∧-(2 ^ 62)≤j∧j < 2 ^ 62∧R (Itr 0 j.toNat) H1
def znt (ta:TA):TI:=fun σ H R=>ta σ H fun vs H1=>∃ i j:Int,vs = [.int i,.int j]∧(-(2 ^ 62)≤i∧i < 2 ^ 62∧-(2 ^ 62)≤j∧j < 2 ^ 62)∧R (Itr i (j - i).toNat) H1
theorem zaF {a:Expr} {ta:TA} {p pos:Pos} (hg:Gl X "range") (hm:X.mg "range" = none) (ha:PA X [a] ta) (hs:starEach [a] X.env = [(false,eval a X.env)]:=by rfl):PI X tg (.Call (.Name "range" p) [a] [] pos) (zns ta):=by
 intro kE s σ H R I h
 refine Call_ (zbu I hg hm iV (bE (thn (ha pos kE s σ H _ I h) fun us s1 ⟨vs,H1,I1,r1,q1⟩=>?_) hs rfl))
 obtain⟨j,e,q1,q2,q⟩:=q1
 subst e
 cases r1 with
 | cons r rr =>
  cases rr
  obtain⟨t,rfl⟩:=r
  exact call_range_1 (zf0 I1 (by lia) (by lia) q1 q2 (by simpa using q))
theorem zdg {a b:Expr} {ta:TA} {p pos:Pos} (hg:Gl X "range") (hm:X.mg "range" = none) (ha:PA X [a,b] ta) (hs:starEach [a,b] X.env = [(false,eval a X.env),(false,eval b X.env)]:=by rfl) (nE:starEach [b] X.env = [(false,eval b X.env)]:=by rfl) :
  PI X tg (.Call (.Name "range" p) [a,b] [] pos) (znt ta):=by
 intro kE s σ H R I h
 refine Call_ (zbu I hg hm iV (bE (thn (ha pos kE s σ H _ I h) fun us s1 ⟨vs,H1,I1,r1,q1⟩=>?_) (by rw [hs,nE]) (by rw [nE]; rfl)))
 obtain⟨i,j,e,⟨q1,q2,q3,q4⟩,q⟩:=q1
 subst e
 cases r1 with
 | cons r rr =>
  cases rr with
  | cons r' rr =>
   cases rr
   obtain⟨t,rfl⟩:=r
   obtain⟨t',rfl⟩:=r'
   exact call_range_2 (zf0 I1 q1 q2 q3 q4 q)
def zn7 (wi:TI) (g:TG) (tb:TS):TS:=fun D σ H=>wi σ H fun J H1=>∃ W:Nat→Nat→St→Hp→Prop,(∃ m,W 0 m σ H1)∧∀ i m σ H,W i m σ H →
 (J.stop i H∧D.nx σ H)∨(J.go i H∧∃ N:St→Hp→Prop,(∀ σ' H',N σ' H'→∃ m',m' < m∧W (i+1) m' σ' H')∧∀ x H',J.yld i H x H'→g x σ H' fun σ2 H2=>tb { D with nx:=N,ct:=N,bk:=D.nx } σ2 H2)
def zcd (fp:List Addr) (h:Heap):List (Addr×Obj):=fp.filterMap fun b=>(h.get? b).map fun o=>(b,o)
theorem zbT {fp:List Addr} {h:Heap} {b:Addr} {o:Obj} (hb:b∈fp) (e:h.get? b=some o):(b,o)∈zcd fp h:=ji.mpr ⟨b,hb,by rw [e]; rfl⟩
theorem ze1 {fp:List Addr} {h:Heap} {p:Addr×Obj} (hp:p∈zcd fp h):p.1∈fp∧h.get? p.1=some p.2:=by
 obtain⟨b,hb,e⟩:=ji.mp hp
 cases q:h.get? b with
 | none=>rw [q] at e; cases e
 | some o =>
  rw [q] at e
  have e':(b,o)=p:=aR e
  subst e'
  exact⟨hb,q⟩
theorem Inv.pinned {kE:List (Addr×Obj)} {σ:St} {H:Hp} {s:Shared} {fp:List Addr} (I:Inv X kE σ H s) (hf:∀ b∈fp,zcc X kE H b) (ho:∀ b∈fp,∃ o,s.heap.get? b=some o∧∀ v,o.data≠.cell v):Inv X (kE++zcd fp s.heap) σ H s :=
 I.pins_of fun p hp=>(aP.mp hp).elim (fun z=>I.pin p (aH _ z)) fun z=>by
  obtain⟨hb,e⟩:=ze1 z
  obtain⟨f0,f1,f2,_⟩:=hf p.1 hb
  obtain⟨o,e',d⟩:=ho p.1 hb
  rw [e] at e'; cases e'
  exact⟨e,f0,f1,f2,d⟩
theorem Inv.unpinned {kE pl:List (Addr×Obj)} {σ:St} {H:Hp} {s:Shared} (I:Inv X (kE++pl) σ H s):Inv X kE σ H s:=I.pins_of fun p hp=>I.pin p (aH _ (aQ _ hp))
theorem zam {iter:Expr} {body:List Stmt} {wi:TI} {g:TG} {tb:TS} {pos:Pos} (hp:PassesOwn (model X.prog X.w) X.A X.env X.xe) (hc:X.calm=true) (hi:PI X tg iter wi) (hg:PG X tg g) (hb:PSs X body tb)
  (hs:∀ x,foldedSetIterable iter X.env x=pure x:=by intro _; rfl):PS X (.For tg iter body [] pos) (zn7 wi g tb):=by
 intro kE s σ H D I h
 refine wpAny_For (thn (hi kE s σ H _ I h) fun v s1 h1=>thn h1 fun wy s2 h2=>?_) hs
 obtain⟨it,fp,tn,J,H2,e,I2,T,lB,f2,W,⟨m0,w0⟩,turn⟩:=h2
 subst e
 have wz:∀ {H':Hp},(∀ b∈fp,H' b=none)→∀ b∈fp,zcc X kE H' b:=fun hn b hb=>⟨hn b hb,(f2 b hb).2⟩
 refine codeAny_forLoop_any (fun n s'=>∃ i σ' H',Inv X kE σ' H' s'∧tn i s'.heap∧(∀ b∈fp,H' b=none)∧W i n σ' H') ?_ m0 ⟨0,σ,H2,I2,lB,fun b hb=>(f2 b hb).1,w0⟩
 rintro n s3 ⟨i,σ3,H3,I3,yw,fr3,w3⟩
 rcases turn i n σ3 H3 w3 with ⟨stop,qn⟩ | ⟨go,N,hN,step⟩
 ·refine dF hp (thn (T.done X rfl rfl rfl hc i kE s3 σ3 H3 X.xe I3 (wz fr3) yw stop) fun r s4 ⟨hr,I4⟩=>?_)
  subst hr
  exact fR ⟨σ3,H3,I4,qn⟩
 ·refine dF hp (thn (T.item X rfl rfl rfl hc i kE s3 σ3 H3 X.xe I3 (wz fr3) yw go) fun r s4 ⟨u,hr,h4⟩=>?_)
  subst hr
  refine dF hp (thn h4 fun _ s5 ⟨x,H5,I5,r5,y5,xN,BF⟩=>?_)
  have I5':=I5.pinned (wz BF) (T.obj _ _ xN)
  refine dF hp (thn (hg _ s5 σ3 H5 x u _ I5' r5 (step x H5 y5)) fun _ s6 ⟨σ6,H6,I6,q6⟩=>?_)
  refine dF hp (thn (hb _ s6 σ6 H6 _ I6 q6) fun f s7 q7=>?_)
  have again:∀ {σ7:St} {H7:Hp},Inv X (kE++zcd fp s5.heap) σ7 H7 s7→N σ7 H7→∃ m,m < n∧∃ i σ' H',Inv X kE σ' H' s7∧tn i s7.heap∧(∀ b∈fp,H' b=none)∧W i m σ' H':=fun {σ7 H7} I7 n7=>by
   obtain⟨m',hm,w7⟩:=hN σ7 H7 n7
   refine⟨m',hm,i+1,σ7,H7,I7.unpinned,T.keep _ _ _ xN fun b hb o e=>(I7.pin (b,o) (aH _ (aH _ (zbT hb e)))).1,fun b hb=>?_,w7⟩
   obtain⟨o,e,d⟩:=T.obj _ _ xN b hb
   exact (I7.pin (b,o) (aH _ (aH _ (zbT hb e)))).2.1
  cases f with
  | next=>obtain⟨σ7,H7,I7,n7⟩:=q7; exact again I7 n7
  | cont=>obtain⟨σ7,H7,I7,n7⟩:=q7; exact again I7 n7
  | brk=>obtain⟨σ7,H7,I7,q7⟩:=q7; exact⟨σ7,H7,I7.unpinned,q7⟩
  | ret v=>obtain⟨x7,σ7,H7,I7,r7,q7⟩:=q7; exact⟨x7,σ7,H7,I7.unpinned,r7,q7⟩
end
theorem za1 {K:ah} {a:Addr} {xs:List V} {g:TG} {tb:TS} {D:Ends} {σ:St} {H:Hp} (Pv:Nat→St→Hp→Prop) (h0:Pv 0 σ H) (hl:∀ i σ H,i≤xs.length→Pv i σ H→kG K H a xs)
  (hs:∀ i x σ H,xs[i]? = some x→Pv i σ H→g x σ H fun σ2 H2=>tb { D with nx:=Pv (i+1),ct:=Pv (i+1),bk:=D.nx } σ2 H2) (hd:∀ σ H,Pv xs.length σ H→D.nx σ H) :
  ∃ W:Nat→Nat→St→Hp→Prop,(∃ m,W 0 m σ H)∧∀ i m σ H,W i m σ H →
   ((Itl K a).stop i H∧D.nx σ H)∨((Itl K a).go i H∧∃ N:St→Hp→Prop,(∀ σ' H',N σ' H'→∃ m',m' < m∧W (i+1) m' σ' H')∧∀ x H',(Itl K a).yld i H x H'→g x σ H' fun σ2 H2=>tb { D with nx:=N,ct:=N,bk:=D.nx } σ2 H2):=by
 refine⟨fun i m σ H=>m=xs.length - i∧i≤xs.length∧Pv i σ H,⟨xs.length,by simp,bb _,h0⟩,?_⟩
 rintro i m σ H ⟨rfl,hi,p⟩
 have q:=hl i σ H hi p
 by_cases lp:i < xs.length
 ·refine .inr ⟨⟨xs,xs[i],q,by simp [lp]⟩,Pv (i+1),fun σ' H' p'=>⟨xs.length - (i+1),by lia,rfl,lp,p'⟩,fun x H' y=>?_⟩
  obtain⟨e,y⟩:=y
  subst e
  exact hs i x σ _ (y xs q) p
 ·have e:i=xs.length:=by lia
  subst e
  exact .inl ⟨⟨xs,q,af _⟩,hd σ H p⟩
theorem zk4 {K:ah} {a:Addr} {xs:List V} {g:TG} {tb:TS} {D:Ends} {σ:St} {H:Hp} (Pv:Nat→St→Hp→Prop) (h0:Pv 0 σ H) (hl:∀ i σ H,i≤xs.length→Pv i σ H→kP K H a xs)
  (hs:∀ i x σ H,xs[i]? = some x→Pv i σ H→g x σ H fun σ2 H2=>tb { D with nx:=Pv (i+1),ct:=Pv (i+1),bk:=D.nx } σ2 H2) (hd:∀ σ H,Pv xs.length σ H→D.nx σ H) :
  ∃ W:Nat→Nat→St→Hp→Prop,(∃ m,W 0 m σ H)∧∀ i m σ H,W i m σ H →
   ((Itt K a).stop i H∧D.nx σ H)∨((Itt K a).go i H∧∃ N:St→Hp→Prop,(∀ σ' H',N σ' H'→∃ m',m' < m∧W (i+1) m' σ' H')∧∀ x H',(Itt K a).yld i H x H'→g x σ H' fun σ2 H2=>tb { D with nx:=N,ct:=N,bk:=D.nx } σ2 H2):=by
 refine⟨fun i m σ H=>m=xs.length - i∧i≤xs.length∧Pv i σ H,⟨xs.length,by simp,bb _,h0⟩,?_⟩
 rintro i m σ H ⟨rfl,hi,p⟩
 have q:=hl i σ H hi p
 by_cases lp:i < xs.length
 ·refine .inr ⟨⟨xs,xs[i],q,by simp [lp]⟩,Pv (i+1),fun σ' H' p'=>⟨xs.length - (i+1),by lia,rfl,lp,p'⟩,fun x H' y=>?_⟩
  obtain⟨e,y⟩:=y
  subst e
  exact hs i x σ _ (y xs q) p
 ·have e:i=xs.length:=by lia
  subst e
  exact .inl ⟨⟨xs,q,af _⟩,hd σ H p⟩
theorem zaZ {lo:Int} {n:Nat} {g:TG} {tb:TS} {D:Ends} {σ:St} {H:Hp} (Pv:Nat→St→Hp→Prop) (h0:Pv 0 σ H)
  (hs:∀ i σ H,i < n→Pv i σ H→g (.int (lo+i)) σ H fun σ2 H2=>tb { D with nx:=Pv (i+1),ct:=Pv (i+1),bk:=D.nx } σ2 H2) (hd:∀ σ H,Pv n σ H→D.nx σ H) :
  ∃ W:Nat→Nat→St→Hp→Prop,(∃ m,W 0 m σ H)∧∀ i m σ H,W i m σ H →
   ((Itr lo n).stop i H∧D.nx σ H)∨((Itr lo n).go i H∧∃ N:St→Hp→Prop,(∀ σ' H',N σ' H'→∃ m',m' < m∧W (i+1) m' σ' H')∧∀ x H',(Itr lo n).yld i H x H'→g x σ H' fun σ2 H2=>tb { D with nx:=N,ct:=N,bk:=D.nx } σ2 H2):=by
 refine⟨fun i m σ H=>m=n - i∧i≤n∧Pv i σ H,⟨n,by simp,bb _,h0⟩,?_⟩
 rintro i m σ H ⟨rfl,hi,p⟩
 by_cases lp:i < n
 ·refine .inr ⟨lp,Pv (i+1),fun σ' H' p'=>⟨n - (i+1),by lia,rfl,lp,p'⟩,fun x H' y=>?_⟩
  obtain⟨e,y⟩:=y
  subst e y
  exact hs i σ _ lp p
 ·have e:i=n:=by lia
  subst e
  exact .inl ⟨af _,hd σ H p⟩
theorem zjz {c:TT} {tb:TS} {D:Ends} {σ:St} {H:Hp} (Pv:St→Hp→Prop) (μ:St→Hp→Nat) (h0:Pv σ H)
  (hs:∀ σ H,Pv σ H→c σ H fun b H1=>if b=true then tb { D with nx:=fun σ' H'=>Pv σ' H'∧μ σ' H' < μ σ H,ct:=fun σ' H'=>Pv σ' H'∧μ σ' H' < μ σ H,bk:=D.nx } σ H1 else D.nx σ H1)
  (mono:∀ σ H Q Q',(∀ b H1,Q b H1→Q' b H1)→c σ H Q→c σ H Q'):zjy c tb D σ H:=by
 refine⟨fun m σ H=>m=μ σ H∧Pv σ H,⟨_,rfl,h0⟩,?_⟩
 rintro m σ H ⟨rfl,p⟩
 refine mono σ H _ _ (fun b H1 q=>?_) (hs σ H p)
 cases b with
 | true=>exact⟨_,fun σ' H' ⟨p',l⟩=>⟨_,l,rfl,p'⟩,q⟩
 | false=>exact q
abbrev R2:=V→V→Hp→VK→Prop
def OpR (X:Cx) (f:Value→Value→Sem Value) (r:R2):Prop :=
 ∀ (kE:List (Addr×Obj)) (s:Shared) (σ:St) (H:Hp) (x y:V) (v u:Value) (Q:VK),Inv X kE σ H s→RelV x v→RelV y u→r x y H Q →
  wpAny (model X.prog X.w) X.A (f v u) (EP X kE σ Q) X.xe s
def UnR (X:Cx) (f:Value→Sem Value) (r:V→Hp→VK→Prop):Prop :=
 ∀ (kE:List (Addr×Obj)) (s:Shared) (σ:St) (H:Hp) (x:V) (v:Value) (Q:VK),Inv X kE σ H s→RelV x v→r x H Q →
  wpAny (model X.prog X.w) X.A (f v) (EP X kE σ Q) X.xe s
def zbC (X:Cx) (f:Value) (r:List V→Hp→VK→Prop):Prop :=
 ∀ (kE:List (Addr×Obj)) (s:Shared) (σ:St) (H:Hp) (xs:List V) (us:List Value) (Q:VK),Inv X kE σ H s→zN xs us→r xs H Q →
  wpAny (model X.prog X.w) X.A (call f us) (EP X kE σ Q) X.xe s
def zn8 (X:Cx) (r:V→Hp→(Bool→Hp→Prop)→Prop):Prop :=
 ∀ (kE:List (Addr×Obj)) (s:Shared) (σ:St) (H:Hp) (x:V) (v:Value) (Q:Bool→Hp→Prop),Inv X kE σ H s→RelV x v→r x H Q →
  wpAny (model X.prog X.w) X.A (truthy v) (TP X kE σ Q) X.xe s
def tOp (r:R2) (ta tb:TE):TE:=fun σ H Q=>ta σ H fun x H1=>tb σ H1 fun y H2=>r x y H2 Q
def tUn (r:V→Hp→VK→Prop) (ta:TE):TE:=fun σ H Q=>ta σ H fun x H1=>r x H1 Q
def rI (C:Int→Int→Prop) (g:Int→Int→V):R2:=fun x y H Q=>∃ i j,x = .int i∧y = .int j∧C i j∧Q (g i j) H
def rI0 (g:Int→Int→V):R2:=fun x y H Q=>∃ i j,x = .int i∧y = .int j∧Q (g i j) H
def rU (g:Int→V):V→Hp→VK→Prop:=fun x H Q=>∃ i,x = .int i∧Q (g i) H
section
variable {X:Cx} {a b c:Expr} {ta tb tc:TE} {pos:Pos}
theorem zmw (ha:PE X a ta) (hb:PE X b tb) {kE:List (Addr×Obj)} {s:Shared} {σ:St} {H:Hp} {R:V→V→Hp→Prop} (I:Inv X kE σ H s)
  (h:ta σ H fun x H1=>tb σ H1 fun y H2=>R x y H2) {Q:Value→Shared→Prop} {f:Value→Value→Sem Value}
  (hf:∀ v u s2 x y H2,Inv X kE σ H2 s2→RelV x v→RelV y u→R x y H2→wpAny (model X.prog X.w) X.A (f v u) Q X.xe s2) :
  wpAny (model X.prog X.w) X.A (eval a X.env) (fun v s₁=>wpAny (model X.prog X.w) X.A (eval b X.env) (fun u s₂=>wpAny (model X.prog X.w) X.A (f v u) Q X.xe s₂) X.xe s₁) X.xe s:=by
 refine thn (ha kE s σ H _ I h) fun v s1 ⟨x,H1,I1,r1,q1⟩=>?_
 refine thn (hb kE s1 σ H1 _ I1 q1) fun u s2 ⟨y,H2,I2,r2,q2⟩=>?_
 exact hf v u s2 x y H2 I2 r1 r2 q2
theorem zi {op:Operator} {r:R2} (ho:OpR X (binaryOp op) r) (ha:PE X a ta) (hb:PE X b tb):PE X (.BinOp a op b pos) (tOp r ta tb):=by
 intro kE s σ H Q I h
 exact wpAny_BinOp (zmw ha hb I h fun v u s2 x y H2 I2 rx ry q=>ho kE s2 σ H2 x y v u Q I2 rx ry q)
theorem zma {op:UnaryOp} {r:V→Hp→VK→Prop} (ho:UnR X (unaryOp op) r) (ha:PE X a ta):PE X (.UnaryOp op a pos) (tUn r ta):=by
 intro kE s σ H Q I h
 exact UnaryOp_ (thn (ha kE s σ H _ I h) fun v s1 ⟨x,H1,I1,r1,q1⟩=>ho kE s1 σ H1 x v Q I1 r1 q1)
theorem opI {f:Value→Value→Sem Value} {C:Int→Int→Prop} {g:Int→Int→Int}
  (rule:∀ (i j:Int) (t u:Tok) (s:Shared) (Q:Value→Shared→Prop) (E:Value→Shared→Prop),C i j→Q (.int (g i j) s.toks) { s with toks:=s.toks+1 }→wpAny (model X.prog X.w) X.A (f (.int i t) (.int j u)) Q E s) :
  OpR X f (rI C fun i j=>.int (g i j)):=by
 intro kE s σ H x y v u Q I rx ry h
 obtain⟨i,j,rfl,rfl,hc,q⟩:=h
 obtain⟨t,rfl⟩:=rx
 obtain⟨t',rfl⟩:=ry
 exact rule i j t t' s _ _ hc ⟨.int (g i j),H,I.tok _,⟨_,rfl⟩,q⟩
theorem zmx {f:Value→Value→Sem Value} {g:Int→Int→Int}
  (rule:∀ (i j:Int) (t u:Tok) (s:Shared) (Q:Value→Shared→Prop) (E:Value→Shared→Prop),Q (.int (g i j) s.toks) { s with toks:=s.toks+1 }→wpAny (model X.prog X.w) X.A (f (.int i t) (.int j u)) Q E s) :
  OpR X f (rI0 fun i j=>.int (g i j)):=by
 intro kE s σ H x y v u Q I rx ry h
 obtain⟨i,j,rfl,rfl,q⟩:=h
 obtain⟨t,rfl⟩:=rx
 obtain⟨t',rfl⟩:=ry
 exact rule i j t t' s _ _ ⟨.int (g i j),H,I.tok _,⟨_,rfl⟩,q⟩
theorem zk5 {f:Value→Value→Sem Value} {g:Int→Int→Bool}
  (rule:∀ (i j:Int) (t u:Tok) (s:Shared) (Q:Value→Shared→Prop) (E:Value→Shared→Prop),Q (.bool (g i j)) s→wpAny (model X.prog X.w) X.A (f (.int i t) (.int j u)) Q E s) :
  OpR X f (rI0 fun i j=>.bl (g i j)):=by
 intro kE s σ H x y v u Q I rx ry h
 obtain⟨i,j,rfl,rfl,q⟩:=h
 obtain⟨t,rfl⟩:=rx
 obtain⟨t',rfl⟩:=ry
 exact rule i j t t' s _ _ ⟨.bl (g i j),H,I,rfl,q⟩
def znu (i j:Int):Prop:=0 < j∧j < 1073741824
def zn9 (i j:Int):Prop:=0≤j∧j≤1000000∧i.natAbs < 2 ^ 64
def zmy (i j:Int):Prop:=(-(2 ^ 64) < i∧i < 2 ^ 64)∨(-(2 ^ 64) < j∧j < 2 ^ 64)
theorem zmy.ok {i j:Int} (h:zmy i j):IntMulOk i j:=by
 rcases h with ⟨h1,h2⟩ | ⟨h1,h2⟩
 ·exact .of_left (intBits_le_64 h1 h2)
 ·exact .of_right (intBits_le_64 h1 h2)
theorem zB:OpR X (binaryOp .Add) (rI0 fun i j=>.int (i+j)):=zmx fun _ _ _ _ _ _ _ q=>add_int q
theorem zba:OpR X (binaryOp .Sub) (rI0 fun i j=>.int (i - j)):=zmx fun _ _ _ _ _ _ _ q=>sub_int q
theorem zU:OpR X (binaryOp .Mult) (rI zmy fun i j=>.int (i*j)):=opI fun _ _ _ _ _ _ _ hc q=>mul_int q hc.ok
theorem zfn:OpR X (binaryOp .FloorDiv) (rI znu fun i j=>.int (i / j)):=opI fun i j _ _ _ _ _ hc q=>by
 have h1:(0:Int) < j:=hc.1
 have h2:j < 1073741824:=hc.2
 exact floordiv_int (by lia) (by rw [gA i (by lia)]; exact q) (.inl (iD (by lia)))
theorem zH:OpR X (binaryOp .Mod) (rI (fun _ j=>0 < j) fun i j=>.int (i % j)):=opI fun i j _ _ _ _ _ hc q=>by
 have h1:(0:Int) < j:=hc
 exact mod_int' (by lia) (by rw [Int.fmod_eq_emod_of_nonneg i (by lia)]; exact q)
theorem zmz:OpR X (binaryOp .Pow) (rI zn9 fun i j=>.int (i ^ j.toNat)):=opI fun _ _ _ _ _ _ _ hc q=>pow_int_small hc.1 hc.2.1 hc.2.2 q
theorem zk6:OpR X (inplaceOp .Add) (rI0 fun i j=>.int (i+j)):=zmx fun _ _ _ _ _ _ _ q=>iadd_int q
theorem zjA:OpR X (inplaceOp .FloorDiv) (rI znu fun i j=>.int (i / j)):=opI fun i j _ _ _ _ _ hc q=>by
 have h1:(0:Int) < j:=hc.1
 have h2:j < 1073741824:=hc.2
 exact ifloordiv_int (by lia) (by rw [gA i (by lia)]; exact q) (.inl (iD (by lia)))
theorem unI {f:Value→Sem Value} {g:Int→Int}
  (rule:∀ (i:Int) (t:Tok) (s:Shared) (Q:Value→Shared→Prop) (E:Value→Shared→Prop),Q (.int (g i) s.toks) { s with toks:=s.toks+1 }→wpAny (model X.prog X.w) X.A (f (.int i t)) Q E s) :
  UnR X f (rU fun i=>.int (g i)):=by
 intro kE s σ H x v Q I rx h
 obtain⟨i,rfl,q⟩:=h
 obtain⟨t,rfl⟩:=rx
 exact rule i t s _ _ ⟨.int (g i),H,I.tok _,⟨_,rfl⟩,q⟩
theorem zjB:UnR X (unaryOp .USub) (rU fun i=>.int (-i)):=unI fun _ _ _ _ _ q=>neg_int q
end
def zmA:V→V→Bool
 | .non,.non=>true | .non,.int _=>true | .int _,.non=>true | .non,.bl _=>true | .bl _,.non=>true | .non,.str _=>true | .str _,.non=>true
 | .int _,.int _=>true | .bl _,.bl _=>true | .str _,.str _=>true | .byt _,.byt _=>true
 | .int _,.str _=>true | .str _,.int _=>true | .bl _,.str _=>true | .str _,.bl _=>true
 | _,_=>false
def rEq:R2:=fun x y H Q=>zmA x y=true∧Q (.bl (decide (x=y))) H
def rNe:R2:=fun x y H Q=>zmA x y=true∧Q (.bl (!decide (x=y))) H
theorem zhH {i j:Int}:decide (V.int i=V.int j)=(i == j):=by
 rw [dG]
 simp
theorem zjC {i j:Bool}:decide (V.bl i=V.bl j)=(i == j):=by
 rw [dG]
 simp
theorem zhI {i j:Str}:decide (V.str i=V.str j)=(i == j):=by
 rw [dG]
 simp
theorem zhJ {i j:Array UInt8}:decide (V.byt i=V.byt j)=(i.toList == j.toList):=by
 rw [dG]
 cases i
 cases j
 simp
section
variable {X:Cx} {a b c:Expr} {ta tb tc:TE} {pos:Pos}
theorem zV {kE:List (Addr×Obj)} {σ:St} {H:Hp} {s:Shared} {Q:VK} {k k':Bool} (I:Inv X kE σ H s) (q:Q (.bl k) H) (e:k=k'):EP X kE σ Q (.bool k') s:=by
 subst e
 exact⟨.bl k,H,I,rfl,q⟩
theorem zce:OpR X (compareOp .Eq) rEq:=by
 intro kE s σ H x y v u Q I rx ry h
 obtain⟨hs,q⟩:=h
 cases x with
 | non =>
  cases rx
  cases y with
  | non=>cases ry; exact PySem.EqNone.eq_none_none (zV I q (by simp))
  | bl j=>cases ry; exact PySem.EqNone.eq_none_bool (zV I q (by simp))
  | int j=>obtain⟨t',rfl⟩:=ry; exact PySem.EqNone.eq_none_int (zV I q (by simp))
  | str j=>obtain⟨t',rfl⟩:=ry; exact PySem.EqNone.eq_none_str (zV I q (by simp))
  | _=>exact absurd (show false=true from hs) aM
 | bl i =>
  cases rx
  cases y with
  | non=>cases ry; exact PySem.EqNone.eq_bool_none (zV I q (by simp))
  | bl j=>cases ry; exact eq_bool (zV I q zjC)
  | str j=>obtain⟨t',rfl⟩:=ry; exact PySem.EqMixed.eq_bool_str (zV I q (by simp))
  | _=>exact absurd (show false=true from hs) aM
 | int i =>
  obtain⟨t,rfl⟩:=rx
  cases y with
  | non=>cases ry; exact PySem.EqNone.eq_int_none (zV I q (by simp))
  | int j=>obtain⟨t',rfl⟩:=ry; exact eq_int (zV I q zhH)
  | str j=>obtain⟨t',rfl⟩:=ry; exact PySem.EqMixed.eq_int_str (zV I q (by simp))
  | _=>exact absurd (show false=true from hs) aM
 | str i =>
  obtain⟨t,rfl⟩:=rx
  cases y with
  | non=>cases ry; exact PySem.EqNone.eq_str_none (zV I q (by simp))
  | bl j=>cases ry; exact PySem.EqMixed.eq_str_bool (zV I q (by simp))
  | int j=>obtain⟨t',rfl⟩:=ry; exact PySem.EqMixed.eq_str_int (zV I q (by simp))
  | str j=>obtain⟨t',rfl⟩:=ry; exact eq_str (zV I q zhI)
  | _=>exact absurd (show false=true from hs) aM
 | byt i =>
  obtain⟨t,rfl⟩:=rx
  cases y with
  | byt j=>obtain⟨t',rfl⟩:=ry; exact PySem.W.eq_bytes (zV I q zhJ)
  | _=>exact absurd (show false=true from hs) aM
 | _=>cases y <;> exact absurd (show false=true from hs) aM
theorem zdv:OpR X (compareOp .NotEq) rNe:=by
 intro kE s σ H x y v u Q I rx ry h
 obtain⟨hs,q⟩:=h
 cases x with
 | non =>
  cases rx
  cases y with
  | non=>cases ry; exact PySem.EqNone.ne_none_none (zV I q (by simp))
  | bl j=>cases ry; exact PySem.EqNone.ne_none_bool (zV I q (by simp))
  | int j=>obtain⟨t',rfl⟩:=ry; exact PySem.EqNone.ne_none_int (zV I q (by simp))
  | str j=>obtain⟨t',rfl⟩:=ry; exact PySem.EqNone.ne_none_str (zV I q (by simp))
  | _=>exact absurd (show false=true from hs) aM
 | bl i =>
  cases rx
  cases y with
  | non=>cases ry; exact PySem.EqNone.ne_bool_none (zV I q (by simp))
  | bl j=>cases ry; exact ne_bool (zV I q (congrArg not zjC))
  | str j=>obtain⟨t',rfl⟩:=ry; exact PySem.EqMixed.ne_bool_str (zV I q (by simp))
  | _=>exact absurd (show false=true from hs) aM
 | int i =>
  obtain⟨t,rfl⟩:=rx
  cases y with
  | non=>cases ry; exact PySem.EqNone.ne_int_none (zV I q (by simp))
  | int j=>obtain⟨t',rfl⟩:=ry; exact ne_int (zV I q (congrArg not zhH))
  | str j=>obtain⟨t',rfl⟩:=ry; exact PySem.EqMixed.ne_int_str (zV I q (by simp))
  | _=>exact absurd (show false=true from hs) aM
 | str i =>
  obtain⟨t,rfl⟩:=rx
  cases y with
  | non=>cases ry; exact PySem.EqNone.ne_str_none (zV I q (by simp))
  | bl j=>cases ry; exact PySem.EqMixed.ne_str_bool (zV I q (by simp))
  | int j=>obtain⟨t',rfl⟩:=ry; exact PySem.EqMixed.ne_str_int (zV I q (by simp))
  | str j=>obtain⟨t',rfl⟩:=ry; exact ne_str (zV I q (congrArg not zhI))
  | _=>exact absurd (show false=true from hs) aM
 | byt i =>
  obtain⟨t,rfl⟩:=rx
  cases y with
  | byt j=>obtain⟨t',rfl⟩:=ry; exact PySem.W.ne_bytes (zV I q (congrArg not zhJ))
  | _=>exact absurd (show false=true from hs) aM
 | _=>cases y <;> exact absurd (show false=true from hs) aM
theorem zf1:OpR X (compareOp .Lt) (rI0 fun i j=>.bl (decide (i < j))):=zk5 fun _ _ _ _ _ _ _ q=>lt_int q
theorem znv:OpR X (compareOp .LtE) (rI0 fun i j=>.bl (decide (i≤j))):=zk5 fun _ _ _ _ _ _ _ q=>le_int q
theorem zf2:OpR X (compareOp .Gt) (rI0 fun i j=>.bl (decide (j < i))):=zk5 fun _ _ _ _ _ _ _ q=>gt_int q
theorem zmb:OpR X (compareOp .GtE) (rI0 fun i j=>.bl (decide (j≤i))):=zk5 fun _ _ _ _ _ _ _ q=>ge_int q
theorem zmB:OpR X (compareOp .Is) (fun x y H Q=>y = .non∧Q (.bl (decide (x = .non))) H):=by
 intro kE s σ H x y v u Q I rx ry h
 obtain⟨rfl,q⟩:=h
 cases ry
 refine is_none_gen (zV I q ?_)
 cases x <;> first
  | (cases rx; rfl)
  | (obtain⟨t,rfl⟩:=rx; rfl)
theorem zfo:OpR X (compareOp .IsNot) (fun x y H Q=>y = .non∧Q (.bl (!decide (x = .non))) H):=by
 intro kE s σ H x y v u Q I rx ry h
 obtain⟨rfl,q⟩:=h
 cases ry
 refine isnot_none_gen (zV I q ?_)
 cases x <;> first
  | (cases rx; rfl)
  | (obtain⟨t,rfl⟩:=rx; rfl)
theorem zL (b:Expr) {op:CmpOp} (h:op≠.In:=by decide) (h2:op≠.NotIn:=by decide):behindInMarks op b=false:=by
 have e1:(op == CmpOp.In)=false:=by cases op <;> first | rfl | exact absurd rfl h
 have e2:(op == CmpOp.NotIn)=false:=by cases op <;> first | rfl | exact absurd rfl h2
 cases b <;> simp [behindInMarks,e1,e2]
theorem zhK {op:CmpOp} {r:R2} (ho:OpR X (compareOp op) r) (ha:PE X a ta) (hb:PE X b tb) (hm:behindInMarks op b=false):PE X (.Compare a [op] [b] pos) (tOp r ta tb):=by
 intro kE s σ H Q I h
 exact wpAny_Compare1 (zmw ha hb I h fun v u s2 x y H2 I2 rx ry q=>ho kE s2 σ H2 x y v u Q I2 rx ry q) hm
def znw (t:TE):TT:=fun σ H Q=>t σ H fun x H'=>∃ k,x = .bl k∧Q k H'
theorem zy {op:CmpOp} {r:R2} (ho:OpR X (compareOp op) r) (ha:PE X a ta) (hb:PE X b tb) (hm:behindInMarks op b=false):PT X (.Compare a [op] [b] pos) (znw (tOp r ta tb)):=by
 intro kE s σ H Q I h
 refine wpAny_isTrue_Compare1 (thn (ha kE s σ H _ I h) fun v s1 ⟨x,H1,I1,r1,q1⟩=>thn (hb kE s1 σ H1 _ I1 q1) fun u s2 ⟨y,H2,I2,r2,q2⟩ =>
  thn (ho kE s2 σ H2 x y v u _ I2 r1 r2 q2) fun c s3 ⟨z,H3,I3,r3,k,e,q3⟩=>?_) hm
 subst e
 cases r3
 exact dN ⟨H3,I3,q3⟩
def zmC (r r':R2) (ta tb tc:TE):TE:=fun σ H Q=>ta σ H fun x H1=>tb σ H1 fun y H2=>r x y H2 fun z H3=>∃ k,z = .bl k ∧
 (if k=true then tc σ H3 fun w' H4=>r' y w' H4 Q else Q (.bl false) H3)
theorem zjD {op CG:CmpOp} {r r':R2} (ho:OpR X (compareOp op) r) (tq:OpR X (compareOp CG) r') (ha:PE X a ta) (hb:PE X b tb) (hc:PE X c tc)
  (hm:lastMarks [op,CG] [b,c]=false:=by with_unfolding_all rfl):PE X (.Compare a [op,CG] [b,c] pos) (zmC r r' ta tb tc):=by
 intro kE s σ H Q I h
 refine Compare_chain (thn (ha kE s σ H _ I h) fun v s1 ⟨x,H1,I1,r1,q1⟩=>chain_link (thn (hb kE s1 σ H1 _ I1 q1) fun u s2 ⟨y,H2,I2,r2,q2⟩ =>
  thn (ho kE s2 σ H2 x y v u _ I2 r1 r2 q2) fun d s3 ⟨z,H3,I3,r3,k,e,q3⟩=>?_)) hm
 subst e
 cases r3
 refine dN ?_
 cases k with
 | false=>exact ite_ff ⟨.bl false,H3,I3,rfl,q3⟩
 | true=>exact ite_tt (chain_last (thn (hc kE s3 σ H3 _ I3 q3) fun w' s4 ⟨z',H4,I4,r4,q4⟩=>tq kE s4 σ H4 y z' u w' Q I4 r2 r4 q4))
def znx (K:ah) (x:V) (H:Hp) (k:Bool):Prop :=
 match x with
 | .non=>k=false
 | .bl b=>k=b
 | .int i=>k=(i != 0)
 | .str y=>y.length≤sizeLine∧k=((y.length:Int) != 0)
 | .byt y=>y.size≤sizeLine∧k=((y.size:Int) != 0)
 | .ref p=>(∃ xs,kG K H p xs∧k = !xs.isEmpty)∨(∃ xs,kP K H p xs∧k = !xs.isEmpty)∨∃ kO,H p=some (.dK kO)∧k = !kO.isEmpty
 | _=>False
theorem zg4 {κ:Type} {kO:List (κ×V)} {vs:List (κ×Value)} (r:KV kO vs):(!vs.isEmpty) = !kO.isEmpty:=by
 cases r <;> rfl
theorem zd9 {xs:List V} {kK:List Value} (r:zN xs kK):(!kK.toArray.isEmpty) = !xs.isEmpty:=by
 cases r <;> simp
theorem zea:(sizeLine:Nat) < 2 ^ 63:=by rw [a7]; decide
theorem zmD:zn8 X (fun x H Q=>∃ k,znx X.K x H k∧Q k H):=by
 intro kE s σ H x v Q I rx h
 obtain⟨k,e,q⟩:=h
 have hl:=zea
 have hs:sizeLine=16777216:=a7
 cases x with
 | non =>
  cases rx
  have e':k=false:=e
  subst e'
  exact truthy_none ⟨H,I,q⟩
 | bl b =>
  cases rx
  have e':k=b:=e
  subst e'
  exact dN ⟨H,I,q⟩
 | int i =>
  obtain⟨t,rfl⟩:=rx
  have e':k=(i != 0):=e
  subst e'
  exact PySem.P.truthy_int ⟨H,I,q⟩
 | str y =>
  obtain⟨t,rfl⟩:=rx
  obtain⟨hy,e'⟩:y.length≤sizeLine∧k=((y.length:Int) != 0):=e
  subst e'
  exact PySem.P.truthy_str (by lia) ⟨H,I.tok _,q⟩
 | byt y =>
  obtain⟨t,rfl⟩:=rx
  obtain⟨hy,e'⟩:y.size≤sizeLine∧k=((y.size:Int) != 0):=e
  subst e'
  exact PySem.W.truthy_bytes (by lia) ⟨H,I.tok _,q⟩
 | ref p =>
  cases rx
  have e':(∃ xs,kG X.K H p xs∧k = !xs.isEmpty)∨(∃ xs,kP X.K H p xs∧k = !xs.isEmpty)∨∃ kO,H p=some (.dK kO)∧k = !kO.isEmpty:=e
  rcases e' with ⟨xs,hx,e'⟩ | ⟨xs,hx,e'⟩ | ⟨kO,hx,e'⟩
  ·subst e'
   obtain⟨kK,r,pl,hz⟩:=I.list hx
   have kQ:=r.length
   exact wpAny_truthy_list pl.isList (by simp only [aq]; lia) ⟨H,I.tok _,by rw [zd9 r]; exact q⟩
  ·subst e'
   obtain⟨kK,r,pl,hz⟩:=I.tuple hx
   have kQ:=r.length
   exact truthy_tuple pl (by simp only [aq]; lia) ⟨H,I.tok _,by rw [zd9 r]; exact q⟩
  ·subst e'
   obtain⟨hz,hS,vs,r,m⟩:kO.length≤sizeLine∧(p == sysModules)=false∧∃ vs,KV kO vs∧s.heap.DictOf (zaH X.prog X.w) p vs:=I.hok p _ hx
   have kQ:kO.length=vs.length:=gw r
   exact wpAny_truthy_dict hS m (by lia) ⟨H,I.tok _,by rw [zg4 r]; exact q⟩
 | _=>exact (show False from e).elim
theorem zjE (ha:PE X a ta) (he:∀ whole,isTrue a X.env whole=(do let v ← whole; standAt a.pos; holding [v] (truthy v))) :
  PT X a (fun σ H Q=>ta σ H fun x H'=>∃ k,znx X.K x H' k∧Q k H'):=by
 intro kE s σ H Q I h
 exact isTrue_plain (thn (ha kE s σ H _ I h) fun v s1 ⟨x,H1,I1,r1,q1⟩=>zmD kE s1 σ H1 x v Q I1 r1 q1) (he _)
theorem vals1 {x:V} {us:List Value} (r:zN [x] us):∃ u,us = [u]∧RelV x u:=by
 cases r with
 | cons r1 r2=>cases r2; exact⟨_,rfl,r1⟩
theorem vals2 {x y:V} {us:List Value} (r:zN [x,y] us):∃ u w',us = [u,w']∧RelV x u∧RelV y w':=by
 cases r with
 | cons r1 r2 =>
  cases r2 with
  | cons r3 r4=>cases r4; exact⟨_,_,rfl,r1,r3⟩
theorem zdh (hc:X.calm=true):zbC X (.builtin "min") (fun xs H Q=>∃ i j,xs = [.int i,.int j]∧Q (.int (if j < i then j else i)) H):=by
 intro kE s σ H xs us Q I r h
 obtain⟨i,j,rfl,q⟩:=h
 obtain⟨u,w',rfl,⟨t,rfl⟩,⟨t',rfl⟩⟩:=vals2 r
 refine min_two_ints (I.ok.hd hc) fun h' tk k=>⟨_,H,I.kept k,?_,q⟩
 by_cases hj:j < i
 ·rw [if_pos hj,if_pos hj]; exact⟨_,rfl⟩
 ·rw [if_neg hj,if_neg hj]; exact⟨_,rfl⟩
end
structure ObjM (h:Heap) (x dx C:Addr) (mA:Str→Option Value):Prop where
 obj:h.get? x=some (ip C dx)
 ns:h.Ns1 dx mA
 ne:dx≠x
theorem ziI {h:Heap} {dx:Addr} {mA:Str→Option Value} (n:h.Ns1 dx mA):∃ od,h.get? dx=some od∧∀ name,iL name od=some (mA name):=by
 obtain⟨o,es,ep,ho,hd,hk,_,hm⟩:=n
 refine⟨o,ho,fun name=>?_⟩
 have e:=hm name
 unfold nsFind findBy at e
 rw [← Array.find?_toList] at e
 unfold iL
 rw [hd]
 dsimp only
 split
 ·rename_i y q
  rw [q] at e
  exact congrArg some e
 ·rename_i q
  rw [q] at e
  have a:es.toList.any (·.refKey)=false:=by
   rw [List.any_eq_false]
   intro y hy
   obtain⟨z,t,pI⟩:=hk y (Array.mem_toList_iff.mp hy)
   simp [DictEntry.refKey,pI]
  have a':¬ es.toList.any (·.refKey)=true:=by rw [a]; exact aM
  rw [if_neg a']
  exact congrArg some e
theorem ObjM.look {h:Heap} {x dx C:Addr} {mA:Str→Option Value} (I:ObjM h x dx C mA):∃ od,PySem.W.InstAt h x (ip C dx) C (some od)∧∀ name,iL name od=some (mA name) :=
 let ⟨od,ho,hl⟩:=ziI I.ns
 ⟨od,⟨I.obj,rfl,rfl,ho⟩,hl⟩
section
variable {P:Program} {w:World} {H H':Hp} {h h':Heap} {a C dx:Addr} {fs fs':List (Str×V)}
theorem zk7 (hok:HOk P w H h) (e:H a=some (.ins C dx fs)):∃ mA,ObjM h a dx C mA∧(∀ f,ziE (fs.lookup f) (mA f))∧kx mA (fs.map (·.1))∧fs.length≤1000∧H dx=some (.own a):=by
 obtain⟨d,z,ne,ob,mA,n,r,q⟩:=(show zak P w H h a (.ins C dx fs) from hok a _ e)
 exact⟨mA,⟨ob,n,ne⟩,r,q,z,d⟩
end
structure Cls (K:ah) (C:Addr):Prop where
 pg:jQ K C Str.empty=true
 hd:PySem.W.hasDictIn K C=true
 po:PySem.W.plainOver K C=true
 sa:kd K (.ref C) "__setattr__" = some (some (.builtin "object.__setattr__"))
theorem Cls.get {K:ah} {C:Addr} (c:Cls K C) (f:Str):jQ K C f=true:=c.pg
section
variable {X:Cx} {kE:List (Addr×Obj)} {σ:St} {H:Hp} {s:Shared} {A:Around} {E:Value→Shared→Prop} {Q:Value→Shared→Prop} {c:Value} {b:Bool}
inductive TyOf (K:ah) (H:Hp):V→Value→Prop where
 | non:TyOf K H .non (.type "NoneType")
 | bl (x:Bool):TyOf K H (.bl x) (.type "bool")
 | int (i:Int):TyOf K H (.int i) (.type "int")
 | str (x:Str):TyOf K H (.str x) (.type "str")
 | flt (x:UInt64):TyOf K H (.flt x) (.type "float")
 | lst {a:Addr} {xs:List V} (e:H a=some (.lst xs)):TyOf K H (.ref a) (.type "list")
 | frz {a:Addr} {o:Obj} {xs:List V} (e:H a=some (.frz o (.lst xs))):TyOf K H (.ref a) (.type "list")
 | tup {a:Addr} {xs:List V} (e:H a=some (.tup xs)):TyOf K H (.ref a) (.type "tuple")
 | dK {a:Addr} {kO:List (Key×V)} (e:H a=some (.dK kO)):TyOf K H (.ref a) (.type "dict")
 | dT {a:Addr} {kO:List (List Key×V)} (e:H a=some (.dT kO)):TyOf K H (.ref a) (.type "dict")
 | ins {a C dx:Addr} {fs:List (Str×V)} (e:H a=some (.ins C dx fs)) (cl:Cls K C) (ha:kd K (.ref C) "__class__" = some (some (.builtin "object.__class__")))
   (hn:PySem.W.specialIn K (.builtin "object.__class__") "__get__" = some (some (.builtin "getset_descriptor.__get__"))) (BG:PySem.W.takesIn K (.builtin "object.__class__")=some true)
   (hm:i5 K C (.type "object")=some true):TyOf K H (.ref a) (.ref C)
theorem ziJ {x:V} {u t:Value} (I:Inv X kE σ H s) (rx:RelV x u) (ty:TyOf X.K H x t) (e:iM X.K t c=some b) (h:∀ tk,Q (.bool b) { s with toks:=tk }) :
  wpAny (model X.prog X.w) A (call (.builtin "isinstance") [u,c]) Q E s:=by
 cases ty with
 | non=>cases (show u=cX from rx); exact cj PySem.W.kitx_none I.kIn eN e (fun z=>nomatch z) h
 | bl y=>cases (show u=j4 y from rx); exact cj PySem.W.kitx_bool I.kIn eN e (fun z=>nomatch z) h
 | int i=>obtain⟨t,q⟩:=(show ∃ t,u=io i t from rx); cases q; exact cj PySem.W.kitx_int I.kIn eN e (fun z=>nomatch z) h
 | str y=>obtain⟨t,q⟩:=(show ∃ t,u=jf y t from rx); cases q; exact cj PySem.W.kitx_str I.kIn eN e (fun z=>nomatch z) h
 | flt y=>obtain⟨t,q⟩:=(show ∃ t,u=Value.float y t from rx); cases q; exact cj PySem.W.kitx_float I.kIn eN e (fun z=>nomatch z) h
 | @lst a xs ea =>
  cases (show u=aY a from rx)
  obtain⟨_,_,n,_,h1⟩:=(show zak X.prog X.w H s.heap a (.lst xs) from I.hok a _ ea)
  exact cj jB I.kIn ⟨_,h1,rfl⟩ e (fun z=>nomatch z) h
 | @frz a ob xs ea =>
  cases (show u=aY a from rx)
  obtain⟨_,_,_,n,_,h1⟩:=(show zak X.prog X.w H s.heap a (.frz ob (.lst xs)) from I.hok a _ ea)
  exact cj jB I.kIn ⟨_,h1,rfl⟩ e (fun z=>nomatch z) h
 | @tup a xs ea =>
  cases (show u=aY a from rx)
  obtain⟨_,_,_,p⟩:=(show zak X.prog X.w H s.heap a (.tup xs) from I.hok a _ ea)
  obtain⟨o,h1,h2,_⟩:=p
  exact cj PySem.W.kitx_tuple I.kIn ⟨o,h1,h2⟩ e (fun z=>nomatch z) h
 | @dK a kO ea =>
  cases (show u=aY a from rx)
  obtain⟨_,_,vs,_,p⟩:=(show zak X.prog X.w H s.heap a (.dK kO) from I.hok a _ ea)
  obtain⟨o,es,ep,h1,h2,_⟩:=p
  exact cj jC I.kIn ⟨o,h1,h2.1⟩ e (fun z=>nomatch z) h
 | @dT a kO ea =>
  cases (show u=aY a from rx)
  obtain⟨_,_,xs,_,o,es,ep,h1,h2,_⟩:=(show zak X.prog X.w H s.heap a (.dT kO) from I.hok a _ ea)
  exact cj jC I.kIn ⟨o,h1,h2.1⟩ e (fun z=>nomatch z) h
 | @ins a C dx fs ea cl ha hn BG hm =>
  cases (show u=aY a from rx)
  obtain⟨mA,O,_⟩:=zk7 I.hok ea
  obtain⟨od,J,_⟩:=O.look
  exact cj (PySem.W.kitx_own (cl.get _) cl.hd ha hn BG hm) I.kIn J e (fun z=>nomatch z) h
end
structure Room (k:Nat) (A:Around):Prop where
 hd:A.handled=none
 dp:A.depth+3*k+5 < recursionLimit
 un:A.units+16*k+200 < cLine
theorem Room.mono {j k:Nat} {A:Around} (r:Room k A) (h:j≤k):Room j A:=⟨r.hd,by have:=r.dp; lia,by have:=r.un; lia⟩
theorem Room.deeper {k:Nat} {A:Around} (r:Room (k+1) A) (env:Env):Room k (A.deeper env) :=
 ⟨r.hd,by have:=r.dp; show A.depth+1+3*k+5 < _; lia,by have:=r.un; show A.units+3+16*k+200 < _; lia⟩
theorem Room.depth {k:Nat} {A:Around} (r:Room k A):A.depth < recursionLimit:=by have:=r.dp; lia
theorem Room.units {k:Nat} {A:Around} (r:Room k A):A.units+64 < cLine:=by have:=r.un; lia
def zoa:TA:=fun _ H Q=>Q [] H
def zmc (ta:TE) (tr:TA):TA:=fun σ H Q=>ta σ H fun x H1=>tr σ H1 fun xs H2=>Q (x :: xs) H2
section
variable {X:Cx} {e:Expr} {es:List Expr} {te:TE} {t:TA} {pos:Pos}
theorem ze:PA X [] zoa:=fun _ _ _ _ H Q I h=>jD ⟨[],H,I,.nil,h⟩
theorem za (ha:PE X e te) (hr:PA X es t) (hs:starEach (e :: es) X.env=(false,eval e X.env) :: starEach es X.env:=by rfl):PA X (e :: es) (zmc te t):=by
 intro pos kE s σ H Q I h
 rw [hs]
 show wpAny _ _ (spliced ((false,eval e X.env) :: backTo pos (starEach es X.env))) _ _ s
 refine jj (thn (ha kE s σ H _ I h) fun u s1 ⟨x,H1,I1,r1,q1⟩=>?_)
 exact thn (hr pos kE s1 σ H1 _ I1 q1) fun us s2 ⟨xs,H2,I2,r2,q2⟩=>⟨x :: xs,H2,I2,.cons r1 r2,q2⟩
def zob (t:TA):TE:=fun σ H Q=>t σ H fun xs H1=>xs.length≤sizeLine∧∀ p,H1 p=none→Q (.ref p) (kL H1 p (.tup xs))
def zk8 (t:TA):TE:=fun σ H Q=>t σ H fun xs H1=>xs.length≤sizeLine∧∀ p,H1 p=none→Q (.ref p) (kL H1 p (.lst xs))
theorem zaK {x1} (h:PA X es t):PE X (.Tuple es x1 pos) (zob t):=by
 intro kE s σ H Q I hq
 refine wpAny_Tuple_spliced (thn (h pos kE s σ H _ I hq) fun us s1 ⟨xs,H1,I1,r,z,q⟩=>⟨by rw [← r.length]; exact z,?_⟩)
 have hf:H1 s1.heap.objs.size=none:=I1.hok.fresh (af _)
 refine⟨.ref s1.heap.objs.size,kL H1 s1.heap.objs.size (.tup xs),I1.laid (t':=s1.toks) (fun b u e=>ai _ e) (af _) ?_,rfl,q _ hf⟩
 exact⟨z,us,r,⟨_,aI _ rfl,rfl,_,rfl⟩⟩
theorem z9 (h:PA X es t):PE X (.List es pos) (zk8 t):=by
 intro kE s σ H Q I hq
 refine wpAny_List_spliced (thn (h pos kE s σ H _ I hq) fun us s1 ⟨xs,H1,I1,r,z,q⟩=>⟨by rw [← r.length]; exact z,?_⟩)
 have hf:H1 s1.heap.objs.size=none:=I1.hok.fresh (af _)
 refine⟨.ref s1.heap.objs.size,kL H1 s1.heap.objs.size (.lst xs),I1.laid (t':=s1.toks) (fun b u e=>ai _ e) (af _) ?_,rfl,q _ hf⟩
 exact⟨z,us,0,r,aI _ rfl⟩
end
abbrev Sp:=List V→Hp→VK→XK→Prop
abbrev CXT:=List Env→Hp→Shared→XK→Value→Shared→Prop
structure Env0 (P:Program) (w:World) (K:ah) (mg:Str→Option Value) (base:Heap) (A:Around) (outer:List Env) (s:Shared) (H:Hp):Prop where
 frames:A.frames=some outer
 mod:Mod K mg base
 bs:∀ b o,base.get? b=some o→s.heap.get? b=some o∧H b=none
 bsz:base.objs.size≤s.heap.objs.size
 funs:s.heap.FunFrames base outer
 frf:∀ b∈frs outer,H b=none
 hok:HOk P w H s.heap
 bare:AllBare s.gens
def CE (outer:List Env) (P:Program) (w:World) (H:Hp) (s:Shared) (Q:VK) (u:Value) (s':Shared):Prop :=
 ∃ v H',s'.os=s.os∧AllBare s'.gens∧Un (frs outer) [] H H' s.heap s'.heap∧HOk P w H' s'.heap∧RelV v u∧Q v H'
def CR (CX:CXT) (outer:List Env) (P:Program) (w:World) (H:Hp) (s:Shared) (Q:VK) (E:XK) (r:Result) (s':Shared):Prop :=
 match r with
 | .ok (.ret u)=>CE outer P w H s Q u s'
 | .ok _=>False
 | .error e=>CX outer H s E e s'
structure FnOk (P:Program) (w:World) (K:ah) (mg:Str→Option Value) (base:Heap) (CX:CXT) (k:Nat) (f:Addr) (fd:FuncData) (ps:List Str) (sp:Sp):Prop where
 len:∀ vs H Q E,sp vs H Q E→vs.length=ps.length
 run:∀ (A:Around) (outer:List Env) (s:Shared) (H:Hp) (args:Args) (us:List Value) (vs:List V) (Q:VK) (E:XK),Room k A→Env0 P w K mg base A outer s H→BindsTo s fd args (ps.zip us)→zN vs us→sp vs H Q E →
  codeAny (model P w) A (.call (.ref f) args) (CR CX outer P w H s Q E) s
section
variable {X:Cx} {kE:List (Addr×Obj)} {σ:St} {H:Hp} {s s':Shared}
theorem Inv.env0 (I:Inv X kE σ H s):Env0 X.prog X.w X.K X.mg X.base X.A X.stack s H :=
 ⟨I.ok.frames,I.ok.mod,I.bs,be I.ok.bsz I.sz,I.stack,I.stkFree,I.hok,I.bare⟩
theorem Inv.after {Q:VK} {u:Value} (I:Inv X kE σ H s) (h:CE X.stack X.prog X.w H s Q u s'):EP X kE σ Q u s':=by
 obtain⟨v,H',os,bare,un,hok,r,q⟩:=h
 obtain⟨hh,g,d,t,os'⟩:=s'
 obtain rfl:os'=s.os:=os
 exact⟨v,H',I.call (h':=hh) (g':=g) (d':=d) (t':=t) (ch:=[]) un hok bare (fun b z=>absurd z (by simp)),r,q⟩
end
def zny (sp:Sp) (vP:List V) (E:XK) (t:TA):TE:=fun σ H Q=>t σ H fun vs H1=>sp (vs++vP) H1 Q E
def Binds (K:ah) (fd:FuncData) (ps:List Str) (ds:List Value):Prop :=
 ∀ (s:Shared) (us:List Value),K.In s.heap→(us++ds).length=ps.length→BindsTo s fd ⟨us,[]⟩ (ps.zip (us++ds))
theorem Binds.all {K:ah} {fd:FuncData} {ps:List Str} (h:∀ us:List Value,us.length=ps.length→bindArgs fd ⟨us,[]⟩=pure (ps.zip us)):Binds K fd ps []:=fun s us _ hl=>by
 rw [bw] at hl ⊢
 exact .of_eq (h us hl)
def zg5 (CX:CXT) (X:Cx) (E:XK):Prop:=∀ (kE:List (Addr×Obj)) (σ:St) (H:Hp) (s:Shared) (e:Value) (s':Shared),Inv X kE σ H s→CX X.stack H s E e s'→X.xe e s'
section
variable {X:Cx} {CX:CXT} {k:Nat} {f C:Addr} {fd:FuncData} {ps:List Str} {sp:Sp} {vP:List V} {ds:List Value} {E:XK} {x m:Str} {p pos apos:Pos} {e o:Expr} {es:List Expr} {ta:TE} {t:TA}
theorem zmE {kE:List (Addr×Obj)} {σ:St} {H:Hp} {s:Shared} {Q:VK} {us:List Value} {vs:List V} (F:FnOk X.prog X.w X.K X.mg X.base CX k f fd ps sp) (hr:Room k X.A) (hb:Binds X.K fd ps ds) (hd:zN vP ds) (hx:zg5 CX X E)
  (I:Inv X kE σ H s) (r:zN vs us) (h:sp (vs++vP) H Q E):wpAny (model X.prog X.w) X.A (call (.ref f) us) (EP X kE σ Q) X.xe s:=by
 have r2:zN (vs++vP) (us++ds):=r.append hd
 have hl:(us++ds).length=ps.length:=by rw [← r2.length]; exact F.len _ _ _ _ h
 refine wpAny_call (jk (F.run X.A X.stack s H ⟨us,[]⟩ (us++ds) (vs++vP) Q E hr I.env0 (hb s us I.kIn hl) r2 h) fun r s' hq=>?_)
 cases r with
 | error e=>exact hx kE σ H s e s' I hq
 | ok fl =>
  cases fl with
  | ret u=>exact I.after hq
  | next=>exact dQ hq
  | brk=>exact dQ hq
  | cont=>exact dQ hq
theorem zt (F:FnOk X.prog X.w X.K X.mg X.base CX k f fd ps sp) (hr:Room k X.A) (hg:Gl X x) (hm:X.mg x=some (.ref f)) (hk:fk X.K (.ref f)=true) (hb:Binds X.K fd ps ds) (hd:zN vP ds) (hx:zg5 CX X E)
  (ha:PA X (e :: es) t) (yx:(x == ("__debug__" : Str))=false:=by decide) (he:starEach (e :: es) X.env=(false,eval e X.env) :: starEach es X.env:=by rfl) (lW:(backTo pos (starEach es X.env)).any (·.1)=false:=by rfl) :
  PE X (.Call (.Name x p) (e :: es) [] pos) (zny sp vP E t):=by
 intro kE s σ H Q I h
 refine gr (zk3 I hg hm ?_ yx)
 refine PySem.W.callWith_K (h₀:=X.base) I.ok.mod.kin hk (thn (ha pos kE s σ H _ I h) fun us s1 ⟨vs,H1,I1,r,q⟩=>⟨I1.kIn,?_⟩) he lW
 exact zmE F hr hb hd hx I1 r q
end
structure FnScope (N P:List Str) (sc:Scope):Prop where
 kind:sc.kind = .function
 co:sc.isCoroutine=false
 gen:sc.isGenerator=false
 nd:N.Nodup
 pre:N.take P.length=P
 par:∀ x∈P,sc.names.lookup x=some .local∨sc.names.lookup x=some .cell
 nofree:∀ y∈sc.names,y.2≠.free
theorem ze2 {kindOf:Str→Option NameKind} {x:Str}:∀ {binds:List (Str×Value)} {m:Str→Option Value},(∀ v,(x,v)∉binds)→bindL kindOf binds m x=m x
 | [],_,_=>rfl
 | (n,v) :: r,m,h=>by
  unfold bindL
  rw [ze2 fun w hw=>h w (aw _ hw)]
  split
  ·have:x≠n:=by rintro rfl; exact h v aF
   simp [this]
  ·rfl
theorem ze3 {kindOf:Str→Option NameKind} {x:Str}:∀ {binds:List (Str×Value)} {m:Str→Option Value},(∀ v,(x,v)∉binds)→bindC kindOf binds m x=m x
 | [],_,_=>rfl
 | (n,v) :: r,m,h=>by
  unfold bindC
  rw [ze3 fun w hw=>h w (aw _ hw)]
  split
  ·rfl
  ·have:x≠n:=by rintro rfl; exact h v aF
   simp [this]
theorem ze4 {kindOf:Str→Option NameKind} {x:Str} {v:Value}:∀ {P:List Str} {vs:List Value} {i:Nat} {m:Str→Option Value},P.Nodup→P[i]? = some x→vs[i]? = some v→kindOf x=some .local →
  bindL kindOf (P.zip vs) m x=some v
 | [],_,_,_,_,h,_,_=>by simp at h
 | _ :: _,[],_,_,_,_,h,_=>by simp at h
 | p :: P,w :: vs,0,m,nd,h1,h2,hk=>by
  simp at h1 h2; subst h1; subst h2
  show bindL kindOf ((p,w) :: P.zip vs) m p=_
  unfold bindL
  rw [ze2 fun v hv=>(cY.mp nd).1 (iq hv).1,if_pos hk]
  simp
 | p :: P,w :: vs,i+1,m,nd,h1,h2,hk=>by
  show bindL kindOf ((p,w) :: P.zip vs) m x=_
  unfold bindL
  exact ze4 (i:=i) (cY.mp nd).2 (by simpa using h1) (by simpa using h2) hk
theorem ze5 {kindOf:Str→Option NameKind} {x:Str} {v:Value}:∀ {P:List Str} {vs:List Value} {i:Nat} {m:Str→Option Value},P.Nodup→P[i]? = some x→vs[i]? = some v→kindOf x≠some .local →
  bindC kindOf (P.zip vs) m x=some v
 | [],_,_,_,_,h,_,_=>by simp at h
 | _ :: _,[],_,_,_,_,h,_=>by simp at h
 | p :: P,w :: vs,0,m,nd,h1,h2,hk=>by
  simp at h1 h2; subst h1; subst h2
  show bindC kindOf ((p,w) :: P.zip vs) m p=_
  unfold bindC
  rw [ze3 fun v hv=>(cY.mp nd).1 (iq hv).1,if_neg hk]
  simp
 | p :: P,w :: vs,i+1,m,nd,h1,h2,hk=>by
  show bindC kindOf ((p,w) :: P.zip vs) m x=_
  unfold bindC
  exact ze5 (i:=i) (cY.mp nd).2 (by simpa using h1) (by simpa using h2) hk
def start (N:List Str) (vs:List V):St:=vs.map some++aj (N.length - vs.length) none
def ziK (CX:CXT) (P:Program) (w:World) (K:ah) (mg:Str→Option Value) (base:Heap) (N:List Str) (qual:Str) (scope:Scope) (f:Addr) (cd:Value) (A:Around) (outer:List Env) (s:Shared) (H:Hp) (E:XK):Cx where
 prog:=P
 w:=w
 K:=K
 mg:=mg
 base:=base
 A:=A.deeper (envOfC qual scope s.heap.objs.size f cd)
 N:=N
 s₀:=s
 H₀:=H
 env:=envOfC qual scope s.heap.objs.size f cd
 outer:=outer
 stack:=envOfC qual scope s.heap.objs.size f cd :: outer
 ex:=[]
 calm:=true
 fn:=fun _=>true
 pn:=[]
 xe:=fun e s'=>wpAny (model P w) (A.deeper (envOfC qual scope s.heap.objs.size f cd)) (leaving (envOfC qual scope s.heap.objs.size f cd) e) (fun _ yy=>CX outer H s E e yy) (fun e' yy=>CX outer H s E e' yy) s'
theorem zf3 {sc:Scope} {n:Nat} {x:Str} (h:sc.names.lookup x=some .cell):∃ c,(cellsFrom n sc.names []).lookup x=some c:=by
 have q:=iE sc.names n [] (.inl h)
 exact Option.isSome_iff_exists.mp q
theorem ziL {CX:CXT} {P:Program} {w:World} {K:ah} {mg:Str→Option Value} {base:Heap} {N ps:List Str} {qual:Str} {scope:Scope} {f:Addr} {cd:Value} {A:Around} {outer:List Env} {s s1:Shared} {H:Hp} {E:XK} {us:List Value} {vs:List V}
  (S:FnScope N ps scope) (hd:A.handled=none) (e0:Env0 P w K mg base A outer s H) (hl:vs.length=ps.length) (r:zN vs us)
  (x:InCallC s s.heap.objs.size (bindL (envOfC qual scope s.heap.objs.size f cd).kindOf (ps.zip us) fun _=>none) (cellsFrom (s.heap.objs.size+1) scope.names []) (bindC (envOfC qual scope s.heap.objs.size f cd).kindOf (ps.zip us) fun _=>none) s1) :
  Inv (ziK CX P w K mg base N qual scope f cd A outer s H E) [] (start N vs) H s1:=by
 have lW:ps.length≤N.length:=by have:=congrArg et S.pre; rw [aJ] at this; lia
 obtain⟨h1,tk,rfl,hk⟩:=x.done
 have wA:∀ b:Addr,b∉(ziK CX P w K mg base N qual scope f cd A outer s H E).ex:=fun b z=>absurd (show b∈([]:List Addr) from z) (by simp)
 refine⟨⟨e0.mod,S.kind,rfl,rfl,af _,fun y z c h1 h2=>?_,fun y hy=>?_,fun y c _ h=>?_,fun _=>hd,Around.frames_deeper e0.frames,.inr ⟨rfl,rfl⟩,fun b z=>absurd z (wA b),e0.bs,e0.bsz,fun b _ _=>wA b,fun b z=>absurd z (wA b),e0.funs,e0.frf⟩,
  rfl,e0.bare,Un.kept hk,⟨_,x.toInCall.ns,fun i y v h1 h2 h3=>?_⟩,fun y c h=>⟨_,x.cell y c h⟩,e0.hok.fresh (af _),fun y c h=>?_,fun p hp=>absurd (show p∈([]:List (Addr×Obj)) from hp) (by simp),e0.hok.kept hk,?_⟩
 ·exact name_of_addr x.apart (d7 h1) (d7 h2)
 ·have hy:scope.names.lookup y=some .cell∨scope.names.lookup y=some .free:=hy
  rcases hy with hy | hy
  ·exact zf3 hy
  ·exact absurd rfl (S.nofree _ (d7 hy))
 ·exact gZ (x.above y c (d7 h))
 ·have hi:i < vs.length:=by
   unfold start at h2
   by_cases hi:i < vs.length
   ·exact hi
   ·rw [bu (by simpa using hi)] at h2
    rw [cH] at h2
    split at h2 <;> cases h2
  have ha:vs[i]? = some v:=by
   unfold start at h2
   rw [bD (by simpa using hi),ag] at h2
   cases e:vs[i]? with
   | none=>rw [e] at h2; cases h2
   | some a=>rw [e] at h2; cases h2; rfl
  obtain⟨u,hu,rv⟩:=r.get ha
  have hp:ps[i]? = some y:=by
   rw [← S.pre,cC (by lia)]; exact h1
  have ndP:ps.Nodup:=by rw [← S.pre]; exact S.nd.sublist (cq _ _)
  refine⟨u,rv,?_⟩
  rcases S.par y (ap hp) with k | k
  ·exact .inl ⟨k,ze4 ndP hp hu k⟩
  ·obtain⟨c,e⟩:=zf3 (n:=s.heap.objs.size+1) k
   refine .inr ⟨.inl k,c,e,?_⟩
   have q:=x.cell y c e
   rw [ze5 ndP hp hu (by show scope.names.lookup y≠_; rw [k]; decide)] at q
   exact q
 ·exact e0.hok.fresh (gZ (x.above y c (d7 h)))
 ·unfold start
  show _=N.length
  rw [ar,ab,aL]
  lia
theorem znz {CX:CXT} {P:Program} {w:World} {K:ah} {mg:Str→Option Value} {base:Heap} {k:Nat} {f:Addr} {name qual:Str} {params:Arguments} {body:List Stmt} {scope:Scope} {dV kV doc pm ly ct oc:Value} {an od:Option Addr}
  {vQ:Array (Option Value)} {N ps:List Str} {sp:Sp} (lk:K.lookup f=some ⟨oc,od,.func (cZ name qual params body scope dV kV doc pm an ly ct),vQ⟩) (si:fm K ly qual=true) (S:FnScope N ps scope)
  (len:∀ vs H Q E,sp vs H Q E→vs.length=ps.length)
  (tM:∀ (A:Around) (outer:List Env) (s:Shared) (H:Hp) (vs:List V) (Q:VK) (E:XK),Room k (A.deeper (envOfC qual scope s.heap.objs.size f ly))→sp vs H Q E →
   ∃ t,PSs (ziK CX P w K mg base N qual scope f ly A outer s H E) body t∧t { nx:=fun _ H'=>Q .non H',rt:=Q } (start N vs) H) :
  FnOk P w K mg base CX (k+1) f (cZ name qual params body scope dV kV doc pm an ly ct) ps sp:=by
 refine⟨len,fun A outer s H args us vs Q E hr e0 hb r uC=>?_⟩
 have hl:=len _ _ _ _ uC
 have KX:K.In s.heap:=e0.mod.kin.keeps fun b o e=>(e0.bs b o e).1
 have lim:s.heap.NoLimit:=e0.mod.nolimit.keeps fun b o e=>(e0.bs b o e).1
 have qv:∀ y∈ps.zip us,scope.names.lookup y.1=some .local∨(scope.names.lookup y.1=some .cell∧((cellsFrom (s.heap.objs.size+1) scope.names []).lookup y.1).isSome=true):=fun ⟨n,v⟩ hy=>by
  rcases S.par n (iq hy).1 with q | q
  ·exact .inl q
  ·exact .inr ⟨q,iE _ _ _ (.inl q)⟩
 refine codeAny_call_function hr.depth (KX _ _ lk) rfl S.co S.gen rfl (PySem.W.codeRec_of KX si) (hb _ _ _ _ ?_)
 refine wpAny_newFunctionEnv_cells S.kind qv fun env he s1 x=>?_
 subst he
 refine⟨lim.keeps x.toInCall.keep,codeAny_func ?_⟩
 obtain⟨t,ht,hq⟩:=tM A outer s H vs Q E (hr.deeper _) uC
 have I:Inv (ziK CX P w K mg base N qual scope f ly A outer s H E) [] (start N vs) H s1:=ziL S hr.hd e0 hl r x
 refine cK (ht [] s1 (start N vs) H _ I hq) (fun fl s' hs=>?_) fun e s' hs=>hs
 have fin:∀ {σ':St} {H':Hp} {v:V} {u:Value},Inv (ziK CX P w K mg base N qual scope f ly A outer s H E) [] σ' H' s'→RelV v u→Q v H'→CE outer P w H s Q u s' :=
  fun {σ' H' v u} J rv q=>⟨v,H',J.os,J.bare,J.base,J.hok,rv,q⟩
 cases fl with
 | ret u =>
  obtain⟨v,σ',H',J,rv,q⟩:=hs
  exact fin J rv q
 | next =>
  obtain⟨σ',H',J,q⟩:=hs
  exact fin (v:=V.non) (u:=cX) J rfl q
 | brk =>
  obtain⟨_,_,_,q⟩:=hs
  exact dQ q
 | cont =>
  obtain⟨_,_,_,q⟩:=hs
  exact dQ q
section
variable {X:Cx} {x:Str} {p pos:Pos} {e:Expr} {es:List Expr} {t:TA} {id T:String} {r:List V→Hp→VK→Prop}
def tCB (r:List V→Hp→VK→Prop) (t:TA):TE:=fun σ H Q=>t σ H fun vs H1=>r vs H1 Q
theorem zw (hc:zbC X (.builtin id) r) (hg:Gl X x) (hm:X.mg x=none) (hv:bootBuiltins x=some (.builtin id)) (ha:PA X (e :: es) t) (hn:x≠"__name__":=by decide) (yx:(x == ("__debug__" : Str))=false:=by decide)
  (he:starEach (e :: es) X.env=(false,eval e X.env) :: starEach es X.env:=by rfl) (lW:(backTo pos (starEach es X.env)).any (·.1)=false:=by rfl):PE X (.Call (.Name x p) (e :: es) [] pos) (tCB r t):=by
 intro kE s σ H Q I h
 refine gr (zbu I hg hm hv ?_ hn yx)
 exact PyProof.Rows.callWith_builtin1 (thn (ha pos kE s σ H _ I h) fun us s1 ⟨vs,H1,I1,r1,q1⟩=>hc kE s1 σ H1 vs us Q I1 r1 q1) he lW
theorem zaO (hc:zbC X (.type T) r) (hg:Gl X x) (hm:X.mg x=none) (hv:bootBuiltins x=some (.type T)) (ha:PA X (e :: es) t) (hn:x≠"__name__":=by decide) (yx:(x == ("__debug__" : Str))=false:=by decide)
  (he:starEach (e :: es) X.env=(false,eval e X.env) :: starEach es X.env:=by rfl) (lW:(backTo pos (starEach es X.env)).any (·.1)=false:=by rfl):PE X (.Call (.Name x p) (e :: es) [] pos) (tCB r t):=by
 intro kE s σ H Q I h
 refine gr (zbu I hg hm hv ?_ hn yx)
 exact bE (thn (ha pos kE s σ H _ I h) fun us s1 ⟨vs,H1,I1,r1,q1⟩=>hc kE s1 σ H1 vs us Q I1 r1 q1) he lW
end
end L2
namespace HT
open PySem PyProof.Rows
section
variable {prog:Program} {w:World} {A:Around} {E:Value→Shared→Prop} {s:Shared}
theorem cat_tup {t b:Addr} {vs ws:List Value} {Q:Value→Shared→Prop} (ht:IsTup s.heap t vs.toArray) (hb:IsTup s.heap b ws.toArray) (hv:vs≠[])
  (h1:ws = []→Q (.ref t) s) (h2:ws≠[]→Q (.ref s.heap.objs.size) { s with heap:=s.heap.push { cls:=.type "tuple",data:=.seq (vs++ws).toArray } })
  (hsz:vs.length+ws.length≤sizeLine):wpAny (model prog w) A (binaryOp .Add (.ref t) (.ref b)) Q E s:=by
 obtain⟨⟨cls,dd,data,sl⟩,ho,hc,n,hd⟩:=id ht
 obtain⟨⟨CH,BH,data2,BI⟩,rV,uD,n2,hd2⟩:=id hb
 simp only at hc hd uD hd2
 subst hc hd uD hd2
 have e:vs.toArray++ws.toArray=(vs++ws).toArray:=by simp
 by_cases hw:ws = []
 ·exact jl ⟨_,ho,rfl⟩ ⟨_,rV,rfl⟩ g6 i6 fE fq (fg _ _)
   (tuple_addW1 t b vs.toArray ws.toArray n n2 dd BH sl BI (by simpa using hv) (by simp [hw])) ⟨ho,rV,h1 hw⟩
 ·refine jl ⟨_,ho,rfl⟩ ⟨_,rV,rfl⟩ g6 i6 fE fq (fg _ _)
   (tuple_addW2 t b vs.toArray ws.toArray n n2 dd BH sl BI (by simpa using hv) (by simpa using hw) (by rw [aq,aq]; exact hsz)) ⟨ho,rV,?_⟩
  rw [e]
  exact h2 hw
def sIx (n d:Nat):Option Int→Nat
 | none=>d
 | some v=>if v < 0 then (v+(n:Int)).toNat else min v.toNat n
theorem sIx_none (n d:Nat):sIx n d none=d:=rfl
theorem sIx_nat (n d k:Nat):sIx n d (some (k:Int))=min k n:=by
 show (if (k:Int) < 0 then ((k:Int)+(n:Int)).toNat else min (k:Int).toNat n)=min k n
 rw [if_neg (by lia),bH]
theorem zmF (n d:Nat) (hd:d≤n) (o:Option Int):sIx n d o≤n:=by
 cases o with
 | none=>exact hd
 | some v =>
  show (if v < 0 then (v+(n:Int)).toNat else min v.toNat n)≤n
  by_cases hv:v < 0
  ·rw [if_pos hv]; lia
  ·rw [if_neg hv]; exact Nat.min_le_right _ _
theorem zhL (v:Int) (n d:Nat):(if v < 0 then max (v+(n:Int)) 0 else min v (n:Int))=((sIx n d (some v):Nat):Int):=by
 show (if v < 0 then max (v+(n:Int)) 0 else min v (n:Int))=(((if v < 0 then (v+(n:Int)).toNat else min v.toNat n):Nat):Int)
 by_cases hv:v < 0
 ·simp only [if_pos hv]; lia
 ·simp only [if_neg hv]; lia
theorem zg6 (lo hi:Option Int) (n:Nat):eY lo hi 1 (n:Int)=(((sIx n 0 lo:Nat):Int),((sIx n n hi:Nat):Int)):=by
 have h1:¬ ((1:Int) < 0):=by lia
 unfold eY
 simp only [h1,if_false]
 refine kz ?_ ?_
 ·cases lo with
  | none=>rfl
  | some v=>exact zhL v n 0
 ·cases hi with
  | none=>rfl
  | some v=>exact zhL v n n
theorem zg7 (i j:Nat):dR (i:Int) (j:Int) 1=j - i:=by
 unfold dR
 have h1:(1:Int) > 0:=by lia
 simp only [h1,if_true,Int.ediv_one]
 split <;> lia
theorem zeb {v:Value} {o:Option Int} {Q:Option Int→Shared→Prop} (p:IsPart v o) (h:Q o s):wpAny (model prog w) A (Builtin.Slice.slicePartIndex v) Q E s:=by
 cases p with
 | none=>exact slicePart_none h
 | int i t=>exact slicePart_int h
theorem zbK {sl:Addr} {vl vu:Value} {lo hi:Option Int} {n:Nat} {Q:Int×Int×Nat→Shared→Prop} (hs:s.heap.IsSliceOf sl vl vu .none) (pl:IsPart vl lo) (pu:IsPart vu hi)
  (h:Q (((sIx n 0 lo:Nat):Int),1,sIx n n hi - sIx n 0 lo) s):wpAny (model prog w) A (gB (.ref sl) (pure (n:Int))) Q E s:=by
 obtain⟨os,wB,BJ,yz⟩:=id hs
 unfold gB Builtin.Slice.sliceFields
 refine ae (ae (bp wB yz (x:=vl) rfl (ae (bp wB yz (x:=vu) rfl (ae (bp wB yz (x:=.none) rfl (ao ?_)))))))
 refine ae (slicePart_none ?_)
 show wpAny _ _ (if ((1:Int) == 0)=true then _ else _) _ _ s
 rw [if_neg (by decide)]
 refine ae (zeb pl (ae (zeb pu (ae (ao ?_)))))
 show wpAny _ _ (match eY lo hi 1 (n:Int) with | (lo,hi)=>pure (lo,(1:Int),dR lo hi 1)) _ _ s
 rw [zg6 lo hi n]
 show wpAny _ _ (pure (((sIx n 0 lo:Nat):Int),(1:Int),dR ((sIx n 0 lo:Nat):Int) ((sIx n n hi:Nat):Int) 1)) _ _ s
 rw [zg7]
 exact ao h
theorem zjF (xs:Array Value) (i k:Nat):((aD k).filterMap fun (m:Nat)=>xs[((i:Int)+(m:Int)*1).toNat]?).toArray=((xs.toList.drop i).take k).toArray:=by
 have e:(fun (m:Nat)=>xs[((i:Int)+(m:Int)*1).toNat]?)=fun m=>xs[i+m]?:=by
  funext m
  have:((i:Int)+(m:Int)*1).toNat=i+m:=by lia
  rw [this]
 rw [e]
 have:=pick_run xs i k
 rw [jm] at this
 have e2:((fun x=>xs[x]?) ∘ fun x=>i+x)=fun m=>xs[i+m]?:=rfl
 rw [e2] at this
 rw [this]
theorem getItem_tuple_cut {t sl:Addr} {items:Array Value} {vl vu:Value} {lo hi:Option Int} {Q:Value→Shared→Prop} (ht:IsTup s.heap t items) (hs:s.heap.IsSliceOf sl vl vu .none) (pl:IsPart vl lo) (pu:IsPart vu hi)
  (hw:¬ (sIx items.size 0 lo=0∧sIx items.size items.size hi=items.size))
  (h:Q (.ref s.heap.objs.size) { s with heap:=s.heap.push { cls:=.type "tuple",data:=.seq ((items.toList.drop (sIx items.size 0 lo)).take (sIx items.size items.size hi - sIx items.size 0 lo)).toArray } })
  (hsz:items.size≤sizeLine):wpAny (model prog w) A (getItem (.ref t) (.ref sl)) Q E s:=by
 have rW:sizeOk (.seq ((items.toList.drop (sIx items.size 0 lo)).take (sIx items.size items.size hi - sIx items.size 0 lo)).toArray):=by
  show ((items.toList.drop (sIx items.size 0 lo)).take (sIx items.size items.size hi - sIx items.size 0 lo)).toArray.size≤sizeLine
  rw [aq,aJ,bS,bv]
  lia
 have hj:sIx items.size items.size hi≤items.size:=zmF _ _ (af _) hi
 obtain⟨os,wB,BJ,yz⟩:=id hs
 have CI:s.TypeIs (.ref sl) "slice":=⟨os,wB,BJ⟩
 unfold getItem
 try with_reducible refine b9 ?_
 first | refine ae (ao ?_) | skip
 refine ae (wpAny_sequenceKey ht.typeIs (by decide) ?_)
 refine ae (bh (name:=bP "__getitem__") ht.typeIs cW
  (bt cW ht.typeIs jb ?_ (jn _ _)))
 show wpAny _ _ (gC (.ref t) >>= _) _ _ s
 refine ae (tupleItemsOf_ ht ?_)
 refine ae (jo CI ?_)
 rw [if_pos (by decide)]
 refine ae (zbK hs pl pu ?_)
 have xO:¬ ((((sIx items.size 0 lo:Nat):Int) == 0 && (1:Int) == 1 && (sIx items.size items.size hi - sIx items.size 0 lo) == items.size)=true):=by
  intro q
  rw [dt,dt] at q
  have q1:((sIx items.size 0 lo:Nat):Int)=0:=eq_of_beq q.1.1
  have q2:sIx items.size items.size hi - sIx items.size 0 lo=items.size:=eq_of_beq q.2
  exact hw ⟨by lia,by lia⟩
 show wpAny _ _ (if (((sIx items.size 0 lo:Nat):Int) == 0 && (1:Int) == 1 && (sIx items.size items.size hi - sIx items.size 0 lo) == items.size)=true then _ else _) _ _ s
 rw [if_neg xO,zjF]
 first
  | exact ae (m:=dX _) (bG (ao ⟨_,rfl,ao h⟩) rW)
  | exact ae (m:=dX _) (bG (ae (ao (ao ⟨_,rfl,ao h⟩))) rW)
  | exact ae (ae (m:=dX _) (bG (ao (ao ⟨_,rfl,ao h⟩)) rW))
  | exact ae (ae (m:=dX _) (bG (ao ⟨_,rfl,ao h⟩) rW))
end
end HT
namespace L2
open PySem PySem.Spec PyProof.Rows
abbrev TO:=St→Hp→(Option Int→Hp→Prop)→Prop
def PO (X:Cx) (e:Option Expr) (t:TO):Prop :=
 ∀ (kE:List (Addr×Obj)) (s:Shared) (σ:St) (H:Hp) (Q:Option Int→Hp→Prop),Inv X kE σ H s→t σ H Q →
  wpAny (model X.prog X.w) X.A (evalPart e X.env) (fun u s'=>∃ o H',Inv X kE σ H' s'∧IsPart u o∧Q o H') X.xe s
def zk9:TO:=fun _ H Q=>Q none H
def znA (t:TE):TO:=fun σ H Q=>t σ H fun x H1=>∃ i,x = .int i∧Q (some i) H1
theorem intsAre_of {ns:List Int}:∀ {us:List Value},zN (ns.map V.int) us→IntsAre us ns:=by
 induction ns with
 | nil=>intro us r; rw [cJ] at r; cases r; exact .nil
 | cons n ns ih =>
  intro us r
  rw [bd] at r
  cases r with
  | cons r1 r2 =>
   obtain⟨t,e⟩:=r1
   subst e
   exact .cons n t (ih r2)
section
variable {X:Cx} {e:Expr} {te:TE} {lo hi:Option Expr} {tl th:TO} {pos p2:Pos}
theorem zbU:PO X none zk9:=by
 intro kE s σ H Q I h
 rw [evalPart_none]
 exact ao ⟨none,H,I,.none,h⟩
theorem zbq (h:PE X e te):PO X (some e) (znA te):=by
 intro kE s σ H Q I hw
 rw [evalPart_some]
 refine thn (h kE s σ H _ I hw) fun u s1 ⟨x,H1,I1,r1,q1⟩=>?_
 obtain⟨i,rfl,q⟩:=q1
 obtain⟨t,rfl⟩:=r1
 exact⟨some i,H1,I1,.int i t,q⟩
def SlR (X:Cx) (r:V→Option Int→Option Int→Hp→VK→Prop):Prop :=
 ∀ (kE:List (Addr×Obj)) (s:Shared) (σ:St) (H:Hp) (x:V) (v vl vu:Value) (lo hi:Option Int) (sl:Addr) (Q:VK),Inv X kE σ H s→RelV x v→s.heap.IsSliceOf sl vl vu .none→IsPart vl lo→IsPart vu hi→r x lo hi H Q →
  ∃ T id,typeLookup (.type T) "__getitem__" = pure (some (.builtin id))∧s.TypeIs v T∧wpAny (model X.prog X.w) X.A (getItem v (.ref sl)) (EP X kE σ Q) X.xe s
def tSl (r:V→Option Int→Option Int→Hp→VK→Prop) (te:TE) (tl th:TO):TE:=fun σ H Q=>te σ H fun x H1=>tl σ H1 fun l H2=>th σ H2 fun u H3=>r x l u H3 Q
theorem zbi {r:V→Option Int→Option Int→Hp→VK→Prop} (hr:SlR X r) (he:PE X e te) (hl:PO X lo tl) (hu:PO X hi th):PE X (.Subscript e (.Slice lo hi none p2) pos) (tSl r te tl th):=by
 intro kE s σ H Q I h
 refine Subscript_ (thn (he kE s σ H _ I h) fun v s1 ⟨x,H1,I1,r1,q1⟩=>?_)
 refine wpAny_Slice (thn (hl kE s1 σ H1 _ I1 q1) fun vl s2 ⟨l,H2,I2,pl,q2⟩=>thn (hu kE s2 σ H2 _ I2 q2) fun vu s3 ⟨u,H3,I3,pu,q3⟩=>?_)
 rw [evalPart_none]
 refine ao ?_
 have I4:Inv X kE σ H3 { s3 with heap:=s3.heap.push { cls:=.type "slice",data:=.fields #[vl,vu,.none] } }:=I3.kept (t':=s3.toks) fun b ob q=>ai _ q
 obtain⟨T,id,hT,ht,hg⟩:=hr kE { s3 with heap:=s3.heap.push { cls:=.type "slice",data:=.fields #[vl,vu,.none] } } σ H3 x v vl vu l u s3.heap.objs.size Q I4 r1 (Heap.IsSliceOf.new ..) pl pu q3
 show wpAny (model X.prog X.w) X.A (subscriptTail e (.Slice lo hi none p2) v (.ref s3.heap.objs.size)) (EP X kE σ Q) X.xe { s3 with heap:=s3.heap.push { cls:=.type "slice",data:=.fields #[vl,vu,.none] } }
 exact tail_any (ops:=[.ref s3.heap.objs.size,v]) ht hT hg (by with_unfolding_all rfl)
def za2 (xs:List V) (lo hi:Option Int):List V:=(xs.drop (HT.sIx xs.length 0 lo)).take (HT.sIx xs.length xs.length hi - HT.sIx xs.length 0 lo)
theorem zdw (xs:List V) (lo hi:Option Int):(za2 xs lo hi).length≤xs.length:=by
 unfold za2
 rw [aJ,bS]
 lia
def zoc (K:ah):V→Option Int→Option Int→Hp→VK→Prop:=fun x lo hi H Q=>∃ a xs,x = .ref a∧kP K H a xs ∧
 ¬ (HT.sIx xs.length 0 lo=0∧HT.sIx xs.length xs.length hi=xs.length)∧∀ p,H p=none→Q (.ref p) (kL H p (.tup (za2 xs lo hi)))
theorem zjG:SlR X (zoc X.K):=by
 intro kE s σ H x v vl vu lo hi sl Q I rx hs pl pu h
 obtain⟨a,xs,rfl,hx,hw,q⟩:=h
 cases rx
 obtain⟨kK,r,ht,hz⟩:=I.tuple hx
 have kQ:kK.toArray.size=xs.length:=by rw [aq]; exact r.length.symm
 refine⟨"tuple",_,PyProof.Rows.slot_tuple_getitem.lookup,ht.typeIs,?_⟩
 refine HT.getItem_tuple_cut ht hs pl pu (by rw [kQ]; exact hw) ?_ (by rw [kQ]; exact hz)
 rw [kQ]
 refine⟨.ref s.heap.objs.size,_,I.laid (t':=s.toks) (o:=.tup (za2 xs lo hi)) (fun b ob q=>ai _ q) (af _) ?_,rfl,q _ (I.hok.fresh (af _))⟩
 exact⟨be (zdw xs lo hi) hz,_,(r.drop (HT.sIx xs.length 0 lo)).take (HT.sIx xs.length xs.length hi - HT.sIx xs.length 0 lo),gq _ _⟩
def znB (K:ah):R2:=fun x y H Q=>∃ a b xs ys,x = .ref a∧y = .ref b∧kP K H a xs∧kP K H b ys∧xs≠[]∧xs.length+ys.length≤sizeLine ∧
 (ys = []→Q (.ref a) H)∧(ys≠[]→∀ p,H p=none→Q (.ref p) (kL H p (.tup (xs++ys))))
theorem zN.nil_iff {xs:List V} {us:List Value} (r:zN xs us):us = []↔xs = []:=by
 cases r with
 | nil=>simp
 | cons _ _=>simp
theorem zla:OpR X (binaryOp .Add) (znB X.K):=by
 intro kE s σ H x y v u Q I rx ry h
 obtain⟨a,b,xs,ys,rfl,rfl,ha,hb,hx,hz,q1,q2⟩:=h
 cases rx
 cases ry
 obtain⟨kK,r1,p1,_⟩:=I.tuple ha
 obtain⟨lT,r2,p2,_⟩:=I.tuple hb
 refine HT.cat_tup p1 p2 (fun z=>hx (r1.nil_iff.mp z)) (fun z=>⟨.ref a,H,I,rfl,q1 (r2.nil_iff.mp z)⟩) (fun z=>?_) (by rw [← r1.length,← r2.length]; exact hz)
 refine⟨.ref s.heap.objs.size,_,I.laid (t':=s.toks) (o:=.tup (xs++ys)) (fun b ob q=>ai _ q) (af _) ?_,rfl,q2 (fun w=>z (r2.nil_iff.mpr w)) _ (I.hok.fresh (af _))⟩
 exact⟨by rw [ar]; exact hz,_,r1.append r2,gq _ _⟩
end
def ixN (n:Nat) (i:Int):Option Nat:=if 0≤i then (if i < n then some i.toNat else none) else if -(n:Int)≤i then some (i+n).toNat else none
def atI {α:Type} (xs:List α) (i:Int):Option α:=(ixN xs.length i).bind fun j=>xs[j]?
theorem zhM {n:Nat} {i:Int} {j:Nat} (h:ixN n i=some j):seqIndex? i n=some j∧j < n∧-(n:Int)≤i∧i < n:=by
 unfold ixN at h
 by_cases h0:0≤i
 ·rw [if_pos h0] at h
  by_cases h1:i < n
  ·rw [if_pos h1] at h
   have e:i.toNat=j:=aR h
   exact⟨by rw [gk h0 h1,e],by lia,by lia,h1⟩
  ·rw [if_neg h1] at h; cases h
 ·rw [if_neg h0] at h
  by_cases h1:-(n:Int)≤i
  ·rw [if_pos h1] at h
   have e:(i+n).toNat=j:=aR h
   exact⟨by rw [jp (by lia) h1,e],by lia,h1,by lia⟩
  ·rw [if_neg h1] at h; cases h
theorem zhN {α:Type} {xs:List α} {i:Int} {v:α} (h:atI xs i=some v):∃ j,seqIndex? i xs.length=some j∧xs[j]? = some v∧j < xs.length∧-(xs.length:Int)≤i∧i < xs.length:=by
 unfold atI at h
 cases e:ixN xs.length i with
 | none=>rw [e] at h; cases h
 | some j =>
  rw [e] at h
  obtain⟨h1,h2,h3,h4⟩:=zhM e
  exact⟨j,h1,h,h2,h3,h4⟩
theorem zag {α:Type} {xs:List α} {j:Nat} {v:α} (h:xs[j]? = some v):atI xs (j:Int)=some v:=by
 have hj:j < xs.length:=(ak.mp h).1
 have e:ixN xs.length (j:Int)=some j:=by
  unfold ixN
  rw [if_pos (by lia),if_pos (by lia)]; simp
 unfold atI; rw [e]; exact h
def zlb (b:Expr):Prop:=∀ o i,subscripted b false o i=operate [o,i] (getItem o i)
def IxR (X:Cx) (r:R2):Prop :=
 ∀ (value slice:Expr) (kE:List (Addr×Obj)) (s:Shared) (σ:St) (H:Hp) (x y:V) (v u:Value) (Q:VK),Inv X kE σ H s→RelV x v→RelV y u→r x y H Q →
  subscripted slice false v u=operate [v,u] (getItem v u)→wpAny (model X.prog X.w) X.A (subscriptTail value slice v u) (EP X kE σ Q) X.xe s
def MtR (X:Cx) (id:String) (r:V→List V→Hp→VK→Prop):Prop :=
 ∀ (kE:List (Addr×Obj)) (s:Shared) (σ:St) (H:Hp) (x:V) (xs:List V) (v:Value) (us:List Value) (Q:VK),Inv X kE σ H s→RelV x v→zN xs us→r x xs H Q →
  wpAny (model X.prog X.w) X.A (call (.builtin id) (v :: us)) (EP X kE σ Q) X.xe s
section
variable {X:Cx} {a b:Expr} {ta tb:TE} {pos:Pos}
theorem zM {r:R2} (hr:IxR X r) (ha:PE X a ta) (hb:PE X b tb) (hs:zlb b):PE X (.Subscript a b pos) (tOp r ta tb):=by
 intro kE s σ H Q I h
 exact Subscript_ (zmw ha hb I h fun v u s2 x y H2 I2 rx ry q=>hr a b kE s2 σ H2 x y v u Q I2 rx ry q (hs _ _))
def znC (K:ah):R2:=fun x y H Q=>∃ p xs i v,x = .ref p∧y = .int i∧kG K H p xs∧atI xs i=some v∧Q v H
def zod (K:ah):R2:=fun x y H Q=>∃ p xs i v,x = .ref p∧y = .int i∧kP K H p xs∧atI xs i=some v∧Q v H
theorem zC:IxR X (znC X.K):=by
 intro value slice kE s σ H x y v u Q I rx ry h hs
 obtain⟨p,xs,i,z,rfl,rfl,hq,he,q⟩:=h
 cases rx
 obtain⟨t,rfl⟩:=ry
 obtain⟨kK,r,pl,hz⟩:=I.list hq
 obtain⟨j,h1,h2,h3,h4,h5⟩:=zhN he
 obtain⟨w,ew,sj⟩:=r.get h2
 have hl:=r.length
 have hn:=zea
 have fin:EP X kE σ Q w s:=⟨z,H,I,sj,q⟩
 by_cases h0:0≤i
 ·have hj:i.toNat=j:=by
   rw [gk h0 h5] at h1
   exact aR h1
  exact item_listR pl.isList h0 (by lia) (by rw [hj]; simpa using ew) fin hs
 ·have hj:(i+(kK.toArray.size:Int)).toNat=j:=by
   rw [jp (by lia) h4] at h1
   rw [aq,← hl]
   exact aR h1
  exact iF (x:=w) pl.isList.typeIs slot_list_getitem.lookup
   (wpAny_getItem_list_neg (Q:=fun r s'=>r=w∧EP X kE σ Q r s') pl.isList (by lia) (by rw [aq] <;> lia) (by lia) (by rw [hj]; simpa using ew) ⟨rfl,fin⟩) hs
theorem zbv:IxR X (zod X.K):=by
 intro value slice kE s σ H x y v u Q I rx ry h hs
 obtain⟨p,xs,i,z,rfl,rfl,hq,he,q⟩:=h
 cases rx
 obtain⟨t,rfl⟩:=ry
 obtain⟨kK,r,pl,hz⟩:=I.tuple hq
 obtain⟨j,h1,h2,h3,h4,h5⟩:=zhN he
 obtain⟨w,ew,sj⟩:=r.get h2
 have hl:=r.length
 have hn:=zea
 have fin:EP X kE σ Q w s:=⟨z,H,I,sj,q⟩
 exact iF (x:=w) pl.typeIs slot_tuple_getitem.lookup
  (getItem_tuple (j:=j) (Q:=fun r s'=>r=w∧EP X kE σ Q r s') pl (by lia) (by lia) (by rw [aq,← hl]; exact h1) (by simpa using ew) ⟨rfl,fin⟩) hs
theorem zg8 (kK:List Value) (n j:Nat) (u:Value):c6 (·.setIfInBounds j u) { cls:=.type "list",data:=.seq kK.toArray n } = { cls:=.type "list",data:=.seq (kK.set j u).toArray n }:=by
 simp [c6]
theorem Inv.lst {kE:List (Addr×Obj)} {σ:St} {H:Hp} {s:Shared} {p:Addr} {xs:List V} (I:Inv X kE σ H s) (h:H p=some (.lst xs)) :
  ∃ (kK:List Value) (n:Nat),zN xs kK∧s.heap.get? p=some { cls:=.type "list",data:=.seq kK.toArray n }∧xs.length≤sizeLine:=by
 obtain⟨z,kK,n,r,e⟩:=I.hok p _ h
 exact⟨kK,n,r,e,z⟩
theorem Inv.lstUpd {kE:List (Addr×Obj)} {σ:St} {H:Hp} {s:Shared} {p:Addr} {xs ys:List V} {kK its':List Value} {n n':Nat} {f:Obj→Obj} (I:Inv X kE σ H s) (h:H p=some (.lst xs))
  (ho:s.heap.get? p=some { cls:=.type "list",data:=.seq kK.toArray n }) (hf:f { cls:=.type "list",data:=.seq kK.toArray n } = { cls:=.type "list",data:=.seq its'.toArray n' }) (r:zN ys its') (hz:ys.length≤sizeLine) (t:Nat) :
  Inv X kE σ (kL H p (.lst ys)) { s with heap:=s.heap.update p f,toks:=t }:=by
 have e:(s.heap.update p f).get? p=some { cls:=.type "list",data:=.seq its'.toArray n' }:=by
  rw [dH f ho (by rw [hf] <;> rfl),hf]
 refine I.write (x:=p) (e:=p) (by rw [h]; trivial) (.inl rfl) (fun b u hb q=>(fF _ _ (cR hb)).trans q) ⟨_,e⟩ ?_
 exact⟨hz,its',n',r,e⟩
def znD:V→V→V→Hp→(Hp→Prop)→Prop:=fun o i v H Q=>∃ p xs k j,o = .ref p∧i = .int k∧H p=some (.lst xs)∧ixN xs.length k=some j∧Q (kL H p (.lst (xs.set j v)))
theorem set_list:znq X znD:=by
 intro kE s σ H o i v ov iv u Q I ro ri rv h
 obtain⟨p,xs,k,j,rfl,rfl,hp,hj,q⟩:=h
 cases ro
 obtain⟨t,rfl⟩:=ri
 obtain⟨kK,n,r,ho,hz⟩:=I.lst hp
 obtain⟨h1,h2,h3,h4⟩:=zhM hj
 have hl:=r.length
 have hn:=zea
 have I':Inv X kE σ (kL H p (.lst (xs.set j v))) { s with heap:=s.heap.update p (c6 (·.setIfInBounds j u)) } :=
  I.lstUpd hp ho (zg8 kK n j u) (r.set rv j) (by rw [ck]; exact hz) s.toks
 by_cases h0:0≤k
 ·have hk:k.toNat=j:=by
   rw [gk h0 h4] at h1
   exact aR h1
  exact PySem.W.ki_setAt ho h0 (by lia) (by rw [aq,← hl]; exact h4) (by rw [hk]; exact⟨_,I',q⟩)
 ·have hk:(k+(kK.toArray.size:Int)).toNat=j:=by
   rw [jp (by lia) h3] at h1
   rw [aq,← hl]
   exact aR h1
  exact PySem.W.ki_setBack ho (by lia) (by rw [aq,← hl]; exact h3) (by lia) (by rw [hk]; exact⟨_,I',q⟩)
theorem zfp (lo hi:Option Int) (n:Nat):(sliceBounds lo hi none n).1=((HT.sIx n 0 lo:Nat):Int)∧(sliceBounds lo hi none n).2.1=((HT.sIx n n hi:Nat):Int)∧(sliceBounds lo hi none n).2.2=1:=by
 refine⟨?_,?_,rfl⟩
 ·cases lo with
  | none=>simp [sliceBounds,HT.sIx]
  | some i =>
   simp only [sliceBounds,HT.sIx,g7,show (1:Int) > 0 by decide,if_true]
   by_cases h:i < 0
   ·simp only [h,if_true] <;> lia
   ·simp only [h,if_false] <;> lia
 ·cases hi with
  | none=>simp [sliceBounds,HT.sIx]
  | some i =>
   simp only [sliceBounds,HT.sIx,g7,show (1:Int) > 0 by decide,if_true]
   by_cases h:i < 0
   ·simp only [h,if_true] <;> lia
   ·simp only [h,if_false] <;> lia
theorem zeM (kK:List Value) (lo hi:Option Int):slicePick kK.toArray lo hi none=((kK.drop (HT.sIx kK.length 0 lo)).take (HT.sIx kK.length kK.length hi - HT.sIx kK.length 0 lo)).toArray:=by
 obtain⟨h1,h2,h3⟩:=zfp lo hi kK.toArray.size
 unfold slicePick
 rw [h1,h2,h3]
 simp only [sliceRange_one,pick_run,aq] <;> rfl
def znE (K:ah):V→Option Int→Option Int→Hp→VK→Prop:=fun x lo hi H Q=>∃ a xs,x = .ref a∧kG K H a xs∧∀ p,H p=none→Q (.ref p) (kL H p (.lst (za2 xs lo hi)))
theorem zcq:SlR X (znE X.K):=by
 intro kE s σ H x v vl vu lo hi sl Q I rx hs pl pu h
 obtain⟨a,xs,rfl,hx,q⟩:=h
 cases rx
 obtain⟨kK,r,ht,hz⟩:=I.list hx
 have kQ:=r.length
 refine⟨"list",_,slot_list_getitem.lookup,ht.isList.typeIs,?_⟩
 refine wpAny_getItem_list_slice ht.isList hs pl pu .none (by simp) ?_ (by rw [aq] <;> lia)
 rw [zeM,← kQ]
 refine⟨.ref s.heap.objs.size,_,I.laid (t':=s.toks) (o:=.lst (za2 xs lo hi)) (fun b ob q=>ai _ q) (af _) ?_,rfl,q _ (I.hok.fresh (af _))⟩
 exact⟨be (zdw xs lo hi) hz,_,0,(r.drop (HT.sIx xs.length 0 lo)).take (HT.sIx xs.length xs.length hi - HT.sIx xs.length 0 lo),aI _ rfl⟩
def zb6:V→Bool
 | .non=>true
 | .bl _=>true
 | .int _=>true
 | .str _=>true
 | _=>false
def eqV:V→V→Bool
 | .non,.non=>true
 | .bl a,.bl b=>a == b
 | .bl a,.int b=>(if a then 1 else 0) == b
 | .int a,.bl b=>a == (if b then 1 else 0)
 | .int a,.int b=>a == b
 | .str a,.str b=>a == b
 | _,_=>false
theorem zjH {A:Around} {s:Shared} {y x:V} {u v:Value} (ry:RelV y u) (rx:RelV x v) (fy:zb6 y=true) (fx:zb6 x=true):j6 A s u v (eqV y x):=by
 cases y with
 | non =>
  cases ry
  cases x with
  | non=>cases rx; exact j7 _
  | bl b=>cases rx; exact SeqAt.EqAt.none_bool b
  | int b=>obtain⟨t,rfl⟩:=rx; exact SeqAt.EqAt.none_int b t
  | str b=>obtain⟨t,rfl⟩:=rx; exact SeqAt.EqAt.none_str b t
  | _=>exact absurd (show false=true from fx) aM
 | bl a =>
  cases ry
  cases x with
  | non=>cases rx; exact SeqAt.EqAt.bool_none a
  | bl b=>cases rx; exact SeqAt.EqAt.bool_bool a b
  | int b=>obtain⟨t,rfl⟩:=rx; exact SeqAt.EqAt.bool_int a b t
  | str b=>obtain⟨t,rfl⟩:=rx; exact SeqAt.EqAt.bool_str a b t
  | _=>exact absurd (show false=true from fx) aM
 | int a =>
  obtain⟨t',rfl⟩:=ry
  cases x with
  | non=>cases rx; exact SeqAt.EqAt.int_none a t'
  | bl b=>cases rx; exact SeqAt.EqAt.int_bool a t' b
  | int b=>obtain⟨t,rfl⟩:=rx; exact SeqAt.EqAt.int_int a t' b t
  | str b=>obtain⟨t,rfl⟩:=rx; exact jg a t' b t
  | _=>exact absurd (show false=true from fx) aM
 | str a =>
  obtain⟨t',rfl⟩:=ry
  cases x with
  | non=>cases rx; exact SeqAt.EqAt.str_none a t'
  | bl b=>cases rx; exact SeqAt.EqAt.str_bool a t' b
  | int b=>obtain⟨t,rfl⟩:=rx; exact jh a t' b t
  | str b=>obtain⟨t,rfl⟩:=rx; exact SeqAt.EqAt.str_str a t' b t
  | _=>exact absurd (show false=true from fx) aM
 | _=>exact absurd (show false=true from fy) aM
def eqU (x:V) (u:Value):Bool:=match u with
 | .none=>eqV .non x
 | .bool b=>eqV (.bl b) x
 | .int i _=>eqV (.int i) x
 | .str z _=>eqV (.str z) x
 | _=>false
theorem zjI {x y:V} {u:Value} (r:RelV y u) (f:zb6 y=true):eqU x u=eqV y x:=by
 cases y with
 | non=>cases r; rfl
 | bl b=>cases r; rfl
 | int i=>obtain⟨t,rfl⟩:=r; rfl
 | str z=>obtain⟨t,rfl⟩:=r; rfl
 | _=>exact absurd (show false=true from f) aM
theorem zfq {x:V}:∀ {xs:List V} {us:List Value},zN xs us→xs.all zb6=true→us.any (eqU x)=xs.any fun y=>eqV y x
 | _,_,.nil,_=>rfl
 | y :: xs,u :: us,.cons r t,f=>by
  rw [kq,dt] at f
  rw [fH,fH,zjI r f.1,zfq t f.2]
theorem zec {A:Around} {s:Shared} {x:V} {v:Value} (rx:RelV x v) (fx:zb6 x=true):∀ {xs:List V} {us:List Value},zN xs us→xs.all zb6=true→∀ u∈us,j6 A s u v (eqU x u)
 | _,_,.nil,_=>fun u hu=>by cases hu
 | y :: xs,u :: us,.cons r t,f=>fun u' hu=>by
  rw [kq,dt] at f
  rcases aE.mp hu with rfl | hu
  ·rw [zjI r f.1]; exact zjH r rx f.1 fx
  ·exact zec rx fx t f.2 u' hu
def inV (x:V) (xs:List V):Bool:=xs.any fun y=>eqV y x
def rIn (K:ah) (neg:Bool):R2:=fun x y H Q=>∃ p xs,y = .ref p∧(kG K H p xs∨kP K H p xs)∧zb6 x=true∧xs.all zb6=true∧Q (.bl (if neg then !inV x xs else inV x xs)) H
theorem zdi:OpR X (compareOp .In) (rIn X.K false):=by
 intro kE s σ H x y v u Q I rx ry h
 obtain⟨p,xs,rfl,hq,fx,fs,q⟩:=h
 cases ry
 rcases hq with hq | hq
 ·obtain⟨kK,r,pl,hz⟩:=I.list hq
  refine SeqAt.in_listAt (eqU x) pl.isList (fun w hw=>zec rx fx r fs w (by simpa using hw)) ⟨.bl _,H,I,rfl,?_⟩
  rw [show kK.toArray.any (eqU x)=kK.any (eqU x) by simp,zfq r fs]
  exact q
 ·obtain⟨kK,r,pl,hz⟩:=I.tuple hq
  refine SeqAt.in_tupleAt (eqU x) pl (fun w hw=>zec rx fx r fs w (by simpa using hw)) ⟨.bl _,H,I,rfl,?_⟩
  rw [show kK.toArray.any (eqU x)=kK.any (eqU x) by simp,zfq r fs]
  exact q
theorem zr:zbC X (.builtin "len") (fun xs H Q=>∃ p ys,xs = [.ref p]∧(kG X.K H p ys∨kP X.K H p ys)∧Q (.int ys.length) H):=by
 intro kE s σ H xs us Q I r h
 obtain⟨p,ys,rfl,hq,q⟩:=h
 obtain⟨u,rfl,rx⟩:=vals1 r
 cases rx
 have hn:=zea
 rcases hq with hq | hq
 ·obtain⟨kK,r',pl,hz⟩:=I.list hq
  have kQ:=r'.length
  exact Calls.call_len_list pl.isList (by simp only [aq] <;> lia) ⟨.int ys.length,H,I.tok _,⟨s.toks+1,by rw [aq,kQ]⟩,q⟩
 ·obtain⟨kK,r',pl,hz⟩:=I.tuple hq
  have kQ:=r'.length
  exact len_tuple pl (by simp only [aq] <;> lia) ⟨.int ys.length,H,I.tok _,⟨s.toks+1,by rw [aq,kQ]⟩,q⟩
theorem zfr:zbC X (.type "list") (fun xs H Q=>∃ p ys,xs = [.ref p]∧(kG X.K H p ys∨kP X.K H p ys)∧∀ l,H l=none→Q (.ref l) (kL H l (.lst ys))):=by
 intro kE s σ H xs us Q I r h
 obtain⟨p,ys,rfl,hq,q⟩:=h
 obtain⟨u,rfl,rx⟩:=vals1 r
 cases rx
 have fin:∀ (kK:List Value),zN ys kK→ys.length≤sizeLine→∀ (h':Heap) (c':Nat),(∀ b o',s.heap.get? b=some o'→h'.get? b=some o') →
   h'.get? s.heap.objs.size=some { cls:=.type "list",dict:=none,data:=.seq kK.toArray c',slots:=#[] }→EP X kE σ Q (.ref s.heap.objs.size) { s with heap:=h' }:=fun kK r' hz h' c' kp e =>
  ⟨.ref s.heap.objs.size,_,I.laid (t':=s.toks) kp (af _) (show zak X.prog X.w _ h' _ (.lst ys) from ⟨hz,kK,c',r',e⟩),rfl,q _ (I.hok.fresh (af _))⟩
 rcases hq with hq | hq
 ·obtain⟨kK,r',pl,hz⟩:=I.list hq
  have kQ:=r'.length
  obtain⟨o,ho,hc,n,hd⟩:=pl.isList
  exact call_list_seq p (.inl rfl) ho hc hd (fun h' c' kp e=>fin kK r' hz h' c' kp e) (by simp only [aq] <;> lia)
 ·obtain⟨kK,r',pl,hz⟩:=I.tuple hq
  have kQ:=r'.length
  obtain⟨o,ho,hc,n,hd⟩:=pl
  exact call_list_seq p (.inr rfl) ho hc hd (fun h' c' kp e=>fin kK r' hz h' c' kp e) (by simp only [aq] <;> lia)
theorem zbf:zbC X (.type "tuple") (fun xs H Q=>∃ p ys,xs = [.ref p]∧((kG X.K H p ys∧∀ l,H l=none→Q (.ref l) (kL H l (.tup ys)))∨(kP X.K H p ys∧Q (.ref p) H))):=by
 intro kE s σ H xs us Q I r h
 obtain⟨p,ys,rfl,h⟩:=h
 obtain⟨u,rfl,rx⟩:=vals1 r
 cases rx
 rcases h with ⟨hq,q⟩ | ⟨hq,q⟩
 ·obtain⟨kK,r',pl,hz⟩:=I.list hq
  have kQ:=r'.length
  refine call_tuple_list pl.isList (fun h' kp=>?_) (by simp only [aq] <;> lia)
  have I1:Inv X kE σ H { s with heap:=h' }:=I.kept (t':=s.toks) kp
  have I2:Inv X kE σ (kL H h'.objs.size (.tup ys)) { s with heap:=h'.push { cls:=.type "tuple",data:=.seq kK.toArray } } :=
   I1.laid (t':=s.toks) (fun b o e=>ai _ e) (af _) (show zak X.prog X.w _ _ _ (.tup ys) from ⟨hz,kK,r',gq _ _⟩)
  exact⟨.ref h'.objs.size,_,I2,rfl,q _ (I1.hok.fresh (af _))⟩
 ·obtain⟨kK,r',pl,hz⟩:=I.tuple hq
  exact call_tuple_same pl ⟨.ref p,H,I,rfl,q⟩
def tyV (K:ah) (T:String) (x:V) (H:Hp):Prop:=match x with
 | .str _=>T = "str"
 | .int _=>T = "int"
 | .ref p=>(T = "list"∧∃ xs,kG K H p xs)∨(T = "tuple"∧∃ o,K.lookup p=some o∧o.cls = .type "tuple"∧o.dict=none) ∨
   (T = "dict"∧((∃ kO,H p=some (.dK kO))∨∃ kO,H p=some (.dT kO)))∨(T = "set"∧∃ S n,H p=some (.set S n))
 | _=>False
theorem zmG {kE:List (Addr×Obj)} {σ:St} {H:Hp} {s:Shared} {T:String} {x:V} {v:Value} (I:Inv X kE σ H s) (r:RelV x v) (ty:tyV X.K T x H) :
  s.TypeIs v T∧∀ a,v = .ref a→∃ ob,s.heap.get? a=some ob∧ob.dict=none:=by
 cases x with
 | str z =>
  obtain⟨t,rfl⟩:=r
  cases (show T = "str" from ty)
  exact⟨typeIs_str s z t,fun _ e=>nomatch e⟩
 | int i =>
  obtain⟨t,rfl⟩:=r
  cases (show T = "int" from ty)
  exact⟨gU s i t,fun _ e=>nomatch e⟩
 | ref p =>
  cases r
  rcases ty with ⟨rfl,xs,hq⟩ | ⟨rfl,o,hk,hc,hd⟩ | ⟨rfl,hk⟩ | ⟨rfl,S,n,hk⟩
  ·obtain⟨kK,_,pl,_⟩:=I.list hq
   refine⟨pl.isList.typeIs,fun a e=>?_⟩
   cases e
   obtain⟨o,n,e,c,hd,_⟩:=pl
   exact⟨o,e,hd⟩
  ·refine⟨⟨o,I.kIn p o hk,hc⟩,fun a e=>?_⟩
   cases e
   exact⟨o,I.kIn _ o hk,hd⟩
  ·have z:∃ o,s.heap.get? p=some o∧o.ExactDict:=by
    rcases hk with ⟨kO,hk⟩ | ⟨kO,hk⟩
    ·obtain⟨_,_,_,_,o,_,_,e,ex,_⟩:=I.hok p _ hk
     exact⟨o,e,ex⟩
    ·obtain⟨_,_,_,_,o,_,_,e,ex,_⟩:=I.hok p _ hk
     exact⟨o,e,ex⟩
   obtain⟨o,e,ex⟩:=z
   refine⟨⟨o,e,ex.1⟩,fun a e2=>?_⟩
   cases e2
   exact⟨o,e,ex.2.1⟩
  ·obtain⟨o,_,_,_,e,ex,_⟩:=I.hok p _ hk
   refine⟨⟨o,e,ex.1⟩,fun a e2=>?_⟩
   cases e2
   exact⟨o,e,ex.2.1⟩
 | _=>exact dQ ty
def tBM (K:ah) (T:String) (r:V→List V→Hp→VK→Prop) (to:TE) (t:TA):TE:=fun σ H Q=>to σ H fun x H1=>tyV K T x H1∧t σ H1 fun xs H2=>r x xs H2 Q
variable {o e:Expr} {es:List Expr} {to:TE} {t:TA} {name:Str} {apos nJ:Pos} {T id:String} {r:V→List V→Hp→VK→Prop}
theorem zdx (pa:PlainAttrs T) (slot:Slot T name id) (CJ:typeOf (.builtin id)=pure (.type "method_descriptor")) (hm:MtR X id r) (ho:PE X o to) (ha:PA X (e :: es) t)
  (tN:attributeBase o name X.env (eval o X.env)=eval o X.env:=by rfl)
  (wC:((backTo nJ (starEach (e :: es) X.env)).all (fun x=>!x.1) && (backToKw nJ (keywordEach [] X.env)).all (fun x=>x.1.isSome)
   && decide ((e :: es).length+([]:List Keyword).length+(if ([]:List Keyword).isEmpty then 0 else 1) < 30))=true:=by rfl)
  (tO:(apos.endLine == nJ.line)=true:=by rfl) (hs:starEach (e :: es) X.env=(false,eval e X.env) :: starEach es X.env:=by rfl) (qZ:(backTo nJ (starEach es X.env)).any (·.1)=false:=by rfl) :
  PE X (.Call (.Attribute o name apos) (e :: es) [] nJ) (tBM X.K T r to t):=by
 intro kE s σ H Q I h
 refine wpAny_Call_method_late tN wC tO rfl (thn (ho kE s σ H _ I h) fun v s1 ⟨x,H1,I1,r1,ty,q1⟩=>?_)
 obtain⟨h1,h2⟩:=zmG I1 r1 ty
 refine⟨T,id,pa,slot,CJ,h1,h2,?_⟩
 have hA:=ha nJ kE s1 σ H1 _ I1 q1
 rw [hs] at hA ⊢
 refine Calls.callWith_builtin (by show (false || (backTo nJ (starEach es X.env)).any (·.1))=false; rw [qZ] <;> rfl) (Calls.evalArgs_plain ?_)
 exact thn hA fun us s2 ⟨vs,H2,I2,r2,q2⟩=>hm kE s2 σ H2 x vs v us Q I2 r1 r2 q2
end
def MtM (X:Cx) (id:String) (r:V→List V→Hp→VK→Prop):Prop :=
 ∀ (kE:List (Addr×Obj)) (s:Shared) (σ:St) (H:Hp) (x:V) (xs:List V) (v:Value) (us:List Value) (Q:VK),Inv X kE σ H s→RelV x v→zN xs us→r x xs H Q →
  wpAny (model X.prog X.w) X.A (call (.builtin id) (v :: us)) (EP X kE σ Q) X.xe s
theorem zN.one:∀ {x:V} {us:List Value},zN [x] us→∃ u,us = [u]∧RelV x u
 | _,_,.cons r .nil=>⟨_,rfl,r⟩
theorem zN.eraseIdx:∀ {xs:List V} {us:List Value} (i:Nat),zN xs us→zN (xs.eraseIdx i) (us.eraseIdx i)
 | _,_,_,.nil=>.nil
 | _,_,0,.cons _ t=>t
 | _,_,i+1,.cons r t=>.cons r (zN.eraseIdx i t)
theorem zN.rep {xs:List V} {us:List Value} (h:zN xs us):∀ k:Nat,zN (aj k xs).flatten (aj k us).flatten
 | 0=>.nil
 | k+1=>by
  rw [cu,cu,eC,eC]
  exact zN.append h (zN.rep h k)
theorem ze6 {α:Type}:∀ (l:List α) (i:Nat),(l.eraseIdx i).length≤l.length
 | [],_=>af _
 | _ :: _,0=>gm _
 | _ :: r,i+1=>jR (ze6 r i)
theorem foldl_rep (kK:List Value):∀ (k:Nat) (acc:List Value),
  fS (fun x1 x2=>x1++x2) acc.toArray (aj k kK.toArray)=(acc++(aj k kK).flatten).toArray
 | 0,acc=>by simp
 | k+1,acc=>by
  have e:acc.toArray++kK.toArray=(acc++kK).toArray:=by simp
  have e2:(acc++kK)++(aj k kK).flatten=acc++(aj (k+1) kK).flatten:=by
   rw [cu,eC,aV]
  rw [← e2,← foldl_rep kK k (acc++kK),← e,cu,ir]
section
variable {X:Cx} {kE:List (Addr×Obj)} {σ:St} {H:Hp} {s:Shared} {l b:Addr} {xs ys zs:List V}
theorem Inv.lset {kK its':List Value} {n:Nat} {f:Array Value→Array Value} {t':Nat} (I:Inv X kE σ H s) (hH:H l=some (.lst xs))
  (e:s.heap.get? l=some { cls:=.type "list",data:=.seq kK.toArray n }) (hf:f kK.toArray=its'.toArray) (hv:zN ys its') (hz:ys.length≤sizeLine) :
  Inv X kE σ (kL H l (.lst ys)) { s with heap:=s.heap.update l (c6 f),toks:=t' }:=by
 have q:=jS e f
 rw [hf] at q
 refine I.write (x:=l) (e:=l) (by rw [hH]; exact trivial) (.inl rfl) (fun b' u hb hu=>(fF s.heap (c6 f) (cR hb)).trans hu) ⟨_,q⟩ ?_
 exact⟨hz,its',_,hv,q⟩
theorem Inv.lnew {kK:List Value} {t':Nat} (I:Inv X kE σ H s) (hv:zN ys kK) (hz:ys.length≤sizeLine) :
  Inv X kE σ (kL H s.heap.objs.size (.lst ys)) { s with heap:=s.heap.push { cls:=.type "list",data:=.seq kK.toArray },toks:=t' } :=
 I.laid (fun _ _ q=>ai _ q) (af _) ⟨hz,kK,0,hv,aI _ rfl⟩
theorem Inv.fresh (I:Inv X kE σ H s):H s.heap.objs.size=none:=I.hok.fresh (af _)
theorem Inv.lstM (I:Inv X kE σ H s) (hH:H l=some (.lst xs)):xs.length≤sizeLine∧∃ (kK:List Value) (n:Nat),zN xs kK∧xs.length=kK.length∧s.heap.get? l=some { cls:=.type "list",data:=.seq kK.toArray n }:=by
 obtain⟨z,kK,n,r,e⟩:=I.hok l _ hH
 exact⟨z,kK,n,r,r.length,e⟩
theorem zjJ {n:Nat} (h:n≤sizeLine):fh n=false:=by
 unfold fh
 exact decide_eq_false (by lia)
end
section
variable {X:Cx}
def zlc:V→List V→Hp→VK→Prop:=fun x vs H Q=>∃ l xs y,x = .ref l∧vs = [y]∧H l=some (.lst xs)∧xs.length < sizeLine∧Q .non (kL H l (.lst (xs++[y])))
theorem zbb:MtM X "list.append" zlc:=by
 intro kE s σ H x vs v us Q I rx rv h
 obtain⟨l,xs,y,rfl,rfl,hH,hz,q⟩:=h
 cases rx
 obtain⟨u,rfl,ru⟩:=rv.one
 obtain⟨z,kK,n,r,hl,e⟩:=I.lstM hH
 refine eh jq ⟨_,e,rfl⟩ jc (iW _ _) (jE l kK.toArray n u (by rw [aq]; lia)) ⟨e,?_⟩
 refine⟨.non,_,I.lset (its':=kK++[u]) hH e (by simp) (r.append (.cons ru .nil)) ?_,rfl,q⟩
 rw [ar,fQ]
 lia
def zmH:V→List V→Hp→VK→Prop:=fun x vs H Q=>∃ l xs i k y,x = .ref l∧vs = [.int i]∧H l=some (.lst xs)∧-(2 ^ 63)≤i∧i < 2 ^ 63∧seqIndex? i xs.length=some k∧xs[k]? = some y∧Q y (kL H l (.lst (xs.eraseIdx k)))
theorem zjK:MtM X "list.pop" zmH:=by
 intro kE s σ H x vs v us Q I rx rv h
 obtain⟨l,xs,i,k,y,rfl,rfl,hH,h1,h2,hk,hy,q⟩:=h
 cases rx
 obtain⟨u,rfl,ru⟩:=rv.one
 obtain⟨t,rfl⟩:=ru
 obtain⟨z,kK,n,r,hl,e⟩:=I.lstM hH
 obtain⟨w,hw,sj⟩:=r.get hy
 refine eh F.slot_list_pop ⟨_,e,rfl⟩ F.entry_list_pop (F.args_list_pop_2 _ _)
  (MeetsSeq.list_pop_at l kK.toArray n i t k w (fitsIndex_both h1 h2) (by rw [aq,← hl]; exact hk) (by rw [← br]; exact hw) (by rw [aq]; lia)) ⟨e,?_⟩
 refine⟨y,_,I.lset (its':=kK.eraseIdx k) hH e ?_ (r.eraseIdx k) ?_,sj,q⟩
 ·show kK.toArray.eraseIdxIfInBounds k=(kK.eraseIdx k).toArray
  rw [List.eraseIdxIfInBounds_toArray]
 ·have:=ze6 xs k
  lia
def zoe:R2:=fun x y H Q=>∃ l b xs zs,x = .ref l∧y = .ref b∧H l=some (.lst xs)∧H b=some (.lst zs)∧xs.length+zs.length≤sizeLine∧∀ p,H p=none→Q (.ref p) (kL H p (.lst (xs++zs)))
theorem zcM:OpR X (binaryOp .Add) zoe:=by
 intro kE s σ H x y v u Q I rx ry h
 obtain⟨l,b,xs,zs,rfl,rfl,hH,hB,hz,q⟩:=h
 cases rx
 cases ry
 obtain⟨z,kK,n,r,hl,e⟩:=I.lstM hH
 obtain⟨z2,lT,n2,r2,pJ,e2⟩:=I.lstM hB
 refine PySem.P.add_list e e2 ?_ (by rw [aq,aq]; lia)
 have ea:kK.toArray++lT.toArray=(kK++lT).toArray:=by simp
 rw [ea]
 exact⟨.ref _,_,I.lnew (t':=s.toks) (r.append r2) (by rw [ar]; lia),rfl,q _ I.fresh⟩
def zof:R2:=fun x y H Q=>∃ l k xs,x = .ref l∧y = .int k∧H l=some (.lst xs)∧-(2 ^ 63)≤k∧k < 2 ^ 63∧xs.length*k.toNat≤sizeLine ∧
 ∀ p,H p=none→Q (.ref p) (kL H p (.lst (aj k.toNat xs).flatten))
theorem len_rep {α:Type} (xs:List α) (k:Nat):(aj k xs).flatten.length=k*xs.length:=by
 induction k with
 | zero=>simp
 | succ k ih=>rw [cu,eC,ar,ih,fi,Nat.add_comm]
theorem zg9:OpR X (binaryOp .Mult) zof:=by
 intro kE s σ H x y v u Q I rx ry h
 obtain⟨l,k,xs,rfl,rfl,hH,h1,h2,hz,q⟩:=h
 cases rx
 obtain⟨t,rfl⟩:=ry
 obtain⟨z,kK,n,r,hl,e⟩:=I.lstM hH
 have kQ:kK.toArray.size*k.toNat≤sizeLine:=by rw [aq,← hl]; exact hz
 have CK:¬ kK.toArray.size*k.toNat > (2 ^ 63 - 1) / 8:=by
  have:(sizeLine:Nat)≤(2 ^ 63 - 1) / 8:=by decide
  lia
 have CL:¬ (!Builtin.List.listFitsIndex k)=true:=by
  rw [fitsIndex_both h1 h2]
  exact aM
 have yA:¬ fh (kK.toArray.size*k.toNat)=true:=by
  rw [zjJ kQ]
  exact aM
 have u5:fS (fun x1 x2=>x1++x2) #[] (aj (if kK.toArray.isEmpty=true then 0 else k.toNat) kK.toArray)=(aj k.toNat kK).flatten.toArray:=by
  have f0:∀ m:Nat,fS (fun x1 x2=>x1++x2) #[] (aj m kK.toArray)=(aj m kK).flatten.toArray:=fun m=>by
   have:=foldl_rep kK m []
   rw [iu] at this
   exact this
  rw [f0]
  cases kK with
  | nil=>simp
  | cons a r'=>rw [if_neg (by simp)]
 refine gV (T:="list") (U:="int") (by decide) ⟨_,e,rfl⟩ (fun s'=>gU s' k t) noFill_list_mul F.fills_int_mul fT repeat_list F.slot_int_index.lookup
  (eh fT (gU s k t) jT (jF _ _) (int___rmul___int_list k t l kK.toArray n)
   ⟨e,rfl,⟨_,e,rfl⟩,eh F.slot_list_mul ⟨_,e,rfl⟩ F.entry_list_mul (F.args_list_mul_2 _ _) (AutoListH.list___mul___list_int_3 l kK.toArray n k t CL CK yA) ⟨e,?_⟩⟩)
 rw [u5]
 exact⟨.ref _,_,I.lnew (t':=s.toks) (r.rep k.toNat) (by rw [len_rep,jr]; exact hz),rfl,q _ I.fresh⟩
end
end L2
namespace Att
open PySem PySem.W PySem.Calls PyProof.Rows
theorem zdH {P:Params} {h:Heap}:∀ (ns:List Int) (vs:List Value),WellAll P h vs (ns.map WData.int)→IntsAre vs ns:=by
 intro ns
 induction ns with
 | nil =>
  intro vs w
  rw [cJ] at w
  cases w
  exact .nil
 | cons n ns ih =>
  intro vs w
  rw [bd] at w
  cases w with
  | cons a b =>
   cases a
   exact .cons _ _ (ih _ b)
theorem ziM {l:OpenLaw} {n:Nat} (hn:l.most=some n) {P:Params} {h:Heap} {args:List WData} {vals:List Value}
  (u7:l.row.toRowW.claim.pre args=true) (sk:WellAll P h vals args) :
  ∃ a vs ns,vals = [aY a]∧args = [WData.list (ns.map WData.int)]∧h.get? a=some { cls:=.type "list",data:=.seq vs.toArray }∧IntsAre vs ns∧ns.length≤n:=by
 have hsh:WShape.hasAll [] args [.list .int]=true:=(pre_splitW u7).1
 have hc:l.pre.holds [] { args:=args }=true:=(pre_splitW u7).2
 obtain⟨d,r,rfl,h1,h2⟩:=hasAllW_cons hsh
 obtain rfl:=hasAllW_nil h2
 obtain⟨xs,rfl,h3⟩:=hasW_list h1
 obtain⟨ns,rfl⟩:=items_int h3
 have kQ:ns.length≤n:=by
  unfold OpenLaw.pre at hc
  have h4:(WTm.not (.lt (.lit (.int (n:Int))) (.len (.arg 0)))).holds [] { args:=[.list (ns.map .int)] }=true:=by
   have h4:=(holds_andW hc).1
   rw [hn] at h4
   exact h4
  have h5:=condW_of h4 (w_not (w_lt w_lit (w_len_list (w_arg rfl))))
  rw [ab] at h5
  refine jU fun q=>?_
  have q':(n:Int) < ((ns.length:Nat):Int):=by lia
  first
   | (rw [decide_eq_true q'] at h5; exact absurd h5 (by decide))
   | (simp at h5; lia)
 cases sk with
 | cons w1 w2 =>
  cases w2
  cases w1 with
  | list ho mS=>exact⟨_,_,ns,rfl,rfl,ho,zdH ns _ mS,kQ⟩
theorem ziN (l:OpenLaw) (args:List WData):l.row.toRowW.claim.post args (.bool true) args=true :=
 postW_of (r:=l.row.toRowW) (X:=(true == true))
  (show WShape.has [] (.bool true) .bool=true by first | rfl | decide | simp [WShape.has,WShape.arms,WShape.armsAll])
  (show (WTm.eq .res (.lit (.bool true))).value [] { args:=args,res:=some (.bool true),after:=args }=some (.bool (true == true)) from w_eq_bool (w_res rfl) w_lit) rfl
theorem attach_call {l:OpenLaw} {n:Nat} {q:Program} {loose:List Str} {XP:(Str→Option Value)→Heap→Prop} {YP:World→Heap→Prop} {d:DefRec}
  (hn:l.most=some n) (yB:d.params.defaults = [])
  (call:∀ (w:World) (s₀ s₁:Shared) (mg mb:Str→Option Value) (fa:Addr) (o:Obj) (pm cd doc:Value) (a:Addr) (vs:List Value) (ns:List Int),
   Ground q loose [] XP w s₀ mg mb s₁.heap→YP w s₁.heap →
   s₁.heap.get? fa=some o→o.data = .func (docDef d.name d.params d.body d.scope pm cd doc)→s₁.heap.CodeRec cd d.name→mg d.name=some (.ref fa) →
   s₁.heap.get? a=some { cls:=.type "list",data:=.seq vs.toArray }→IntsAre vs ns→ns.length≤n→s₁.gens = #[] →
   codeAny (model l.prog w) callerA (.call (.ref fa) ⟨[.ref a],[]⟩) (fun r s'=>r = .ok (.ret (.bool true))∧OldK s₁.heap s'.heap∧s'.os=s₁.os∧AllBare s'.gens) s₁) :
  WalkO q loose XP YP l.row.toRowW d [] (fun f vs=>j8 f vs):=by
 intro w s₀ s₁ mg mb G Y fa o pm cd doc dV kV ho hd si hD u9 hg args vals as u7 hlay hrd sk pD
 obtain rfl:dV = .none:=Dflts.none hD yB
 obtain rfl:kV = .none:=Dflts.noKw hD
 obtain⟨a,vs,ns,rfl,rfl,wD,hints,kQ⟩:=ziM hn u7 sk
 refine enter_call (jk (call w s₀ s₁ mg mb fa o pm cd doc a vs ns G Y ho (fd_plain hd) si u9 wD hints kQ hg) fun r s' hq=>?_)
 obtain⟨rfl,h2,h3,h4⟩:=hq
 exact⟨.inl ⟨.bool true,.bool true,[],rfl,fun _=>rfl,.bool true,ziN l _,fun _=>⟨gL,fun _ hm=>(nomatch hm)⟩⟩,h2,h3,h4⟩
end Att
namespace L2
open PySem PySem.Spec PyProof.Rows
theorem ze7:∀ {vs:List Value} {ns:List Int},IntsAre vs ns→zN (ns.map V.int) vs
 | _,_,.nil=>.nil
 | _,_,.cons n t h=>.cons ⟨t,rfl⟩ (ze7 h)
def zmI (H:Hp):Prop:=∀ b,H b=none∨∃ o xs,H b=some (.frz o (.lst xs))
theorem zjL {P:Program} {w:World} {K:ah} {mg mb:Str→Option Value} {CX:CXT} {k:Nat} {fa a:Addr} {fd:FuncData} {x:Str} {sp:Sp} {s₁:Shared} {vs:List Value} {ns:List Int}
  (KX:K.In s₁.heap) (xP:s₁.heap.Ns mainGlobals mg) (hb:s₁.heap.Ns builtinsNs mb) (hbb:∀ x:Str,x≠"__name__"→mb x=bootBuiltins x) (CM:s₁.heap.NoLimit) (hg:s₁.gens = #[])
  (ha:s₁.heap.get? a=some { cls:=.type "list",data:=.seq vs.toArray }) (hi:IntsAre vs ns) (hl:ns.length≤sizeLine) (hr:Room k callerA)
  (F:∀ base:Heap,K.In base→base.Ns mainGlobals mg→FnOk P w K mg base CX k fa fd [x] sp) (yC:∀ (s:Shared) (u:Value),BindsTo s fd ⟨[u],[]⟩ [(x,u)])
  (uC:∀ H:Hp,zmI H→kG K H a (ns.map V.int)→sp [.ref a] H (fun v _=>v = .bl true) fun _ _ _=>False)
  (CN:∀ H e s',CX [] H s₁ (fun _ _ _=>False) e s'→False) :
  codeAny (model P w) callerA (.call (.ref fa) ⟨[.ref a],[]⟩) (fun r s'=>r = .ok (.ret (.bool true))∧OldK s₁.heap s'.heap∧s'.os=s₁.os∧AllBare s'.gens) s₁:=by
 have rv:=ze7 hi
 have CP:=hi.length
 have core:∀ H:Hp,zmI H→kG K H a (ns.map V.int)→HOk P w H s₁.heap→(∀ b,H b≠none→b=a)→(H a≠none→K.lookup a=none) →
   codeAny (model P w) callerA (.call (.ref fa) ⟨[.ref a],[]⟩) (fun r s'=>r = .ok (.ret (.bool true))∧OldK s₁.heap s'.heap∧s'.os=s₁.os∧AllBare s'.gens) s₁:=by
  intro H hO hS hok hA hK
  have rX:∀ {b:Addr} {o:Obj},s₁.heap.get? b=some o→H b=none→(zfm s₁.heap H).get? b=some o:=fun e n=>zjw e n
  have wA:∀ {b:Addr} {o:Obj} {es:Array DictEntry} {ep:Nat},s₁.heap.get? b=some o→o.data = .dict es ep→H b=none:=fun {b o es ep} e d=>by
   cases q:H b with
   | none=>rfl
   | some u =>
    have e':b=a:=hA b (by rw [q]; simp)
    subst e'
    rw [ha] at e; cases e
    have d':kA vs.toArray _=Data.dict es ep:=d
    cases d'
  have BK:∀ {b:Addr} {m:Str→Option Value},s₁.heap.Ns b m→(zfm s₁.heap H).Ns b m:=fun {b m} ⟨o,es,ep,e,d,r⟩=>⟨o,es,ep,rX e (wA e d),d,r⟩
  have hKb:K.In (zfm s₁.heap H):=fun b o e=>rX (KX b o e) (by
   cases q:H b with
   | none=>rfl
   | some u =>
    have e':b=a:=hA b (by rw [q]; simp)
    subst e'
    rw [hK (by rw [q]; simp)] at e; cases e)
  have hM:Mod K mg (zfm s₁.heap H):=⟨hKb,BK xP,⟨mb,BK hb,hbb⟩,let ⟨mc,h1,h2⟩:=CM; ⟨mc,BK h1,h2⟩⟩
  have e0:Env0 P w K mg (zfm s₁.heap H) callerA [] s₁ H:=⟨rfl,hM,fun b o e=>zk2 e,Nat.le_of_eq (ziF _ _),trivial,fun b hb=>absurd (show b∈([]:List Addr) from hb) (by simp),hok,.of_eq hg⟩
  refine jk ((F _ hKb (BK xP)).run callerA [] s₁ H ⟨[.ref a],[]⟩ [.ref a] [.ref a] _ _ hr e0 (yC s₁ (.ref a)) (.cons rfl .nil) (uC H hO hS)) fun r s' h=>?_
  cases r with
  | error e=>exact (CN H e s' h).elim
  | ok fl =>
   cases fl with
   | next=>exact dQ h
   | brk=>exact dQ h
   | cont=>exact dQ h
   | ret u =>
    obtain⟨v,H',os,bare,un,CQ,r',q⟩:=h
    have q':v = .bl true:=q
    subst q'
    obtain rfl:u=j4 true:=r'
    refine⟨rfl,OldK.of_keep fun b o e=>?_,os,bare⟩
    cases q:H b with
    | none=>exact un.keep b o e q (by intro z; exact absurd (show b∈([]:List Addr) from z) (by simp)) (by simp)
    | some u =>
     rcases hO b with z | ⟨ob,xs,z⟩
     ·rw [q] at z; cases z
     ·have z2:=un.frzs b ob _ z
      obtain⟨e1,_⟩:=hok b _ z
      obtain⟨e2,_⟩:=CQ b _ z2
      rw [e] at e1; cases e1
      exact e2
 cases hk:K.lookup a with
 | some o =>
  have e:=KX a o hk
  rw [ha] at e
  cases e
  refine core (fun _=>none) (fun _=>.inl rfl) (.inr ⟨_,vs.toArray,_,hk,rfl,rfl,rfl,by rw [aq,CP]; exact hl,by simpa using rv⟩) (fun b u z=>by have z':(none:Option HO)=some u:=z; cases z') (fun b z=>absurd rfl z) fun z=>absurd rfl z
 | none =>
  refine core (fun b=>if b=a then some (.frz { cls:=.type "list",data:=.seq vs.toArray } (.lst (ns.map V.int))) else none) (fun b=>?_) (.inl (.inr ⟨{ cls:=.type "list",data:=.seq vs.toArray },if_pos rfl⟩)) (fun b u z=>?_) (fun b z=>?_) fun _=>hk
  ·by_cases hb:b=a
   ·exact .inr ⟨_,_,if_pos hb⟩
   ·exact .inl (if_neg hb)
  ·by_cases hb:b=a
   ·have z':=(if_pos hb).symm.trans z
    cases z'
    subst hb
    exact⟨ha,by rw [ab]; exact hl,vs,_,rv,ha⟩
   ·have z':=(if_neg hb).symm.trans z
    cases z'
  ·by_cases hb:b=a
   ·exact hb
   ·exact absurd (if_neg hb) z
theorem zld {l:iw} {n k:Nat} {q:Program} {loose:List Str} {XP:(Str→Option Value)→Heap→Prop} {YP:World→Heap→Prop} {d:DefRec} {K:Params→ah} {CX:World→CXT} {sp:World→Sp} {x:Str}
  (hn:l.most=some n) (qV:n≤sizeLine) (yB:d.params.defaults = []) (hr:Room k callerA)
  (hY:∀ (w:World) (h:Heap),YP w h→(K w.params).In h)
  (F:∀ (w:World) (mg:Str→Option Value) (fa:Addr) (h:Heap),(K w.params).In h→h.Ns mainGlobals mg→mg d.name=some (.ref fa) →
   ∃ fd:FuncData,(∀ (s:Shared) (u:Value),BindsTo s fd ⟨[u],[]⟩ [(x,u)]) ∧
    ∀ base:Heap,(K w.params).In base→base.Ns mainGlobals mg→FnOk l.prog w (K w.params) mg base (CX w) k fa fd [x] (sp w))
  (uC:∀ (w:World) (H:Hp) (a:Addr) (ns:List Int),ns.length≤n→zmI H→kG (K w.params) H a (ns.map V.int)→sp w [.ref a] H (fun v _=>v = .bl true) fun _ _ _=>False)
  (CN:∀ (w:World) (H:Hp) (s:Shared) (e:Value) (s':Shared),CX w [] H s (fun _ _ _=>False) e s'→False) :
  kr q loose XP YP l.row.toRowW d [] (fun f vs=>j8 f vs):=by
 refine Att.attach_call hn yB fun w s₀ s₁ mg mb fa o pm cd doc a vs ns G Y ho hd si u9 wD hints kQ hg=>?_
 have KX:=hY w _ Y
 obtain⟨fd,hb,hF⟩:=F w mg fa _ KX G.T.g u9
 exact zjL KX G.T.g G.T.b G.T.builtins G.T.nolimit hg wD hints (be kQ qV) hr hF hb (fun H hO hS=>uC w H a ns kQ hO hS) fun H e s'=>CN w H s₁ e s'
def zbD (s:Stmt):Arguments:=match s with
 | .FunctionDef _ a _ _ _ _ _ _ _ _=>a
 | _=>{ posonlyargs:=[],args:=[],vararg:=none,kwonlyargs:=[],kw_defaults:=[],kwarg:=none,defaults:=[] }
def zbr (s:Stmt):List Stmt:=match s with
 | .FunctionDef _ _ b _ _ _ _ _ _ _=>b
 | _=>[]
def zh (s:Stmt):Scope:=match s with
 | .FunctionDef _ _ _ _ _ _ sc _ _ _=>sc
 | _=>{ kind:=.function,names:=[],isGenerator:=false,isCoroutine:=false }
abbrev CX0:CXT:=fun _ _ _ _ _ _=>False
abbrev E0:XK:=fun _ _ _=>False
theorem zO {X:Cx}:zg5 CX0 X E0:=fun _ _ _ _ _ _ _ h=>h.elim
structure Fun (K:ah) (x qual:Str) (st:Stmt) (f:Addr) (fd:FuncData):Prop where
 ex:∃ (oc:Value) (od:Option Addr) (kV doc pm:Value) (an:Option Addr) (ly ct:Value) (vQ:Array (Option Value)),
  fd=cZ x qual (zbD st) (zbr st) (zh st) .none kV doc pm an ly ct∧K.lookup f=some ⟨oc,od,.func fd,vQ⟩∧fm K ly qual=true
 kp:fk K (.ref f)=true
section
variable {P:Program} {w:World} {K:ah} {mg:Str→Option Value} {base:Heap}
theorem Fun.ok {x qual:Str} {st:Stmt} {f:Addr} {fd:FuncData} {N ps:List Str} {k:Nat} {sp:Sp} (F:Fun K x qual st f fd) (S:FnScope N ps (zh st)) (len:∀ vs H Q E,sp vs H Q E→vs.length=ps.length)
  (tM:∀ (ly:Value) (A:Around) (outer:List Env) (s:Shared) (H:Hp) (vs:List V) (Q:VK) (E:XK),Room k (A.deeper (envOfC qual (zh st) s.heap.objs.size f ly))→sp vs H Q E →
   ∃ t,PSs (ziK CX0 P w K mg base N qual (zh st) f ly A outer s H E).nox (zbr st) t∧t { nx:=fun _ H'=>Q .non H',rt:=Q } (start N vs) H):FnOk P w K mg base CX0 (k+1) f fd ps sp:=by
 obtain⟨oc,od,kV,doc,pm,an,ly,ct,vQ,rfl,lk,si⟩:=F.ex
 refine znz lk si S len fun A outer s H vs Q E hr uC=>?_
 obtain⟨t,h,q⟩:=tM ly A outer s H vs Q E hr uC
 exact⟨t,h.nox,q⟩
theorem Fun.binds {x qual:Str} {st:Stmt} {f:Addr} {fd:FuncData} {ps:List Str} (F:Fun K x qual st f fd)
  (h:∀ (kV doc pm:Value) (an:Option Addr) (ly ct:Value) (us:List Value),us.length=ps.length→bindArgs (cZ x qual (zbD st) (zbr st) (zh st) .none kV doc pm an ly ct) ⟨us,[]⟩=pure (ps.zip us)):Binds K fd ps []:=by
 obtain⟨oc,od,kV,doc,pm,an,ly,ct,vQ,rfl,lk,si⟩:=F.ex
 exact .all (h kV doc pm an ly ct)
theorem zjM {x qual:Str} {st:Stmt} {f:Addr} {oc:Value} {od an:Option Addr} {vQ:Array (Option Value)} {kV doc pm ly ct:Value} (l:K.lookup f=some ⟨oc,od,.func (cZ x qual (zbD st) (zbr st) (zh st) .none kV doc pm an ly ct),vQ⟩)
  (c:fm K ly qual=true) (k:fk K (.ref f)=true):Fun K x qual st f (cZ x qual (zbD st) (zbr st) (zh st) .none kV doc pm an ly ct):=⟨⟨oc,od,kV,doc,pm,an,ly,ct,vQ,rfl,l,c⟩,k⟩
end
theorem zdj {A B:Prop} (h:B):if false=true then A else B:=by
 rw [if_neg aM]
 exact h
theorem zmJ {A B:Prop} (h:A):if true=true then A else B:=by
 rw [if_pos rfl]
 exact h
theorem zaf {c A B:Prop} [Decidable c] (h1:c→A) (h2:¬ c→B):if c then A else B:=by
 by_cases h:c
 ·rw [if_pos h]
  exact h1 h
 ·rw [if_neg h]
  exact h2 h
def zu (H H':Hp):Prop:=∀ b o,H b=some o→H' b=some o
theorem zu.trans {H H1 H2:Hp} (a:zu H H1) (b:zu H1 H2):zu H H2:=fun c o h=>b c o (a c o h)
theorem zu.free {H H':Hp} (e:zu H H') {l:Addr} (h:H' l=kC):H l=kC:=by
 cases q:H l with
 | none=>rfl
 | some o =>
  rw [e l o q] at h
  cases h
theorem zu.seq {K:ah} {H H':Hp} {a:Addr} {xs:List V} (e:zu H H') (h:kG K H a xs):kG K H' a xs:=by
 rcases h with (h | ⟨o,h⟩) | h
 ·exact .inl (.inl (e _ _ h))
 ·exact .inl (.inr ⟨o,e _ _ h⟩)
 ·exact .inr h
end L2
section
namespace L2
theorem kF {α β:Type} {a:β} {f:α→β} {B:α→Prop} {v:α} (h:a=f v) (hb:B v):∃ v,a=f v∧B v:=⟨v,h,hb⟩
theorem kN {α β γ δ:Type} {a:γ} {b:δ} {f:α→γ} {g:β→δ} {B:α→β→Prop} {v:α} {w:β} (h:a=f v) (h':b=g w) (hb:B v w):∃ v w,a=f v∧b=g w∧B v w:=⟨v,w,h,h',hb⟩
theorem ex3 {A0 A1 A2:Type} {P:A0→A1→A2→Prop} (x0:A0) (x1:A1) (x2:A2) (h:P x0 x1 x2):∃ x0 x1 x2,P x0 x1 x2:=⟨x0,x1,x2,h⟩
theorem ex4 {A0 A1 A2 A3:Type} {P:A0→A1→A2→A3→Prop} (x0:A0) (x1:A1) (x2:A2) (x3:A3) (h:P x0 x1 x2 x3):∃ x0 x1 x2 x3,P x0 x1 x2 x3:=⟨x0,x1,x2,x3,h⟩
theorem ex5 {A0 A1 A2 A3 A4:Type} {P:A0→A1→A2→A3→A4→Prop} (x0:A0) (x1:A1) (x2:A2) (x3:A3) (x4:A4) (h:P x0 x1 x2 x3 x4):∃ x0 x1 x2 x3 x4,P x0 x1 x2 x3 x4:=⟨x0,x1,x2,x3,x4,h⟩
theorem ex6 {A0 A1 A2 A3 A4 A5:Type} {P:A0→A1→A2→A3→A4→A5→Prop} (x0:A0) (x1:A1) (x2:A2) (x3:A3) (x4:A4) (x5:A5) (h:P x0 x1 x2 x3 x4 x5):∃ x0 x1 x2 x3 x4 x5,P x0 x1 x2 x3 x4 x5:=⟨x0,x1,x2,x3,x4,x5,h⟩
theorem ex7 {A0 A1 A2 A3 A4 A5 A6:Type} {P:A0→A1→A2→A3→A4→A5→A6→Prop} (x0:A0) (x1:A1) (x2:A2) (x3:A3) (x4:A4) (x5:A5) (x6:A6) (h:P x0 x1 x2 x3 x4 x5 x6):∃ x0 x1 x2 x3 x4 x5 x6,P x0 x1 x2 x3 x4 x5 x6:=⟨x0,x1,x2,x3,x4,x5,x6,h⟩
theorem ex8 {A0 A1 A2 A3 A4 A5 A6 A7:Type} {P:A0→A1→A2→A3→A4→A5→A6→A7→Prop} (x0:A0) (x1:A1) (x2:A2) (x3:A3) (x4:A4) (x5:A5) (x6:A6) (x7:A7) (h:P x0 x1 x2 x3 x4 x5 x6 x7):∃ x0 x1 x2 x3 x4 x5 x6 x7,P x0 x1 x2 x3 x4 x5 x6 x7:=⟨x0,x1,x2,x3,x4,x5,x6,x7,h⟩
theorem ex9 {A0 A1 A2 A3 A4 A5 A6 A7 A8:Type} {P:A0→A1→A2→A3→A4→A5→A6→A7→A8→Prop} (x0:A0) (x1:A1) (x2:A2) (x3:A3) (x4:A4) (x5:A5) (x6:A6) (x7:A7) (x8:A8) (h:P x0 x1 x2 x3 x4 x5 x6 x7 x8):∃ x0 x1 x2 x3 x4 x5 x6 x7 x8,P x0 x1 x2 x3 x4 x5 x6 x7 x8:=⟨x0,x1,x2,x3,x4,x5,x6,x7,x8,h⟩
theorem znF {A0 A1 A2 A3 A4 A5 A6 A7 A8 A9:Type} {P:A0→A1→A2→A3→A4→A5→A6→A7→A8→A9→Prop} (x0:A0) (x1:A1) (x2:A2) (x3:A3) (x4:A4) (x5:A5) (x6:A6) (x7:A7) (x8:A8) (x9:A9) (h:P x0 x1 x2 x3 x4 x5 x6 x7 x8 x9):∃ x0 x1 x2 x3 x4 x5 x6 x7 x8 x9,P x0 x1 x2 x3 x4 x5 x6 x7 x8 x9:=⟨x0,x1,x2,x3,x4,x5,x6,x7,x8,x9,h⟩
theorem zmK {A0 A1 A2 A3 A4 A5 A6 A7 A8 A9 A10 A11 A12 A13:Type} {P:A0→A1→A2→A3→A4→A5→A6→A7→A8→A9→A10→A11→A12→A13→Prop} (x0:A0) (x1:A1) (x2:A2) (x3:A3) (x4:A4) (x5:A5) (x6:A6) (x7:A7) (x8:A8) (x9:A9) (BL:A10) (BM:A11) (BN:A12) (BO:A13) (h:P x0 x1 x2 x3 x4 x5 x6 x7 x8 x9 BL BM BN BO):∃ x0 x1 x2 x3 x4 x5 x6 x7 x8 x9 BL BM BN BO,P x0 x1 x2 x3 x4 x5 x6 x7 x8 x9 BL BM BN BO:=⟨x0,x1,x2,x3,x4,x5,x6,x7,x8,x9,BL,BM,BN,BO,h⟩
end L2
end
section
namespace L2
open PySem PySem.Spec PyProof.Rows
def zah (cs:List (Str×Addr)):List (Str×NameKind)→List (Str×Addr)→List (Str×Addr)
 | [],acc=>acc
 | (n,k) :: r,acc=>if k == .free then zah cs r ((n,(cs.lookup n).getD 0) :: acc) else zah cs r acc
theorem zcH {scope:Scope} {env:Env} (h:∀ y∈scope.names,y.2 = .free→∃ c,env.cells.lookup y.1=some c) :
  closureFor scope env=pure (zah env.cells scope.names []):=by
 have go:∀ (names:List (Str×NameKind)) (acc:List (Str×Addr)),(∀ y∈names,y.2 = .free→∃ c,env.cells.lookup y.1=some c) →
   (forIn names acc (fun (x:Str×NameKind) (cs:List (Str×Addr))=>(if (x.2 == bZ)=true then do
    let a ← cellOf env x.1
    pure (cm ((x.1,a) :: cs)) else pure (cm cs):Sem (ForInStep (List (Str×Addr))))))=(pure (zah env.cells names acc):Sem _):=by
  intro names
  induction names with
  | nil=>intro acc _; rfl
  | cons y r ih =>
   intro acc hy
   obtain⟨n,k⟩:=y
   rw [ek]
   cases hk:(k == bZ) with
   | true =>
    obtain⟨c,hc⟩:=hy (n,k) aF (by simpa using hk)
    have oj:cellOf env n=pure c:=by
     unfold cellOf
     have kR:env.cells.lookup n=some c:=hc
     rw [kR]
    simp only [hk,if_true,oj]
    have e:=ih ((n,c) :: acc) fun y yD=>hy y (aw _ yD)
    have kR:env.cells.lookup n=some c:=hc
    simp only [zah,hk,if_true,kR,jV]
    exact e
   | false =>
    simp only [hk,bn,if_false]
    have e:=ih acc fun y yD=>hy y (aw _ yD)
    simp only [zah,hk,bn,if_false]
    exact e
 have e:=go scope.names [] h
 unfold closureFor
 show (forIn scope.names [] _ >>= fun cs=>pure cs)=_
 first
  | (rw [e]; rfl)
  | (simp only []; rw [e]; rfl)
  | (have e':=e; simp at e' ⊢; exact e')
theorem zbH {cs:List (Str×Addr)}:∀ (names:List (Str×NameKind)) (acc:List (Str×Addr)),
  (∀ y∈names,y.2 = .free→∃ c,cs.lookup y.1=some c)→(∀ x c,acc.lookup x=some c→cs.lookup x=some c) →
  ∀ x c,(zah cs names acc).lookup x=some c→cs.lookup x=some c
 | [],acc,_,h,x,c,e=>h x c e
 | (n,k) :: r,acc,hy,h,x,c,e=>by
  have hr:∀ y∈r,y.2 = .free→∃ c,cs.lookup y.1=some c:=fun y yD=>hy y (aw _ yD)
  unfold zah at e
  cases hk:(k == bZ) with
  | false =>
   rw [hk] at e
   exact zbH r acc hr h x c e
  | true =>
   rw [hk] at e
   obtain⟨d,hd⟩:=hy (n,k) aF (by simpa using hk)
   have xK:cs.lookup n=some d:=hd
   refine zbH r _ hr (fun x c e'=>?_) x c e
   rw [xK,jV,bz] at e'
   cases hx:(x == n) with
   | true =>
    rw [hx] at e'
    have:x=n:=by simpa using hx
    subst this
    rw [xK]
    exact e'
   | false =>
    rw [hx] at e'
    exact h x c e'
theorem zbV {cs:List (Str×Addr)}:∀ (names:List (Str×NameKind)) (acc:List (Str×Addr)) (x:Str),
  ((∃ c,acc.lookup x=some c)∨(x,bZ)∈names)→∃ c,(zah cs names acc).lookup x=some c
 | [],acc,x,h=>by
  rcases h with h | h
  ·exact h
  ·cases h
 | (n,k) :: r,acc,x,h=>by
  unfold zah
  cases hk:(k == bZ) with
  | false =>
   refine zbV r acc x ?_
   rcases h with h | h
   ·exact .inl h
   ·rcases aE.mp h with h | h
    ·cases h
     exact absurd hk (by decide)
    ·exact .inr h
  | true =>
   refine zbV r _ x ?_
   cases hx:(x == n) with
   | true=>exact .inl ⟨_,by rw [bz,hx]⟩
   | false =>
    rcases h with ⟨c,h⟩ | h
    ·exact .inl ⟨c,by rw [bz,hx]; exact h⟩
    ·rcases aE.mp h with h | h
     ·cases h
      simp at hx
     ·exact .inr h
theorem lookup_mem {α:Type}:∀ {l:List (Str×α)} {x:Str} {k:α},l.lookup x=some k→(x,k)∈l
 | [],x,k,h=>by simp at h
 | (n,j) :: r,x,k,h=>by
  rw [bz] at h
  cases hx:(x == n) with
  | true =>
   rw [hx] at h
   have:x=n:=by simpa using hx
   subst this
   cases h
   exact aF
  | false =>
   rw [hx] at h
   exact aw _ (lookup_mem h)
theorem zbp {env:Env}:∀ {names:List (Str×NameKind)} {x:Str},names.lookup x=some .free →
  (names.map fun (n,k)=>if (k == bZ && env.scope.kind == .function && env.kindOf n == some .cell) then (n,cL) else (n,k)).lookup x=some .cell ∨
  (names.map fun (n,k)=>if (k == bZ && env.scope.kind == .function && env.kindOf n == some .cell) then (n,cL) else (n,k)).lookup x=some .free
 | [],_,h=>by simp at h
 | (n,k) :: r,x,h=>by
  have ih:=@zbp env r x
  simp only [bd]
  cases hx:x == n with
  | true =>
   simp only [bz,hx] at h; cases h
   by_cases hc:(bZ == bZ && env.scope.kind == .function && env.kindOf n == some .cell)=true
   ·rw [if_pos hc]; left; simp only [bz,hx]
   ·rw [if_neg hc]; right; simp only [bz,hx]
  | false =>
   simp only [bz,hx] at h; rcases ju ((k == bZ && env.scope.kind == .function && env.kindOf n == some .cell)=true) with hc | hc
   ·exact (by rw [if_pos hc]; simp only [bz,hx]; exact ih h)
   ·exact (by rw [if_neg hc]; simp only [bz,hx]; exact ih h)
theorem zcV {env:Env}:∀ {names:List (Str×NameKind)} {x:Str},
  ((names.map fun (n,k)=>if (k == bZ && env.scope.kind == .function && env.kindOf n == some .cell) then (n,cL) else (n,k)).lookup x=some .cell ∨
  (names.map fun (n,k)=>if (k == bZ && env.scope.kind == .function && env.kindOf n == some .cell) then (n,cL) else (n,k)).lookup x=some .free) →
  names.lookup x=some .free∨names.lookup x=some .cell
 | [],_,h=>by simp at h
 | (n,k) :: r,x,h=>by
  have ih:=@zcV env r x
  simp only [bd] at h
  cases hx:x == n with
  | true =>
   rcases ju ((k == bZ && env.scope.kind == .function && env.kindOf n == some .cell)=true) with hc | hc
   ·have hk:k = .free:=by
     simp only [dt] at hc; simpa using hc.1.1
    subst hk
    exact .inl (by simp only [bz,hx])
   ·rw [if_neg hc] at h
    simp only [bz,hx] at h ⊢
    rcases h with h | h
    ·exact .inr h
    ·exact .inl h
  | false =>
   rcases ju ((k == bZ && env.scope.kind == .function && env.kindOf n == some .cell)=true) with hc | hc
   ·rw [if_pos hc] at h
    simp only [bz,hx] at h ⊢
    exact ih h
   ·rw [if_neg hc] at h
    simp only [bz,hx] at h ⊢
    exact ih h
end L2
end
section
namespace L2
open PySem PySem.Spec PyProof.Rows
theorem zfs:∀ (names:List (Str×NameKind)) (n:Nat) (acc:List (Str×Addr)) (x:Str),(x,cL)∉names→(cellsFrom n names acc).lookup x=acc.lookup x
 | [],_,_,_,_=>rfl
 | (y,k) :: r,n,acc,x,h=>by
  have hr:(x,cL)∉r:=fun z=>h (aw _ z)
  unfold cellsFrom
  split
  ·rename_i hk
   have uE:k = .cell:=by simpa using hk
   rw [zfs r _ _ x hr,bz]
   cases hx:(x == y) with
   | true =>
    have:x=y:=by simpa using hx
    subst this
    subst uE
    exact absurd aF h
   | false=>rfl
  ·exact zfs r _ _ x hr
theorem zft:∀ (names:List (Str×NameKind)) (n:Nat) (acc:List (Str×Addr)) (x:Str),(x,cL)∈names→∃ c,(cellsFrom n names acc).lookup x=some c∧n≤c
 | (y,k) :: r,n,acc,x,h=>by
  by_cases hr:(x,cL)∈r
  ·unfold cellsFrom
   split
   ·obtain⟨c,e,l⟩:=zft r (n+1) ((y,n) :: acc) x hr
    exact⟨c,e,by lia⟩
   ·exact zft r n acc x hr
  ·rcases aE.mp h with e | e
   ·cases e
    unfold cellsFrom
    rw [if_pos (by decide),zfs r _ _ _ hr,bz,beq_self_eq_true]
    exact⟨n,rfl,af _⟩
   ·exact absurd e hr
structure CO (h:Heap) (lo:Nat) (old cs:List (Str×Addr)):Prop where
 each:∀ x c,cs.lookup x=some c→(h.IsCell c none∧lo≤c)∨(old.lookup x=some c∧c < lo)
 inj:∀ x y c,cs.lookup x=some c→cs.lookup y=some c→x=y
theorem zjN {lo:Nat} {old:List (Str×Addr)}:∀ (names:List (Str×NameKind)) (h:Heap) (acc:List (Str×Addr)),CO h lo old acc→lo≤h.objs.size→CO (pushCells h names) lo old (cellsFrom h.objs.size names acc)
 | [],_,_,a,_=>a
 | (y,k) :: r,h,acc,a,hl=>by
  unfold pushCells cellsFrom
  split
  ·have lt:∀ x c,acc.lookup x=some c→c < h.objs.size:=fun x c e=>(a.each x c e).elim (fun z=>z.1.lt) fun z=>bg z.2 hl
   have key:∀ x c,List.lookup x ((y,h.objs.size) :: acc)=some c→(x=y∧c=h.objs.size)∨acc.lookup x=some c:=fun x c e=>by
    rw [bz] at e
    cases hx:(x == y) with
    | true =>
     rw [hx] at e
     exact .inl ⟨by simpa using hx,(aR e).symm⟩
    | false =>
     rw [hx] at e
     exact .inr e
   have:=zjN (lo:=lo) (old:=old) r (h.push { cls:=.type "cell",data:=.cell none }) ((y,h.objs.size) :: acc) ⟨fun x c e=>?_,fun x z c e1 e2=>?_⟩ (by rw [bI]; lia)
   ·rw [bI] at this
    exact this
   ·rcases key x c e with ⟨_,rfl⟩ | e
    ·exact .inl ⟨⟨_,aI _ rfl,rfl⟩,hl⟩
    ·rcases a.each x c e with z | z
     ·exact .inl ⟨z.1.keeps fun b o e=>ai _ e,z.2⟩
     ·exact .inr z
   ·rcases key x c e1 with ⟨p1,q1⟩ | f1 <;> rcases key z c e2 with ⟨p2,q2⟩ | f2
    ·exact p1.trans p2.symm
    ·exact absurd (lt _ _ f2) (by rw [q1]; exact bY _)
    ·exact absurd (lt _ _ f1) (by rw [q2]; exact bY _)
    ·exact a.inj x z c f1 f2
  ·exact zjN r h acc a hl
theorem ziO {M:Model} {A:Around} {E:Value→Shared→Prop} {s:Shared} {scope:Scope} {globals:Addr} {closure:List (Str×Addr)} {qual:Str} {env:Env} {Q:Env→Shared→Prop}
  (h:Q (newEnv scope s.heap.objs.size globals (cellsFrom (s.heap.objs.size+1) scope.names closure) qual none .none (some env) builtinsNs) { s with heap:=pushCells (s.heap.push { cls:=.type "dict",data:=.dict #[] }) scope.names }) :
  wpAny M A (newFunctionEnv scope globals closure [] qual none .none (some env)) Q E s:=by
 (simp only [newFunctionEnv,jv,if_true])
 (refine ae (wpAny_alloc ?_))
 (refine ae (wpAny_layCells _ (fun name kind cells=>by cases hkc:kind == cL <;> simp [hkc]) _ _ _ _ ?_))
 rw [show ({ s with heap:=s.heap.push { cls:=.type "dict",data:=.dict #[] } }:Shared).heap.objs.size=s.heap.objs.size+1 from bI ..]
 (exact ae (ao (ao h)))
abbrev zI (X:Cx) (N':List Str) (scope:Scope) (s₃:Shared) (H₃:Hp) (ex:List Addr) (kE:List (Addr×Obj)):Cx :=
 { X with N:=N',s₀:=s₃,H₀:=H₃,env:=compEnvC scope (cellsFrom (s₃.heap.objs.size+1) scope.names (zah X.env.cells scope.names [])) s₃.heap.objs.size X.env,outer:=X.stack,stack:=X.stack,ex:=ex,fn:=fun x=>scope.names.lookup x == some .cell,pn:=X.pn++kE,xe:=fun _ _=>False }
def zha (ifs:List Expr) (env:Env):Sem Bool :=
 forIn ifs true fun c r=>if r=true then do let ok ← isTrue c env (eval c env); pure (cm ok) else pure (cm r)
def zcW (X:Cx) (ifs:List Expr) (t:TT):Prop :=
 ∀ (kE:List (Addr×Obj)) (s:Shared) (σ:St) (H:Hp) (Q:Bool→Hp→Prop),Inv X kE σ H s→t σ H Q→wpAny (model X.prog X.w) X.A (zha ifs X.env) (TP X kE σ Q) X.xe s
def zmL:TT:=fun _ H Q=>Q true H
theorem zG {X:Cx}:zcW X [] zmL:=fun _ _ _ H _ I h=>ao ⟨H,I,h⟩
theorem zcf {X:Cx} {c:Expr} {t:TT} (h:PT X c t):zcW X [c] t:=by
 intro kE s σ H Q I hw
 unfold zha
 rw [ek]
 simp only [if_true]
 exact ae (ae (thn (h kE s σ H _ I hw) fun b s1 q=>ao (ao q)))
structure CompSc (X:Cx) (N':List Str) (ix:List (Option Nat)) (scope:Scope):Prop where
 kind:scope.kind = .function
 cells:∀ y∈scope.names,y.2 = .cell→scope.names.lookup y.1=some .cell
 names:∀ y∈scope.names,y.2 = .local→scope.names.lookup y.1=some .local
 free:∀ y∈scope.names,y.2 = .free→X.env.kindOf y.1=some .cell∨X.env.kindOf y.1=some .free
 len:N'.length=ix.length
 cap:∀ j i:Nat,ix[j]? = some (some i)→∃ x,N'[j]? = some x∧X.N[i]? = some x∧scope.names.lookup x=some .free
def zhO (xQ:Scope) (oN N':List Str) (ix:List (Option Nat)) (scope:Scope):Bool :=
 (scope.kind == .function) && (scope.names.all fun y=>y.2 != .cell || scope.names.lookup y.1 == some .cell) && (scope.names.all fun y=>y.2 != .local || scope.names.lookup y.1 == some .local) &&
 (scope.names.all fun y=>y.2 != .free || (xQ.names.lookup y.1 == some .cell || xQ.names.lookup y.1 == some .free)) && (N'.length == ix.length) &&
 ((aD ix.length).all fun j=>match ix[j]? with
  | some (some i)=>(match N'[j]? with
   | some x=>oN[i]? == some x && scope.names.lookup x == some .free
   | none=>false)
  | _=>true)
theorem CompSc.of {X:Cx} {N':List Str} {ix:List (Option Nat)} {scope:Scope} (xQ:Scope) (oN:List Str) (h1:X.env.scope=xQ) (h2:X.N=oN) (hb:zhO xQ oN N' ix scope=true):CompSc X N' ix scope:=by
 unfold zhO at hb
 simp only [dt,eP] at hb
 obtain⟨⟨⟨⟨⟨a,b⟩,c⟩,d⟩,e⟩,f⟩:=hb
 refine⟨?_,fun y hy hl=>?_,fun y hy hl=>?_,fun y hy hf=>?_,by simpa using e,fun j i hj=>?_⟩
 ·revert a
  cases scope.kind <;> first | (intro _; rfl) | (intro h; exact absurd h (by decide))
 ·have:=b y hy
  rw [hl] at this
  simpa using this
 ·have:=c y hy
  rw [hl] at this
  simpa using this
 ·have:=d y hy
  rw [hf] at this
  have e1:X.env.kindOf y.1=xQ.names.lookup y.1:=by rw [← h1]; rfl
  rw [e1]
  simpa using this
 ·have lp:j < ix.length:=(ak.mp hj).1
  have:=f j (bm.mpr lp)
  rw [hj] at this
  cases hN:N'[j]? with
  | none =>
   rw [hN] at this
   simp at this
  | some x =>
   rw [hN] at this
   refine⟨x,rfl,?_⟩
   rw [h2]
   simpa using this
def zcX (ix:List (Option Nat)) (σ:St):St:=ix.map fun o=>match o with
 | none=>none
 | some i=>(σ[i]?).join
theorem Inv.track {X:Cx} {kE:List (Addr×Obj)} {σ:St} {H:Hp} {s:Shared} {D:Addr} {o:HO} (I:Inv X kE σ H s) (hn:H D=none) (hs:X.s₀.heap.objs.size≤D) (hL:X.env.locals≠D)
  (hC:∀ x c,X.env.cells.lookup x=some c→c≠D) (hp:∀ p∈X.pn++kE,p.1≠D) (ok:zak X.prog X.w (kL H D o) s.heap D o):Inv X kE σ (kL H D o) s:=by
 have ne:∀ b u,H b=some u→b≠D:=fun b u e=>zJ e hn
 refine⟨I.ok,I.os,I.bare,⟨I.base.keep,I.base.slot,fun b u e n hx=>?_,I.base.there,fun b xs e=>?_,fun b u xs e=>?_,fun b ps e=>?_⟩,I.loc,I.cell,?_,fun x c e=>?_,fun p qr=>?_,fun b u e=>?_,I.len⟩
 ·have:b≠D:=bi (bg (aG e) hs)
  rw [zq this]
  exact I.base.free b u e n hx
 ·have:=I.base.tups b xs e
  rw [zq (ne b _ this)]
  exact this
 ·have:=I.base.frzs b u xs e
  rw [zq (ne b _ this)]
  exact this
 ·obtain⟨more,q⟩:=I.base.tbls b ps e
  exact⟨more,by rw [zq (ne b _ q)]; exact q⟩
 ·rw [zq hL]
  exact I.free
 ·rw [zq (hC x c e)]
  exact I.freeC x c e
 ·obtain⟨a1,a2,a3⟩:=I.pin p qr
  exact⟨a1,by rw [zq (hp p qr)]; exact a2,a3⟩
 ·by_cases hb:b=D
  ·subst hb
   rw [zb] at e
   cases e
   exact ok
  ·rw [zq hb] at e
   exact (I.hok b u e).stay (fun c v _ q=>q) (fun c q=>by rw [zq (ne c _ q)]; exact q) fun c xs q=>by rw [zq (ne c _ q)]; exact q
def cGo (g:TG) (ts:TT) (te:TE) (σ0:St) (J:It) (Q:VK) (H1:Hp):Prop :=
 ∃ W:Nat→Nat→List V→Hp→Prop,(∃ m,W 0 m [] H1)∧∀ i m ys H,W i m ys H →
  (J.stop i H∧∀ D,H D=none→Q (.ref D) (kL H D (.lst ys))) ∨
  (J.go i H∧∃ N:List V→Hp→Prop,(∀ qw H',N qw H'→∃ m',m' < m∧W (i+1) m' qw H')∧∀ x H',J.yld i H x H'→g x σ0 H' fun σ2 H2=>ts σ2 H2 fun b H3 =>
   if b=true then te σ2 H3 fun y H4=>ys.length < sizeLine∧N (ys++[y]) H4 else N ys H3)
def zmd (ix:List (Option Nat)) (wi:TI) (g:TG) (ts:TT) (te:TE):TE:=fun σ H Q=>wi σ H fun J H1=>cGo g ts te (zcX ix σ) J Q H1
theorem zY {J:It} {n:Nat} {g:TG} {ts:TT} {te:TE} {σ0:St} {Q:VK} {H:Hp} (Pv:Nat→List V→Hp→Prop) (h0:Pv 0 [] H) (yE:∀ i ys H,i < n→Pv i ys H→J.go i H) (qU:∀ ys H,Pv n ys H→J.stop n H)
  (hs:∀ i x ys H H',i < n→Pv i ys H→J.yld i H x H'→g x σ0 H' fun σ2 H2=>ts σ2 H2 fun b H3=>if b=true then te σ2 H3 fun y H4=>ys.length < sizeLine∧Pv (i+1) (ys++[y]) H4 else Pv (i+1) ys H3)
  (hd:∀ ys H D,Pv n ys H→H D=none→Q (.ref D) (kL H D (.lst ys))):cGo g ts te σ0 J Q H:=by
 refine⟨fun i m ys H=>m=n - i∧i≤n∧Pv i ys H,⟨n,by simp,bb _,h0⟩,?_⟩
 rintro i m ys H ⟨rfl,hi,p⟩
 by_cases lp:i < n
 ·exact .inr ⟨yE i ys H lp p,Pv (i+1),fun qw H' p'=>⟨n - (i+1),by lia,rfl,lp,p'⟩,fun x H' y=>hs i x ys H H' lp p y⟩
 ·have e:i=n:=by lia
  subst e
  exact .inl ⟨qU ys H p,fun D hD=>hd ys H D p hD⟩
theorem zcN {J:It} {n:Nat} {g:TG} {tb:TS} {D:Ends} {σ:St} {H:Hp} (Pv:Nat→St→Hp→Prop) (h0:Pv 0 σ H) (yE:∀ i σ H,i < n→Pv i σ H→J.go i H) (qU:∀ σ H,Pv n σ H→J.stop n H)
  (hs:∀ i x σ H H',i < n→Pv i σ H→J.yld i H x H'→g x σ H' fun σ2 H2=>tb { D with nx:=Pv (i+1),ct:=Pv (i+1),bk:=D.nx } σ2 H2) (hd:∀ σ H,Pv n σ H→D.nx σ H) :
  ∃ W:Nat→Nat→St→Hp→Prop,(∃ m,W 0 m σ H)∧∀ i m σ H,W i m σ H →
   (J.stop i H∧D.nx σ H)∨(J.go i H∧∃ N:St→Hp→Prop,(∀ σ' H',N σ' H'→∃ m',m' < m∧W (i+1) m' σ' H')∧∀ x H',J.yld i H x H'→g x σ H' fun σ2 H2=>tb { D with nx:=N,ct:=N,bk:=D.nx } σ2 H2):=by
 refine⟨fun i m σ H=>m=n - i∧i≤n∧Pv i σ H,⟨n,by simp,bb _,h0⟩,?_⟩
 rintro i m σ H ⟨rfl,hi,p⟩
 by_cases lp:i < n
 ·exact .inr ⟨yE i σ H lp p,Pv (i+1),fun σ' H' p'=>⟨n - (i+1),by lia,rfl,lp,p'⟩,fun x H' y=>hs i x σ H H' lp p y⟩
 ·have e:i=n:=by lia
  subst e
  exact .inl ⟨qU σ H p,hd σ H p⟩
end L2
end
section
namespace L2
open PySem PySem.Spec PyProof.Rows
abbrev TM:=List V→St→Hp→(List V→Hp→Prop)→Prop
abbrev zdI (kK:List Value) (nn:Nat):Obj:={ cls:=.type "list",data:=.seq kK.toArray nn }
structure AccAt (Y:Cx) (kE:List (Addr×Obj)) (H:Hp) (s:Shared) (D:Addr) (ys:List V) (kK:List Value) (nn:Nat):Prop where
 fp:zcc Y kE H D
 here:s.heap.get? D=some (zdI kK nn)
 vals:zN ys kK
 len:ys.length≤sizeLine
def zfu (js:List Nat) (σ:St):Prop:=∀ j∈js,∀ v,σ[j]?≠some (some v)
def Kp (js:List Nat) (σ σ2:St):Prop:=σ2.length=σ.length∧∀ j,j∉js→σ2[j]? = σ[j]?
theorem Kp.refl {js:List Nat} {σ:St}:Kp js σ σ:=⟨rfl,fun _ _=>rfl⟩
theorem Kp.set {js:List Nat} {σ σ2:St} {i:Nat} {v:Option V} (hi:i∈js) (h:Kp js σ σ2):Kp js σ (σ2.set i v):=by
 refine⟨by rw [ck]; exact h.1,fun j hj=>?_⟩
 rw [bN (fun z=>hj (by rw [← z]; exact hi))]
 exact h.2 j hj
def GS (js:List Nat) (g:TG):Prop:=∀ (σ σ1:St) (x:V) (H:Hp) (Q:St→Hp→Prop),Kp js σ σ1→g x σ1 H Q→g x σ1 H fun σ2 H2=>Kp js σ σ2∧Q σ2 H2
def GSs (js:List Nat) (g:TGs):Prop:=∀ (σ σ1:St) (xs:List V) (H:Hp) (Q:St→Hp→Prop),Kp js σ σ1→g xs σ1 H Q→g xs σ1 H fun σ2 H2=>Kp js σ σ2∧Q σ2 H2
theorem zdN {js:List Nat} {i:Nat} (hi:i∈js):GS js (za0 i):=fun σ σ1 x H Q hw h=>⟨hw.set hi,h⟩
theorem zhP {js:List Nat}:GSs js ziH:=fun σ σ1 xs H Q hw h=>⟨h.1,hw,h.2⟩
theorem zed {js:List Nat} {i:Nat} {u:TGs} (hi:i∈js) (h2:GSs js u):GSs js (zcG (za0 i) u):=fun σ σ1 xs H Q hw h=>by
 obtain⟨v,r,e,h⟩:=h
 exact⟨v,r,e,h2 σ _ r H Q (hw.set hi) h⟩
theorem zjO {js:List Nat} {K:ah} {n:Nat} {t:TGs} (h:GSs js t):GS js (zg0 K n t):=fun σ σ1 x H Q hw hg=>by
 obtain⟨a,xs,e,hq,hl,hg⟩:=hg
 exact⟨a,xs,e,hq,hl,h σ σ1 xs H Q hw hg⟩
theorem Inv.fewer {X:Cx} {kE oh:List (Addr×Obj)} {σ:St} {H:Hp} {s:Shared} (I:Inv X kE σ H s) (h:∀ p∈oh,p∈kE):Inv X oh σ H s :=
 I.pins_of fun p hp=>I.pin p (aH _ (h p hp))
section
variable {Y:Cx} {kE:List (Addr×Obj)} {σ:St} {H:Hp} {s:Shared} {D:Addr} {ys:List V} {kK:List Value} {nn:Nat}
theorem AccAt.pin (a:AccAt Y kE H s D ys kK nn) (I:Inv Y kE σ H s):Inv Y (kE++[(D,zdI kK nn)]) σ H s :=
 I.pins_of fun p hp=>by
  rcases (aP.mp hp) with hp | hp
  ·exact I.pin p (aH _ hp)
  ·obtain rfl:p=(D,zdI kK nn):=by simpa using hp
   obtain⟨a0,a1,a2,_⟩:=a.fp
   exact⟨a.here,a0,a1,a2,fun v z=>by cases z⟩
theorem AccAt.back {oh:List (Addr×Obj)} {σ':St} {H':Hp} {s':Shared} (a:AccAt Y kE H s D ys kK nn) (I:Inv Y oh σ' H' s') (hm:(D,zdI kK nn)∈oh):AccAt Y kE H' s' D ys kK nn:=by
 have p:=I.pin (D,zdI kK nn) (aH _ hm)
 exact⟨⟨p.2.1,a.fp.2⟩,p.1,a.vals,a.len⟩
end
def PM (Y:Cx) (D:Addr) (js:List Nat) (mk:Sem Fin→Sem Fin) (tm:TM):Prop :=
 ∀ (last:Sem Fin) (kE:List (Addr×Obj)) (s:Shared) (σ:St) (H:Hp) (ys:List V) (kK:List Value) (nn:Nat) (Q:List V→Hp→Prop) (Φ:Fin→Shared→Prop),Inv Y kE σ H s→AccAt Y kE H s D ys kK nn→zfu js σ→tm ys σ H Q →
  (∀ (s':Shared) (qw:List V) (its':List Value) (wF:Nat) (H':Hp),Inv Y kE σ H' s'→AccAt Y kE H' s' D qw its' wF→Q qw H'→wpAny (model Y.prog Y.w) Y.A last Φ (fun _ _=>False) s') →
  wpAny (model Y.prog Y.w) Y.A (mk last) Φ (fun _ _=>False) s
def ze8 (elt:Expr) (acc:Value) (env:Env) (last:Sem Fin):Sem Fin:=(eval elt env >>= fun x=>call (.builtin "list.append") [acc,x] >>= fun _=>pure ()) >>= fun _=>last
def zhQ (e iter:Expr) (d:Nat) (acc:Value) (env:Env) (last:Sem Fin):Sem Fin :=
 eval iter env >>= fun x=>standAt iter.pos >>= fun _=>foldedSetIterable iter env x >>= fun x=>holding [x] (pyIter x) >>= fun wy=>runOwn (.compStart e d wy acc env) env >>= fun _=>last
def zhR (te:TE):TM:=fun ys σ H Q=>te σ H fun y H4=>ys.length < sizeLine∧Q (ys++[y]) H4
def cIn (g:TG) (ts:TT) (tm:TM) (σ:St) (J:It) (Q:List V→Hp→Prop) (ys:List V) (H1:Hp):Prop :=
 ∃ W:Nat→Nat→List V→Hp→Prop,(∃ m,W 0 m ys H1)∧∀ i m ys H,W i m ys H →
  (J.stop i H∧Q ys H) ∨
  (J.go i H∧∃ N:List V→Hp→Prop,(∀ qw H',N qw H'→∃ m',m' < m∧W (i+1) m' qw H')∧∀ x H',J.yld i H x H'→g x σ H' fun σ2 H2=>ts σ2 H2 fun b H3 =>
   if b=true then tm ys σ2 H3 N else N ys H3)
def zhS (wi:TI) (g:TG) (ts:TT) (tm:TM):TM:=fun ys σ H Q=>wi σ H fun J H1=>cIn g ts tm σ J Q ys H1
def zfv (ix:List (Option Nat)) (wi:TI) (g:TG) (ts:TT) (tm:TM):TE:=fun σ H Q=>wi σ H fun J H1=>cIn g ts tm (zcX ix σ) J (fun ys H'=>∀ D,H' D=none→Q (.ref D) (kL H' D (.lst ys))) [] H1
theorem thx {α:Type} {X:Cx} {m:Sem α} {P Q:α→Shared→Prop} {E:Value→Shared→Prop} {s:Shared} (hx:X.xe=fun _ _=>False) (h:wpAny (model X.prog X.w) X.A m P X.xe s) (k:∀ a s',P a s'→Q a s'):wpAny (model X.prog X.w) X.A m Q E s :=
 cK h k fun _ _ z=>by rw [hx] at z; exact z.elim
theorem zhb {Y:Cx} {D:Addr} {elt:Expr} {te:TE} (hx:Y.xe=fun _ _=>False) (he:PE Y elt te):PM Y D [] (ze8 elt (.ref D) Y.env) (zhR te):=by
 intro last kE s σ H ys kK nn Q Φ I a no h k
 unfold ze8
 refine ae (ae (thx hx (he (kE++[(D,zdI kK nn)]) s σ H _ (a.pin I) h) fun yv s1 ⟨y,H1,I1,r1,hz,q1⟩=>ae ?_))
 have a1:=a.back I1 (aH _ aF)
 have J1:Inv Y kE σ H1 s1:=I1.fewer fun p hp=>aQ _ hp
 have rY:=a1.vals.length
 refine eh jq ⟨_,a1.here,rfl⟩ jc (iW _ _) (jE D kK.toArray nn yv (by rw [aq]; lia)) ⟨a1.here,?_⟩
 refine ao ?_
 have q:=jS a1.here (·.push yv)
 have k10:∀ b o,b≠D→s1.heap.get? b=some o→(s1.heap.update D (c6 (·.push yv))).get? b=some o:=fun b o hb e=>(fF s1.heap (c6 (·.push yv)) (cR hb)).trans e
 obtain⟨b0,b1,b2,b3,b4,b5⟩:=a1.fp
 have I11:Inv Y kE σ H1 { s1 with heap:=s1.heap.update D (c6 (·.push yv)) }:=J1.turned (t':=s1.toks) k10 b0 b1 b3 b4 b5
 have e1:kK.toArray.push yv=(kK++[yv]).toArray:=by simp
 rw [e1] at q
 refine k _ (ys++[y]) (kK++[yv]) _ H1 I11 ⟨a1.fp,q,a1.vals.append (.cons r1 .nil),?_⟩ q1
 rw [ar,fQ]
 lia
section
variable {Y:Cx} {D:Addr} {js js':List Nat} {elt:Expr} {gens:List Comprehension} {scope:Scope} {pos:Pos} {d:Nat} {tg:Expr} {ifs:List Expr} {p:Pos} {mk:Sem Fin→Sem Fin} {g:TG} {ts:TT} {tm:TM}
def zbW (tg:Expr) (ifs:List Expr) (p:Pos) (mk:Sem Fin→Sem Fin) (c:Code) (it:Value) (env:Env):Sem Fin :=
 standAt p >>= fun _=>pyNext it >>= fun r=>match r with
  | none=>pure (.done .next)
  | some v=>letOwnedTupleGo tg it v >>= fun _=>assign tg env v >>= fun _=>zha ifs env >>= fun ok=>if ok=true then mk (again c) else again c
theorem zhT (hc:Y.calm=true) (hx:Y.xe=fun _ _=>False) (va:GS js g) (nK:∀ j∈js,j∉js') (hg:PG Y tg g) (ht:zcW Y ifs ts) (hm:PM Y D js' mk tm)
  (nr:∀ it,compTurn (.ListComp elt gens scope pos) d it (.ref D) Y.env=zbW tg ifs p mk (.compLoop (.ListComp elt gens scope pos) d it (.ref D) Y.env) it Y.env)
  {kE:List (Addr×Obj)} {σ:St} {H2:Hp} {s2:Shared} {it:Addr} {fp:List Addr} {tn:Nat→Heap→Prop} {J:It} {Q:List V→Hp→Prop} {R:Result→Shared→Prop} {ys:List V} {kK:List Value} {nn:Nat}
  (I2:Inv Y kE σ H2 s2) (a2:AccAt Y kE H2 s2 D ys kK nn) (no:zfu (js++js') σ) (T:Turn Y.prog Y.w Y.K tg J fp it tn) (lB:tn 0 s2.heap) (f2:∀ b∈fp,zcc Y kE H2 b) (fD:∀ b∈fp,b≠D) (q:cIn g ts tm σ J Q ys H2)
  (hR:∀ (s':Shared) (qw:List V) (its':List Value) (wF:Nat) (H':Hp),Inv Y kE σ H' s'→AccAt Y kE H' s' D qw its' wF→Q qw H'→R (.ok .next) s') :
  codeAny (model Y.prog Y.w) Y.A (.compLoop (.ListComp elt gens scope pos) d (.ref it) (.ref D) Y.env) R s2:=by
 obtain⟨W,⟨m0,w0⟩,turn⟩:=q
 have xR:∀ {H':Hp} {kK:List Value} {nn:Nat},(∀ b∈fp,H' b=none)→∀ b∈fp,zcc Y (kE++[(D,zdI kK nn)]) H' b:=fun {H' kK nn} hn b hb=>by
  obtain⟨_,a1,a2,a3,a4,a5⟩:=f2 b hb
  refine⟨hn b hb,a1,a2,a3,a4,fun p hp=>?_⟩
  rcases (aP.mp hp) with hp | hp
  ·exact a5 p (aQ _ hp)
  ·rcases (aP.mp hp) with hp | hp
   ·exact a5 p (aH _ hp)
   ·obtain rfl:p=(D,zdI kK nn):=by simpa using hp
    exact (fD b hb).symm
 refine codeAny_loop rfl (fun n s'=>∃ i ys H' kK nn,Inv Y kE σ H' s'∧tn i s'.heap∧(∀ b∈fp,H' b=none)∧AccAt Y kE H' s' D ys kK nn∧W i n ys H') ?_ m0
  ⟨0,ys,H2,kK,nn,I2,lB,fun b hb=>(f2 b hb).1,a2,w0⟩
 rintro n s5 ⟨i,ys,H5,kK,nn,I5,xN,BF,a5,w5⟩
 show wpAny _ Y.A ((compTurn (.ListComp elt gens scope pos) d (.ref it) (.ref D) Y.env).onRaise (fun x=>do noteFrame x Y.env; theTreesLotGoes x)) _ _ s5
 refine wpAny_noted ?_
 rw [nr]
 unfold zbW
 have I5p:=a5.pin I5
 (refine ae (eg (ae ?_)))
 rcases turn i n ys H5 w5 with ⟨stop,qn⟩ | ⟨go,N,hN,step⟩
 ·refine cK (T.done Y rfl rfl rfl hc i _ s5 _ H5 (fun _ _=>False) I5p (xR BF) xN stop) (fun r s6 ⟨hr,I6⟩=>?_) fun _ _ z=>z.elim
  subst hr
  exact ao (hR s6 ys kK nn H5 (I6.fewer fun p hp=>aQ _ hp) (a5.back I6 (aH _ aF)) qn)
 ·refine cK (T.item Y rfl rfl rfl hc i _ s5 _ H5 (fun _ _=>False) I5p (xR BF) xN go) (fun r s6 ⟨u,hr,h6⟩=>?_) fun _ _ z=>z.elim
  subst hr
  refine ae (cK h6 (fun _ s7 ⟨x,H7,I7,r7,y7,CS,fr7⟩=>?_) fun _ _ z=>z.elim)
  have I7':=I7.pinned (xR fr7) (T.obj _ _ CS)
  refine ae (thx hx (hg _ s7 _ H7 x u _ I7' r7 (va σ σ x H7 _ Kp.refl (step x H7 y7))) fun _ s8 ⟨σ8,H8,I8,kp,q8⟩=>?_)
  refine ae (thx hx (ht _ s8 σ8 H8 _ I8 q8) fun ok s9 ⟨H9,I9,q9⟩=>?_)
  have mD:(D,zdI kK nn)∈(kE++[(D,zdI kK nn)])++zcd fp s7.heap:=aQ _ (aH _ aF)
  have a9:=a5.back I9 mD
  have K9:Inv Y (kE++zcd fp s7.heap) σ8 H9 s9:=I9.fewer fun p hp=>(aP.mp hp).elim (fun z=>aQ _ (aQ _ z)) fun z=>aH _ z
  have wk:∀ (j:Nat) v,σ[j]? = some (some v)→σ8[j]? = some (some v):=fun j v e=>by
   have hj:j∉js:=fun z=>no j (aQ _ z) v e
   rw [kp.2 j hj]
   exact e
  have back:∀ {H':Hp} {s':Shared},Inv Y (kE++zcd fp s7.heap) σ8 H' s'→Inv Y kE σ H' s'∧tn (i+1) s'.heap∧∀ b∈fp,H' b=none:=fun {H' s'} I'=>by
   refine⟨(I'.fewer fun p hp=>aQ _ hp).weak kp.1.symm wk,T.keep _ _ _ CS fun b hb o e=>(I'.pin (b,o) (aH _ (aH _ (zbT hb e)))).1,fun b hb=>?_⟩
   obtain⟨o,e,d⟩:=T.obj _ _ CS b hb
   exact (I'.pin (b,o) (aH _ (aH _ (zbT hb e)))).2.1
  cases ok with
  | false =>
   rw [if_neg aM] at q9 ⊢
   obtain⟨m',xS,w9⟩:=hN _ _ q9
   obtain⟨b1,b2,b3⟩:=back K9
   exact ao ⟨rfl,m',xS,i+1,ys,H9,kK,nn,b1,b2,b3,a9,w9⟩
  | true =>
   rw [if_pos rfl] at q9 ⊢
   have a9':AccAt Y (kE++zcd fp s7.heap) H9 s9 D ys kK nn:=by
    obtain⟨b0,b1,b2,b3,b4,b5⟩:=a9.fp
    refine⟨⟨b0,b1,b2,b3,b4,fun p hp=>?_⟩,a9.here,a9.vals,a9.len⟩
    rcases (aP.mp hp) with hp | hp
    ·exact b5 p (aQ _ hp)
    ·rcases (aP.mp hp) with hp | hp
     ·exact b5 p (aH _ hp)
     ·exact fD _ (ze1 hp).1
   have no':zfu js' σ8:=fun j hj v e=>by
    have oI:j∉js:=fun z=>nK j z hj
    rw [kp.2 j oI] at e
    exact no j (aH _ hj) v e
   refine cK (hm (again _) _ s9 σ8 H9 ys kK nn N (fun fin s'=>match fin with | .done f=>R (.ok f) s' | .again c'=>c'=_∧∃ m,m < n∧_) K9 a9' no' q9 fun s' qw its' wF H' I' a' n'=>?_) (fun _ _ z=>z) fun _ _ z=>z.elim
   obtain⟨m',xS,w'⟩:=hN _ _ n'
   obtain⟨b1,b2,b3⟩:=back I'
   obtain⟨c0,c1,c2,c3,c4,c5⟩:=a'.fp
   refine ao ⟨rfl,m',xS,i+1,qw,H',its',wF,b1,b2,b3,⟨⟨c0,c1,c2,c3,c4,fun p hp=>?_⟩,a'.here,a'.vals,a'.len⟩,w'⟩
   rcases (aP.mp hp) with hp | hp
   ·exact c5 p (aQ _ hp)
   ·exact c5 p (aH _ (aQ _ hp))
theorem zf4 {prog:Program} {w:World} {A:Around} {R:Result→Shared→Prop} {s:Shared} {iter:Expr} {it acc:Value} {env:Env} (hd:gens[d]? = some ⟨tg,iter,ifs,0⟩)
  (h0:codeAny (model prog w) A (.compLoop (.ListComp elt gens scope pos) d it acc env) R s)
  (h:wpAny (model prog w) A (pyIter it) (fun CT s'=>codeAny (model prog w) A (.compLoop (.ListComp elt gens scope pos) d CT acc env) R s') (fun _ _=>False) s) :
  codeAny (model prog w) A (.compStart (.ListComp elt gens scope pos) d it acc env) R s:=by
 refine codeAny_of_tree ?_
 show wpAny _ _ ((compStart (.ListComp elt gens scope pos) d it acc env).onRaise (fun x=>do noteFrame x env; standAt theWindowsPlace)) _ _ s
 refine wpAny_notedAt ?_
 unfold compStart
 have e1:(clausesOf (.ListComp elt gens scope pos))[d]? = some ⟨tg,iter,ifs,0⟩:=hd
 rw [e1]
 (show wpAny _ _ (ask >>= _) _ _ s)
 (refine ae (wpAny_askSetting (wpAny_ite ?_)))
 split
 ·first
   | (exact ae (ao (ao ⟨rfl,h0⟩)))
   | (exact ao ⟨rfl,h0⟩)
 ·first
   | exact ae (b8 (ae (eg (ae (cK h (fun CT s' h'=>ao (And.intro rfl h')) fun _ _ x=>x.elim)))))
   | (refine ae (b8 ?_); show wpAny _ _ (standAt iter.pos >>= _) _ _ s; exact ae (eg (ae (cK h (fun CT s' h'=>ao (And.intro rfl h')) fun _ _ x=>x.elim))))
theorem zmM {iter:Expr} {wi:TI} (hc:Y.calm=true) (hx:Y.xe=fun _ _=>False) (va:GS js g) (nK:∀ j∈js,j∉js') (hi:PI Y tg iter wi) (hg:PG Y tg g) (ht:zcW Y ifs ts) (hm:PM Y D js' mk tm) (hd:gens[d]? = some ⟨tg,iter,ifs,0⟩)
  (nr:∀ it,compTurn (.ListComp elt gens scope pos) d it (.ref D) Y.env=zbW tg ifs p mk (.compLoop (.ListComp elt gens scope pos) d it (.ref D) Y.env) it Y.env)
  (hs:∀ x,foldedSetIterable iter Y.env x=pure x:=by intro _; rfl) :
  PM Y D (js++js') (zhQ (.ListComp elt gens scope pos) iter d (.ref D) Y.env) (zhS wi g ts tm):=by
 intro last kE s σ H ys kK nn Q Φ I a no h k
 unfold zhQ
 refine ae (thx hx (hi (kE++[(D,zdI kK nn)]) s σ H _ (a.pin I) h) fun v s1 h1=>ae (eg (ae ?_)))
 rw [hs v]
 refine ao (ae (b9 (thx hx h1 fun wy s2 h2=>?_)))
 obtain⟨it,fp,tn,J,H2,e,I2,T,lB,f2,q⟩:=h2
 subst e
 have a2:=a.back I2 (aH _ aF)
 have J2:Inv Y kE σ H2 s2:=I2.fewer fun p hp=>aQ _ hp
 have CU:∀ b∈fp,zcc Y kE H2 b:=fun b hb=>by
  obtain⟨c0,c1,c2,c3,c4,c5⟩:=f2 b hb
  refine⟨c0,c1,c2,c3,c4,fun p hp=>?_⟩
  rcases (aP.mp hp) with hp | hp
  ·exact c5 p (aQ _ hp)
  ·exact c5 p (aH _ (aQ _ hp))
 have fD:∀ b∈fp,b≠D:=fun b hb=>((f2 b hb).2.2.2.2.2 (D,zdI kK nn) (aH _ (aH _ aF))).symm
 have loop:codeAny (model Y.prog Y.w) Y.A (.compLoop (.ListComp elt gens scope pos) d (.ref it) (.ref D) Y.env) (fun r s'=>match r with | .ok f=>wpAny (model Y.prog Y.w) Y.A last Φ (fun _ _=>False) s' | .error e=>cameBackBy (model Y.prog Y.w) Y.A Y.env (fun _ _=>False) e s') s2 :=
  zhT hc hx va nK hg ht hm nr J2 a2 no T lB CU fD q fun s' qw its' wF H' I' a' q'=>k s' qw its' wF H' I' a' q'
 exact ae (wpAny_runOwn (zf4 hd loop (T.self _ 0 _ _ _ lB loop)))
end
section
variable {X:Cx} {elt tg iter:Expr} {ifs:List Expr} {gs:List Comprehension} {scope:Scope} {pos:Pos} {N':List Str} {ix:List (Option Nat)} {js js':List Nat} {g:TG} {ts:TT} {tm:TM} {mk:Addr→Env→Sem Fin→Sem Fin}
theorem zdy {kE:List (Addr×Obj)} {σ:St} {H2:Hp} {s2:Shared} {it:Addr} {fp:List Addr} {tn:Nat→Heap→Prop} {J:It} {Q:VK} {E:Value→Shared→Prop} {RR:Value→Addr→Result→Shared→Prop}
  (SC:CompSc X N' ix scope) (hc:X.calm=true) (va:GS js g) (nK:∀ j∈js,j∉js') (tP:∀ j∈js++js',ix[j]? = some none)
  (hg:∀ s₃ H₃ ex kE,PG (zI X N' scope s₃ H₃ ex kE) tg g) (ht:∀ s₃ H₃ ex kE,zcW (zI X N' scope s₃ H₃ ex kE) ifs ts) (hm:∀ s₃ H₃ ex kE D,PM (zI X N' scope s₃ H₃ ex kE) D js' (mk D (zI X N' scope s₃ H₃ ex kE).env) tm)
  (nr:∀ it D env,compTurn (.ListComp elt (⟨tg,iter,ifs,0⟩ :: gs) scope pos) 0 it (.ref D) env=zbW tg ifs iter.pos (mk D env) (.compLoop (.ListComp elt (⟨tg,iter,ifs,0⟩ :: gs) scope pos) 0 it (.ref D) env) it env)
  (I2:Inv X kE σ H2 s2) (T:Turn X.prog X.w X.K tg J fp it tn) (lB:tn 0 s2.heap) (f2:∀ b∈fp,zcc X kE H2 b) (q:cIn g ts tm (zcX ix σ) J (fun ys H'=>∀ D,H' D=none→Q (.ref D) (kL H' D (.lst ys))) [] H2)
  (hRR:∀ (D C:Addr) (s':Shared) (ys:List V) (H':Hp) (m:Str→Option Value),Inv X kE σ (kL H' D (.lst ys)) s'→zcc X kE (kL H' D (.lst ys)) C→s'.heap.Ns C m→Q (.ref D) (kL H' D (.lst ys))→RR (.ref D) C (.ok .next) s') :
  wpAny (model X.prog X.w) X.A (newList []) (fun acc s₃=>wpAny (model X.prog X.w) X.A (newFunctionEnv scope X.env.globals (zah X.env.cells scope.names []) [] X.env.qual none .none (some X.env)) (fun yF s₄ =>
   codeAny (model X.prog X.w) X.A (.compStart (.ListComp elt (⟨tg,iter,ifs,0⟩ :: gs) scope pos) 0 (.ref it) acc { yF with scope:=relabel scope X.env }) (RR acc yF.locals) s₄) E s₃) E s2:=by
 have wG:∀ y∈scope.names,y.2 = .free→∃ c,X.env.cells.lookup y.1=some c:=fun y hy hf=>I2.ok.has y.1 (SC.free y hy hf)
 have qW:∀ x c,(zah X.env.cells scope.names []).lookup x=some c→X.env.cells.lookup x=some c:=zbH scope.names [] wG (fun x c e=>by simp at e)
 refine bG (ziO ?_)
 have I3:Inv X kE σ H2 { s2 with heap:=s2.heap.push { cls:=.type "list",dict:=none,data:=.seq ([]:List Value).toArray } }:=I2.kept (t':=s2.toks) fun b o e=>ai _ e
 have CV:(s2.heap.push { cls:=.type "list",dict:=none,data:=.seq ([]:List Value).toArray }).get? s2.heap.objs.size=some { cls:=.type "list",dict:=none,data:=.seq ([]:List Value).toArray }:=aI _ rfl
 have yG:tn 0 (s2.heap.push { cls:=.type "list",dict:=none,data:=.seq ([]:List Value).toArray }):=T.keep _ _ _ lB fun b hb o e=>ai _ e
 have yH:(s2.heap.push { cls:=.type "list",dict:=none,data:=.seq ([]:List Value).toArray }).objs.size=s2.heap.objs.size+1:=bI _ _
 generalize hh3:s2.heap.push { cls:=.type "list",dict:=none,data:=.seq ([]:List Value).toArray }=h3 at *
 have CW:=T.obj _ _ lB
 have vR:∀ b∈fp,b < s2.heap.objs.size:=fun b hb=>by obtain⟨o,e,_⟩:=CW b hb; exact aG e
 have stk:∀ b∈frs X.stack,b=X.env.locals∨b∈X.fs:=fun b hb=>aE.mp (I2.stkSub b hb)
 have yI:zcc X kE H2 s2.heap.objs.size:=I2.fpOk (af _) I2.fresh
 have su:∀ b∈s2.heap.objs.size :: fp,zcc X kE H2 b:=fun b hb=>by
  rcases (aE.mp hb) with e | hb
  ·rw [e]; exact yI
  ·exact f2 b hb
 have wH:∀ b∈s2.heap.objs.size :: fp,b < h3.objs.size:=fun b hb=>by
  rw [yH]
  rcases (aE.mp hb) with e | hb; · rw [e]; exact fL _
  ·exact dO (vR b hb)
 have vS:∀ b∈s2.heap.objs.size :: fp,b∉frs X.stack:=fun b hb z=>by
  obtain⟨_,a1,a2,_⟩:=su b hb
  rcases stk b z with e | e
  ·exact a1 e
  ·exact a2 e
 have hns₁:(pushCells (h3.push { cls:=.type "dict",data:=.dict #[] }) scope.names).Ns h3.objs.size (fun _=>none):=(Heap.Ns.new h3 (.type "dict")).keeps (pushCells_keeps _ _)
 have old:∀ b o,h3.get? b=some o→(pushCells (h3.push { cls:=.type "dict",data:=.dict #[] }) scope.names).get? b=some o:=fun b o e=>pushCells_keeps _ _ b o (ai _ e)
 have CY:∀ x c,X.env.cells.lookup x=some c→c < h3.objs.size:=fun x c e=>by
  obtain⟨v,q⟩:=I3.cell x c e
  exact q.lt
 have co:CO (pushCells (h3.push { cls:=.type "dict",data:=.dict #[] }) scope.names) (h3.objs.size+1) (zah X.env.cells scope.names []) (cellsFrom (h3.objs.size+1) scope.names (zah X.env.cells scope.names [])):=by
  have:=zjN (lo:=h3.objs.size+1) (old:=zah X.env.cells scope.names []) scope.names (h3.push { cls:=.type "dict",data:=.dict #[] }) (zah X.env.cells scope.names [])
   ⟨fun x c e=>.inr ⟨e,dO (CY x c (qW x c e))⟩,fun x y c e1 e2=>I2.ok.inj x y c (qW x c e1) (qW y c e2)⟩ (by rw [bI]; exact af _)
  rw [bI] at this
  exact this
 generalize pushCells (h3.push { cls:=.type "dict",data:=.dict #[] }) scope.names=h₁ at hns₁ old co ⊢
 have CZ:∀ {x c},(cellsFrom (h3.objs.size+1) scope.names (zah X.env.cells scope.names [])).lookup x=some c→(h₁.IsCell c none∧h3.objs.size+1≤c)∨X.env.cells.lookup x=some c:=fun {x c} e=>(co.each x c e).elim .inl fun z=>.inr (qW x c z.1)
 have cfr:∀ x,scope.names.lookup x=some .free→(cellsFrom (h3.objs.size+1) scope.names (zah X.env.cells scope.names [])).lookup x=(zah X.env.cells scope.names []).lookup x:=fun x hx=>zfs _ _ _ _ fun z=>by
  have:=SC.cells _ z rfl
  rw [hx] at this
  cases this
 let s3:Shared:={ s2 with heap:=h3 }
 let Y:Cx:=zI X N' scope s3 H2 (s2.heap.objs.size :: fp) kE
 have tu:Inv X kE σ H2 s3:=I3
 have okY:Y.Ok:=by
  refine⟨I2.ok.mod,SC.kind,I2.ok.glob,I2.ok.blt,af _,co.inj,fun x hx=>?_,fun x c z e=>?_,I2.ok.hd,I2.ok.frames,.inl rfl,fun b hb=>?_,fun b o e=>tu.bs b o e,?_,fun b o e hb=>?_,vS,tu.stack,tu.stkFree⟩
  ·have tL:=zcV (env:=X.env) (names:=scope.names) (x:=x) hx
   rcases tL with tL | tL
   ·obtain⟨c,e⟩:=zbV (cs:=X.env.cells) scope.names [] x (.inr (lookup_mem tL))
    exact⟨c,(cfr x tL).trans e⟩
   ·obtain⟨c,e,_⟩:=zft scope.names (h3.objs.size+1) (zah X.env.cells scope.names []) x (lookup_mem tL)
    exact⟨c,e⟩
  ·obtain⟨c',e',l'⟩:=zft scope.names (h3.objs.size+1) (zah X.env.cells scope.names []) x (lookup_mem (by have z':(scope.names.lookup x == some cL)=true:=z; simpa using z'))
   have e2:(cellsFrom (h3.objs.size+1) scope.names (zah X.env.cells scope.names [])).lookup x=some c:=e
   rw [e'] at e2
   cases e2
   exact gM l'
  ·refine⟨bi (wH b hb),fun x c e=>(CZ e).elim (fun z y=>?_) fun z=>(su b hb).2.2.2.2.1 x c z⟩
   subst y
   exact bY _ (bg (wH _ hb) (gM z.2))
  ·exact be I2.ok.bsz tu.sz
  ·obtain⟨_,_,_,a3,_⟩:=su b hb
   rcases a3 with z | z
   ·exact I2.ok.noex b o e z
   ·have:=(I2.ok.bs b o e).1
    exact absurd (bg (aG this) z) (bY _)
 have C0:Inv Y [] (zcX ix σ) H2 { s3 with heap:=h₁ }:=by
  refine⟨okY,rfl,I2.bare,Un.kept old,⟨_,hns₁,fun j x v e1 e2 e3=>?_⟩,fun x c e=>?_,tu.fresh,fun x c e=>(CZ e).elim (fun z=>tu.hok.fresh (gM z.2)) fun z=>I2.freeC x c z,fun p hp=>?_,tu.hok.kept old,?_⟩
  ·unfold zcX at e2
   rw [ag] at e2
   cases hj:ix[j]? with
   | none=>rw [hj] at e2; simp at e2
   | some oi =>
    rw [hj] at e2
    cases oi with
    | none=>simp at e2
    | some i =>
     obtain⟨y,h1,h2,BP⟩:=SC.cap j i hj
     have hxy:y=x:=by
      have e1':N'[j]? = some x:=e1
      rw [h1] at e1'
      exact aR e1'
     subst hxy
     have yJ:(σ[i]?).join=some v:=by simpa using e2
     have C1:σ[i]? = some (some v):=by
      cases hs:σ[i]? with
      | none=>rw [hs] at yJ; simp at yJ
      | some w=>rw [hs] at yJ; simp at yJ; rw [yJ]
     obtain⟨m,hn,hl⟩:=tu.loc
     have hk:=SC.free (y,.free) (lookup_mem BP) rfl
     have C2:Vis X.env.scope y:=hk.elim (fun z=>.inr (.inl z)) fun z=>.inr (.inr z)
     obtain⟨u,r,l⟩:=hl i y v h2 C1 C2
     refine⟨u,r,.inr ⟨zbp BP,?_⟩⟩
     obtain⟨c,lV⟩:=zbV (cs:=X.env.cells) scope.names [] y (.inr (lookup_mem BP))
     refine⟨c,(cfr y BP).trans lV,?_⟩
     rcases l with ⟨uE,_⟩ | ⟨_,c',kR,oj⟩
     ·rcases hk with hk | hk
      ·have oF:X.env.kindOf y=some .cell:=hk
       rw [oF] at uE; cases uE
      ·have oF:X.env.kindOf y=some .free:=hk
       rw [oF] at uE; cases uE
     ·have:=qW y c lV
      rw [kR] at this
      cases this
      obtain⟨o,ho,hd⟩:=oj
      exact⟨o,old _ _ ho,hd⟩
  ·rcases CZ e with z | z
   ·exact⟨_,z.1⟩
   ·obtain⟨v,o,ho,hd⟩:=tu.cell x c z
    exact⟨v,o,old _ _ ho,hd⟩
  ·have qr:p∈X.pn++kE:=by
    have:p∈(X.pn++kE)++([]:List (Addr×Obj)):=hp
    simpa using this
   obtain⟨a1,a2,a3,a4,a5⟩:=tu.pin p qr
   exact⟨old _ _ a1,a2,bi (aG a1),fun z=>(stk _ z).elim a3 a4,a5⟩
  ·unfold zcX
   rw [ab]
   exact SC.len.symm
 have xR:∀ {H':Hp},(∀ b∈s2.heap.objs.size :: fp,H' b=none)→∀ b∈s2.heap.objs.size :: fp,zcc Y [] H' b:=fun {H'} hn b hb=>by
  obtain⟨_,a1,a2,a3,a4,a5⟩:=su b hb
  refine⟨hn b hb,bi (wH b hb),vS b hb,.inl hb,(okY.exf b hb).2,fun p hp=>?_⟩
  have:p∈(X.pn++kE)++([]:List (Addr×Obj)):=hp
  exact a5 p (by simpa using this)
 have nn2:∀ b∈s2.heap.objs.size :: fp,H2 b=none:=fun b hb=>(su b hb).1
 have wA:zfu (js++js') (zcX ix σ):=fun j hj v e=>by
  unfold zcX at e
  rw [ag,tP j hj] at e
  simp at e
 have loop:∀ s₅:Shared,s₅ = { s2 with heap:=h₁ } →
   codeAny (model X.prog X.w) X.A (.compLoop (.ListComp elt (⟨tg,iter,ifs,0⟩ :: gs) scope pos) 0 (.ref it) (.ref s2.heap.objs.size) (compEnvC scope (cellsFrom (h3.objs.size+1) scope.names (zah X.env.cells scope.names [])) h3.objs.size X.env)) (RR (.ref s2.heap.objs.size) h3.objs.size) s₅:=by
  rintro s₅ rfl
  refine zhT (Y:=Y) (kE:=[]) (σ:=zcX ix σ) (kK:=[]) (nn:=0) hc rfl va nK (hg s3 H2 _ kE) (ht s3 H2 _ kE) (hm s3 H2 _ kE s2.heap.objs.size) (fun it=>nr it _ _) C0 ⟨xR nn2 _ aF,old _ _ CV,.nil,bb _⟩ wA T (T.keep _ _ _ yG fun b hb o e=>old b o e)
   (fun b hb=>xR nn2 b (aw _ hb)) (fun b hb=>bi (vR b hb)) q fun s6 ys kK nn H5 I6 a6 qn=>?_
  have dn5:H5 s2.heap.objs.size=none:=a6.fp.1
  have I7:Inv X kE σ H5 s6:=by
   refine tu.call' (s':=s6) (ch:=s2.heap.objs.size :: fp) I6.os I6.base I6.hok I6.bare fun b hb=>?_
   obtain⟨_,a1,a2,a3,a4,a5⟩:=su b hb
   exact⟨a3,a1,a4,a5⟩
  have I8:Inv X kE σ (kL H5 s2.heap.objs.size (.lst ys)) s6:=by
   obtain⟨_,a1,a2,a3,a4,a5⟩:=yI
   exact I7.track dn5 I2.sz (cR a1) a4 a5 ⟨a6.len,kK,nn,a6.vals,a6.here⟩
  obtain⟨mm,vT,_⟩:=I6.loc
  have dne:h3.objs.size≠s2.heap.objs.size:=by rw [yH]; exact g8 _
  refine hRR _ _ s6 ys H5 mm I8 (tu.fpOk (H':=kL H5 s2.heap.objs.size (.lst ys)) (af _) ?_) vT (qn _ dn5)
  show kL H5 s2.heap.objs.size (.lst ys) h3.objs.size=none
  rw [zq dne]
  exact I6.free
 exact zf4 rfl (loop _ rfl) (T.self _ 0 _ _ _ (T.keep _ _ _ yG fun b hb o e=>old b o e) (loop _ rfl))
theorem zf5 {wi:TI} (SC:CompSc X N' ix scope) (hc:X.calm=true) (va:GS js g) (nK:∀ j∈js,j∉js') (tP:∀ j∈js++js',ix[j]? = some none) (hi:PI X tg iter wi)
  (hg:∀ s₃ H₃ ex kE,PG (zI X N' scope s₃ H₃ ex kE) tg g) (ht:∀ s₃ H₃ ex kE,zcW (zI X N' scope s₃ H₃ ex kE) ifs ts) (hm:∀ s₃ H₃ ex kE D,PM (zI X N' scope s₃ H₃ ex kE) D js' (mk D (zI X N' scope s₃ H₃ ex kE).env) tm)
  (nr:∀ it D env,compTurn (.ListComp elt (⟨tg,iter,ifs,0⟩ :: gs) scope pos) 0 it (.ref D) env=zbW tg ifs iter.pos (mk D env) (.compLoop (.ListComp elt (⟨tg,iter,ifs,0⟩ :: gs) scope pos) 0 it (.ref D) env) it env)
  (hs:∀ x,foldedSetIterable iter X.env x=pure x:=by intro _; rfl):PE X (.ListComp elt (⟨tg,iter,ifs,0⟩ :: gs) scope pos) (zfv ix wi g ts tm):=by
 intro kE s σ H Q I h
 rw [eval_ListComp]
 have wG:∀ y∈scope.names,y.2 = .free→∃ c,X.env.cells.lookup y.1=some c:=fun y hy hf=>I.ok.has y.1 (SC.free y hy hf)
 refine g9 (use:=none) rfl hs (zcH wG) SC.kind SC.names (thn (hi kE s σ H _ I h) fun v s1 h1=>thn h1 fun wy s2 h2=>?_)
 obtain⟨it,fp,tn,J,H2,e,I2,T,lB,f2,q⟩:=h2
 subst e
 refine zdy (RR:=fun acc C=>compPost (model X.prog X.w) X.A X.xe none (EP X kE σ Q) acc C) SC hc va nK tP hg ht hm nr I2 T lB f2 q ?_
 intro D C s' ys H' m I' C3 hm q'
 refine⟨m,hm,fun uF mT=>⟨.ref D,_,?_,rfl,q'⟩⟩
 obtain⟨f0,f1,CU,f3,f4,f5⟩:=C3
 exact I'.turned (t':=s'.toks) (fun b o hb e=>mT.extBut b o hb e) f0 f1 f3 f4 f5
theorem zdz {wi:TI} {i:Nat} {x:Str} {pos' oJ:Pos} (hN:X.N.Nodup) (yK:X.N[i]? = some x) (hx:Loc X.env.scope x) (SC:CompSc X N' ix scope) (hc:X.calm=true) (va:GS js g) (nK:∀ j∈js,j∉js') (tP:∀ j∈js++js',ix[j]? = some none) (hi:PI X tg iter wi)
  (hg:∀ s₃ H₃ ex kE,PG (zI X N' scope s₃ H₃ ex kE) tg g) (ht:∀ s₃ H₃ ex kE,zcW (zI X N' scope s₃ H₃ ex kE) ifs ts) (hm:∀ s₃ H₃ ex kE D,PM (zI X N' scope s₃ H₃ ex kE) D js' (mk D (zI X N' scope s₃ H₃ ex kE).env) tm)
  (nr:∀ it D env,compTurn (.ListComp elt (⟨tg,iter,ifs,0⟩ :: gs) scope pos) 0 it (.ref D) env=zbW tg ifs iter.pos (mk D env) (.compLoop (.ListComp elt (⟨tg,iter,ifs,0⟩ :: gs) scope pos) 0 it (.ref D) env) it env)
  (yL:swapsWith (.ListComp elt (⟨tg,iter,ifs,0⟩ :: gs) scope pos) (some (.Name x pos')) oJ.line X.env=pure true:=by rfl)
  (hs:∀ x,foldedSetIterable iter X.env x=pure x:=by intro _; rfl) (hf:X.fn x=true∨X.env.scope.names.lookup x=some .local:=by first | exact .inl rfl | exact .inr rfl | assumption) :
  PS X (.Assign [.Name x pos'] (.ListComp elt (⟨tg,iter,ifs,0⟩ :: gs) scope pos) oJ) (zg1 (zfv ix wi g ts tm) (za0 i)):=by
 intro kE s σ H D I h
 have wG:∀ y∈scope.names,y.2 = .free→∃ c,X.env.cells.lookup y.1=some c:=fun y hy hf=>I.ok.has y.1 (SC.free y hy hf)
 rw [exec_Assign_Name_used _ _ _ _ yL]; refine ae (eg (ae ?_))
 show wpAny _ X.A (do let _ ← comprehension (.ListComp elt (⟨tg,iter,ifs,0⟩ :: gs) scope pos) scope X.env _ (newList []) false (eval iter X.env) (some (assign (.Name x pos') X.env))) _ _ s
 refine ae (cK (g9 (use:=some (assign (.Name x pos') X.env)) (Q:=fun _ s'=>SP X kE D .next s') rfl hs (zcH wG) SC.kind SC.names
  (thn (hi kE s σ H _ I h) fun v s1 h1=>thn h1 fun wy s2 h2=>?_)) (fun _ s' hq=>ao (ao hq)) fun _ _ e=>e)
 obtain⟨it,fp,tn,J,H2,e,I2,T,lB,f2,q⟩:=h2
 subst e
 refine zdy (Q:=fun x H1=>za0 i x σ H1 D.nx) (RR:=fun acc C=>compPost (model X.prog X.w) X.A X.xe (some (assign (.Name x pos') X.env)) (fun _ s'=>SP X kE D .next s') acc C) SC hc va nK tP hg ht hm nr I2 T lB f2 q ?_
 intro Da C s' ys H' m I' C3 hm q'
 show wpAny _ X.A (assign (.Name x pos') X.env (.ref Da)) _ _ _
 refine wpAny_assign_Name (zeZ I' hN yK hx (show RelV (.ref Da) (.ref Da) from rfl) (fun yy I'' ⟨a,mi,ha⟩=>?_) hf)
 obtain⟨f0,f1,CU,f3,f4,f5⟩:=C3
 have hCa:C≠a:=by
  rcases ha with e | e
  ·rw [e]; exact f1
  ·exact cR (f4 x a e)
 refine⟨m,hm.sameBut mi hCa,fun h₃ hs₃=>⟨_,_,?_,q'⟩⟩
 exact I''.turned (t':=yy.toks) (fun b o hb e=>hs₃.extBut b o hb e) f0 f1 f3 f4 f5
end
theorem zjP {elt t1 i1 t2 i2:Expr} {f1 f2:List Expr} {scope:Scope} {pos:Pos} (it:Value) (D:Addr) (env:Env):compTurn (.ListComp elt [⟨t1,i1,f1,0⟩,⟨t2,i2,f2,0⟩] scope pos) 0 it (.ref D) env =
  zbW t1 f1 i1.pos (zhQ (.ListComp elt [⟨t1,i1,f1,0⟩,⟨t2,i2,f2,0⟩] scope pos) i2 1 (.ref D) env) (.compLoop (.ListComp elt [⟨t1,i1,f1,0⟩,⟨t2,i2,f2,0⟩] scope pos) 0 it (.ref D) env) it env:=by rfl
theorem zmN {elt t1 i1 t2 i2:Expr} {f1 f2:List Expr} {scope:Scope} {pos:Pos} (it:Value) (D:Addr) (env:Env):compTurn (.ListComp elt [⟨t1,i1,f1,0⟩,⟨t2,i2,f2,0⟩] scope pos) 1 it (.ref D) env =
  zbW t2 f2 i2.pos (ze8 elt (.ref D) env) (.compLoop (.ListComp elt [⟨t1,i1,f1,0⟩,⟨t2,i2,f2,0⟩] scope pos) 1 it (.ref D) env) it env:=by rfl
def zdk (ix:List (Option Nat)):List Nat:=(aD ix.length).filter fun j=>ix[j]? == some none
theorem zbX {ix:List (Option Nat)} {i:Nat}:i∈zdk ix↔ix[i]? = some none:=by
 unfold zdk
 rw [bF,bm,beq_iff_eq]
 exact⟨fun h=>h.2,fun h=>⟨(ak.mp h).1,h⟩⟩
def GK (ix:List (Option Nat)) (g:TG):Prop:=GS (zdk ix) g
def GKs (ix:List (Option Nat)) (g:TGs):Prop:=GSs (zdk ix) g
theorem zai {ix:List (Option Nat)} {i:Nat} (hi:ix[i]? = some none):GK ix (za0 i):=zdN (zbX.2 hi)
theorem za3 {ix:List (Option Nat)}:GKs ix ziH:=zhP
theorem zW {ix:List (Option Nat)} {i:Nat} {u:TGs} (hi:ix[i]? = some none) (h2:GKs ix u):GKs ix (zcG (za0 i) u):=zed (zbX.2 hi) h2
theorem zbw {ix:List (Option Nat)} {K:ah} {n:Nat} {t:TGs} (h:GKs ix t):GK ix (zg0 K n t):=zjO h
theorem ziP {ix:List (Option Nat)} {g:TG} {u:TGs} (h1:GK ix g) (h2:GKs ix u) (mono:∀ (x:V) (σ:St) (H:Hp) (Q Q':St→Hp→Prop),(∀ σ' H',Q σ' H'→Q' σ' H')→g x σ H Q→g x σ H Q'):GKs ix (zcG g u):=fun σ σ1 xs H Q hw h=>by
 obtain⟨v,r,e,h⟩:=h
 refine⟨v,r,e,mono v σ1 H _ _ (fun σ' H' q=>?_) (h1 σ σ1 v H _ hw h)⟩
 exact h2 σ σ' r H' Q q.1 q.2
theorem zme {elt t1 i1:Expr} {f1:List Expr} {scope:Scope} {pos:Pos} (it:Value) (D:Addr) (env:Env):compTurn (.ListComp elt [⟨t1,i1,f1,0⟩] scope pos) 0 it (.ref D) env =
  zbW t1 f1 i1.pos (ze8 elt (.ref D) env) (.compLoop (.ListComp elt [⟨t1,i1,f1,0⟩] scope pos) 0 it (.ref D) env) it env:=by rfl
section
variable {X:Cx} {elt tg iter:Expr} {ifs:List Expr} {scope:Scope} {pos:Pos} {N':List Str} {ix:List (Option Nat)} {g:TG} {ts:TT} {te:TE}
theorem zad {wi:TI} (SC:CompSc X N' ix scope) (hc:X.calm=true) (hk:GK ix g) (hi:PI X tg iter wi)
  (hg:∀ s₃ H₃ ex kE,PG (zI X N' scope s₃ H₃ ex kE) tg g) (ht:∀ s₃ H₃ ex kE,zcW (zI X N' scope s₃ H₃ ex kE) ifs ts) (he:∀ s₃ H₃ ex kE,PE (zI X N' scope s₃ H₃ ex kE) elt te)
  (hs:∀ x,foldedSetIterable iter X.env x=pure x:=by intro _; rfl):PE X (.ListComp elt [⟨tg,iter,ifs,0⟩] scope pos) (zmd ix wi g ts te) :=
 zf5 (mk:=fun D env=>ze8 elt (.ref D) env) (js:=zdk ix) (js':=[]) SC hc hk (fun _ _ h=>nomatch h) (fun j h=>zbX.1 (by simpa using h)) hi hg ht (fun s₃ H₃ ex kE D=>zhb rfl (he s₃ H₃ ex kE)) (fun _ _ _=>zme _ _ _) hs
theorem zaA {wi:TI} {i:Nat} {x:Str} {pos' oJ:Pos} (hN:X.N.Nodup) (yK:X.N[i]? = some x) (hx:Loc X.env.scope x) (SC:CompSc X N' ix scope) (hc:X.calm=true) (hk:GK ix g) (hi:PI X tg iter wi)
  (hg:∀ s₃ H₃ ex kE,PG (zI X N' scope s₃ H₃ ex kE) tg g) (ht:∀ s₃ H₃ ex kE,zcW (zI X N' scope s₃ H₃ ex kE) ifs ts) (he:∀ s₃ H₃ ex kE,PE (zI X N' scope s₃ H₃ ex kE) elt te)
  (yL:swapsWith (.ListComp elt [⟨tg,iter,ifs,0⟩] scope pos) (some (.Name x pos')) oJ.line X.env=pure true:=by rfl)
  (hs:∀ x,foldedSetIterable iter X.env x=pure x:=by intro _; rfl) (hf:X.fn x=true∨X.env.scope.names.lookup x=some .local:=by first | exact .inl rfl | exact .inr rfl | assumption) :
  PS X (.Assign [.Name x pos'] (.ListComp elt [⟨tg,iter,ifs,0⟩] scope pos) oJ) (zg1 (zmd ix wi g ts te) (za0 i)) :=
 zdz (mk:=fun D env=>ze8 elt (.ref D) env) (js:=zdk ix) (js':=[]) hN yK hx SC hc hk (fun _ _ h=>nomatch h) (fun j h=>zbX.1 (by simpa using h)) hi hg ht (fun s₃ H₃ ex kE D=>zhb rfl (he s₃ H₃ ex kE)) (fun _ _ _=>zme _ _ _) yL hs hf
end
end L2
end
section
namespace L2
open PySem PySem.Spec PyProof.Rows
section
variable {X:Cx} {kE:List (Addr×Obj)} {σ:St} {H:Hp} {s:Shared} {h':Heap}
theorem Inv.turnedL {t':Nat} {ch:List Addr} (I:Inv X kE σ H s) (k:∀ b o,b∉ch→s.heap.get? b=some o→h'.get? b=some o) (hf:∀ b∈ch,zcc X kE H b)
  (th:∀ b∈ch,∃ o,h'.get? b=some o):Inv X kE σ H { s with heap:=h',toks:=t' }:=by
 have rT:∀ b u,H b=some u→b∉ch:=fun b u e z=>by rw [(hf b z).1] at e; cases e
 refine I.step (g':=s.gens) (d':=s.drawn) (ch:=ch) (fun b hb=>?_) (fun b o _ _ hc e _=>k b o hc e) (fun b o _ _ hc e _=>⟨o.slots,k b o hc e⟩) (fun _ _ _ _ n=>n)
  (fun b o hc e=>⟨o,k b o hc e⟩) (fun _ _ e=>e) (fun _ _ _ e=>e) (fun b ps e=>⟨#[],by rw [e]; simp⟩) (fun m hm=>?_) (fun b u e=>?_) I.bare
 ·obtain⟨_,a1,_,a3,a4,a5⟩:=hf b hb
  exact⟨a3,a1,a4,a5⟩
 ·obtain⟨o,es,ep,ho,r⟩:=hm
  exact⟨o,es,ep,k _ o (fun z=>(hf _ z).2.1 rfl) ho,r⟩
 ·refine (I.hok b u e).stay (fun c v hc q=>k c v ?_ q) (fun _ q=>q) fun _ _ q=>q
  rcases hc with z | z
  ·rw [z]; exact rT b u e
  ·exact rT c _ z
theorem Inv.turnedNew {t':Nat} {ch:List Addr} {T:Addr} {o:HO} (I:Inv X kE σ H s) (k:∀ b o,b∉ch→s.heap.get? b=some o→h'.get? b=some o) (hf:∀ b∈ch,zcc X kE H b)
  (th:∀ b∈ch,∃ o,h'.get? b=some o) (hT:s.heap.objs.size≤T) (ok:zak X.prog X.w (kL H T o) h' T o):Inv X kE σ (kL H T o) { s with heap:=h',toks:=t' }:=by
 have I1:Inv X kE σ H { s with heap:=h',toks:=t' }:=I.turnedL k hf th
 have hn:H T=none:=I.hok.fresh hT
 obtain⟨_,a1,a2,a3,a4,a5⟩:=I.fpOk (H':=H) hT hn
 exact I1.track hn (be I.sz hT) (cR a1) a4 a5 ok
end
def zmO (Sq:Hp→Addr→List V→Prop) (a:Addr):It :=
 ⟨fun i H=>∃ xs x,Sq H a xs∧xs[i]? = some x,fun i H x H'=>∃ T v,H T=none∧x = .ref T∧H'=kL H T (.tup [.int i,v])∧∀ xs,Sq H a xs→xs[i]? = some v,fun i H=>∃ xs,Sq H a xs∧xs.length≤i⟩
theorem zbx {h:Heap} {T:Addr} {a b:Value} (e:h.get? T=some { cls:=.type "tuple",data:=.seq #[a,b] }):IsTup h T ([a,b]:List Value).toArray:=⟨_,e,rfl,_,rfl⟩
theorem zaL:2≤sizeLine:=by rw [a7]; decide
theorem zhc {P:Program} {w:World} {K:ah} {es:List Expr} {k:Nat} {pos:Pos} (a it e:Addr) (hei:e≠it):Turn P w K (.Tuple es k pos) (zmO (kG K) a) [e,it] e (fun i h=>(∃ old,IsEnum h e it i old)∧h.IsListIter it a i) where
 mem:=by simp
 obj:=fun i h st b hb=>by
  obtain⟨⟨old,he⟩,o,ho,hc,hd⟩:=st
  rcases aE.mp hb with z | z
  ·subst z
   exact⟨_,he,fun v z=>by cases z⟩
  ·have z:b=it:=by simpa using z
   subst z
   exact⟨o,ho,fun v z=>by rw [hd] at z; cases z⟩
 keep:=fun i h h' st kk=>⟨st.1.imp fun old he=>kk e (by simp) _ he,st.2.at fun o eo=>kk it (by simp) o eo⟩
 item:=by
  intro X hP hw hK hc i kE s σ H E I hf st hg
  subst hP hw hK
  obtain⟨xs,x,hq,hx⟩:=hg
  obtain⟨⟨old,he⟩,hit⟩:=st
  obtain⟨kK,rv,p,hz⟩:=I.list hq
  obtain⟨u,hu,ru⟩:=rv.get hx
  have xT:e < s.heap.objs.size:=aG he
  have hits:it < s.heap.objs.size:=by obtain⟨o,ho,_⟩:=hit; exact aG ho
  refine wpAny_pyNext_enum_item he hit p.isList (x:=u) (by simpa using hu) hei fun h' tq rd hT hsz kk=>?_
  have k1:∀ b o,b∉[e,it]→s.heap.get? b=some o→h'.get? b=some o:=fun b o hb eo=>kk b o (fun z=>hb (by simp [z])) (fun z=>hb (by simp [z])) eo
  have wI:∀ b∈[e,it],∃ o,h'.get? b=some o:=fun b hb=>by
   rcases aE.mp hb with z | z
   ·subst z; exact⟨_,tq⟩
   ·have z:b=it:=by simpa using z
    subst z
    obtain⟨o,eo,_⟩:=rd
    exact⟨o,eo⟩
  have I1:Inv X kE σ (kL H s.heap.objs.size (.tup [.int i,x])) { s with heap:=h',toks:=s.toks+1 } :=
   I.turnedNew k1 hf wI (af _) ⟨zaL,_,.cons ⟨s.toks,rfl⟩ (.cons ru .nil),zbx hT⟩
  refine⟨_,rfl,gD tq fun uF p6 mT=>?_⟩
  have fr:∀ b∈[e,it],kL H s.heap.objs.size (.tup [.int i,x]) b=none:=fun b hb=>by
   have lp:b < s.heap.objs.size:=by
    rcases aE.mp hb with z | z
    ·subst z; exact xT
    ·have z:b=it:=by simpa using z
     subst z; exact hits
   rw [zq (bi lp)]
   exact (hf b hb).1
  have I2:Inv X kE σ (kL H s.heap.objs.size (.tup [.int i,x])) { s with heap:=uF,toks:=s.toks+1 } :=
   Inv.turnedL (s:={ s with heap:=h',toks:=s.toks+1 }) (ch:=[e]) (t':=s.toks+1) I1 (fun b o hb eo=>mT.extBut b o (by simpa using hb) eo) (fun b hb=>by
    have z:b=e:=by simpa using hb
    subst z
    exact⟨fr b (by simp),(hf b (by simp)).2⟩) (fun b hb=>by
    have z:b=e:=by simpa using hb
    subst z
    exact⟨_,p6⟩)
  refine⟨.ref s.heap.objs.size,_,I2,rfl,⟨_,x,I.fresh,rfl,rfl,fun ys hy=>by rw [I.list_inj hy hq]; exact hx⟩,⟨⟨_,by simpa using p6⟩,rd.extBut mT.extBut (cR hei)⟩,fr⟩
 done:=by
  intro X hP hw hK hc i kE s σ H E I hf st hg
  subst hP hw hK
  obtain⟨xs,hq,hx⟩:=hg
  obtain⟨⟨old,he⟩,hit⟩:=st
  obtain⟨kK,rv,p,hz⟩:=I.list hq
  have hl:=rv.length
  obtain⟨f0,f1,f2,f3,f4,f5⟩:=hf it (by simp)
  exact wpAny_pyNext_enum_end (I.ok.hd hc) he hit p.isList (by simp; lia) fun h' eb=>⟨rfl,I.turned (t':=s.toks) (fun b o hb e=>eb b o hb e) f0 f1 f3 f4 f5⟩
 self:=fun _ _ _ _ _ st h=>by
  obtain⟨⟨old,he⟩,_⟩:=st
  exact fz he h
def iEn (Sq:Hp→Addr→List V→Prop) (ta:TA):TI:=fun σ H R=>ta σ H fun vs H1=>∃ a xs,vs = [.ref a]∧Sq H1 a xs∧R (zmO Sq a) H1
theorem zcg {X:Cx} {es:List Expr} {k:Nat} {oK p pos:Pos} {a:Expr} {ta:TA} (hg:Gl X "enumerate") (hm:X.mg "enumerate" = none) (ha:PA X [a] ta) (hs:starEach [a] X.env = [(false,eval a X.env)]:=by rfl) :
  PI X (.Tuple es k oK) (.Call (.Name "enumerate" p) [a] [] pos) (iEn (kG X.K) ta):=by
 intro kE s σ H R I h
 refine Call_ (zbu I hg hm boot_enumerate (bE (thn (ha pos kE s σ H _ I h) fun us s1 ⟨vs,H1,I1,r1,q1⟩=>?_) hs rfl))
 obtain⟨l,xs,e,hq,q⟩:=q1
 subst e
 cases r1 with
 | cons r rr =>
  cases rr
  cases r
  obtain⟨kK,rv,pl,hz⟩:=I1.list hq
  refine call_enumerate_list pl.isList fun h' he hi hsz kk=>?_
  have I2:Inv X kE σ H1 { s1 with heap:=h' }:=I1.kept (t':=s1.toks) kk
  refine fz he ?_; refine⟨_,[s1.heap.objs.size+1,s1.heap.objs.size],_,zmO (kG X.K) l,H1,rfl,I2,zhc l s1.heap.objs.size (s1.heap.objs.size+1) (g8 _),⟨⟨_,he⟩,hi⟩,fun b hb=>?_,q⟩
  have hle:s1.heap.objs.size≤b:=by
   rcases aE.mp hb with z | z
   ·rw [z]; exact gm _
   ·have z:b=s1.heap.objs.size:=by simpa using z
    rw [z]; exact af _
  exact I1.fpOk hle (I1.hok.fresh hle)
def ziQ (pT pU:Hp→Addr→List V→Prop) (a b:Addr):It :=
 ⟨fun i H=>∃ xs ys x y,pT H a xs∧pU H b ys∧xs[i]? = some x∧ys[i]? = some y,
  fun i H x H'=>∃ T u v,H T=none∧x = .ref T∧H'=kL H T (.tup [u,v])∧(∀ xs,pT H a xs→xs[i]? = some u)∧∀ ys,pU H b ys→ys[i]? = some v,
  fun i H=>∃ xs ys,pT H a xs∧pU H b ys∧(xs.length≤i∨ys.length≤i)⟩
theorem ziR {P:Program} {w:World} {K:ah} {es:List Expr} {k:Nat} {pos:Pos} (a b:Addr) (n:Nat) (ha:a < n) (hb:b < n):Turn P w K (.Tuple es k pos) (ziQ (kG K) (kG K) a b) [n+4,n+2,n+3,n,n+1] (n+4)
  (fun i h=>IsZip h (n+4) (n+2) (n+3) .none∧IsPair h (n+2) (.ref n) (.ref (n+1))∧(∃ u v,IsPair h (n+3) u v)∧h.IsListIter n a i∧h.IsListIter (n+1) b i) where
 mem:=by simp
 obj:=fun i h st c hc=>by
  obtain⟨h1,h2,⟨u,v,h3⟩,⟨o4,e4,_,d4⟩,⟨o5,e5,_,d5⟩⟩:=st
  simp only [aE,a8,or_false] at hc
  rcases hc with z | z | z | z | z <;> subst z
  ·exact⟨_,h1,fun v z=>by cases z⟩
  ·exact⟨_,h2,fun v z=>by cases z⟩
  ·exact⟨_,h3,fun v z=>by cases z⟩
  ·exact⟨_,e4,fun v z=>by rw [d4] at z; cases z⟩
  ·exact⟨_,e5,fun v z=>by rw [d5] at z; cases z⟩
 keep:=fun i h h' st kk=>by
  obtain⟨h1,h2,⟨u,v,h3⟩,h4,h5⟩:=st
  exact⟨kk _ (by simp) _ h1,kk _ (by simp) _ h2,⟨u,v,kk _ (by simp) _ h3⟩,h4.at fun o eo=>kk _ (by simp) o eo,h5.at fun o eo=>kk _ (by simp) o eo⟩
 item:=by
  intro X hP hw hK hc i kE s σ H E I hf st hg
  subst hP hw hK
  obtain⟨xs,ys,x,y,pK,nL,hx,hy⟩:=hg
  obtain⟨h1,h2,⟨u0,v0,h3⟩,h4,h5⟩:=st
  obtain⟨lU,rZ,p1,rf⟩:=I.list pK
  obtain⟨lT,sv,p2,p7⟩:=I.list nL
  obtain⟨u,hu,ru⟩:=rZ.get hx
  obtain⟨v,hv,rv⟩:=sv.get hy
  have hzs:n+4 < s.heap.objs.size:=aG h1
  refine wpAny_pyNext_zip_item (c7 ha hb) h1 h2 h3 h4 h5 p1.isList p2.isList (x:=u) (y:=v) (by simpa using hu) (by simpa using hv) fun h' a1 a2 a3 a4 a5 a6 kk=>?_
  have k1:∀ c o,c∉[n+4,n+3,n,n+1]→s.heap.get? c=some o→h'.get? c=some o:=fun c o kR eo =>
   kk c o (fun z=>kR (by simp [z])) (fun z=>kR (by simp [z])) (fun z=>kR (by simp [z])) (fun z=>kR (by simp [z])) eo
  have sub:∀ c∈[n+4,n+3,n,n+1],c∈[n+4,n+2,n+3,n,n+1]:=fun c kR=>by
   simp only [aE,a8,or_false] at kR ⊢
   rcases kR with z | z | z | z <;> subst z <;> simp
  have wI:∀ c∈[n+4,n+3,n,n+1],∃ o,h'.get? c=some o:=fun c kR=>by
   simp only [aE,a8,or_false] at kR
   rcases kR with z | z | z | z <;> subst z
   ·exact⟨_,a1⟩
   ·exact⟨_,a2⟩
   ·obtain⟨o,e,_⟩:=a3; exact⟨o,e⟩
   ·obtain⟨o,e,_⟩:=a4; exact⟨o,e⟩
  have I1:Inv X kE σ (kL H s.heap.objs.size (.tup [x,y])) { s with heap:=h' } :=
   I.turnedNew (t':=s.toks) k1 (fun c kR=>hf c (sub c kR)) wI (af _) ⟨zaL,_,.cons ru (.cons rv .nil),zbx a5⟩
  refine⟨_,rfl,wpAny_letOwnedTupleGo_zip a1 fun uF tQ mT=>?_⟩
  have fr:∀ c∈[n+4,n+2,n+3,n,n+1],kL H s.heap.objs.size (.tup [x,y]) c=none:=fun c kR=>by
   have lp:c < s.heap.objs.size:=by
    simp only [aE,a8,or_false] at kR
    rcases kR with z | z | z | z | z <;> subst z <;> lia
   rw [zq (bi lp)]
   exact (hf c kR).1
  have I2:Inv X kE σ (kL H s.heap.objs.size (.tup [x,y])) { s with heap:=uF } :=
   Inv.turnedL (s:={ s with heap:=h' }) (ch:=[n+4]) (t':=s.toks) I1 (fun c o kR eo=>mT.extBut c o (by simpa using kR) eo) (fun c kR=>by
    have z:c=n+4:=by simpa using kR
    subst z
    exact⟨fr _ (by simp),(hf _ (by simp)).2⟩) (fun c kR=>by
    have z:c=n+4:=by simpa using kR
    subst z
    exact⟨_,tQ⟩)
  refine⟨.ref s.heap.objs.size,_,I2,rfl,⟨_,x,y,I.fresh,rfl,rfl,fun zs hz=>by rw [I.list_inj hz pK]; exact hx,fun zs hz=>by rw [I.list_inj hz nL]; exact hy⟩,
   ⟨tQ,mT.extBut _ _ (c7 ha hb).TIz (kk _ _ (c7 ha hb).TIz (c7 ha hb).TITO (c7 ha hb).TIi1 (c7 ha hb).TIi2 h2),⟨_,_,mT.extBut _ _ (c7 ha hb).TOz a2⟩,a3.extBut mT.extBut (c7 ha hb).i1z,a4.extBut mT.extBut (c7 ha hb).i2z⟩,fr⟩
 done:=by
  intro X hP hw hK hc i kE s σ H E I hf st hg
  subst hP hw hK
  obtain⟨xs,ys,pK,nL,hx⟩:=hg
  obtain⟨h1,h2,⟨u0,v0,h3⟩,h4,h5⟩:=st
  obtain⟨lU,rZ,p1,rf⟩:=I.list pK
  obtain⟨lT,sv,p2,p7⟩:=I.list nL
  have vb:=rZ.length
  have pJ:=sv.length
  refine wpAny_pyNext_zip_end (I.ok.hd hc) (c7 ha hb) h1 h2 h3 h4 h5 p1.isList p2.isList ?_ fun h' kk=>⟨rfl,?_⟩
  ·rcases hx with z | z
   ·exact .inl (by simp; lia)
   ·exact .inr (by simp; lia)
  ·have hth:∀ c∈[n+4,n+3,n,n+1],c∈[n+4,n+2,n+3,n,n+1]:=fun c kR=>by
    simp only [aE,a8,or_false] at kR ⊢
    rcases kR with z | z | z | z <;> subst z <;> simp
   refine I.step (g':=s.gens) (d':=s.drawn) (t':=s.toks) (ch:=[n+4,n+3,n,n+1]) (fun c kR=>?_) (fun c o _ _ lV e _=>kk c o (fun z=>lV (by simp [z])) (fun z=>lV (by simp [z])) (fun z=>lV (by simp [z])) (fun z=>lV (by simp [z])) e)
    (fun c o _ _ lV e _=>⟨o.slots,kk c o (fun z=>lV (by simp [z])) (fun z=>lV (by simp [z])) (fun z=>lV (by simp [z])) (fun z=>lV (by simp [z])) e⟩) (fun _ _ _ _ n=>n)
    (fun c o lV e=>⟨o,kk c o (fun z=>lV (by simp [z])) (fun z=>lV (by simp [z])) (fun z=>lV (by simp [z])) (fun z=>lV (by simp [z])) e⟩) (fun _ _ e=>e) (fun _ _ _ e=>e) (fun c ps e=>⟨#[],by rw [e]; simp⟩) (fun m hm=>?_) (fun c u e=>?_) I.bare
   ·obtain⟨_,a1,_,a3,a4,a5⟩:=hf c (hth c kR)
    exact⟨a3,a1,a4,a5⟩
   ·obtain⟨o,uZ,ep,ho,r⟩:=hm
    have ne:∀ c∈[n+4,n+2,n+3,n,n+1],X.env.locals≠c:=fun c kR=>cR (hf c kR).2.1
    exact⟨o,uZ,ep,kk _ o (ne _ (by simp)) (ne _ (by simp)) (ne _ (by simp)) (ne _ (by simp)) ho,r⟩
   ·have rT:∀ d u',H d=some u'→∀ c∈[n+4,n+2,n+3,n,n+1],d≠c:=fun d u' e' c kR z=>by rw [z,(hf c kR).1] at e'; cases e'
    refine (I.hok c u e).stay (fun d v' hd q=>kk d v' ?_ ?_ ?_ ?_ q) (fun _ q=>q) fun _ _ q=>q
    all_goals
     rcases hd with z | z
     ·rw [z]; exact rT c u e _ (by simp)
     ·exact rT d _ z _ (by simp)
 self:=fun _ _ _ _ _ st h=>fM st.1 h
def iZp (pT pU:Hp→Addr→List V→Prop) (ta:TA):TI:=fun σ H R=>ta σ H fun vs H1=>∃ a b xs ys,vs = [.ref a,.ref b]∧pT H1 a xs∧pU H1 b ys∧R (ziQ pT pU a b) H1
theorem zcY {X:Cx} {es:List Expr} {k:Nat} {oK p pos:Pos} {a b:Expr} {ta:TA} (hg:Gl X "zip") (hm:X.mg "zip" = none) (ha:PA X [a,b] ta) (hs:starEach [a,b] X.env = [(false,eval a X.env),(false,eval b X.env)]:=by rfl) (nE:starEach [b] X.env = [(false,eval b X.env)]:=by rfl) :
  PI X (.Tuple es k oK) (.Call (.Name "zip" p) [a,b] [] pos) (iZp (kG X.K) (kG X.K) ta):=by
 intro kE s σ H R I h
 refine Call_ (zbu I hg hm boot_zip (bE (thn (ha pos kE s σ H _ I h) fun us s1 ⟨vs,H1,I1,r1,q1⟩=>?_) (by rw [hs,nE]) (by rw [nE]; rfl)))
 obtain⟨l1,l2,xs,ys,e,pK,nL,q⟩:=q1
 subst e
 cases r1 with
 | cons r rr =>
  cases rr with
  | cons r' rr =>
   cases rr
   cases r
   cases r'
   obtain⟨lU,rZ,vU,rf⟩:=I1.list pK
   obtain⟨lT,sv,wJ,p7⟩:=I1.list nL
   have p8:l1 < s1.heap.objs.size:=by obtain⟨_,_,e,_⟩:=vU; exact aG e
   have p9:l2 < s1.heap.objs.size:=by obtain⟨_,_,e,_⟩:=wJ; exact aG e
   refine call_zip_2 vU.isList wJ.isList fun h' b1 b2 b3 b4 b5 b6 kk=>?_
   have I2:Inv X kE σ H1 { s1 with heap:=h' }:=I1.kept (t':=s1.toks) kk
   refine fM b1 ?_
   refine⟨_,_,_,ziQ (kG X.K) (kG X.K) l1 l2,H1,rfl,I2,ziR l1 l2 s1.heap.objs.size p8 p9,⟨b1,b2,⟨_,_,b3⟩,b4,b5⟩,fun c hc=>?_,q⟩
   have hle:s1.heap.objs.size≤c:=by
    simp only [aE,a8,or_false] at hc
    rcases hc with z | z | z | z | z <;> subst z <;> lia
   exact I1.fpOk hle (I1.hok.fresh hle)
def zf6 (Sq:Hp→Addr→List V→Prop) (a:Addr) (n:Nat):It :=
 ⟨fun i H=>i < n∧∃ xs,Sq H a xs∧xs.length=n,fun i H x H'=>H'=H∧∀ xs,Sq H a xs→xs[n - 1 - i]? = some x,fun i H=>n≤i⟩
theorem ziS {P:Program} {w:World} {K:ah} {tg:Expr} (a it:Addr) (n:Nat):Turn P w K tg (zf6 (kG K) a n) [it] it (fun i h=>i≤n∧h.IsRevIter it a ((n:Int) - 1 - (i:Int))) where
 mem:=by simp
 obj:=fun i h st b hb=>by
  have z:b=it:=by simpa using hb
  subst z
  obtain⟨_,o,e,c,d⟩:=st
  exact⟨o,e,fun v z=>by rw [d] at z; cases z⟩
 keep:=fun i h h' st k=>⟨st.1,st.2.at fun o e=>k it (by simp) o e⟩
 item:=by
  intro X hP hw hK hc i kE s σ H E I hf st hg
  subst hP hw hK
  obtain⟨oG,xs,hq,hl⟩:=hg
  obtain⟨kK,rv,p,hz⟩:=I.list hq
  have kQ:=rv.length
  obtain⟨x,hx⟩:∃ x,xs[n - 1 - i]? = some x:=⟨xs[n - 1 - i]'(by lia),by simp⟩
  obtain⟨u,hu,ru⟩:=rv.get hx
  obtain⟨f0,f1,f2,f3,f4,f5⟩:=hf it (by simp)
  have e:(n:Int) - 1 - (i:Int)=((n - 1 - i:Nat):Int):=by lia
  have hit:=st.2
  rw [e] at hit
  refine wpAny_pyNext_rev_item hit p.isList (x:=u) (by simpa using hu) fun h' kM sb=>?_
  have I1:Inv X kE σ H { s with heap:=h' }:=I.turned (t':=s.toks) (fun b o hb e=>(sb.2 b hb).trans e) f0 f1 f3 f4 f5
  have e2:((n - 1 - i:Nat):Int) - 1=(n:Int) - 1 - ((i+1:Nat):Int):=by lia
  rw [e2] at kM
  obtain⟨o,eo,c,d⟩:=id kM
  exact⟨u,rfl,zfZ (s:={ s with heap:=h' }) eo c d (by decide) ⟨x,H,I1,ru,⟨rfl,fun ys hy=>by rw [I.list_inj hy hq]; exact hx⟩,⟨oG,kM⟩,fun b hb=>(hf b hb).1⟩⟩
 done:=by
  intro X hP hw hK hc i kE s σ H E I hf st hg
  subst hP hw hK
  obtain⟨f0,f1,f2,f3,f4,f5⟩:=hf it (by simp)
  have oG:n≤i:=hg
  have e:(n:Int) - 1 - (i:Int) = -1:=by have:=st.1; lia
  have hit:=st.2
  rw [e] at hit
  exact wpAny_pyNext_rev_end (I.ok.hd hc) hit fun h' eb=>⟨rfl,I.turned (t':=s.toks) (fun b o hb e=>eb b o hb e) f0 f1 f3 f4 f5⟩
 self:=fun _ _ _ _ _ st h=>iX st.2 h
end L2
end
section
namespace PySem
namespace F
theorem ze9:Manifest.owners.lookup (String.ofList ['d','e','s','r','e','v','e','r'].reverse)=some Manifest.sig_reversed:=by kernel_rfl
theorem slot_rvd_next:Slot "reversed" "__next__" "reversed.__next__" :=
 .of (owner:="reversed") (n:="__next__") (by rw [fU,eE]; kernel_rfl) (by decide +kernel) (by decide +kernel) (by decide +kernel) (by first | exact .inl (by decide +kernel) | exact .inr (by decide +kernel)) (by rw [gb]; kernel_rfl)
theorem entry_rvd_next:entryFor table "reversed.__next__" = some Builtin.«reversed.__next__»:=entryFor_of_tree (by kernel_rfl)
theorem args_rvd_next_1 (a:Value):argsOk "reversed.__next__" ⟨[a],[]⟩:=by
 unfold argsOk; rw [signature?_of (id:="reversed.__next__") (n:=['_','_','t','x','e','n','_','_']) (o:=['d','e','s','r','e','v','e','r']) (by kernel_rfl) ze9]; kernel_rfl
theorem slot_rvd_iter:Slot "reversed" "__iter__" "reversed.__iter__" :=
 .of (owner:="reversed") (n:="__iter__") (by rw [fU,eE]; kernel_rfl) (by decide +kernel) (by decide +kernel) (by decide +kernel) (by first | exact .inl (by decide +kernel) | exact .inr (by decide +kernel)) (by rw [gb]; kernel_rfl)
theorem args_rvd_iter_1 (a:Value):argsOk "reversed.__iter__" ⟨[a],[]⟩:=by
 unfold argsOk; rw [signature?_of (id:="reversed.__iter__") (n:=['_','_','r','e','t','i','_','_']) (o:=['d','e','s','r','e','v','e','r']) (by kernel_rfl) ze9]; kernel_rfl
theorem entry_rvd_iter:entryFor table "reversed.__iter__" = some Builtin.«dict_keyiterator.__iter__»:=entryFor_alias (id':="dict_keyiterator.__iter__") (by kernel_rfl) (by first | rfl | decide +kernel | (unfold String.splitOn; simp +decide [String.splitOnAux])) (by decide +kernel) (by kernel_rfl)
theorem zeN:Slot "reversed" "__init__" "object.__init__":=.of (owner:="object") (n:="__init__") (by rw [fU,eE]; kernel_rfl) (by decide +kernel) (by decide +kernel) (by decide +kernel) (by first | exact .inl (by decide +kernel) | exact .inr (by decide +kernel)) (by rw [gb]; kernel_rfl)
theorem called_rvd:TypeCalled "reversed" "reversed.__new__" "object.__init__" :=
 ⟨by decide +kernel,by decide +kernel,⟨_,_,mro_reversed⟩,made_reversed,by decide +kernel,by rw [gb]; kernel_rfl,zeN⟩
theorem noRev_tuple:typeLookup (.type "tuple") "__reversed__" = pure none:=by rw [fU,eE]; kernel_rfl
end F
def zfw (l:Addr) (i:Int):Obj:={ cls:=.type "reversed",data:=.fields #[.ref l,rawInt i] }
def Heap.IsRvd (h:Heap) (a l:Addr) (i:Int):Prop:=∃ o,h.get? a=some o∧o.cls = .type "reversed"∧o.data = .fields #[.ref l,rawInt i]
theorem Heap.IsRvd.typeIs {s:Shared} {a l:Addr} {i:Int} (x:s.heap.IsRvd a l i):s.TypeIs (.ref a) "reversed":=let ⟨o,ho,hc,_⟩:=x; ⟨o,ho,hc⟩
theorem Heap.IsRvd.at {h h':Heap} {a l:Addr} {i:Int} (x:h.IsRvd a l i) (e:∀ o,h.get? a=some o→h'.get? a=some o):h'.IsRvd a l i:=let ⟨o,ho,r⟩:=x; ⟨o,e _ ho,r⟩
open PyProof.Rows in
theorem zeO (l:Addr) (items:Array Value) :
  Meets (Builtin.«reversed.__new__» ⟨[.type "reversed",.ref l],[]⟩) (fun _ R s=>IsTup s.heap l items∧(items.size:Int) < 2 ^ 63 ∧
   R (.ok (.ret (.ref s.heap.objs.size))) { s with heap:=s.heap.push (zfw l ((items.size:Int) - 1)),toks:=s.toks+1+1 }) :=
 .of_wp fun prog w A R s h=>by
  obtain⟨hl,hsz,h⟩:=h
  unfold Builtin.«reversed.__new__»; refine ae (eA (newClass_reversed _) ?_)
  try dsimp only
  iterate 2 refine ae (eA (a:=()) (by first | rfl | kernel_rfl) ?_)
  try dsimp only
  refine ae (iz hl.typeIs F.noRev_tuple ?_)
  try dsimp only
  refine ae (ae (m:=isInstance (.ref l) (.type "dict")) (eQ hl.typeIs F.sub_tuple_dict ?_))
  simp only [bn,if_false]; refine ae (m:=specialOf (.ref l) "__getitem__") (iz hl.typeIs slot_tuple_getitem.lookup ?_)
  refine ao ?_
  try dsimp only
  try simp only [Bool.not_true,bn,if_false]
  refine ae (len_tuple hl hsz ?_)
  refine ae (m:=asInt? _) (eA (a:=some (items.size:Int)) rfl ?_)
  try dsimp only
  refine ae (m:=kf _ _) ?_
  show wpAny _ _ (newObj (.type "reversed") (.fields #[.ref l,rawInt ((items.size:Int) - 1)]) none) _ _ _
  refine bG ?_
  exact ao ⟨_,rfl,h⟩
section
variable {prog:Program} {w:World} {A:Around} {E:Value→Shared→Prop} {s:Shared}
open PyProof.Rows
theorem zee {l:Addr} {items:Array Value} {Q:Value→Shared→Prop} (hl:IsTup s.heap l items) (hsz:(items.size:Int) < 2 ^ 63)
  (h:Q (.ref s.heap.objs.size) { s with heap:=s.heap.push (zfw l ((items.size:Int) - 1)),toks:=s.toks+1+1 }):wpAny (model prog w) A (call (.type "reversed") [.ref l]) Q E s:=by
 refine jw F.called_rvd (by decide) (F.typeCall_reversed_1 _) (F.newCall_reversed_1 _) (fun obj=>iY obj _) F.entry_reversed_new (zeO l items) ⟨hl,hsz,?_⟩; exact⟨⟨_,aI _ rfl,rfl⟩,h⟩
theorem zb9 {it l:Addr} {i:Nat} {items:Array Value} {x:Value} {Q:Option Value→Shared→Prop} (hit:s.heap.IsRvd it l (i:Int)) (hl:IsTup s.heap l items) (hx:items[i]? = some x) (hi:(i:Int) < 2 ^ 62)
  (hQ:∀ h',h'.IsRvd it l ((i:Int) - 1)→bj it s.heap h'→Q (some x) { s with heap:=h',toks:=s.toks+1 }):wpAny (model prog w) A (pyNext (.ref it)) Q E s:=by
 obtain⟨o,ho,hc,hd⟩:=id hit; unfold pyNext
 refine ae (cM (bh (name:=bP "__next__") hit.typeIs F.slot_rvd_next
  (bt F.slot_rvd_next hit.typeIs F.entry_rvd_next ?_ (F.args_rvd_next_1 _))))
 unfold Builtin.«reversed.__next__»
 refine ae (eA (a:=(aY it,[])) rfl ?_); try dsimp only
 refine ae (bp ho hd (x:=.ref l) rfl ?_); refine ae (bp ho hd (x:=rawInt (i:Int)) rfl ?_)
 show wpAny _ _ (if (i:Int) < 0 then _ else _) _ _ s; rw [if_neg (by lia)]
 refine ae (iz hl.typeIs slot_tuple_getitem.lookup ?_)
 try simp only [Option.isNone_some,bn,if_false]
 refine ae (wpAny_mkInt ?_); have lp:i < items.size:=by
  obtain⟨h1,_⟩:=cN.mp hx
  exact h1
 refine ae (cM (getItem_tuple (j:=i) hl (by lia) (by lia) (by rw [gk (by lia) (by lia)]; simp) hx ?_))
 try dsimp only
 refine ae (bp (s:={ s with toks:=s.toks+1 }) ho hd (x:=rawInt (i:Int)) rfl ?_)
 show wpAny _ _ (setField (.ref it) 1 (rawInt ((i:Int) - 1)) >>= _) _ _ _
 refine ae (dW (s:={ s with toks:=s.toks+1 }) ho hd (by simp) (ao ⟨x,rfl,ao (hQ _ ?_ (cI ..))⟩))
 exact⟨_,dH _ ho (eF (cS hd _)),(gN ..).trans hc,by rw [cS hd]; simp⟩
theorem zch {it l:Addr} {Q:Option Value→Shared→Prop} (hh:A.handled=none) (hit:s.heap.IsRvd it l (-1)) (hQ:∀ h',jL it s.heap h'→Q none { s with heap:=h' }):wpAny (model prog w) A (pyNext (.ref it)) Q E s:=by
 obtain⟨o,ho,hc,hd⟩:=id hit; unfold pyNext
 refine ae (cM (bh (name:=bP "__next__") hit.typeIs F.slot_rvd_next
  (bt F.slot_rvd_next hit.typeIs F.entry_rvd_next ?_ (F.args_rvd_next_1 _))))
 unfold Builtin.«reversed.__next__»
 refine ae (eA (a:=(aY it,[])) rfl ?_); try dsimp only
 refine ae (bp ho hd (x:=.ref l) rfl ?_); refine ae (bp ho hd (x:=rawInt (-1)) rfl ?_)
 show wpAny _ _ (if (-1:Int) < 0 then _ else _) _ _ s; rw [if_pos (by decide)]
 refine ae (b8 ?_)
 refine ae (ae (m:=setField (.ref it) 1 (rawInt (-1))) (dW ho hd (by simp) ?_))
 have hd2:=cS hd (·.setIfInBounds 1 (rawInt (-1)))
 have rV:=dH (gE (·.setIfInBounds 1 (rawInt (-1)))) ho (eF hd2)
 refine dW rV hd2 (by simp) ?_
 try dsimp only
 refine ae ?_; show wpAny _ _ (newExc (.type "StopIteration") [] >>= _) _ _ _
 refine ae ?_
 simp only [newExc,newTuple]
 refine ae (bG ?_ (by size_fits)); refine ae (m:=firstArgMember _ _) (eA (a:=cX) (by first | rfl | (simp only [firstArgMember]; rfl)) ?_)
 refine bG ?_ (by size_fits); simp only [raiseNew]
 refine ae (i7 ?_); first | rw [show A.in1.handled=none from hh] | rw [hh]
 refine ae (ao (jM ?_)); refine ae (eQ (T:="StopIteration") (b:=true) ⟨_,aI _ rfl,rfl⟩ gc ?_)
 exact ao (hQ _ ((((cI ..).extBut.trans (cI ..).extBut).push _).push _))
theorem zbL {it l:Addr} {i:Int} {Q:Value→Shared→Prop} (hit:s.heap.IsRvd it l i) (h:Q (.ref it) s):wpAny (model prog w) A (pyIter (.ref it)) Q E s:=by
 refine gO hit.typeIs F.slot_rvd_iter (bt F.slot_rvd_iter hit.typeIs F.entry_rvd_iter ?_ (F.args_rvd_iter_1 _))
 show wpAny _ _ (ret (.ref it)) _ _ s; exact ao ⟨_,rfl,"reversed",_,hit.typeIs,F.slot_rvd_next.lookup,h⟩
end
section
variable {prog:Program} {w:World} {A:Around} {E:Value→Shared→Prop} {s:Shared}
theorem zf7 {it t:Addr} {i:Nat} {items:Array Value} {x:Value} {Q:Value→Shared→Prop} (hit:s.heap.IsTupleIter it t i) (ht:s.heap.IsTuple t items) (hx:items[i]? = some x)
  (hQ:∀ h',h'.IsTupleIter it t (i+1)→bj it s.heap h'→Q x { s with heap:=h' }):wpAny (model prog w) A (ba (.ref it)) Q E s:=by
 obtain⟨o,ho,hc,hd⟩:=id hit; obtain⟨ot,C4,_,nt,C5⟩:=ht
 unfold ba; refine ae (bh (name:=bP "__next__") hit.typeIs dM (bt dM hit.typeIs gt ?_ (ge _)))
 show wpAny _ _ (field (.ref it) 0 >>= _) _ _ s; refine ae (bp ho hd (x:=.ref t) rfl ?_); show wpAny _ _ (if (aY t == cX)=true then _ else _) _ _ _; rw [if_neg (by exact aM)]
 refine ae (bp ho hd (x:=.int _ 0) rfl ?_); refine ae (m:=seqItems? _) (du C4 C5 ?_); simp only [bH,hx]
 have hn:=dH (gE (·.setIfInBounds 1 (rawInt ((i+1:Nat):Int)))) ho (eF (cS hd _))
 refine ae (dW ho hd (by simp) (ao ⟨x,rfl,ao (hQ _ ⟨_,hn,(gN ..).trans hc,?_⟩ (cI ..))⟩)); rw [cS hd]; simp [rawInt]
theorem zf8 {it t:Addr} {i:Nat} {items:Array Value} {Q:Value→Shared→Prop} (hh:A.handled=none) (hit:s.heap.IsTupleIter it t i) (ht:s.heap.IsTuple t items) (hx:items[i]? = none)
  (hE:∀ h' e,jL it s.heap h'→(∃ o,h'.get? e=some o∧o.cls = .type "StopIteration")→E (.ref e) { s with heap:=h' }):wpAny (model prog w) A (ba (.ref it)) Q E s:=by
 obtain⟨o,ho,hc,hd⟩:=id hit; obtain⟨ot,C4,_,nt,C5⟩:=ht
 unfold ba; refine ae (bh (name:=bP "__next__") hit.typeIs dM (bt dM hit.typeIs gt ?_ (ge _)))
 show wpAny _ _ (field (.ref it) 0 >>= _) _ _ s; refine ae (bp ho hd (x:=.ref t) rfl ?_); show wpAny _ _ (if (aY t == cX)=true then _ else _) _ _ _; rw [if_neg (by exact aM)]
 refine ae (bp ho hd (x:=.int _ 0) rfl ?_); refine ae (m:=seqItems? _) (du C4 C5 ?_); simp only [bH,hx]
 refine ae (b8 (ae (dW ho hd (by simp) ?_))); show wpAny _ _ (newExc (.type "StopIteration") [] >>= _) _ _ _; refine ae ?_
 simp only [newExc,newTuple]; refine ae (bG ?_ (by size_fits)); refine ae (m:=firstArgMember _ _) (eA (a:=cX) (by first | rfl | (simp only [firstArgMember]; rfl)) ?_)
 refine bG ?_ (by size_fits); simp only [raiseNew]; refine ae (i7 ?_); first | rw [show A.in1.handled=none from hh] | rw [hh]
 refine ae (ao (jM ?_)); exact hE _ _ (((cI ..).extBut.push _).push _) ⟨_,aI _ rfl,rfl⟩
end
theorem Draws.tuple {prog:Program} {w:World} {A:Around} (hh:A.handled=none) (it t:Addr) (lA:t≠it) (items:Array Value):Draws prog w A it [it,t] items.size (fun i v=>items[i]? = some v) (fun i h=>h.IsTupleIter it t i∧h.IsTuple t items) where
 live:=fun i h st=>st.1.imp fun o r=>r.1
 frame:=fun i h h' st kk=>⟨st.1.at fun o=>kk it (by simp) o,st.2.at fun o=>kk t (by simp) o⟩
 item:=fun i s Q E hi st hQ=>zf7 st.1 st.2 (x:=items[i]) (by simp [hi]) fun h' a b=>hQ _ h' s.toks (by simp [hi]) ⟨a,st.2.extBut b.extBut lA⟩ b
 done:=fun s Q E st hE=>zf8 hh st.1 st.2 (by simp) hE
def zb7 (t:Addr):Obj:={ cls:=.type "tuple_iterator",data:=.fields #[.ref t,.int 0 0] }
def zjQ (it:Addr):Obj:={ cls:=.type "enumerate",data:=.fields #[.none,.bool false,.ref it,rawInt 0,.none,.none] }
end PySem
namespace L2
open PySem PySem.Spec PyProof.Rows
theorem ziT {P:Program} {w:World} {K:ah} {tg:Expr} (a it:Addr) (n:Nat):Turn P w K tg (zf6 (kP K) a n) [it] it (fun i h=>i≤n∧h.IsRvd it a ((n:Int) - 1 - (i:Int))) where
 mem:=by simp
 obj:=fun i h st b hb=>by
  have z:b=it:=by simpa using hb
  subst z
  obtain⟨_,o,e,c,d⟩:=st
  exact⟨o,e,fun v z=>by rw [d] at z; cases z⟩
 keep:=fun i h h' st k=>⟨st.1,st.2.at fun o e=>k it (by simp) o e⟩
 item:=by
  intro X hP hw hK hc i kE s σ H E I hf st hg
  subst hP hw hK
  obtain⟨oG,xs,hq,hl⟩:=hg
  obtain⟨kK,rv,p,hz⟩:=I.tuple hq
  have kQ:=rv.length
  have om:=a7
  obtain⟨x,hx⟩:∃ x,xs[n - 1 - i]? = some x:=⟨xs[n - 1 - i]'(by lia),by simp⟩
  obtain⟨u,hu,ru⟩:=rv.get hx
  obtain⟨f0,f1,f2,f3,f4,f5⟩:=hf it (by simp)
  have e:(n:Int) - 1 - (i:Int)=((n - 1 - i:Nat):Int):=by lia
  have hit:=st.2
  rw [e] at hit
  refine zb9 hit p (x:=u) (by simpa using hu) (by lia) fun h' kM sb=>?_
  have I1:Inv X kE σ H { s with heap:=h',toks:=s.toks+1 }:=I.turned (t':=s.toks+1) (fun b o hb e=>(sb.2 b hb).trans e) f0 f1 f3 f4 f5
  have e2:((n - 1 - i:Nat):Int) - 1=(n:Int) - 1 - ((i+1:Nat):Int):=by lia
  rw [e2] at kM
  obtain⟨o,eo,c,d⟩:=id kM
  exact⟨u,rfl,zfZ (s:={ s with heap:=h',toks:=s.toks+1 }) eo c d (by decide) ⟨x,H,I1,ru,⟨rfl,fun ys hy=>by rw [I.tuple_inj hy hq]; exact hx⟩,⟨oG,kM⟩,fun b hb=>(hf b hb).1⟩⟩
 done:=by
  intro X hP hw hK hc i kE s σ H E I hf st hg
  subst hP hw hK
  obtain⟨f0,f1,f2,f3,f4,f5⟩:=hf it (by simp)
  have oG:n≤i:=hg
  have e:(n:Int) - 1 - (i:Int) = -1:=by have:=st.1; lia
  have hit:=st.2
  rw [e] at hit
  exact zch (I.ok.hd hc) hit fun h' eb=>⟨rfl,I.turned (t':=s.toks) (fun b o hb e=>eb b o hb e) f0 f1 f3 f4 f5⟩
 self:=fun _ _ _ _ _ st h=>zbL st.2 h
theorem zfx {X:Cx} {tg:Expr} {kE:List (Addr×Obj)} {σ:St} {H1:Hp} {s1:Shared} {R:It→Hp→Prop} {l:Addr} {xs:List V} (I1:Inv X kE σ H1 s1) (hq:kP X.K H1 l xs) (q:R (zf6 (kP X.K) l xs.length) H1) :
  wpAny (model X.prog X.w) X.A (call (.type "reversed") [.ref l]) (fun v s2=>wpAny (model X.prog X.w) X.A (pyIter v) (PIE X kE σ tg R) X.xe s2) X.xe s1:=by
 obtain⟨kK,rv,pl,hz⟩:=I1.tuple hq
 have kQ:=rv.length
 have om:=a7
 refine zee pl (by rw [aq]; lia) ?_
 have I2:Inv X kE σ H1 { s1 with heap:=s1.heap.push (zfw l ((kK.toArray.size:Int) - 1)),toks:=s1.toks+1+1 }:=I1.kept fun b o e=>ai _ e
 have hr:(s1.heap.push (zfw l ((kK.toArray.size:Int) - 1))).IsRvd s1.heap.objs.size l ((xs.length:Int) - 1 - ((0:Nat):Int)):=by
  refine⟨_,aI _ rfl,rfl,?_⟩
  have e1:(kK.toArray.size:Int) - 1=(xs.length:Int) - 1 - ((0:Nat):Int):=by rw [aq,kQ]; lia
  show jK #[.ref l,rawInt ((kK.toArray.size:Int) - 1)]=_
  rw [e1]
 refine zbL hr ?_
 refine⟨_,[s1.heap.objs.size],_,zf6 (kP X.K) l xs.length,H1,rfl,I2,ziT l s1.heap.objs.size xs.length,⟨bb _,hr⟩,fun b hb=>?_,q⟩
 have z:b=s1.heap.objs.size:=by simpa using hb
 subst z
 exact I1.fpOk (af _) (I1.hok.fresh (af _))
theorem zf9 {X:Cx} {tg:Expr} {kE:List (Addr×Obj)} {σ:St} {H1:Hp} {s1:Shared} {R:It→Hp→Prop} {l:Addr} {xs:List V} (I1:Inv X kE σ H1 s1) (hq:kG X.K H1 l xs) (q:R (zf6 (kG X.K) l xs.length) H1) :
  wpAny (model X.prog X.w) X.A (call (.type "reversed") [.ref l]) (fun v s2=>wpAny (model X.prog X.w) X.A (pyIter v) (PIE X kE σ tg R) X.xe s2) X.xe s1:=by
 obtain⟨kK,rv,pl,hz⟩:=I1.list hq
 have kQ:=rv.length
 refine call_reversed_list pl.isList ?_
 have I2:Inv X kE σ H1 { s1 with heap:=s1.heap.push (revObj l ((kK.toArray.size:Int) - 1)) }:=I1.kept (t':=s1.toks) fun b o e=>ai _ e
 have hr:(s1.heap.push (revObj l ((kK.toArray.size:Int) - 1))).IsRevIter s1.heap.objs.size l ((xs.length:Int) - 1 - ((0:Nat):Int)):=by
  refine⟨_,aI _ rfl,rfl,?_⟩
  have e1:(kK.toArray.size:Int) - 1=(xs.length:Int) - 1 - ((0:Nat):Int):=by rw [aq,kQ]; lia
  show jK #[.ref l,rawInt ((kK.toArray.size:Int) - 1)]=_
  rw [e1]
 refine iX hr ?_
 refine⟨_,[s1.heap.objs.size],_,zf6 (kG X.K) l xs.length,H1,rfl,I2,ziS l s1.heap.objs.size xs.length,⟨bb _,hr⟩,fun b hb=>?_,q⟩
 have z:b=s1.heap.objs.size:=by simpa using hb
 subst z
 exact I1.fpOk (af _) (I1.hok.fresh (af _))
def zog (K:ah) (ta:TA):TI:=fun σ H R=>ta σ H fun vs H1=>∃ a xs,vs = [.ref a]∧((kG K H1 a xs∧R (zf6 (kG K) a xs.length) H1)∨(kP K H1 a xs∧R (zf6 (kP K) a xs.length) H1))
theorem zmP {X:Cx} {tg:Expr} {p pos:Pos} {a:Expr} {ta:TA} (hg:Gl X "reversed") (hm:X.mg "reversed" = none) (ha:PA X [a] ta) (hs:starEach [a] X.env = [(false,eval a X.env)]:=by rfl) :
  PI X tg (.Call (.Name "reversed" p) [a] [] pos) (zog X.K ta):=by
 intro kE s σ H R I h
 refine Call_ (zbu I hg hm boot_reversed (bE (thn (ha pos kE s σ H _ I h) fun us s1 ⟨vs,H1,I1,r1,q1⟩=>?_) hs rfl))
 obtain⟨l,xs,e,hq⟩:=q1
 subst e
 cases r1 with
 | cons r rr =>
  cases rr
  cases r
  rcases hq with ⟨hq,q⟩ | ⟨hq,q⟩
  ·exact zf9 I1 hq q
  ·exact zfx I1 hq q
end L2
end
section
namespace L2
open PySem PySem.Spec PyProof.Rows
inductive EqD (K:ah) (H:Hp):Nat→V→V→Bool→Prop where
 | flat {d:Nat} {x y:V} (hx:zb6 x=true) (hy:zb6 y=true):EqD K H d x y (eqV x y)
 | same {d:Nat} {a:Addr}:EqD K H d (.ref a) (.ref a) true
 | lists {d:Nat} {a b:Addr} {xs ys:List V} {e:Nat→Bool} (lA:a≠b) (ha:kG K H a xs) (hb:kG K H b ys) (hl:xs.length=ys.length)
   (he:∀ (j:Nat) x y,xs[j]? = some x→ys[j]? = some y→EqD K H d x y (e j)):EqD K H (d+1) (.ref a) (.ref b) ((aD xs.length).all e)
 | lens {d:Nat} {a b:Addr} {xs ys:List V} (lA:a≠b) (ha:kG K H a xs) (hb:kG K H b ys) (hl:xs.length≠ys.length):EqD K H (d+1) (.ref a) (.ref b) false
 | tups {d:Nat} {a b:Addr} {xs ys:List V} {e:Nat→Bool} (lA:a≠b) (ha:kP K H a xs) (hb:kP K H b ys)
   (he:∀ (j:Nat) x y,xs[j]? = some x→ys[j]? = some y→EqD K H d x y (e j)):EqD K H (d+1) (.ref a) (.ref b) ((aD (min xs.length ys.length)).all e && xs.length == ys.length)
theorem zN.getE {xs:List V} {us:List Value} (r:zN xs us) {j:Nat} (h:j < us.toArray.size):∃ x,xs[j]? = some x∧RelV x us.toArray[j]:=by
 have hl:=r.length
 have hj:j < xs.length:=by rw [hl]; simpa using h
 obtain⟨u,hu,ru⟩:=r.get (i:=j) (x:=xs[j]) (by simp)
 refine⟨xs[j],by simp,?_⟩
 have:us.toArray[j]=u:=by
  have h2:j < us.length:=by simpa using h
  rw [am h2] at hu
  simpa using aR hu
 rw [this]
 exact ru
theorem EqD.at {X:Cx} {kE:List (Addr×Obj)} {σ:St} {H:Hp} {s:Shared} (I:Inv X kE σ H s) {d:Nat} {x y:V} {b:Bool} (h:EqD X.K H d x y b) :
  ∀ (A:Around) (u v:Value),RelV x u→RelV y v→A.units+d < cLine→j6 A s u v b:=by
 induction h with
 | flat hx hy=>exact fun A u v rx ry _=>zjH rx ry hx hy
 | same=>intro A u v rx ry _; cases rx; cases ry; exact j7 _
 | lists lA ha hb hl he ih =>
  intro A u v rx ry hu
  cases rx; cases ry
  obtain⟨tw,r1,p1,_⟩:=I.list ha
  obtain⟨tz,r2,p2,_⟩:=I.list hb
  have l1:=r1.length
  have l2:=r2.length
  refine gu lA ?_
  have q:=jW (A:=A) p1.isList p2.isList (by simp only [aq]; lia) (by lia) fun j h1 h2=>by
   obtain⟨x,hx,rx⟩:=r1.getE h1
   obtain⟨y,hy,ry⟩:=r2.getE h2
   exact ih j x y hx hy A.in1 _ _ rx ry (by simp only [cP]; lia)
  rw [aq,← l1] at q
  exact q
 | lens lA ha hb hl =>
  intro A u v rx ry hu
  cases rx; cases ry
  obtain⟨tw,r1,p1,_⟩:=I.list ha
  obtain⟨tz,r2,p2,_⟩:=I.list hb
  have l1:=r1.length
  have l2:=r2.length
  exact gu lA (hU p1.isList p2.isList (by simp only [aq,bne_iff_ne]; lia) (by lia))
 | tups lA ha hb he ih =>
  intro A u v rx ry hu
  cases rx; cases ry
  obtain⟨tw,r1,p1,_⟩:=I.tuple ha
  obtain⟨tz,r2,p2,_⟩:=I.tuple hb
  have l1:=r1.length
  have l2:=r2.length
  refine gu lA ?_
  have q:=gP (A:=A) (s:=s) p1 p2 (by lia) fun j h1 h2=>by
   obtain⟨x,hx,rx⟩:=r1.getE h1
   obtain⟨y,hy,ry⟩:=r2.getE h2
   exact ih j x y hx hy A.in1 _ _ rx ry (by simp only [cP]; lia)
  rw [aq,aq,← l1,← l2] at q
  exact q
def zmQ (K:ah) (neg:Bool):R2:=fun x y H Q=>∃ a b xs ys,x = .ref a∧y = .ref b∧((kG K H a xs∧kG K H b ys)∨(kP K H a xs∧kP K H b ys)) ∧
 ((xs.length≠ys.length∧(∀ (j:Nat) x y,xs[j]? = some x→ys[j]? = some y→∃ c,EqD K H 8 x y c)∧Q (.bl neg) H) ∨
  (xs.length=ys.length∧∃ e:Nat→Bool,(∀ (j:Nat) x y,xs[j]? = some x→ys[j]? = some y→EqD K H 8 x y (e j))∧Q (.bl (if neg then !(aD xs.length).all e else (aD xs.length).all e)) H))
theorem zmR {X:Cx} (hu:X.A.units+20 < cLine):OpR X (compareOp .Eq) (zmQ X.K false):=by
 intro kE s σ H x y v u Q I rx ry h
 obtain⟨a,b,xs,ys,rfl,rfl,hk,h⟩:=h
 cases rx; cases ry
 rcases hk with ⟨ha,hb⟩ | ⟨ha,hb⟩
 ·obtain⟨tw,r1,p1,_⟩:=I.list ha
  obtain⟨tz,r2,p2,_⟩:=I.list hb
  have l1:=r1.length
  have l2:=r2.length
  rcases h with ⟨hl,_,q⟩ | ⟨hl,e,he,q⟩
  ·exact hU p1.isList p2.isList (by simp only [aq,bne_iff_ne]; lia) (by lia) _ _ _ _ ⟨.bl false,H,I,rfl,q⟩
  ·refine jW p1.isList p2.isList (e:=e) (by simp only [aq]; lia) (by lia) (fun j h1 h2=>?_) _ _ _ _ ⟨.bl _,H,I,rfl,?_⟩
   ·obtain⟨x,hx,rx⟩:=r1.getE h1
    obtain⟨y,hy,ry⟩:=r2.getE h2
    exact (he j x y hx hy).at I _ _ _ rx ry (by simp only [cP]; lia)
   ·rw [aq,← l1]
    exact q
 ·obtain⟨tw,r1,p1,_⟩:=I.tuple ha
  obtain⟨tz,r2,p2,_⟩:=I.tuple hb
  have l1:=r1.length
  have l2:=r2.length
  rcases h with ⟨hl,he,q⟩ | ⟨hl,e,he,q⟩
  ·have uG:∀ j:Nat,∃ c:Bool,∀ x y,xs[j]? = some x→ys[j]? = some y→EqD X.K H 8 x y c:=fun j=>by
    cases hx:xs[j]? with
    | none=>exact⟨true,fun x y z=>by cases z⟩
    | some x =>
     cases hy:ys[j]? with
     | none=>exact⟨true,fun x y _ z=>by cases z⟩
     | some y =>
      obtain⟨c,hc⟩:=he j x y hx hy
      exact⟨c,fun x' y' z1 z2=>by cases z1; cases z2; exact hc⟩
   obtain⟨e,p6⟩:=ft uG
   refine gP (s:=s) p1 p2 (e:=e) (by lia) (fun j h1 h2=>?_) _ _ _ _ ⟨.bl _,H,I,rfl,?_⟩
   ·obtain⟨x,hx,rx⟩:=r1.getE h1
    obtain⟨y,hy,ry⟩:=r2.getE h2
    exact (p6 j x y hx hy).at I _ _ _ rx ry (by simp only [cP]; lia)
   ·have vc:(tw.toArray.size == tz.toArray.size)=false:=by
     rw [aq,aq]; exact beq_eq_false_iff_ne.mpr (by lia)
    rw [vc,kg]
    exact q
  ·refine gP (s:=s) p1 p2 (e:=e) (by lia) (fun j h1 h2=>?_) _ _ _ _ ⟨.bl _,H,I,rfl,?_⟩
   ·obtain⟨x,hx,rx⟩:=r1.getE h1
    obtain⟨y,hy,ry⟩:=r2.getE h2
    exact (he j x y hx hy).at I _ _ _ rx ry (by simp only [cP]; lia)
   ·have vc:(tw.toArray.size == tz.toArray.size)=true:=by
     rw [aq,aq]; exact beq_iff_eq.mpr (by lia)
    have tR:min tw.toArray.size tz.toArray.size=xs.length:=by rw [aq,aq]; lia
    rw [vc,ku,tR]
    exact q
theorem zfy {X:Cx} (hu:X.A.units+20 < cLine):OpR X (compareOp .NotEq) (zmQ X.K true):=by
 intro kE s σ H x y v u Q I rx ry h
 obtain⟨a,b,xs,ys,rfl,rfl,hk,h⟩:=h
 cases rx; cases ry
 rcases hk with ⟨ha,hb⟩ | ⟨ha,hb⟩
 ·obtain⟨tw,r1,p1,_⟩:=I.list ha
  obtain⟨tz,r2,p2,_⟩:=I.list hb
  have l1:=r1.length
  have l2:=r2.length
  rcases h with ⟨hl,_,q⟩ | ⟨hl,e,he,q⟩
  ·exact SeqAt.RcNeAt.lists_lengths p1.isList p2.isList (by simp only [aq,bne_iff_ne]; lia) (by lia) _ _ _ _ ⟨.bl true,H,I,rfl,q⟩
  ·refine SeqAt.RcNeAt.lists p1.isList p2.isList (e:=e) (by simp only [aq]; lia) (by lia) (fun j h1 h2=>?_) _ _ _ _ ⟨.bl _,H,I,rfl,?_⟩
   ·obtain⟨x,hx,rx⟩:=r1.getE h1
    obtain⟨y,hy,ry⟩:=r2.getE h2
    exact (he j x y hx hy).at I _ _ _ rx ry (by simp only [cP]; lia)
   ·rw [aq,← l1]
    exact q
 ·obtain⟨tw,r1,p1,_⟩:=I.tuple ha
  obtain⟨tz,r2,p2,_⟩:=I.tuple hb
  have l1:=r1.length
  have l2:=r2.length
  rcases h with ⟨hl,he,q⟩ | ⟨hl,e,he,q⟩
  ·have uG:∀ j:Nat,∃ c:Bool,∀ x y,xs[j]? = some x→ys[j]? = some y→EqD X.K H 8 x y c:=fun j=>by
    cases hx:xs[j]? with
    | none=>exact⟨true,fun x y z=>by cases z⟩
    | some x =>
     cases hy:ys[j]? with
     | none=>exact⟨true,fun x y _ z=>by cases z⟩
     | some y =>
      obtain⟨c,hc⟩:=he j x y hx hy
      exact⟨c,fun x' y' z1 z2=>by cases z1; cases z2; exact hc⟩
   obtain⟨e,p6⟩:=ft uG
   refine jd (s:=s) p1 p2 (e:=e) (by lia) (fun j h1 h2=>?_) _ _ _ _ ⟨.bl _,H,I,rfl,?_⟩
   ·obtain⟨x,hx,rx⟩:=r1.getE h1
    obtain⟨y,hy,ry⟩:=r2.getE h2
    exact (p6 j x y hx hy).at I _ _ _ rx ry (by simp only [cP]; lia)
   ·have vc:(tw.toArray.size == tz.toArray.size)=false:=by
     rw [aq,aq]; exact beq_eq_false_iff_ne.mpr (by lia)
    rw [vc,kg]
    exact q
  ·refine jd (s:=s) p1 p2 (e:=e) (by lia) (fun j h1 h2=>?_) _ _ _ _ ⟨.bl _,H,I,rfl,?_⟩
   ·obtain⟨x,hx,rx⟩:=r1.getE h1
    obtain⟨y,hy,ry⟩:=r2.getE h2
    exact (he j x y hx hy).at I _ _ _ rx ry (by simp only [cP]; lia)
   ·have vc:(tw.toArray.size == tz.toArray.size)=true:=by
     rw [aq,aq]; exact beq_iff_eq.mpr (by lia)
    have tR:min tw.toArray.size tz.toArray.size=xs.length:=by rw [aq,aq]; lia
    rw [vc,ku,tR]
    exact q
theorem zbj {X:Cx}:zbC X (.builtin "isinstance") (fun xs H Q=>∃ x t n b,xs = [x,.ty n]∧TyOf X.K H x t∧iM X.K t (.type n)=some b∧Q (.bl b) H):=by
 intro kE s σ H xs us Q I r h
 obtain⟨x,t,n,b,rfl,ty,hk,q⟩:=h
 obtain⟨u,u',rfl,rx,r2⟩:=vals2 r
 cases r2
 exact ziJ I rx ty hk fun tk=>⟨.bl b,H,I.tok tk,rfl,q⟩
theorem zdA {X:Cx}:zbC X (.type "range") (fun xs H Q=>∃ j:Int,xs = [.int j]∧∀ l,H l=none→Q (.ref l) (kL H l (.rng 0 j))):=by
 intro kE s σ H xs us Q I r h
 obtain⟨j,rfl,q⟩:=h
 obtain⟨u,rfl,t,rfl⟩:=vals1 r
 refine call_range_1 ?_
 exact⟨.ref s.heap.objs.size,_,I.laid (o:=.rng 0 j) (fun b o e=>ai _ e) (af _) ⟨_,_,_,aI _ rfl⟩,rfl,q _ I.fresh⟩
def zaw (lo:Int) (n:Nat):List Int:=(aD n).map fun (i:Nat)=>lo+(i:Int)
theorem zcI (lo:Int) (n:Nat):(zaw lo n).length=n:=by simp [zaw]
theorem zeP {acc:Array Value} {lo:Int} {n:Nat} (h:ItemsOf (fun i v=>∃ t,v = .int (lo+(i:Nat)*1) t) acc n):zN ((zaw lo n).map V.int) acc.toList:=by
 obtain⟨hsz,hv⟩:=h
 have go:∀ (us:List Value) (k:Nat),(∀ (j:Nat) v,us[j]? = some v→∃ t,v = .int (lo+((k+j:Nat):Int)) t)→zN (((aD us.length).map fun (i:Nat)=>V.int (lo+((k+i:Nat):Int)))) us:=by
  intro us
  induction us with
  | nil=>intro k _; exact .nil
  | cons u us ih =>
   intro k hu
   rw [cD,iG,bd,bA]
   refine .cons ?_ ?_
   ·obtain⟨t,e⟩:=hu 0 u rfl
    exact⟨t,e⟩
   ·have:=ih (k+1) fun j v e=>by
     obtain⟨t,z⟩:=hu (j+1) v (by simpa using e)
     exact⟨t,by rw [z]; congr 1; lia⟩
    have e2:(fun (i:Nat)=>V.int (lo+((k+1+i:Nat):Int)))=((fun (i:Nat)=>V.int (lo+((k+i:Nat):Int))) ∘ Nat.succ):=by
     funext i
     show V.int _=V.int _
     congr 2
     show ((k+1+i:Nat):Int)=((k+(i+1):Nat):Int)
     lia
    rw [← e2]
    exact this
 have h1:=go acc.toList 0 fun j v e=>by
  obtain⟨t,z⟩:=hv j v (by simpa using e)
  exact⟨t,by rw [z]; simp⟩
 have e1:acc.toList.length=n:=by simpa using hsz
 rw [e1] at h1
 unfold zaw
 rw [bA]
 have e2:(V.int ∘ fun (i:Nat)=>lo+(i:Int))=fun (i:Nat)=>V.int (lo+((0+i:Nat):Int)):=by
  funext i
  show V.int (lo+(i:Int))=V.int (lo+((0+i:Nat):Int))
  rw [c8]
 rw [e2]
 exact h1
theorem zcJ {X:Cx} (hc:X.calm=true):zbC X (.type "list") (fun xs H Q=>∃ p hi,xs = [.ref p]∧H p=some (.rng 0 hi)∧0≤hi∧hi≤1000∧∀ l,H l=none→Q (.ref l) (kL H l (.lst ((zaw 0 hi.toNat).map V.int)))):=by
 intro kE s σ H xs us Q I r h
 obtain⟨p,hi,rfl,hp,h0,h1,q⟩:=h
 obtain⟨u,rfl,rx⟩:=vals1 r
 cases rx
 obtain⟨t,u',v,e⟩:=(show zak X.prog X.w H s.heap p (.rng 0 hi) from I.hok p _ hp)
 have om:=a7
 refine call_list_range (n:=hi.toNat) (I.ok.hd hc) (show IsRange s.heap p 0 hi 1 t u' v from e) (small_one (by lia) (by lia) (by lia) (by lia)) (by rw [rangeSize_one]; split <;> lia) (by lia) fun h' tk C6 c' kk ho tS=>?_
 have hv:=zeP (lo:=0) (n:=hi.toNat) tS
 refine⟨.ref s.heap.objs.size,_,I.laid kk (af _) ?_,rfl,q _ I.fresh⟩
 exact⟨by rw [ab,zcI]; lia,C6.toList,c',hv,by simpa using ho⟩
def zoh (K:ah) (tl:TE):TI:=fun σ H R=>tl σ H fun x H1=>∃ a,x = .ref a∧(((∃ xs,kG K H1 a xs)∧R (Itl K a) H1)∨((∃ xs,kP K H1 a xs)∧R (Itt K a) H1))
theorem zmS {X:Cx} {tg l:Expr} {tl:TE} (hl:PE X l tl):PI X tg l (zoh X.K tl):=by
 intro kE s σ H R I h
 refine thn (hl kE s σ H _ I h) fun v s1 ⟨x,H1,I1,r1,q1⟩=>?_
 obtain⟨a,e,q⟩:=q1
 subst e
 cases r1
 rcases q with ⟨⟨xs,hq⟩,q⟩ | ⟨⟨xs,hq⟩,q⟩
 ·obtain⟨kK,rv,p,hz⟩:=I1.list hq
  refine gK p.isList ?_
  refine⟨s1.heap.objs.size,[s1.heap.objs.size],_,_,H1,rfl,I1.kept (t':=s1.toks) fun b o e=>ai _ e,ze0 a _,⟨_,aI _ rfl,rfl,rfl⟩,fun b hb=>?_,q⟩
  have e:b=s1.heap.objs.size:=by simpa using hb
  subst e
  exact I1.fpOk (af _) (I1.hok.fresh (af _))
 ·obtain⟨kK,rv,p,hz⟩:=I1.tuple hq
  refine ff (show s1.heap.IsTuple a kK.toArray from p) ?_
  refine⟨s1.heap.objs.size,[s1.heap.objs.size],_,_,H1,rfl,I1.kept (t':=s1.toks) fun b o e=>ai _ e,zd8 a _,⟨_,aI _ rfl,rfl,rfl⟩,fun b hb=>?_,q⟩
  have e:b=s1.heap.objs.size:=by simpa using hb
  subst e
  exact I1.fpOk (af _) (I1.hok.fresh (af _))
def intsOf:List Expr→Option (List Int)
 | []=>some []
 | .Constant (.int i) _ _ :: r=>(intsOf r).map (i :: ·)
 | _=>none
def zfa (ns:List Int):TA:=fun _ H Q=>Q (ns.map V.int) H
theorem zjR {X:Cx}:∀ (es:List Expr) (ns:List Int),intsOf es=some ns→PA X es (zfa ns):=by
 intro es
 induction es with
 | nil =>
  intro ns h
  have e:ns = []:=(aR h).symm
  subst e
  exact ze
 | cons e r ih =>
  intro ns h
  unfold intsOf at h
  split at h
  ·rename_i heq
   cases heq
  ·rename_i i j p r' heq
   injection heq with e1 e2
   subst e1 e2
   cases hr:intsOf r with
   | none=>rw [hr] at h; cases h
   | some ms =>
    rw [hr] at h
    have e:i :: ms=ns:=aR h
    subst e
    exact za zg (ih ms hr)
  ·cases h
theorem zle {X:Cx} {es:List Expr} {ns:List Int} (h:intsOf es=some ns):PA X es (zfa ns):=zjR es ns h
theorem zga {X:Cx} {i:Int} {j:Nat} {p:Pos} {es:List Expr} {t:TA} (hr:PA X es t):PA X (.Constant (.int i) j p :: es) (zmc (tC (.int i)) t):=za zg hr
theorem zjS {X:Cx} {i:Nat} {x:Str} {pos' pL oJ:Pos} {rest:List Stmt} {u:TS} {es:List Expr} {ns:List Int} (h:intsOf es=some ns) (hN:X.N.Nodup) (hi:X.N[i]? = some x) (hx:Loc X.env.scope x)
  (hf:X.fn x=true∨X.env.scope.names.lookup x=some .local) (hr:PSs X rest u):PSs X (.Assign [.Name x pos'] (.List es pL) oJ :: rest) (zno (zg1 (zk8 (zfa ns)) (za0 i)) u):=by
 have h1:PE X (.List es pL) (zk8 (zfa ns)):=@z9 X es (zfa ns) pL (@zle X es ns h)
 have h2:PS X (.Assign [.Name x pos'] (.List es pL) oJ) (zg1 (zk8 (zfa ns)) (za0 i)):=zp hN hi hx h1 (by rfl) hf
 exact zd h2 hr
section
variable {X:Cx} {K:ah}
theorem zbM (hK:X.K=K):IxR X (znC K):=by subst hK; exact zC
theorem zjT (hK:X.K=K):SlR X (znE K):=by subst hK; exact zcq
theorem zhd (hK:X.K=K):OpR X (compareOp .In) (rIn K false):=by subst hK; exact zdi
def znG (K:ah):List V→Hp→VK→Prop:=fun xs H Q=>∃ p ys,xs = [.ref p]∧(kG K H p ys∨kP K H p ys)∧Q (.int ys.length) H
theorem zbg (hK:X.K=K):zbC X (.builtin "len") (znG K):=by subst hK; exact zr
def zoi (K:ah):List V→Hp→VK→Prop:=fun xs H Q=>∃ x t n b,xs = [x,.ty n]∧TyOf K H x t∧iM K t (.type n)=some b∧Q (.bl b) H
theorem zfz (hK:X.K=K):zbC X (.builtin "isinstance") (zoi K):=by subst hK; exact zbj
theorem zaT {es:List Expr} {k:Nat} {t:TGs} {n:Nat} {pos:Pos} (hK:X.K=K) (hc:X.calm=true) (h:PGs X es t)
  (hn:(assignEach es X.env).length=n:=by rfl) (qU:(assignEach es X.env).findIdx? (·.1)=none:=by rfl):PG X (.Tuple es k pos) (zg0 K n t):=by subst hK; exact zav hc h hn qU
theorem zmT {o e:Expr} {es:List Expr} {to:TE} {t:TA} {name:Str} {apos nJ:Pos} {T id:String} {r:V→List V→Hp→VK→Prop} (hK:X.K=K) (pa:PlainAttrs T) (slot:Slot T name id) (CJ:typeOf (.builtin id)=pure (.type "method_descriptor")) (hm:MtR X id r) (ho:PE X o to) (ha:PA X (e :: es) t)
  (tN:attributeBase o name X.env (eval o X.env)=eval o X.env:=by rfl)
  (wC:((backTo nJ (starEach (e :: es) X.env)).all (fun x=>!x.1) && (backToKw nJ (keywordEach [] X.env)).all (fun x=>x.1.isSome)
   && decide ((e :: es).length+([]:List Keyword).length+(if ([]:List Keyword).isEmpty then 0 else 1) < 30))=true:=by rfl)
  (tO:(apos.endLine == nJ.line)=true:=by rfl) (hs:starEach (e :: es) X.env=(false,eval e X.env) :: starEach es X.env:=by rfl) (qZ:(backTo nJ (starEach es X.env)).any (·.1)=false:=by rfl) :
  PE X (.Call (.Attribute o name apos) (e :: es) [] nJ) (tBM K T r to t):=by subst hK; exact zdx pa slot CJ hm ho ha tN wC tO hs qZ
end
end L2
end
section
namespace My
def Cg (p a b:Int):Prop:=∃ k,a=b+p*k
theorem Cg.refl (p a:Int):Cg p a a:=⟨0,by grind⟩
theorem Cg.symm {p a b:Int} (h:Cg p a b):Cg p b a:=by obtain⟨k,e⟩:=h; exact⟨-k,by grind⟩
theorem Cg.trans {p a b c:Int} (h:Cg p a b) (h':Cg p b c):Cg p a c:=by
 obtain⟨k,e⟩:=h; obtain⟨l,e'⟩:=h'; exact⟨k+l,by grind⟩
theorem Cg.add {p a b c d:Int} (h:Cg p a b) (h':Cg p c d):Cg p (a+c) (b+d):=by
 obtain⟨k,e⟩:=h; obtain⟨l,e'⟩:=h'; exact⟨k+l,by grind⟩
theorem Cg.sub {p a b c d:Int} (h:Cg p a b) (h':Cg p c d):Cg p (a - c) (b - d):=by
 obtain⟨k,e⟩:=h; obtain⟨l,e'⟩:=h'; exact⟨k - l,by grind⟩
theorem Cg.mul {p a b c d:Int} (h:Cg p a b) (h':Cg p c d):Cg p (a*c) (b*d):=by
 obtain⟨k,e⟩:=h; obtain⟨l,e'⟩:=h'
 exact⟨k*d+b*l+p*k*l,by subst e e'; grind⟩
theorem Cg.of_eq {p a b:Int} (h:a=b):Cg p a b:=h ▸ Cg.refl p a
theorem Cg.emod (p a:Int):Cg p (a % p) a:=⟨-(a / p),by have:=Int.emod_add_mul_ediv a p; grind⟩
theorem Cg.mod_eq {p a b:Int} (h:Cg p a b):a % p=b % p:=by
 obtain⟨k,e⟩:=h; rw [e,Int.add_mul_emod_self_left]
theorem Cg.of_mod {p a b:Int} (h:a % p=b % p):Cg p a b:=(Cg.emod p a).symm.trans (h ▸ Cg.emod p b)
theorem Cg.eq {p a b:Int} (h:Cg p a b) (ha:0≤a) (BQ:a < p) (hb:0≤b) (vc:b < p):a=b:=by
 have:=h.mod_eq
 rwa [bW ha BQ,bW hb vc] at this
def zn (p x:Int):List Int→Int
 | []=>0
 | c :: r=>(c+x*zn p x r) % p
theorem zas {p x:Int} (hp:0 < p):∀ l,0≤zn p x l
 | []=>bU 0
 | _ :: _=>aK _ (by lia)
theorem zat {p x:Int} (hp:0 < p):∀ l,zn p x l < p
 | []=>hp
 | _ :: _=>aC _ hp
theorem zP (p x c:Int) (r:List Int):Cg p (zn p x (c :: r)) (c+x*zn p x r):=Cg.emod _ _
theorem zhe {p x:Int} (m:Nat):zn p x (aj m 0)=0:=by
 induction m with
 | zero=>rfl
 | succ m ih=>rw [cu]; show (0+x*zn p x (aj m 0)) % p=0; rw [ih]; simp
theorem zgb {p x:Int} (m:Nat):∀ l,zn p x (l++aj m 0)=zn p x l
 | []=>zhe m
 | c :: r=>by show (c+x*zn p x (r++aj m 0)) % p=(c+x*zn p x r) % p; rw [zgb m r]
def lv (p x:Int):Int→Int→List Int→Int
 | kS,_,[]=>kS
 | kS,power,c :: r=>lv p x ((kS+c*power) % p) (power*x % p) r
theorem zmf {p x:Int}:∀ (l:List Int) (kS power:Int),Cg p (lv p x kS power l) (kS+power*zn p x l)
 | [],kS,power=>Cg.of_eq (by show kS=kS+power*0; grind)
 | c :: r,kS,power=>by
  have h1:=zmf (p:=p) (x:=x) r ((kS+c*power) % p) (power*x % p)
  refine h1.trans ?_
  have h2:Cg p ((kS+c*power) % p+power*x % p*zn p x r) (kS+c*power+power*x*zn p x r):=(Cg.emod p _).add ((Cg.emod p (power*x)).mul (Cg.refl p _))
  refine h2.trans ?_
  have h3:Cg p (kS+power*(c+x*zn p x r)) (kS+power*zn p x (c :: r)):=(Cg.refl p _).add ((Cg.refl p _).mul (zP p x c r).symm)
  refine (Cg.of_eq ?_).trans h3
  grind
theorem zjU {p x:Int} (hp:0 < p):∀ (l:List Int) (kS power:Int),0≤kS→kS < p→0≤lv p x kS power l∧lv p x kS power l < p
 | [],kS,power,h1,h2=>⟨h1,h2⟩
 | c :: r,kS,power,h1,h2=>zjU hp r _ _ (aK _ (by lia)) (aC _ hp)
theorem zhU {p x:Int} (hp:0 < p) (l:List Int):lv p x 0 1 l=zn p x l:=by
 obtain⟨a,b⟩:=zjU (x:=x) hp l 0 1 (bU _) hp
 exact ((zmf l 0 1).trans (Cg.of_eq (by grind))).eq a b (zas hp l) (zat hp l)
def zm:List Int:=[5,7,11,13,17,19,23,29,31,37,41,43,47,53,59,61,67,71,73,79,83,89,97]
def zcr (p:Int):Nat→Int→Int→Int→Int
 | 0,prod,_,_=>prod
 | n+1,prod,sq,left=>if 0 < left then zcr p n (if left % 2=1 then prod*sq % p else prod) (sq*sq % p) (left / 2) else prod
def inv (p h:Int):Int:=zcr p 7 1 (h % p) (p - 2)
def zoj:Bool:=zm.all fun p=>(aD p.toNat).all fun h=>h == 0 || (inv p h*h) % p == 1
theorem ziU:zoj=true:=by decide +kernel
theorem zo {p:Int} (hp:p∈zm):5≤p∧p≤97:=by
 have:zm.all (fun p=>decide (5≤p∧p≤97))=true:=by decide +kernel
 have:=eP.mp this p hp
 simpa using this
theorem zef {p h:Int} (hp:p∈zm) (h0:0 < h) (h1:h < p):Cg p (inv p h*h) 1:=by
 have e:=eP.mp (eP.mp ziU p hp) h.toNat (bm.mpr (by lia))
 have hh:((h.toNat:Nat):Int)=h:=by lia
 have:h.toNat≠0:=by lia
 simp only [Bool.or_eq_true,beq_iff_eq,hh,this,false_or] at e
 have hr:=zo hp
 exact Cg.of_mod (by rw [e,bW (by lia) (by lia)])
theorem zdB {p a b:Int} (hp:p∈zm) (h:Cg p (a*b) 0):Cg p a 0∨Cg p b 0:=by
 have hr:=zo hp
 by_cases ha:a % p=0
 ·exact .inl (Cg.of_mod (by rw [ha]; simp))
 ·right
  have h0:0 < a % p:=by have:=aK a (show p≠0 by lia); lia
  have hi:=zef hp h0 (aC a (by lia))
  have h1:Cg p (inv p (a % p)*(a*b)) 0:=((Cg.refl p _).mul h).trans (Cg.of_eq (by grind))
  have h2:Cg p (inv p (a % p)*(a % p)*b) (1*b):=hi.mul (Cg.refl p b)
  have h3:Cg p (inv p (a % p)*(a*b)) (inv p (a % p)*(a % p)*b):=by
   have:=((Cg.refl p (inv p (a % p))).mul (Cg.emod p a).symm).mul (Cg.refl p b)
   exact (Cg.of_eq (by grind)).trans this
  exact ((Cg.of_eq (by grind)).trans (h2.symm.trans (h3.symm.trans h1)))
def trF (p r:Int) (high low:Int):Int:=(high - r*low) % p
def zci (p r:Int) (v:List Int):List Int:=aT (trF p r) (0 :: v) (v++[0])
theorem zmg {p r z:Int}:∀ (v:List Int) (h:Int),Cg p (zn p z (aT (trF p r) (h :: v) (v++[0]))) (h+(z - r)*zn p z v)
 | [],h=>by
  show Cg p ((trF p r h 0+z*0) % p) (h+(z - r)*0)
  refine (Cg.emod p _).trans ?_
  have:Cg p (trF p r h 0) (h - r*0):=Cg.emod p _
  exact (this.add (Cg.refl p (z*0))).trans (Cg.of_eq (by grind))
 | c :: w,h=>by
  show Cg p ((trF p r h c+z*zn p z (aT (trF p r) (c :: w) (w++[0]))) % p) (h+(z - r)*zn p z (c :: w))
  have ih:=zmg (p:=p) (r:=r) (z:=z) w c
  have h1:Cg p (trF p r h c) (h - r*c):=Cg.emod p _
  refine (Cg.emod p _).trans ((h1.add ((Cg.refl p z).mul ih)).trans ?_)
  have h2:Cg p (h+(z - r)*(c+z*zn p z w)) (h+(z - r)*zn p z (c :: w)):=(Cg.refl p h).add ((Cg.refl p _).mul (zP p z c w).symm)
  exact (Cg.of_eq (by grind)).trans h2
theorem zhV {p r z:Int} (v:List Int):Cg p (zn p z (zci p r v)) ((z - r)*zn p z v):=(zmg v 0).trans (Cg.of_eq (by grind))
theorem zdl (p r:Int) (v:List Int):(zci p r v).length=v.length+1:=by simp [zci]
theorem zcZ {α β γ:Type} {f:α→β→γ}:∀ {as:List α} {bs:List β} {c:γ},c∈aT f as bs→∃ a b,c=f a b
 | [],_,c,h=>by simp at h
 | _ :: _,[],c,h=>by simp at h
 | a :: as,b :: bs,c,h=>by
  rcases aE.mp h with e | e
  ·exact⟨a,b,e⟩
  ·exact zcZ e
theorem zjV {p r:Int} (hp:0 < p) (v:List Int):∀ c∈zci p r v,0≤c∧c < p:=by
 intro c hc
 obtain⟨a,b,e⟩:=zcZ hc
 rw [e]; exact⟨aK _ (by lia),aC _ hp⟩
def ad (p f:Int):List Int→List Int→List Int
 | c :: cs,v :: vs=>(c+f*v) % p :: ad p f cs vs
 | cs,[]=>cs
 | [],_ :: _=>[]
theorem zfb (p f:Int):∀ (cs vs:List Int),(ad p f cs vs).length=cs.length
 | _ :: cs,_ :: vs=>by show (ad p f cs vs).length+1=_; rw [zfb p f cs vs]; rfl
 | [],[]=>rfl
 | _ :: _,[]=>rfl
 | [],_ :: _=>rfl
theorem zjW {p f:Int} (hp:0 < p):∀ (cs vs:List Int),(∀ c∈cs,0≤c∧c < p)→∀ c∈ad p f cs vs,0≤c∧c < p
 | c :: cs,v :: vs,h,d,hd=>by
  rcases aE.mp hd with e | e
  ·rw [e]; exact⟨aK _ (by lia),aC _ hp⟩
  ·exact zjW hp cs vs (fun c hc=>h c (aw _ hc)) d e
 | [],[],h,d,hd=>h d hd
 | _ :: _,[],h,d,hd=>h d hd
 | [],_ :: _,h,d,hd=>by cases hd
theorem zhW {p f z:Int}:∀ (cs vs:List Int),vs.length≤cs.length→Cg p (zn p z (ad p f cs vs)) (zn p z cs+f*zn p z vs)
 | c :: cs,v :: vs,h=>by
  have ih:=zhW (p:=p) (f:=f) (z:=z) cs vs (by simpa using h)
  show Cg p (((c+f*v) % p+z*zn p z (ad p f cs vs)) % p) (zn p z (c :: cs)+f*zn p z (v :: vs))
  refine (Cg.emod p _).trans (((Cg.emod p (c+f*v)).add ((Cg.refl p z).mul ih)).trans ?_)
  have h2:Cg p ((c+z*zn p z cs)+f*(v+z*zn p z vs)) (zn p z (c :: cs)+f*zn p z (v :: vs)):=(zP p z c cs).symm.add ((Cg.refl p f).mul (zP p z v vs).symm)
  exact (Cg.of_eq (by grind)).trans h2
 | [],[],_=>Cg.of_eq (by show (0:Int)=0+f*0; grind)
 | c :: cs,[],_=>Cg.of_eq (by show zn p z (c :: cs)=zn p z (c :: cs)+f*0; grind)
 | [],_ :: _,h=>by simp at h
def zcj (p:Int) (s:List Int×List Int) (q:Int×Int):List Int×List Int :=
 (ad p ((q.2 - zn p q.1 s.1)*inv p (zn p q.1 s.2) % p) s.1 s.2,zci p q.1 s.2)
def znH (p:Int) (n:Nat) (kH:List (Int×Int)):List Int×List Int:=kH.foldl (zcj p) (aj n 0,[1])
def thr (p:Int) (kH:List (Int×Int)):List Int:=(znH p kH.length kH).1
def zck (z:Int):List (Int×Int)→Int
 | []=>1
 | q :: r=>(z - q.1)*zck z r
theorem zeg (z:Int) (q:Int×Int):∀ l,zck z (l++[q])=zck z l*(z - q.1)
 | []=>by show (z - q.1)*1=1*(z - q.1); grind
 | a :: l=>by show (z - a.1)*zck z (l++[q])=(z - a.1)*zck z l*(z - q.1); rw [zeg z q l]; grind
theorem zeh {z:Int}:∀ {l:List (Int×Int)},(∃ q∈l,q.1=z)→zck z l=0
 | [],h=>by obtain⟨q,hq,_⟩:=h; cases hq
 | a :: l,h=>by
  show (z - a.1)*zck z l=0
  obtain⟨q,hq,e⟩:=h
  rcases aE.mp hq with hq | hq
  ·subst hq; rw [e]; simp
  ·rw [zeh ⟨q,hq,e⟩]; simp
theorem zgc {p z:Int} (hp:p∈zm) (hz:0≤z) (BR:z < p):∀ {l:List (Int×Int)},(∀ q∈l,0≤q.1∧q.1 < p∧q.1≠z)→¬ Cg p (zck z l) 0
 | [],_,h=>by
  have hr:=zo hp
  have:=h.mod_eq
  have e1:(zck z []:Int)=1:=rfl
  rw [e1,bW (by lia) (by lia)] at this
  simp at this
 | a :: l,hl,h=>by
  rcases zdB hp (show Cg p ((z - a.1)*zck z l) 0 from h) with h | h
  ·obtain⟨h1,h2,h3⟩:=hl a aF
   have:Cg p z a.1:=by
    have:=h.add (Cg.refl p a.1)
    exact (Cg.of_eq (by grind)).trans (this.trans (Cg.of_eq (by grind)))
   exact h3 (this.eq hz BR h1 h2).symm
  ·exact zgc hp hz BR (fun q hq=>hl q (aw _ hq)) h
structure Nw (p:Int) (n:Nat) (done:List (Int×Int)) (s:List Int×List Int):Prop where
 lc:s.1.length=n
 lv:s.2.length=done.length+1
 rc:∀ c∈s.1,0≤c∧c < p
 rv:∀ c∈s.2,0≤c∧c < p
 van:∀ z,Cg p (zn p z s.2) (zck z done)
 hit:∀ q∈done,zn p q.1 s.1=q.2
theorem zgd {p:Int} (hp:p∈zm) (n:Nat):Nw p n [] (aj n 0,[1]):=by
 have hr:=zo hp
 refine⟨by simp,rfl,fun c hc=>?_,fun c hc=>?_,fun z=>?_,fun q hq=>by cases hq⟩
 ·obtain⟨_,e⟩:=List.mem_replicate.mp hc
  lia
 ·have:c=1:=by simpa using hc
  lia
 ·show Cg p ((1+z*0) % p) 1
  exact (Cg.emod p _).trans (Cg.of_eq (by grind))
theorem zhX {p:Int} {n:Nat} {done:List (Int×Int)} {s:List Int×List Int} (hp:p∈zm) (h:Nw p n done s) {q:Int×Int} (q0:0≤q.1) (q1:q.1 < p) (hd:∀ a∈done,0≤a.1∧a.1 < p∧a.1≠q.1) :
  0 < zn p q.1 s.2∧zn p q.1 s.2 < p:=by
 have hr:=zo hp
 refine⟨?_,zat (by lia) _⟩
 have h0:=zas (x:=q.1) (show 0 < p by lia) s.2
 by_cases e:zn p q.1 s.2=0
 ·exact absurd ((h.van q.1).symm.trans (Cg.of_eq e)) (zgc hp q0 q1 hd)
 ·lia
theorem ziV {p:Int} {n:Nat} {done:List (Int×Int)} {s:List Int×List Int} (hp:p∈zm) (h:Nw p n done s) {q:Int×Int} (q0:0≤q.1) (q1:q.1 < p) (hd:∀ a∈done,0≤a.1∧a.1 < p∧a.1≠q.1) :
  Cg p ((q.2 - zn p q.1 s.1)*inv p (zn p q.1 s.2) % p*zn p q.1 s.2) (q.2 - zn p q.1 s.1):=by
 obtain⟨h0,h1⟩:=zhX hp h q0 q1 hd
 have hi:=zef hp h0 h1
 refine ((Cg.emod p _).mul (Cg.refl p _)).trans ?_
 have:=(Cg.refl p (q.2 - zn p q.1 s.1)).mul hi
 exact (Cg.of_eq (by grind)).trans (this.trans (Cg.of_eq (by grind)))
theorem zhY {p:Int} {n:Nat} {done:List (Int×Int)} {s:List Int×List Int} (hp:p∈zm) (h:Nw p n done s) {q:Int×Int} (hn:done.length < n) (q0:0≤q.1) (q1:q.1 < p) (q2:0≤q.2) (q3:q.2 < p)
  (hd:∀ a∈done,0≤a.1∧a.1 < p∧a.1≠q.1∧0≤a.2∧a.2 < p):Nw p n (done++[q]) (zcj p s q):=by
 have hr:=zo hp
 have xK:∀ a∈done,0≤a.1∧a.1 < p∧a.1≠q.1:=fun a ha=>⟨(hd a ha).1,(hd a ha).2.1,(hd a ha).2.2.1⟩
 have hlv:=h.lv
 have yM:=h.lc
 have hle:s.2.length≤s.1.length:=by lia
 refine⟨by show (ad _ _ _ _).length=n; rw [zfb,h.lc],by show (zci _ _ _).length=_; rw [zdl,h.lv,ar,fQ],zjW (by lia) _ _ h.rc,zjV (by lia) _,fun z=>?_,fun a ha=>?_⟩
 ·rw [zeg]
  exact (zhV s.2).trans (((Cg.refl p _).mul (h.van z)).trans (Cg.of_eq (by grind)))
 ·have hv:=zhW (p:=p) (f:=(q.2 - zn p q.1 s.1)*inv p (zn p q.1 s.2) % p) (z:=a.1) s.1 s.2 hle; rcases aP.mp ha with ha | ha
  ·obtain⟨b0,b1,b2,b3,b4⟩:=hd a ha
   have hz:Cg p (zn p a.1 s.2) 0:=(h.van a.1).trans (Cg.of_eq (zeh ⟨a,ha,rfl⟩))
   have h2:Cg p (zn p a.1 (ad p ((q.2 - zn p q.1 s.1)*inv p (zn p q.1 s.2) % p) s.1 s.2)) (zn p a.1 s.1):=hv.trans (((Cg.refl p (zn p a.1 s.1)).add ((Cg.refl p _).mul hz)).trans (Cg.of_eq (by rw [bV,Int.add_zero])))
   rw [h.hit a ha] at h2
   exact h2.eq (zas (by lia) _) (zat (by lia) _) b3 b4
  ·have e:a=q:=by simpa using ha
   subst e
   have h2:Cg p (zn p a.1 (ad p ((a.2 - zn p a.1 s.1)*inv p (zn p a.1 s.2) % p) s.1 s.2)) a.2:=hv.trans (((Cg.refl p (zn p a.1 s.1)).add (ziV hp h q0 q1 xK)).trans (Cg.of_eq (by lia)))
   exact h2.eq (zas (by lia) _) (zat (by lia) _) q2 q3
structure Pts (p:Int) (kH:List (Int×Int)):Prop where
 nd:(kH.map (·.1)).Nodup
 rg:∀ q∈kH,0≤q.1∧q.1 < p∧0≤q.2∧q.2 < p
theorem Pts.apart {p:Int} {done rest:List (Int×Int)} {q:Int×Int} (h:Pts p (done++q :: rest)):∀ a∈done,0≤a.1∧a.1 < p∧a.1≠q.1∧0≤a.2∧a.2 < p:=fun a ha=>by
 obtain⟨r1,r2,r3,r4⟩:=h.rg a (aQ _ ha)
 refine⟨r1,r2,fun e=>?_,r3,r4⟩
 have nd:=h.nd
 rw [aA,dk] at nd
 exact nd.2.2 a.1 (aB.mpr ⟨a,ha,rfl⟩) q.1 (by simp) e
theorem zjX {p:Int} (hp:p∈zm) {n:Nat}:∀ (rest done:List (Int×Int)) (s:List Int×List Int),Pts p (done++rest)→(done++rest).length=n→Nw p n done s→Nw p n (done++rest) (rest.foldl (zcj p) s)
 | [],done,s,_,_,h=>by rw [bw]; exact h
 | q :: rest,done,s,hP,hn,h=>by
  have xM:done.length < n:=by rw [← hn]; simp
  obtain⟨a,b,c,d⟩:=hP.rg q (by simp)
  have hs:=zhY hp h (q:=q) xM a b c d hP.apart
  have e:done++q :: rest=(done++[q])++rest:=by simp
  rw [e] at hP hn ⊢
  exact zjX hp rest (done++[q]) _ hP hn hs
theorem zei {p:Int} (hp:p∈zm) {kH:List (Int×Int)} (hP:Pts p kH):(thr p kH).length=kH.length∧(∀ c∈thr p kH,0≤c∧c < p)∧∀ q∈kH,zn p q.1 (thr p kH)=q.2:=by
 have h:=zjX hp (n:=kH.length) kH [] _ (by simpa using hP) (by simp) (zgd hp kH.length)
 exact⟨h.lc,h.rc,h.hit⟩
end My
end
section
namespace My
open PySem L2 PyProof.Rows
section
variable {K:ah}
theorem zjY {ns:List Int} {k:Int} (h0:0≤k) (h1:k < ns.length):∃ c:Int,ns[k.toNat]? = some c∧atI (ns.map V.int) k=some (.int c):=by
 have lp:k.toNat < ns.length:=by lia
 have e:atI (ns.map V.int) ((k.toNat:Nat):Int)=some (.int ns[k.toNat]):=zag (by simp [ag,am lp])
 have hk:((k.toNat:Nat):Int)=k:=by lia
 rw [hk] at e
 exact⟨ns[k.toNat],by simp,e⟩
theorem zc0 {ns:List Int} {k:Int} (h0:0≤k) (h1:k < ns.length):∃ c:Int,atI (ns.map V.int) k=some (.int c):=let ⟨c,_,e⟩:=zjY h0 h1; ⟨c,e⟩
theorem zc {H:Hp} {a:Addr} {o:HO} (h:H a=none):zu H (kL H a o):=fun b u e=>by rw [zq (zJ e h)]; exact e
theorem z0 {H H':Hp} {a:Addr} {o:HO} (s:zu H H') (h:H a=none):zu H (kL H' a o):=fun b u e=>by rw [zq (zJ e h)]; exact s b u e
theorem zaB {n:Nat} (h:n≤10000):n < sizeLine:=by rw [a7]; lia
def ziW (K:ah):Sp:=fun vs H Q _=>∃ (a:Addr) (ns:List Int) (k:Int),vs = [.ref a,.int k]∧kG K H a (ns.map V.int)∧ns.length≤63∧0≤k∧k≤1000∧∀ c:Int,Q (.int c) H
def zhZ (many:Nat) (base:Int) (ds:List Int):Prop:=ds.length=many∧∀ d∈ds,0≤d∧d < base
def zhf (K:ah):Sp:=fun vs H Q _=>∃ (a:Addr) (ns:List Int) (k many base:Int),vs = [.ref a,.int k,.int many,.int base]∧kG K H a (ns.map V.int)∧ns.length≤63∧0≤k∧k≤1000∧0≤many∧many≤1000∧0 < base∧base < 1073741824 ∧
 ∀ (l:Addr) (ds:List Int) (H':Hp),H l=none→zu H H'→zhZ many.toNat base ds→H' l=some (.lst (ds.map V.int))→Q (.ref l) H'
abbrev zlf:List V:=[.int 2147483647,.int 2147483629,.int 2147483587,.int 2147483579,.int 2147483563,.int 2147483549,.int 2147483543,.int 2147483497]
theorem zlg {m:Int} (h0:0≤m) (h1:m < 8):∃ q:Int,atI zlf m=some (.int q)∧0 < q∧q < 2147483648:=by
 have:m=0∨m=1∨m=2∨m=3∨m=4∨m=5∨m=6∨m=7:=by lia
 rcases this with e | e | e | e | e | e | e | e <;> subst e <;> exact⟨_,rfl,by decide,by decide⟩
theorem zej (j:Int):∃ q:Int,atI zlf (j % 8)=some (.int q)∧0 < q∧q < 2147483648:=zlg (aK _ (by decide)) (aC _ (by decide))
theorem gY {i:Nat} {x:V} {σ:L2.St} {H:Hp} {A B:L2.St→Hp→Prop} (h:A (σ.set i (some x)) H):za0 i x σ H (fun σ2 H2=>zmL σ2 H2 fun b H3=>if b=true then A σ2 H3 else B σ2 H3):=by
 show (if true=true then A (σ.set i (some x)) H else B (σ.set i (some x)) H)
 rw [if_pos rfl]
 exact h
structure CodeOk (mk mn p k:Int) (pl:List Int):Prop where
 pr:p∈zm
 k1:1≤k
 kk:k≤mk
 kl:k≤pl.length
 ln:(pl.length:Int)≤mn
 nd:pl.Nodup
 rg:∀ x∈pl,0≤x∧x < p
def ziX (K:ah):Sp:=fun vs H Q _=>∃ (a:Addr) (ns:List Int) (at' mk mn:Int),vs = [.ref a,.int at',.int mk,.int mn]∧kG K H a (ns.map V.int)∧ns.length≤63∧0≤at'∧at'≤1000∧1≤mk∧mk≤5∧mk≤mn∧mn≤16 ∧
 ∀ (c tt:Addr) (p k:Int) (pl:List Int) (H':Hp),H c=none→zu H H'→CodeOk mk mn p k pl→H' c=some (.tup [.int p,.int k,.ref tt])→H' tt=some (.tup (pl.map V.int))→Q (.ref c) H'
theorem zmU {x y m:Int} (h0:0≤m) (h1:m < 2):∃ z:Int,atI [V.int x,V.int y] m=some (.int z)∧(z=x∨z=y):=by
 have:m=0∨m=1:=by lia
 rcases this with e | e <;> subst e
 ·exact⟨x,rfl,.inl rfl⟩
 ·exact⟨y,rfl,.inr rfl⟩
theorem zjZ {ns:List Int} {k:Int} (h0:0≤k) (h1:k < ns.length):∃ c:Int,c∈ns∧atI (ns.map V.int) k=some (.int c):=by
 obtain⟨c,e,h⟩:=zjY h0 h1
 exact⟨c,ap e,h⟩
theorem zfc {α β:Type} (f:α→β):∀ (l:List α) (k:Nat),(l.map f).eraseIdx k=(l.eraseIdx k).map f
 | [],_=>rfl
 | _ :: _,0=>rfl
 | a :: l,k+1=>by show f a :: (l.map f).eraseIdx k=f a :: (l.eraseIdx k).map f; rw [zfc f l k]
theorem zek {α:Type}:∀ {l:List α} {k:Nat} {x:α},l[k]? = some x→(x :: l.eraseIdx k).Perm l
 | [],_,_,h=>by simp at h
 | a :: l,0,x,h=>by
  have e:a=x:=by simpa using h
  subst e
  exact List.Perm.refl _
 | a :: l,k+1,x,h=>by
  have ih:=zek (l:=l) (k:=k) (x:=x) (by simpa using h)
  exact (List.Perm.swap a x _).trans (ih.cons a)
theorem zlh {p:Int} {xs ls:List Int} {k:Nat} {x:Int} (h:ls[k]? = some x) (nd:(xs++ls).Nodup) (rg:∀ y∈xs++ls,0≤y∧y < p):((xs++[x])++ls.eraseIdx k).Nodup∧∀ y∈(xs++[x])++ls.eraseIdx k,0≤y∧y < p:=by
 have hp:((xs++[x])++ls.eraseIdx k).Perm (xs++ls):=by
  rw [aV]
  exact (zek h).append_left xs
 exact⟨hp.nodup_iff.mpr nd,fun y hy=>rg y (hp.mem_iff.mp hy)⟩
theorem ziY (p:Int):(zaw 0 p.toNat).Nodup∧∀ y∈zaw 0 p.toNat,0≤y∧y < p:=by
 unfold zaw
 constructor
 ·rw [eR,cr]
  exact (eR.mp (dv (n:=p.toNat))).imp fun {a b} rh=>by lia
 ·intro y hy
  obtain⟨i,hi,e⟩:=aB.mp hy
  have:=bm.mp hi
  lia
def zdC (K:ah):Sp:=fun vs H Q _=>∃ (p x:Int) (a:Addr) (cs:List Int),vs = [.int p,.ref a,.int x]∧(kG K H a (cs.map V.int)∨kP K H a (cs.map V.int))∧0 < p∧p≤97∧0≤x∧x < p∧Q (.int (zn p x cs)) H
def zhg (K:ah):Sp:=zdC K
theorem zfd {cs:List Int} {i:Nat} {c:Int} (hi:i < cs.length) (h:cs[cs.length - 1 - i]? = some c):cs.drop (cs.length - (i+1))=c :: cs.drop (cs.length - i):=by
 have e:cs.length - (i+1)=cs.length - 1 - i:=by lia
 have lp:cs.length - 1 - i < cs.length:=by lia
 rw [e,cw lp]
 have:cs[cs.length - 1 - i]=c:=by
  rw [am lp] at h
  exact aR h
 rw [this]
 congr 2
 lia
theorem zae {cs:List Int} {j:Nat} {x:V} (h:(cs.map V.int)[j]? = some x):∃ c,x = .int c∧cs[j]? = some c:=by
 rw [ag] at h
 cases e:cs[j]? with
 | none=>rw [e] at h; cases h
 | some c=>rw [e] at h; exact⟨c,(aR h).symm,rfl⟩
def zhh (K:ah):Sp:=fun vs H Q _=>∃ i:Int,vs = [.int i]∧Q (.bl true) H
theorem zh0 {p x kS power c:Int} {cs:List Int} {i:Nat} (h:cs[i]? = some c):lv p x kS power (cs.drop i)=lv p x ((kS+c*power) % p) (power*x % p) (cs.drop (i+1)):=by
 obtain⟨lp,e⟩:=ak.mp h
 rw [cw lp,e]
 rfl
def zhi (K:ah):Sp:=fun vs H Q _=>∃ (p h:Int),vs = [.int p,.int h]∧p∈zm∧0≤h∧h < p∧Q (.int (inv p h)) H
def zmV (σ:L2.St):Nat:=match (σ[4]?:Option (Option V)) with
 | some (some (V.int l))=>l.toNat
 | _=>0
theorem zfA {p prod sq left:Int} {n:Nat} (h0:0 < left) (h1:left < 2 ^ (n+1)):zcr p (n+1) prod sq left=zcr p n (if left % 2=1 then prod*sq % p else prod) (sq*sq % p) (left / 2):=by
 show (if 0 < left then _ else _)=_
 rw [if_pos h0]
theorem zge {p prod sq:Int}:∀ n,zcr p n prod sq 0=prod
 | 0=>rfl
 | n+1=>by show (if (0:Int) < 0 then _ else prod)=prod; rw [if_neg (by decide)]
theorem gY2 {K:ah} {i j:Nat} {T:Addr} {x y:V} {σ:L2.St} {H:Hp} {A B:L2.St→Hp→Prop} (hT:kP K H T [x,y]) (h:A ((σ.set i (some x)).set j (some y)) H) :
  zg0 K 2 (zcG (za0 i) (zcG (za0 j) ziH)) (.ref T) σ H (fun σ2 H2=>zmL σ2 H2 fun b H3=>if b=true then A σ2 H3 else B σ2 H3):=by
 refine⟨T,_,rfl,hT,rfl,x,_,rfl,y,_,rfl,rfl,?_⟩
 show (if true=true then A ((σ.set i (some x)).set j (some y)) H else B ((σ.set i (some x)).set j (some y)) H)
 rw [if_pos rfl]
 exact h
theorem zgf {f:Int→Int→Int} {as bs:List Int} {i:Nat} {x y:Int} (hx:as[i]? = some x) (hy:bs[i]? = some y):(aT f as bs).take (i+1)=(aT f as bs).take i++[f x y]:=by
 have e:(aT f as bs)[i]? = some (f x y):=by rw [iN,hx,hy]
 rw [jG,e,kw]
def zeQ (K:ah):Sp:=fun vs H Q _=>∃ (p r:Int) (a:Addr) (cs:List Int),vs = [.int p,.ref a,.int r]∧H a=some (.lst (cs.map V.int))∧cs.length≤1000∧0 < p∧0≤r∧r≤97 ∧
 ∀ (l:Addr) (H':Hp),H l=none→zu H H'→H' l=some (.lst ((zci p r cs).map V.int))→Q (.ref l) H'
def zj0 (K:ah) (H:Hp) (a:Addr) (kH:List (Int×Int)):Prop:=∃ bs:List Addr,kG K H a (bs.map V.ref)∧bs.length=kH.length∧∀ (i:Nat) (b:Addr) (q:Int×Int),bs[i]? = some b→kH[i]? = some q→H b=some (.tup [.int q.1,.int q.2])
theorem zc1 (n:Nat):(aj n [V.int 0]).flatten=(aj n (0:Int)).map V.int:=by
 induction n with
 | zero=>rfl
 | succ n ih=>rw [cu,eC,ih,cu]; rfl
theorem zbY {n j:Nat} (h:j < n):ixN n (j:Int)=some j:=by
 unfold ixN
 rw [if_pos (by lia),if_pos (by lia)]
 rfl
theorem zQ {bs:List Addr} {i:Nat} {x:V} (h:(bs.map V.ref)[i]? = some x):∃ b,x = .ref b∧bs[i]? = some b:=by
 rw [ag] at h
 cases e:bs[i]? with
 | none=>rw [e] at h; cases h
 | some b=>rw [e] at h; exact⟨b,(aR h).symm,rfl⟩
theorem take_snoc {α:Type} {l:List α} {i:Nat} {x:α} (h:l[i]? = some x):l.take (i+1)=l.take i++[x]:=by
 rw [jG,h,kw]
theorem zel {α:Type} {l:List α} {i:Nat} {x:α} (h:l[i]? = some x):l=l.take i++x :: l.drop (i+1):=by
 obtain⟨hi,e⟩:=ak.mp h; have:=cb i l
 rw [cw hi,e] at this
 exact this.symm
theorem zj1 {f:Int→Int→Int} {as bs:List Int} {n:Nat} (h1:n≤as.length) (h2:n≤bs.length) (h3:as.length≤n∨bs.length≤n):(aT f as bs).length=n:=by
 rw [d8]
 lia
theorem zdm {a b:Addr} {as bs:List Int} {n:Nat} {f:Int→Int→Int} {g:TG} {ts:TT} {te:TE} {σ0:L2.St} {Q:VK} {H:Hp} (ha:H a=some (.lst (as.map V.int))) (hb:H b=some (.lst (bs.map V.int))) (h1:n≤as.length) (h2:n≤bs.length) (h3:as.length≤n∨bs.length≤n) (hn:n≤10000)
  (hs:∀ (i:Nat) (x y:Int) (H1:Hp) (T:Addr) (R:VK) (B:L2.St→Hp→Prop),as[i]? = some x→bs[i]? = some y→zu H H1→H1 T=none→R (.int (f x y)) (kL H1 T (.tup [.int x,.int y]))→g (.ref T) σ0 (kL H1 T (.tup [.int x,.int y])) fun σ2 H2=>ts σ2 H2 fun b H3=>if b=true then te σ2 H3 R else B σ2 H3)
  (hd:∀ D H1,zu H H1→H1 D=none→Q (.ref D) (kL H1 D (.lst ((aT f as bs).map V.int)))):cGo g ts te σ0 (ziQ (kG K) (kG K) a b) Q H:=by
 have hl:=zj1 (f:=f) h1 h2 h3
 refine zY (n:=n) (fun i ys H'=>ys=((aT f as bs).take i).map V.int∧zu H H') ⟨by simp,fun _ _ e=>e⟩ ?_ ?_ ?_ ?_
 ·rintro i ys H3 hi ⟨_,s3⟩
  obtain⟨x,hx⟩:∃ x,as[i]? = some x:=⟨as[i]'(by lia),by simp⟩
  obtain⟨y,hy⟩:∃ y,bs[i]? = some y:=⟨bs[i]'(by lia),by simp⟩
  exact⟨_,_,.int x,.int y,kG.of (s3 _ _ ha),kG.of (s3 _ _ hb),by rw [ag,hx]; rfl,by rw [ag,hy]; rfl⟩
 ·rintro ys H3 ⟨_,s3⟩
  exact⟨_,_,kG.of (s3 _ _ ha),kG.of (s3 _ _ hb),by rw [ab,ab]; exact h3⟩
 ·rintro i x ys H3 H4 hi ⟨rfl,s3⟩ ⟨T,u,v,hT,rfl,rfl,hu,hv⟩
  obtain⟨x,rfl,hx⟩:=zae (hu _ (kG.of (s3 _ _ ha)))
  obtain⟨y,rfl,hy⟩:=zae (hv _ (kG.of (s3 _ _ hb)))
  refine hs i x y H3 T _ _ hx hy s3 hT ⟨zaB ?_,?_,s3.trans (zc hT)⟩
  ·rw [ab]
   exact be (eV _ _) (by lia)
  ·rw [zgf hx hy,aA]
   rfl
 ·rintro ys H3 D ⟨rfl,s3⟩ hD
  rw [aO (by lia)]
  exact hd D H3 s3 hD
theorem zcs {a:Addr} {xs fs:List V} {g:TG} {ts:TT} {te:TE} {σ0:L2.St} {Q:VK} {H:Hp} (ha:kG K H a xs) (hl:fs.length=xs.length) (hn:xs.length≤10000)
  (hs:∀ (i:Nat) (x y:V) (R:VK) (B:L2.St→Hp→Prop),xs[i]? = some x→fs[i]? = some y→R y H→g x σ0 H fun σ2 H2=>ts σ2 H2 fun b H3=>if b=true then te σ2 H3 R else B σ2 H3)
  (hd:∀ D,H D=none→Q (.ref D) (kL H D (.lst fs))):cGo g ts te σ0 (Itl K a) Q H:=by
 refine zY (n:=xs.length) (fun i ys H'=>ys=fs.take i∧H'=H) ⟨by simp,rfl⟩ ?_ ?_ ?_ ?_
 ·rintro i ys H3 hi ⟨_,rfl⟩
  exact⟨_,xs[i],ha,by simp⟩
 ·rintro ys H3 ⟨_,rfl⟩
  exact⟨_,ha,af _⟩
 ·rintro i x ys H3 H4 hi ⟨rfl,rfl⟩ ⟨rfl,hx⟩
  have hy:fs[i]? = some fs[i]:=by simp
  refine hs i x fs[i] _ _ (hx _ ha) hy ⟨zaB (be (eV _ _) (by lia)),?_,rfl⟩
  rw [take_snoc hy]
 ·rintro ys H3 D ⟨rfl,rfl⟩ hD
  rw [aO (by lia)]
  exact hd D hD
theorem ziZ {a:Addr} {xs fs:List V} {g:TG} {ts:TT} {te:TE} {σ0:L2.St} {Q:VK} {H:Hp} (ha:kP K H a xs) (hl:fs.length=xs.length) (hn:xs.length≤10000)
  (hs:∀ (i:Nat) (x y:V) (R:VK) (B:L2.St→Hp→Prop),xs[i]? = some x→fs[i]? = some y→R y H→g x σ0 H fun σ2 H2=>ts σ2 H2 fun b H3=>if b=true then te σ2 H3 R else B σ2 H3)
  (hd:∀ D,H D=none→Q (.ref D) (kL H D (.lst fs))):cGo g ts te σ0 (Itt K a) Q H:=by
 refine zY (n:=xs.length) (fun i ys H'=>ys=fs.take i∧H'=H) ⟨by simp,rfl⟩ ?_ ?_ ?_ ?_
 ·rintro i ys H3 hi ⟨_,rfl⟩
  exact⟨_,xs[i],ha,by simp⟩
 ·rintro ys H3 ⟨_,rfl⟩
  exact⟨_,ha,af _⟩
 ·rintro i x ys H3 H4 hi ⟨rfl,rfl⟩ ⟨rfl,hx⟩
  have hy:fs[i]? = some fs[i]:=by simp
  refine hs i x fs[i] _ _ (hx _ ha) hy ⟨zaB (be (eV _ _) (by lia)),?_,rfl⟩
  rw [take_snoc hy]
 ·rintro ys H3 D ⟨rfl,rfl⟩ hD
  rw [aO (by lia)]
  exact hd D hD
theorem zj2 (ds:List Int) (lo hi:Option Int):∃ ms:List Int,za2 (ds.map V.int) lo hi=ms.map V.int∧ms.length≤ds.length:=by
 refine⟨(ds.drop (HT.sIx (ds.map V.int).length 0 lo)).take (HT.sIx (ds.map V.int).length (ds.map V.int).length hi - HT.sIx (ds.map V.int).length 0 lo),?_,?_⟩
 ·unfold za2; rw [fI,fJ]
 ·rw [aJ,bS]
  lia
theorem zgg {ms:List Int} {f:Int→V} {i:Nat} {x y:V} (hx:(ms.map V.int)[i]? = some x) (hy:(ms.map f)[i]? = some y):∃ c,ms[i]? = some c∧x = .int c∧y=f c:=by
 obtain⟨c,rfl,hc⟩:=zae hx
 rw [ag,hc] at hy
 exact⟨c,hc,rfl,(aR hy).symm⟩
def zfB (K:ah):Sp:=fun vs H Q _=>∃ (a:Addr) (ns:List Int),vs = [.ref a]∧kG K H a (ns.map V.int)∧ns.length≤63∧∀ H',Q (.bl true) H'
end
end My
end
section
namespace PySem
abbrev IsZ (h:Heap) (z TI TO:Addr) (f0 f1:Value):Prop:=h.get? z=some { cls:=.type "zip",dict:=none,data:=.fields #[f0,f1,.bool false,.ref TI,.ref TO],slots:=#[] }
def ZF (f0 f1:Value):Prop:=(f0 = .none∨∃ a t,f0 = .int a t)∧∃ b,f1 = .bool b
structure Zap (z TI TO i1 i2:Addr) (pE pF:List Addr):Prop where
 zTI:TI≠z
 zTO:TO≠z
 z1:i1≠z
 z2:i2≠z
 TT:TI≠TO
 T1:TI≠i1
 T2:TI≠i2
 O1:TO≠i1
 O2:TO≠i2
 ii:i1≠i2
 a1:z∉pE
 a2:TO∉pE
 a3:i2∉pE
 b1:z∉pF
 b2:TO∉pF
 b3:i1∉pF
section
variable {prog:Program} {w:World} {A:Around} {E:Value→Shared→Prop} {s:Shared}
theorem zi0 {a:Addr} {Q:Option Obj→Shared→Prop} (h:Q (s.heap.get? a) s):wpAny (model prog w) A (loadIfAlive a) Q E s:=fun _ _ _=>h
theorem zj3 {z TI TO:Addr} {f0 f1:Value} {Q:Bool→Shared→Prop} (hz:IsZ s.heap z TI TO f0 f1) (hf:ZF f0 f1) (h1:Q true s)
  (h2:∀ h',IsZ h' z TI TO f0 (.bool true)→bj z s.heap h'→Q false { s with heap:=h' }):wpAny (model prog w) A (bQ (.ref z)) Q E s:=by
 obtain⟨hf,b,rfl⟩:=hf
 unfold bQ; rcases hf with rfl | ⟨a,t,rfl⟩
 ·exact ae (bp hz rfl (x:=.none) rfl (ao h1))
 ·refine ae (bp hz rfl (x:=.int a t) rfl ?_)
  refine ae (zi0 ?_)
  cases s.heap.get? a.toNat with
  | none=>exact ao h1
  | some o =>
   refine ae (bp hz rfl (x:=.bool b) rfl ?_)
   cases b with
   | true=>exact ao (h2 s.heap hz ⟨rfl,fun _ _=>rfl⟩)
   | false=>exact ae (bJ hz (by simp) fun h' a' b'=>ao (h2 h' a' b'))
theorem zh1 {z TI TO i1 i2:Addr} {pE pF:List Addr} {n1 n2 k1 k2:Nat} {P1 P2:Nat→Value→Prop} {S1 S2:Nat→Heap→Prop} {f0 f1 a b:Value} {Q:Value→Shared→Prop} (D1:Draws prog w A i1 pE n1 P1 S1) (D2:Draws prog w A i2 pF n2 P2 S2) (Z:Zap z TI TO i1 i2 pE pF)
  (hz:IsZ s.heap z TI TO f0 f1) (hf:ZF f0 f1) (sy:IsPair s.heap TI (.ref i1) (.ref i2)) (tD:IsPair s.heap TO a b) (mJ:S1 k1 s.heap) (lB:S2 k2 s.heap) (l1:k1 < n1) (l2:k2 < n2)
  (hQ:∀ x y h' tk g0 g1 a' b',P1 k1 x→P2 k2 y→IsZ h' z TI TO g0 g1→ZF g0 g1→IsPair h' TI (.ref i1) (.ref i2)→IsPair h' TO a' b'→S1 (k1+1) h'→S2 (k2+1) h'→IsPair h' s.heap.objs.size x y→h'.objs.size=s.heap.objs.size+1 →
   (∀ c o,c≠z→c≠TO→c≠i1→c≠i2→s.heap.get? c=some o→h'.get? c=some o)→Q (.ref s.heap.objs.size) { s with heap:=h',toks:=tk }):wpAny (model prog w) A (Builtin.«zip.__next__» ⟨[.ref z],[]⟩) (fun fin s'=>∃ v,fin = .done (.ret v)∧Q v s') E s:=by
 obtain⟨hp,g,d,BS,os⟩:=s
 show wpAny _ _ (field (.ref z) 2 >>= _) _ _ _; refine ae (bp hz rfl (x:=.bool false) rfl ?_); show wpAny _ _ (field (.ref z) 3 >>= _) _ _ _
 refine ae (bp hz rfl (x:=.ref TI) rfl ?_); refine ae (du sy rfl ?_)
 show wpAny _ _ (bQ (.ref z) >>= _) _ _ _; refine ae (zj3 hz hf ?_ fun h0 hz0 r6=>?_)
 ·simp only [if_true]
  refine ae (b8 (ae (bp hz rfl (x:=.ref TO) rfl ?_)))
  refine ae (bJ hz (by simp) fun ha vV qz=>?_)
  replace vV:IsZ ha z TI TO .ellipsis f1:=vV
  replace qz:bj z hp ha:=qz
  refine ae ?_
  simp only [jX,j9,ek,gf]; refine ae (ae (gF ?_)); show wpAny _ _ (ba (.ref i1) >>= _) _ _ _
  refine ae (D1.item k1 _ _ _ l1 (D1.frame _ _ _ mJ fun c hc o e=>qz.extBut c o (fun q=>Z.a1 (q ▸ hc)) e) fun x hb yN px yO mi=>ao ?_)
  replace mi:bj i1 ha hb:=mi
  have tT:IsPair hb TO a b:=mi.extBut _ _ Z.O1 (qz.extBut _ _ Z.zTO tD)
  refine ae (du tT rfl (ae (fV tT fun hc vd sC=>?_)))
  replace vd:IsPair hc TO x b:=vd
  replace sC:bj TO hb hc:=sC
  refine ae (iH (ao (ae (ae (gF ?_))))); show wpAny _ _ (ba (.ref i2) >>= _) _ _ _
  refine ae (D2.item k2 _ _ _ l2 (D2.frame _ _ _ lB fun c ow o e=>sC.extBut c o (fun q=>Z.b2 (q ▸ ow)) (mi.extBut c o (fun q=>Z.b3 (q ▸ ow)) (qz.extBut c o (fun q=>Z.b1 (q ▸ ow)) e))) fun y hd C7 py C8 pV=>ao ?_)
  replace pV:bj i2 hc hd:=pV
  have ve:IsPair hd TO x b:=pV.extBut _ _ Z.O2 vd
  refine ae (du ve rfl (ae (fV ve fun he vf wK=>?_)))
  replace vf:IsPair he TO x y:=vf
  replace wK:bj TO hd he:=wK
  refine ae (iH (ao (ao ?_))); refine ae (du vf rfl (ae (gg ?_)))
  have hsz:he.objs.size=hp.objs.size:=by rw [wK.1,pV.1,sC.1,mi.1,qz.1]
  have hze:IsZ he z TI TO .ellipsis f1:=wK.extBut _ _ Z.zTO.symm (pV.extBut _ _ Z.z2.symm (sC.extBut _ _ Z.zTO.symm (mi.extBut _ _ Z.z1.symm vV)))
  have kk:∀ c o,c≠z→c≠TO→c≠i1→c≠i2→hp.get? c=some o→he.get? c=some o:=fun c o c1 c2 c3 c4 e=>wK.extBut _ _ c2 (pV.extBut _ _ c4 (sC.extBut _ _ c2 (mi.extBut _ _ c3 (qz.extBut _ _ c1 e))))
  have C9:S1 (k1+1) he:=D1.frame _ _ _ yO fun c ow o e=>wK.extBut c o (fun q=>Z.a2 (q ▸ ow)) (pV.extBut c o (fun q=>Z.a3 (q ▸ ow)) (sC.extBut c o (fun q=>Z.a2 (q ▸ ow)) e))
  have C':S2 (k2+1) he:=D2.frame _ _ _ C8 fun c ow o e=>wK.extBut c o (fun q=>Z.b2 (q ▸ ow)) e
  have zlt:z < he.objs.size:=aG hze
  show wpAny _ _ (cE (.ref z) (.ref he.objs.size) >>= _) _ _ _
  refine ae ?_
  unfold cE; have vg:IsZ (he.push { cls:=.type "tuple",data:=.seq #[x,y] }) z TI TO .ellipsis f1:=ai _ hze
  refine ae (bJ vg (by simp) fun h7 Dc vW=>?_)
  replace Dc:IsZ h7 z TI TO (rawInt he.objs.size) f1:=Dc
  refine bJ Dc (by simp) fun h8 BU Dd=>ao ⟨_,rfl,?_⟩
  replace BU:IsZ h8 z TI TO (rawInt he.objs.size) (.bool false):=BU
  have up:∀ c o,c≠z→he.get? c=some o→h8.get? c=some o:=fun c o c1 e=>Dd.extBut _ _ c1 (vW.extBut _ _ c1 (ai _ e))
  have yP:IsPair h8 he.objs.size x y:=Dd.extBut _ _ (fe zlt) (vW.extBut _ _ (fe zlt) (aI _ rfl))
  have tU:h8.objs.size=he.objs.size+1:=by rw [Dd.1,vW.1,bI]
  show Q (.ref he.objs.size) _
  rw [hsz] at BU yP tU ⊢
  exact hQ x y h8 C7 _ _ _ _ px py BU ⟨.inr ⟨_,_,rfl⟩,_,rfl⟩ (up _ _ Z.zTI (kk _ _ Z.zTI Z.TT Z.T1 Z.T2 sy)) (up _ _ Z.zTO vf) (D1.frame _ _ _ C9 fun c ow o e=>up c o (fun q=>Z.a1 (q ▸ ow)) e) (D2.frame _ _ _ C' fun c ow o e=>up c o (fun q=>Z.b1 (q ▸ ow)) e) yP tU fun c o c1 c2 c3 c4 e=>up c o c1 (kk c o c1 c2 c3 c4 e)
 ·simp only [bn,if_false]; replace r6:bj z hp h0:=r6
  rw [show (#[aY i1,aY i2]:Array Value) = [aY i1,aY i2].toArray from rfl]
  simp only [jx,ek,gf]
  refine ae (ae (ae (b9 ?_))); show wpAny _ _ (ba (.ref i1) >>= _) _ _ _
  refine ae (D1.item k1 _ _ _ l1 (D1.frame _ _ _ mJ fun c hc o e=>r6.extBut c o (fun q=>Z.a1 (q ▸ hc)) e) fun x hb yN px yO mi=>ao (ao ?_))
  replace mi:bj i1 h0 hb:=mi
  refine ae (ae (b9 ?_)); show wpAny _ _ (ba (.ref i2) >>= _) _ _ _
  refine ae (D2.item k2 _ _ _ l2 (D2.frame _ _ _ lB fun c ow o e=>mi.extBut c o (fun q=>Z.b3 (q ▸ ow)) (r6.extBut c o (fun q=>Z.b1 (q ▸ ow)) e)) fun y hd C7 py C8 pV=>ao (ao (ao ?_)))
  replace pV:bj i2 hb hd:=pV
  show wpAny _ _ (newTuple [x,y] >>= _) _ _ _
  refine ae (gg (ao ⟨_,rfl,?_⟩))
  have hsz:hd.objs.size=hp.objs.size:=by rw [pV.1,mi.1,r6.1]
  have kk:∀ c o,c≠z→c≠TO→c≠i1→c≠i2→hp.get? c=some o→hd.get? c=some o:=fun c o c1 c2 c3 c4 e=>pV.extBut _ _ c4 (mi.extBut _ _ c3 (r6.extBut _ _ c1 e))
  have BV:IsZ hd z TI TO f0 (.bool true):=pV.extBut _ _ Z.z2.symm (mi.extBut _ _ Z.z1.symm hz0)
  have ve:IsPair hd TO a b:=pV.extBut _ _ Z.O2 (mi.extBut _ _ Z.O1 (r6.extBut _ _ Z.zTO tD))
  have De:S1 (k1+1) hd:=D1.frame _ _ _ yO fun c ow o e=>pV.extBut c o (fun q=>Z.a3 (q ▸ ow)) e
  have up:∀ c o,hd.get? c=some o→(hd.push { cls:=.type "tuple",data:=.seq #[x,y] }).get? c=some o:=fun c o e=>ai _ e
  have yP:IsPair (hd.push { cls:=.type "tuple",data:=.seq #[x,y] }) hd.objs.size x y:=aI _ rfl
  have tU:(hd.push { cls:=.type "tuple",data:=.seq #[x,y] }).objs.size=hd.objs.size+1:=bI ..
  show Q (.ref hd.objs.size) _
  rw [hsz] at yP tU ⊢
  exact hQ x y _ C7 _ _ _ _ px py (up _ _ BV) ⟨hf.1,_,rfl⟩ (up _ _ (kk _ _ Z.zTI Z.TT Z.T1 Z.T2 sy)) (up _ _ ve) (D1.frame _ _ _ De fun c _ o e=>up c o e) (D2.frame _ _ _ C8 fun c _ o e=>up c o e) yP tU fun c o c1 c2 c3 c4 e=>up c o (kk c o c1 c2 c3 c4 e)
theorem zj4 {z TI TO i1 i2:Addr} {pE pF:List Addr} {n1 n2 k1 k2:Nat} {P1 P2:Nat→Value→Prop} {S1 S2:Nat→Heap→Prop} {f0 f1 a b:Value} {Q:Fin→Shared→Prop} (D1:Draws prog w A i1 pE n1 P1 S1) (D2:Draws prog w A i2 pF n2 P2 S2) (Z:Zap z TI TO i1 i2 pE pF)
  (hz:IsZ s.heap z TI TO f0 f1) (hf:ZF f0 f1) (sy:IsPair s.heap TI (.ref i1) (.ref i2)) (tD:IsPair s.heap TO a b) (mJ:S1 k1 s.heap) (lB:S2 k2 s.heap) (l1:k1=n1∨(k1 < n1∧k2=n2))
  (hE:∀ h' tk e,(∀ c o,c≠z→c≠TO→c≠i1→c≠i2→s.heap.get? c=some o→h'.get? c=some o)→(∃ o,h'.get? e=some o∧o.cls = .type "StopIteration")→E (.ref e) { s with heap:=h',toks:=tk }):wpAny (model prog w) A (Builtin.«zip.__next__» ⟨[.ref z],[]⟩) Q E s:=by
 obtain⟨hp,g,d,BS,os⟩:=s
 have nz:∀ {h:Heap} {e:Addr} {o:Obj} {x y:Value},IsZ h z TI TO x y→h.get? e=some o→o.cls = .type "StopIteration"→e≠z:=fun h1 h2 h3 q=>by subst q; rw [h1] at h2; cases h2; simp at h3
 show wpAny _ _ (field (.ref z) 2 >>= _) _ _ _; refine ae (bp hz rfl (x:=.bool false) rfl ?_); show wpAny _ _ (field (.ref z) 3 >>= _) _ _ _
 refine ae (bp hz rfl (x:=.ref TI) rfl ?_); refine ae (du sy rfl ?_)
 show wpAny _ _ (bQ (.ref z) >>= _) _ _ _; refine ae (zj3 hz hf ?_ fun h0 hz0 r6=>?_)
 ·simp only [if_true]
  refine ae (b8 (ae (bp hz rfl (x:=.ref TO) rfl ?_)))
  refine ae (bJ hz (by simp) fun ha vV qz=>?_)
  replace vV:IsZ ha z TI TO .ellipsis f1:=vV
  replace qz:bj z hp ha:=qz
  refine ae ?_
  simp only [jX,j9,ek,gf]; refine ae (ae (gF ?_)); show wpAny _ _ (ba (.ref i1) >>= _) _ _ _
  have tV:S1 k1 ha:=D1.frame _ _ _ mJ fun c hc o e=>qz.extBut c o (fun q=>Z.a1 (q ▸ hc)) e
  rcases l1 with rfl | ⟨l1,rfl⟩
  ·refine ae (D1.done _ _ _ tV fun hb e mi ⟨oe,yQ,yR⟩=>?_)
   have hzb:IsZ hb z TI TO .ellipsis f1:=mi _ _ Z.z1.symm vV
   exact bJ hzb (by simp) fun h3 _ sD=>hE h3 BS e (fun c o c1 _ c3 _ x=>sD.extBut _ _ c1 (mi _ _ c3 (qz.extBut _ _ c1 x))) ⟨oe,sD.extBut _ _ (nz hzb yQ yR) yQ,yR⟩
  ·refine ae (D1.item k1 _ _ _ l1 tV fun x hb yN px yO mi=>ao ?_)
   replace mi:bj i1 ha hb:=mi
   have tT:IsPair hb TO a b:=mi.extBut _ _ Z.O1 (qz.extBut _ _ Z.zTO tD)
   refine ae (du tT rfl (ae (fV tT fun hc vd sC=>?_)))
   replace sC:bj TO hb hc:=sC
   refine ae (iH (ao (ae (ae (gF ?_))))); show wpAny _ _ (ba (.ref i2) >>= _) _ _ _
   refine ae (D2.done _ _ _ (D2.frame _ _ _ lB fun c ow o e=>sC.extBut c o (fun q=>Z.b2 (q ▸ ow)) (mi.extBut c o (fun q=>Z.b3 (q ▸ ow)) (qz.extBut c o (fun q=>Z.b1 (q ▸ ow)) e))) fun hd e pV ⟨oe,yQ,yR⟩=>?_)
   have BV:IsZ hd z TI TO .ellipsis f1:=pV _ _ Z.z2.symm (sC.extBut _ _ Z.zTO.symm (mi.extBut _ _ Z.z1.symm vV))
   exact bJ BV (by simp) fun h3 _ sD=>hE h3 yN e (fun c o c1 c2 c3 c4 x=>sD.extBut _ _ c1 (pV _ _ c4 (sC.extBut _ _ c2 (mi.extBut _ _ c3 (qz.extBut _ _ c1 x))))) ⟨oe,sD.extBut _ _ (nz BV yQ yR) yQ,yR⟩
 ·simp only [bn,if_false]; replace r6:bj z hp h0:=r6
  rw [show (#[aY i1,aY i2]:Array Value) = [aY i1,aY i2].toArray from rfl]
  simp only [jx,ek,gf]
  refine ae (ae (ae (b9 ?_))); show wpAny _ _ (ba (.ref i1) >>= _) _ _ _
  have tV:S1 k1 h0:=D1.frame _ _ _ mJ fun c hc o e=>r6.extBut c o (fun q=>Z.a1 (q ▸ hc)) e
  rcases l1 with rfl | ⟨l1,rfl⟩
  ·exact ae (D1.done _ _ _ tV fun hb e mi he=>hE hb BS e (fun c o c1 _ c3 _ x=>mi _ _ c3 (r6.extBut _ _ c1 x)) he)
  ·refine ae (D1.item k1 _ _ _ l1 tV fun x hb yN px yO mi=>ao (ao ?_))
   replace mi:bj i1 h0 hb:=mi
   refine ae (ae (b9 ?_)); show wpAny _ _ (ba (.ref i2) >>= _) _ _ _
   exact ae (D2.done _ _ _ (D2.frame _ _ _ lB fun c ow o e=>mi.extBut c o (fun q=>Z.b3 (q ▸ ow)) (r6.extBut c o (fun q=>Z.b1 (q ▸ ow)) e)) fun hd e pV he=>hE hd yN e (fun c o c1 _ c3 c4 x=>pV _ _ c4 (mi.extBut _ _ c3 (r6.extBut _ _ c1 x))) he)
theorem zli {e z TI TO i1 i2:Addr} {pE pF:List Addr} {n1 n2 i:Nat} {P1 P2:Nat→Value→Prop} {S1 S2:Nat→Heap→Prop} {f0 f1 a b old:Value} {Q:Option Value→Shared→Prop} (D1:Draws prog w A.in1.in1 i1 pE n1 P1 S1) (D2:Draws prog w A.in1.in1 i2 pF n2 P2 S2) (Z:Zap z TI TO i1 i2 pE pF)
  (he:IsEnum s.heap e z i old) (ez:e≠z) (eT:e≠TI) (eO:e≠TO) (e1:e≠i1) (e2:e≠i2) (ef1:e∉pE) (ef2:e∉pF)
  (hz:IsZ s.heap z TI TO f0 f1) (hf:ZF f0 f1) (sy:IsPair s.heap TI (.ref i1) (.ref i2)) (tD:IsPair s.heap TO a b) (mJ:S1 i s.heap) (lB:S2 i s.heap) (l1:i < n1) (l2:i < n2)
  (hQ:∀ x y h' tk g0 g1 a' b',P1 i x→P2 i y→IsEnumOut h' e z ((i:Int)+1) (.ref s.heap.objs.size) (s.heap.objs.size+1)→IsZ h' z TI TO g0 g1→ZF g0 g1→IsPair h' TI (.ref i1) (.ref i2)→IsPair h' TO a' b'→S1 (i+1) h'→S2 (i+1) h'→IsPair h' s.heap.objs.size x y →
   IsPair h' (s.heap.objs.size+1) (.int i tk) (.ref s.heap.objs.size)→h'.objs.size=s.heap.objs.size+2 →
   (∀ c o,c≠e→c≠z→c≠TO→c≠i1→c≠i2→s.heap.get? c=some o→h'.get? c=some o)→Q (some (.ref (s.heap.objs.size+1))) { s with heap:=h',toks:=tk+1 }):wpAny (model prog w) A (pyNext (.ref e)) Q E s:=by
 have hT:s.TypeIs (.ref e) "enumerate":=⟨_,he,rfl⟩; have tW:s.TypeIs (.ref z) "zip":=⟨_,hz,rfl⟩
 unfold pyNext
 refine ae (cM (bh (name:=bP "__next__") hT eG (bt eG hT iI ?_ (im _))))
 obtain⟨hp,g,d,BS,os⟩:=s
 show wpAny _ _ (field (.ref e) 2 >>= _) _ _ _; refine ae (bp he rfl (x:=.ref z) rfl (ae ?_))
 unfold ba; refine ae (bh (name:=bP "__next__") tW c9 (bt c9 tW fN ?_ (fC _)))
 refine zh1 D1 D2 Z hz hf sy tD mJ lB l1 l2 fun x y h1 tk g0 g1 a' b' px py rf Df wL wM wN wO pM wQ kk=>ao ?_
 have Dg:IsEnum h1 e z i old:=kk _ _ ez eO e1 e2 he
 have elt:e < hp.objs.size:=aG he
 show wpAny _ _ (field (.ref e) 3 >>= _) _ _ ⟨h1,g,d,tk,os⟩; refine ae (bp Dg rfl (x:=rawInt i) rfl ?_)
 show wpAny _ _ (field (.ref e) 4 >>= _) _ _ ⟨h1,g,d,tk,os⟩; refine ae (bp Dg rfl (x:=.none) rfl ?_)
 show wpAny _ _ (mkInt i >>= _) _ _ ⟨h1,g,d,tk,os⟩; refine ae (wpAny_mkInt ?_)
 show wpAny _ _ (setField (.ref e) 3 (rawInt ((i:Int)+1)) >>= _) _ _ ⟨h1,g,d,tk+1,os⟩; refine ae (bJ Dg (by simp) fun h2 BW nE=>?_)
 replace nE:bj e h1 h2:=nE
 replace BW:IsEnum h2 e z ((i:Int)+1) old:=BW
 show wpAny _ _ (setField (.ref e) 4 .none >>= _) _ _ ⟨h2,g,d,tk+1,os⟩; refine ae (bJ BW (by simp) fun h3 Dh sD=>?_)
 replace sD:bj e h2 h3:=sD
 replace Dh:IsEnum h3 e z ((i:Int)+1) old:=Dh
 show wpAny _ _ (newTuple [.int i tk,.ref hp.objs.size] >>= _) _ _ ⟨h3,g,d,tk+1,os⟩; refine ae (gg ?_)
 have z3:h3.objs.size=hp.objs.size+1:=by rw [sD.1,nE.1]; exact wQ
 rw [z3]
 have BX:IsEnum (h3.push { cls:=.type "tuple",data:=.seq #[.int i tk,.ref hp.objs.size] }) e z ((i:Int)+1) old:=ai _ Dh
 have Di:=aI h3 (o:={ cls:=.type "tuple",data:=.seq #[.int i tk,.ref hp.objs.size] }) rfl
 rw [z3] at Di
 have k4:∀ c o,c≠e→h1.get? c=some o→(h3.push { cls:=.type "tuple",data:=.seq #[.int i tk,.ref hp.objs.size] }).get? c=some o:=fun c o ce x=>ai _ (sD.extBut c o ce (nE.extBut c o ce x))
 have z4:(h3.push { cls:=.type "tuple",data:=.seq #[.int i tk,.ref hp.objs.size] }).objs.size=hp.objs.size+2:=by rw [bI,z3]
 generalize h3.push { cls:=.type "tuple",data:=.seq #[.int i tk,.ref hp.objs.size] }=h4 at BX Di k4 z4 ⊢
 show wpAny _ _ (bQ (.ref e) >>= _) _ _ ⟨h4,g,d,tk+1,os⟩
 refine ae ?_
 unfold bQ; refine ae (bp BX rfl (x:=.none) rfl (ao ?_))
 simp only [if_true]; refine ae (b8 (ae (bp BX rfl (x:=old) rfl ?_)))
 refine ae (bJ BX (by simp) fun h5 Dj BY=>?_)
 replace BY:bj e h4 h5:=BY
 replace Dj:IsEnum h5 e z ((i:Int)+1) (.ref hp.objs.size):=Dj
 show wpAny _ _ (cE (.ref e) (.ref (hp.objs.size+1)) >>= _) _ _ ⟨h5,g,d,tk+1,os⟩
 refine ae ?_
 unfold cE; refine ae (bJ Dj (by simp) fun h6 Dk BZ=>?_)
 replace BZ:bj e h5 h6:=BZ
 replace Dk:IsEnumOut h6 e z ((i:Int)+1) (.ref hp.objs.size) (hp.objs.size+1):=Dk
 refine bJ Dk (by simp) fun h7 Dl vW=>?_
 replace vW:bj e h6 h7:=vW
 replace Dl:IsEnumOut h7 e z ((i:Int)+1) (.ref hp.objs.size) (hp.objs.size+1):=Dl
 have up:∀ c o,c≠e→h4.get? c=some o→h7.get? c=some o:=fun c o ce x=>vW.extBut c o ce (BZ.extBut c o ce (BY.extBut c o ce x))
 have z7:h7.objs.size=hp.objs.size+2:=by rw [vW.1,BZ.1,BY.1,z4]
 refine ae (iH (ao ⟨_,rfl,ao ?_⟩))
 exact hQ x y h7 tk g0 g1 a' b' px py Dl (up _ _ ez.symm (k4 _ _ ez.symm rf)) Df (up _ _ eT.symm (k4 _ _ eT.symm wL)) (up _ _ eO.symm (k4 _ _ eO.symm wM))
  (D1.frame _ _ _ wN fun c hc o x=>up c o (fun q=>ef1 (q ▸ hc)) (k4 c o (fun q=>ef1 (q ▸ hc)) x)) (D2.frame _ _ _ wO fun c hc o x=>up c o (fun q=>ef2 (q ▸ hc)) (k4 c o (fun q=>ef2 (q ▸ hc)) x))
  (up _ _ (fe elt) (k4 _ _ (fe elt) pM)) (up _ _ (fe (dO elt)) Di) z7 fun c o ce cz cO c1 c2 x=>up c o ce (k4 c o ce (kk c o cz cO c1 c2 x))
theorem zmW {e z TI TO i1 i2:Addr} {pE pF:List Addr} {n1 n2 k:Nat} {i:Int} {P1 P2:Nat→Value→Prop} {S1 S2:Nat→Heap→Prop} {f0 f1 a b old:Value} {Q:Option Value→Shared→Prop} (D1:Draws prog w A.in1.in1 i1 pE n1 P1 S1) (D2:Draws prog w A.in1.in1 i2 pF n2 P2 S2) (Z:Zap z TI TO i1 i2 pE pF)
  (he:IsEnum s.heap e z i old) (hz:IsZ s.heap z TI TO f0 f1) (hf:ZF f0 f1) (sy:IsPair s.heap TI (.ref i1) (.ref i2)) (tD:IsPair s.heap TO a b) (mJ:S1 k s.heap) (lB:S2 k s.heap) (l1:k=n1∨(k < n1∧k=n2))
  (hQ:∀ h' tk,(∀ c o,c≠z→c≠TO→c≠i1→c≠i2→s.heap.get? c=some o→h'.get? c=some o)→Q none { s with heap:=h',toks:=tk }):wpAny (model prog w) A (pyNext (.ref e)) Q E s:=by
 have hT:s.TypeIs (.ref e) "enumerate":=⟨_,he,rfl⟩; have tW:s.TypeIs (.ref z) "zip":=⟨_,hz,rfl⟩
 unfold pyNext
 refine ae (cM (bh (name:=bP "__next__") hT eG (bt eG hT iI ?_ (im _))))
 show wpAny _ _ (field (.ref e) 2 >>= _) _ _ _; refine ae (bp he rfl (x:=.ref z) rfl (ae ?_))
 unfold ba; refine ae (bh (name:=bP "__next__") tW c9 (bt c9 tW fN ?_ (fC _)))
 refine zj4 D1 D2 Z hz hf sy tD mJ lB l1 fun h' tk x kk ⟨o,ho,hc⟩=>?_
 exact ae (eQ (T:="StopIteration") (b:=true) ⟨o,ho,hc⟩ gc (ao (hQ h' tk kk)))
end
def zfC (x y:Value):Obj:={ cls:=.type "tuple",data:=.seq #[x,y] }
def znI (a b:Addr):Obj:={ cls:=.type "zip",data:=.fields #[.none,.bool false,.bool false,.ref a,.ref b] }
def itO (C:String) (l:Addr):Obj:={ cls:=.type C,data:=.fields #[.ref l,.int 0 0] }
abbrev zt2 (C:String) (h:Heap) (l1 l2:Addr):Heap:=(h.push (zb7 l1)).push (itO C l2)
abbrev zt4 (C:String) (h:Heap) (l1 l2:Addr):Heap:=((zt2 C h l1 l2).push (zfC (.ref h.objs.size) (.ref (h.push (zb7 l1)).objs.size))).push (zfC .none .none)
abbrev zt5 (C:String) (h:Heap) (l1 l2:Addr):Heap:=(zt4 C h l1 l2).push (znI (zt2 C h l1 l2).objs.size ((zt2 C h l1 l2).push (zfC (.ref h.objs.size) (.ref (h.push (zb7 l1)).objs.size))).objs.size)
def ItC (C:String) (h:Heap) (a l:Addr) (i:Nat):Prop:=∃ o,h.get? a=some o∧o.cls = .type C∧o.data = .fields #[.ref l,.int i 0]
structure SkH (C:String) (Is:Heap→Addr→Array Value→Prop):Prop where
 it:∀ {prog:Program} {w:World} {A:Around} {E:Value→Shared→Prop} {s:Shared} {l:Addr} {items:Array Value} {Q:Value→Shared→Prop},Is s.heap l items→Q (.ref s.heap.objs.size) { s with heap:=s.heap.push (itO C l) }→wpAny (model prog w) A (pyIter (.ref l)) Q E s
 pu:∀ {h:Heap} {l:Addr} {items:Array Value} (o:Obj),Is h l items→Is (h.push o) l items
 dr:∀ {prog:Program} {w:World} {A:Around},A.handled=none→∀ (it l:Addr),l≠it→∀ (items:Array Value),Draws prog w A it [it,l] items.size (fun i v=>items[i]? = some v) fun i h=>ItC C h it l i∧Is h l items
theorem skL:SkH "list_iterator" Heap.IsList:=⟨fun h q=>gK h q,fun o h=>Heap.IsList.push h o,fun hh it l ne items=>kb hh it l ne items⟩
theorem zgh {C:String} {Is:Heap→Addr→Array Value→Prop} (S:SkH C Is) (l1 l2:Addr) (xs ys:Array Value):Meets (Builtin.«zip.__new__» ⟨[.type "zip",.ref l1,.ref l2],[]⟩) (fun _ R s=>s.heap.IsTuple l1 xs∧Is s.heap l2 ys∧R (.ok (.ret (.ref (zt4 C s.heap l1 l2).objs.size))) { s with heap:=zt5 C s.heap l1 l2 }) :=
 .of_wp fun prog w A R s h=>by
  obtain⟨hp,g,d,tk,os⟩:=s; obtain⟨vb,pJ,h⟩:=h; have vh:=sub_zip
  have xU:Heap.IsTuple (jN ⟨hp,g,d,tk,os⟩) l1 xs:=vb
  have xV:Is (jN ⟨hp.push { cls:=.type "tuple_iterator",data:=.fields #[.ref l1,.int 0 0] },g,d,tk,os⟩) l2 ys:=S.pu _ pJ
  wp_walk using ff xU,S.it xV
  exact⟨_,rfl,h⟩
section
variable {prog:Program} {w:World} {A:Around} {E:Value→Shared→Prop} {s:Shared}
theorem zem {C:String} {Is:Heap→Addr→Array Value→Prop} (S:SkH C Is) {l1 l2:Addr} {xs ys:Array Value} {Q:Value→Shared→Prop} (vb:s.heap.IsTuple l1 xs) (pJ:Is s.heap l2 ys)
  (h:∀ h' n,n=s.heap.objs.size→IsZ h' (n+4) (n+2) (n+3) .none (.bool false)→IsPair h' (n+2) (.ref n) (.ref (n+1))→IsPair h' (n+3) .none .none→h'.IsTupleIter n l1 0→ItC C h' (n+1) l2 0→h'.objs.size=n+5 →
   (∀ c o,s.heap.get? c=some o→h'.get? c=some o)→Q (.ref (n+4)) { s with heap:=h' }):wpAny (model prog w) A (call (.type "zip") [.ref l1,.ref l2]) Q E s:=by
 refine jw F.called_zip (by decide) (F.typeCall_zip_2 _ _) (F.newCall_zip_2 _ _) (fun obj=>F.args_object_init_3 obj _ _) F.entry_zip_new (zgh S l1 l2 xs ys) ⟨vb,pJ,?_⟩
 have z1:(s.heap.push (zb7 l1)).objs.size=s.heap.objs.size+1:=bI ..
 have z2:(zt2 C s.heap l1 l2).objs.size=s.heap.objs.size+2:=by rw [bI,z1]
 have z3:((zt2 C s.heap l1 l2).push (zfC (.ref s.heap.objs.size) (.ref (s.heap.push (zb7 l1)).objs.size))).objs.size=s.heap.objs.size+3:=by rw [bI,z2]
 have z4:(zt4 C s.heap l1 l2).objs.size=s.heap.objs.size+4:=by rw [bI,z3]
 have g5:=aI (zt4 C s.heap l1 l2) (o:=znI (zt2 C s.heap l1 l2).objs.size ((zt2 C s.heap l1 l2).push (zfC (.ref s.heap.objs.size) (.ref (s.heap.push (zb7 l1)).objs.size))).objs.size) rfl
 have g4:(zt5 C s.heap l1 l2).get? _=some _:=ai _ (aI ((zt2 C s.heap l1 l2).push (zfC (.ref s.heap.objs.size) (.ref (s.heap.push (zb7 l1)).objs.size))) (o:=zfC .none .none) rfl)
 have g3:(zt5 C s.heap l1 l2).get? _=some _:=ai _ (ai _ (aI (zt2 C s.heap l1 l2) (o:=zfC (.ref s.heap.objs.size) (.ref (s.heap.push (zb7 l1)).objs.size)) rfl))
 have g2:(zt5 C s.heap l1 l2).get? _=some _:=ai _ (ai _ (ai _ (aI (s.heap.push (zb7 l1)) (o:=itO C l2) rfl)))
 have g1:(zt5 C s.heap l1 l2).get? s.heap.objs.size=some (zb7 l1):=ai _ (ai _ (ai _ (ai _ (aI _ rfl))))
 have z5:(zt5 C s.heap l1 l2).objs.size=s.heap.objs.size+5:=by rw [bI,z4]
 have k5:∀ c o,s.heap.get? c=some o→(zt5 C s.heap l1 l2).get? c=some o:=fun c o x=>ai _ (ai _ (ai _ (ai _ (ai _ x))))
 show _∧_
 rw [z4] at g5 ⊢
 rw [z3] at g4
 rw [z2] at g3
 rw [z1] at g2
 refine⟨⟨_,g5,rfl⟩,h _ _ rfl ?_ ?_ g4 ⟨_,g1,rfl,rfl⟩ ⟨_,g2,rfl,rfl⟩ z5 k5⟩
 ·have:IsZ (zt5 C s.heap l1 l2) (s.heap.objs.size+4) (zt2 C s.heap l1 l2).objs.size ((zt2 C s.heap l1 l2).push (zfC (.ref s.heap.objs.size) (.ref (s.heap.push (zb7 l1)).objs.size))).objs.size .none (.bool false):=g5
  rw [z2,z3] at this
  exact this
 ·have:IsPair (zt5 C s.heap l1 l2) (s.heap.objs.size+2) (.ref s.heap.objs.size) (.ref (s.heap.push (zb7 l1)).objs.size):=g3
  rw [z1] at this
  exact this
theorem zhj {l1 l2:Addr} {xs ys:Array Value} {Q:Value→Shared→Prop} (vb:s.heap.IsTuple l1 xs) (pJ:s.heap.IsList l2 ys)
  (h:∀ h' n,n=s.heap.objs.size→IsZ h' (n+4) (n+2) (n+3) .none (.bool false)→IsPair h' (n+2) (.ref n) (.ref (n+1))→IsPair h' (n+3) .none .none→h'.IsTupleIter n l1 0→h'.IsListIter (n+1) l2 0→h'.objs.size=n+5 →
   (∀ c o,s.heap.get? c=some o→h'.get? c=some o)→Q (.ref (n+4)) { s with heap:=h' }):wpAny (model prog w) A (call (.type "zip") [.ref l1,.ref l2]) Q E s:=zem skL vb pJ h
end
open AutoSeq1 (wpAny_loadPart') in
theorem zgi (z TI TO:Addr) (f0:Value):Meets (Builtin.«enumerate.__new__» ⟨[.type "enumerate",.ref z],[]⟩) (fun _ R s=>IsZip s.heap z TI TO f0∧R (.ok (.ret (.ref s.heap.objs.size))) { s with heap:=s.heap.push (zjQ z) }) :=
 .of_wp fun prog w A R s h=>by
  obtain⟨hp,g,d,tk,os⟩:=s; obtain⟨hz,h⟩:=h
  have hZ:IsZip (jN ⟨hp,g,d,tk,os⟩) z TI TO f0:=hz
  have vh:=sub_enumerate; wp_walk using cA hz
  refine wpAny_stack_any fun st=>ao ?_; split
  ·rename_i c _ _ _ _ _; cases (c == iT "enumerate") <;> (wp_walk using cA hz,fM hZ; exact⟨_,rfl,h⟩)
  ·wp_walk using cA hz,fM hZ; exact⟨_,rfl,h⟩
theorem zhk {prog:Program} {w:World} {A:Around} {E:Value→Shared→Prop} {s:Shared} {z TI TO:Addr} {f0:Value} {Q:Value→Shared→Prop} (hz:IsZip s.heap z TI TO f0)
  (h:∀ h',IsEnum h' s.heap.objs.size z 0 .none→h'.objs.size=s.heap.objs.size+1→(∀ b o,s.heap.get? b=some o→h'.get? b=some o)→Q (.ref s.heap.objs.size) { s with heap:=h' }):wpAny (model prog w) A (call (.type "enumerate") [.ref z]) Q E s:=by
 refine jw F.called_enumerate (by decide) (F.typeCall_enumerate_1 _) (F.newCall_enumerate_1 _) (fun obj=>iY obj _) F.entry_enumerate_new (zgi z TI TO f0) ⟨hz,?_⟩
 have he:=aI s.heap (o:=zjQ z) rfl
 exact⟨⟨_,he,rfl⟩,h _ he (bI ..) fun b o x=>ai _ x⟩
end PySem
end
section
namespace L2
open PySem PySem.Spec PyProof.Rows
def zlj (pT pU:Hp→Addr→List V→Prop) (a b:Addr):It :=
 ⟨fun i H=>∃ xs ys x y,pT H a xs∧pU H b ys∧xs[i]? = some x∧ys[i]? = some y,
  fun i H x H'=>∃ T1 T2 u v,H T1=none∧H T2=none∧T1≠T2∧x = .ref T2∧H'=kL (kL H T1 (.tup [u,v])) T2 (.tup [.int i,.ref T1])∧(∀ xs,pT H a xs→xs[i]? = some u)∧∀ ys,pU H b ys→ys[i]? = some v,
  fun i H=>∃ xs ys,pT H a xs∧pU H b ys∧xs.length=i⟩
abbrev zen (n:Nat):List Addr:=[n+5,n+4,n+2,n+3,n,n+1]
abbrev zmX (n a b:Nat) (i:Nat) (h:Heap):Prop:=(∃ old,IsEnum h (n+5) (n+4) i old)∧(∃ f0 f1,IsZ h (n+4) (n+2) (n+3) f0 f1∧ZF f0 f1)∧IsPair h (n+2) (.ref n) (.ref (n+1))∧(∃ u v,IsPair h (n+3) u v)∧h.IsTupleIter n a i∧h.IsListIter (n+1) b i
theorem nq {x y:Nat} (h:x≠y):@Ne Addr x y:=h
theorem nl {x y:Nat} (h:x < y):@LT.lt Nat _ x y:=h
theorem nm2 {c x y:Nat} (h1:c≠x) (h2:c≠y):¬ @Membership.mem Addr (List Addr) _ [x,y] c:=fun h=>by
 rcases aE.mp h with e | e
 ·exact h1 e
 ·exact h2 (aU.mp e)
theorem zdO {n a b:Nat} (ha:a < n) (hb:b < n):Zap (n+4) (n+2) (n+3) n (n+1) [n,a] [n+1,b] :=
 ⟨nq (by lia),nq (by lia),nq (by lia),nq (by lia),nq (by lia),nq (by lia),nq (by lia),nq (by lia),nq (by lia),nq (by lia),nm2 (by lia) (by lia),nm2 (by lia) (by lia),nm2 (by lia) (by lia),nm2 (by lia) (by lia),nm2 (by lia) (by lia),nm2 (by lia) (by lia)⟩
theorem zlk {P:Program} {w:World} {K:ah} {es:List Expr} {k:Nat} {pos:Pos} (a b n:Nat) (ha:a < n) (hb:b < n):Turn P w K (.Tuple es k pos) (zlj (kP K) (kG K) a b) (zen n) (n+5) (zmX n a b) where
 mem:=by simp
 obj:=fun i h st c hc=>by
  obtain⟨⟨old,h0⟩,⟨f0,f1,h1,_⟩,h2,⟨u,v,h3⟩,⟨o4,e4,_,d4⟩,⟨o5,e5,_,d5⟩⟩:=st
  simp only [zen,aE,a8,or_false] at hc
  rcases hc with z | z | z | z | z | z <;> subst z
  ·exact⟨_,h0,fun v z=>by cases z⟩
  ·exact⟨_,h1,fun v z=>by cases z⟩
  ·exact⟨_,h2,fun v z=>by cases z⟩
  ·exact⟨_,h3,fun v z=>by cases z⟩
  ·exact⟨_,e4,fun v z=>by rw [d4] at z; cases z⟩
  ·exact⟨_,e5,fun v z=>by rw [d5] at z; cases z⟩
 keep:=fun i h h' st kk=>by
  obtain⟨⟨old,h0⟩,⟨f0,f1,h1,hf⟩,h2,⟨u,v,h3⟩,h4,h5⟩:=st
  exact⟨⟨old,kk _ (by simp) _ h0⟩,⟨f0,f1,kk _ (by simp) _ h1,hf⟩,kk _ (by simp) _ h2,⟨u,v,kk _ (by simp) _ h3⟩,h4.at fun o eo=>kk _ (by simp) o eo,h5.at fun o eo=>kk _ (by simp) o eo⟩
 item:=by
  intro X hP hw hK hc i kE s σ H E I hf st hg
  subst hP hw hK
  obtain⟨xs,ys,x,y,pK,nL,hx,hy⟩:=hg
  obtain⟨⟨old,h0⟩,⟨f0,f1,h1,vg⟩,h2,⟨u0,v0,h3⟩,h4,h5⟩:=st
  obtain⟨lU,rZ,p1,rf⟩:=I.tuple pK
  obtain⟨lT,sv,p2,p7⟩:=I.list nL
  obtain⟨u,hu,ru⟩:=rZ.get hx
  obtain⟨v,hv,rv⟩:=sv.get hy
  have xT:n+5 < s.heap.objs.size:=aG h0
  have hh:X.A.in1.in1.handled=none:=by simp [I.ok.hd hc]
  have p8:i < lU.toArray.size:=by have:=(ak.mp hu).1; simpa using this
  have p9:i < lT.toArray.size:=by have:=(ak.mp hv).1; simpa using this
  refine zli (Draws.tuple hh n a (nq (by lia)) lU.toArray) (kb hh (n+1) b (nq (by lia)) lT.toArray) (zdO ha hb) h0 (nq (by lia)) (nq (by lia)) (nq (by lia)) (nq (by lia)) (nq (by lia)) (nm2 (by lia) (by lia)) (nm2 (by lia) (by lia)) h1 vg h2 h3 ⟨h4,(show s.heap.IsTuple a lU.toArray from p1)⟩ ⟨h5,p2.isList⟩ p8 p9
   fun x' y' h' tk g0 g1 a' b' px py eo ez Dm e2 e3 t4 t5 pp pe hsz kk=>?_
  have eu:x'=u:=by
   have e1:lU[i]? = some x':=by simpa using px
   rw [hu] at e1; exact (aR e1).symm
  have ev:y'=v:=by
   have e1:lT[i]? = some y':=by simpa using py
   rw [hv] at e1; exact (aR e1).symm
  subst eu ev
  have ch:∀ c∈[n+5,n+4,n+3,n,n+1],c∈zen n:=fun c kR=>by
   simp only [zen,aE,a8,or_false] at kR ⊢
   rcases kR with z | z | z | z | z <;> subst z <;> simp
  have k1:∀ c o,c∉[n+5,n+4,n+3,n,n+1]→s.heap.get? c=some o→h'.get? c=some o:=fun c o kR eo=>by
   simp only [aE,a8,or_false,not_or] at kR
   exact kk c o kR.1 kR.2.1 kR.2.2.1 kR.2.2.2.1 kR.2.2.2.2 eo
  have wI:∀ c∈[n+5,n+4,n+3,n,n+1],∃ o,h'.get? c=some o:=fun c kR=>by
   simp only [aE,a8,or_false] at kR
   rcases kR with z | z | z | z | z <;> subst z
   ·exact⟨_,eo⟩
   ·exact⟨_,ez⟩
   ·exact⟨_,e3⟩
   ·obtain⟨o,e,_⟩:=t4.1; exact⟨o,e⟩
   ·obtain⟨o,e,_⟩:=t5.1; exact⟨o,e⟩
  have I1:Inv X kE σ (kL H s.heap.objs.size (.tup [x,y])) { s with heap:=h',toks:=tk+1 } :=
   I.turnedNew k1 (fun c kR=>hf c (ch c kR)) wI (af _) ⟨zaL,_,.cons ru (.cons rv .nil),zbx pp⟩
  have qV:H (s.heap.objs.size+1)=none:=I.hok.fresh (gm _)
  have Dp:kL H s.heap.objs.size (.tup [x,y]) (s.heap.objs.size+1)=none:=by rw [zq (g8 _)]; exact qV
  obtain⟨_,a1,a2,a3,a4,a5⟩:=I.fpOk (H':=H) (gm s.heap.objs.size) qV
  have I1':Inv X kE σ (kL (kL H s.heap.objs.size (.tup [x,y])) (s.heap.objs.size+1) (.tup [.int i,.ref s.heap.objs.size])) { s with heap:=h',toks:=tk+1 } :=
   I1.track Dp (be I.sz (gm _)) (cR a1) a4 a5 ⟨zaL,_,.cons ⟨tk,rfl⟩ (.cons rfl .nil),zbx pe⟩
  refine⟨_,rfl,gD eo fun uF p6 mT=>?_⟩
  have fr:∀ c∈zen n,kL (kL H s.heap.objs.size (.tup [x,y])) (s.heap.objs.size+1) (.tup [.int i,.ref s.heap.objs.size]) c=none:=fun c kR=>by
   have lp:c < s.heap.objs.size:=by
    simp only [zen,aE,a8,or_false] at kR
    rcases kR with z | z | z | z | z | z <;> subst z <;> exact nl (by lia)
   rw [zq (bi (dO lp)),zq (bi lp)]
   exact (hf c kR).1
  have I2:Inv X kE σ (kL (kL H s.heap.objs.size (.tup [x,y])) (s.heap.objs.size+1) (.tup [.int i,.ref s.heap.objs.size])) { s with heap:=uF,toks:=tk+1 } :=
   Inv.turnedL (s:={ s with heap:=h',toks:=tk+1 }) (ch:=[n+5]) (t':=tk+1) I1' (fun c o kR eo=>mT.extBut c o (by simpa using kR) eo) (fun c kR=>by
    have z:c=n+5:=by simpa using kR
    subst z
    exact⟨fr _ (by simp),(hf _ (by simp)).2⟩) (fun c kR=>by
    have z:c=n+5:=by simpa using kR
    subst z
    exact⟨_,p6⟩)
  have up:∀ c o,c≠n+5→h'.get? c=some o→uF.get? c=some o:=fun c o kR e=>mT.extBut c o kR e
  exact⟨.ref (s.heap.objs.size+1),_,I2,rfl,⟨_,_,x,y,I.fresh,qV,bi (fL _),rfl,rfl,fun zs hz=>by rw [I.tuple_inj hz pK]; exact hx,fun zs hz=>by rw [I.list_inj hz nL]; exact hy⟩,
   ⟨⟨_,by simpa using p6⟩,⟨g0,g1,up _ _ (nq (by lia)) ez,Dm⟩,up _ _ (nq (by lia)) e2,⟨_,_,up _ _ (nq (by lia)) e3⟩,t4.1.at fun o e=>up _ o (nq (by lia)) e,t5.1.at fun o e=>up _ o (nq (by lia)) e⟩,fr⟩
 done:=by
  intro X hP hw hK hc i kE s σ H E I hf st hg
  subst hP hw hK
  obtain⟨xs,ys,pK,nL,hx⟩:=hg
  obtain⟨⟨old,h0⟩,⟨f0,f1,h1,vg⟩,h2,⟨u0,v0,h3⟩,h4,h5⟩:=st
  obtain⟨lU,rZ,p1,rf⟩:=I.tuple pK
  obtain⟨lT,sv,p2,p7⟩:=I.list nL
  have hh:X.A.in1.in1.handled=none:=by simp [I.ok.hd hc]
  have vb:=rZ.length
  refine zmW (Draws.tuple hh n a (nq (by lia)) lU.toArray) (kb hh (n+1) b (nq (by lia)) lT.toArray) (zdO ha hb) h0 h1 vg h2 h3 ⟨h4,(show s.heap.IsTuple a lU.toArray from p1)⟩ ⟨h5,p2.isList⟩ (.inl (by rw [aq]; lia)) fun h' tk kk=>⟨rfl,?_⟩
  have sub:∀ c∈[n+4,n+3,n,n+1],c∈zen n:=fun c kR=>by
   simp only [zen,aE,a8,or_false] at kR ⊢
   rcases kR with z | z | z | z <;> subst z <;> simp
  have k1:∀ c o,c∉[n+4,n+3,n,n+1]→s.heap.get? c=some o→h'.get? c=some o:=fun c o kR e=>by
   simp only [aE,a8,or_false,not_or] at kR
   exact kk c o kR.1 kR.2.1 kR.2.2.1 kR.2.2.2 e
  have rT:∀ d u',H d=some u'→d∉[n+4,n+3,n,n+1]:=fun d u' e' hd=>by rw [(hf d (sub d hd)).1] at e'; cases e'
  refine I.step (g':=s.gens) (d':=s.drawn) (t':=tk) (ch:=[n+4,n+3,n,n+1]) (fun c kR=>?_) (fun c o _ _ lV e _=>k1 c o lV e) (fun c o _ _ lV e _=>⟨o.slots,k1 c o lV e⟩) (fun _ _ _ _ n=>n)
   (fun c o lV e=>⟨o,k1 c o lV e⟩) (fun _ _ e=>e) (fun _ _ _ e=>e) (fun c ps e=>⟨#[],by rw [e]; simp⟩) (fun m hm=>?_) (fun c u e=>?_) I.bare
  ·obtain⟨_,a1,_,a3,a4,a5⟩:=hf c (sub c kR)
   exact⟨a3,a1,a4,a5⟩
  ·obtain⟨o,uZ,ep,ho,r⟩:=hm
   exact⟨o,uZ,ep,k1 _ o (fun z=>(hf _ (sub _ z)).2.1 rfl) ho,r⟩
  ·refine (I.hok c u e).stay (fun d v' hd q=>k1 d v' ?_ q) (fun _ q=>q) fun _ _ q=>q
   rcases hd with z | z
   ·rw [z]; exact rT c u e
   ·exact rT d _ z
 self:=fun _ _ _ _ _ st h=>by
  obtain⟨⟨old,he⟩,_⟩:=st
  exact fz he h
def iEZ (pT pU:Hp→Addr→List V→Prop) (ta:TA):TI:=fun σ H R=>ta σ H fun vs H1=>∃ a b xs ys,vs = [.ref a,.ref b]∧pT H1 a xs∧pU H1 b ys∧R (zlj pT pU a b) H1
theorem zhl {X:Cx} {es:List Expr} {k:Nat} {oK p p2 pos pL:Pos} {a b:Expr} {ta:TA} (hg:Gl X "enumerate") (hm:X.mg "enumerate" = none) (vi:Gl X "zip") (qA:X.mg "zip" = none) (ha:PA X [a,b] ta) (hs:starEach [a,b] X.env = [(false,eval a X.env),(false,eval b X.env)]:=by rfl) (nE:starEach [b] X.env = [(false,eval b X.env)]:=by rfl)
  (sD:starEach [.Call (.Name "zip" p2) [a,b] [] pL] X.env = [(false,eval (.Call (.Name "zip" p2) [a,b] [] pL) X.env)]:=by rfl) :
  PI X (.Tuple es k oK) (.Call (.Name "enumerate" p) [.Call (.Name "zip" p2) [a,b] [] pL] [] pos) (iEZ (kP X.K) (kG X.K) ta):=by
 intro kE s σ H R I h
 refine Call_ (zbu I hg hm boot_enumerate (bE ?_ sD rfl))
 rw [sD]
 show wpAny _ _ (spliced ((false,eval (.Call (.Name "zip" p2) [a,b] [] pL) X.env) :: [])) _ _ s
 refine jj ?_
 refine Call_ (zbu I vi qA boot_zip (bE (thn (ha pL kE s σ H _ I h) fun us s1 ⟨vs,H1,I1,r1,q1⟩=>?_) (by rw [hs,nE]) (by rw [nE]; rfl)))
 obtain⟨l1,l2,xs,ys,e,pK,nL,q⟩:=q1
 subst e
 cases r1 with
 | cons r rr =>
  cases rr with
  | cons r' rr =>
   cases rr
   cases r
   cases r'
   obtain⟨lU,rZ,vU,rf⟩:=I1.tuple pK
   obtain⟨lT,sv,wJ,p7⟩:=I1.list nL
   have p8:l1 < s1.heap.objs.size:=by obtain⟨_,e,_⟩:=vU; exact aG e
   have p9:l2 < s1.heap.objs.size:=by obtain⟨_,_,e,_⟩:=wJ; exact aG e
   refine zhj (show s1.heap.IsTuple l1 lU.toArray from vU) wJ.isList fun h' n hn b1 b2 b3 b4 b5 b6 kk=>?_
   refine jD ?_
   refine zhk b1 fun h2 he hsz xW=>?_
   have I2:Inv X kE σ H1 { s1 with heap:=h2 }:=I1.kept (t':=s1.toks) fun c o e=>xW c o (kk c o e)
   refine fz he ?_; have e5:h'.objs.size=n+5:=b6
   have uG:IsEnum h2 (n+5) (n+4) 0 .none:=by rw [← e5]; exact he
   refine⟨_,zen n,zmX n l1 l2,zlj (kP X.K) (kG X.K) l1 l2,H1,rfl,I2,?_,⟨⟨_,uG⟩,⟨_,_,xW _ _ b1,.inl rfl,_,rfl⟩,xW _ _ b2,⟨_,_,xW _ _ b3⟩,b4.at fun o e=>xW _ o e,b5.at fun o e=>xW _ o e⟩,fun c hc=>?_,q⟩
   ·show Turn X.prog X.w X.K (.Tuple es k oK) (zlj (kP X.K) (kG X.K) l1 l2) (zen n) h'.objs.size (zmX n l1 l2)
    rw [e5]
    exact zlk l1 l2 n (by rw [hn]; exact p8) (by rw [hn]; exact p9)
   ·have hle:s1.heap.objs.size≤c:=by
     simp only [zen,aE,a8,or_false] at hc
     rw [← hn]
     rcases hc with z | z | z | z | z | z <;> subst z
     all_goals first | exact jY _ _ | exact af _
    exact I1.fpOk hle (I1.hok.fresh hle)
end L2
end
section
namespace L2
open PySem PySem.Spec PyProof.Rows
theorem zhm {K:ah} {i j:Nat}:∀ (x:V) (σ:St) (H:Hp) (Q Q':St→Hp→Prop),(∀ σ' H',Q σ' H'→Q' σ' H')→zg0 K 2 (zcG (za0 i) (zcG (za0 j) ziH)) x σ H Q→zg0 K 2 (zcG (za0 i) (zcG (za0 j) ziH)) x σ H Q':=fun x σ H Q Q' hq ⟨a,xs,e1,h1,h2,v,r,e3,v2,r2,e4,e5,h⟩=>⟨a,xs,e1,h1,h2,v,r,e3,v2,r2,e4,e5,hq _ _ h⟩
end L2
end
section
namespace My
open PySem L2 PyProof.Rows
section
variable {K:ah}
def zol (H:Hp):V→Option (List V)
 | .ref a=>match H a with
  | some (.lst xs)=>some xs
  | _=>none
 | _=>none
def za4 (H:Hp) (c tt:Addr) (p k:Int) (pl:List Int):Prop:=H c=some (.tup [.int p,.int k,.ref tt])∧H tt=some (.tup (pl.map V.int))
theorem za4.same {H H':Hp} {c tt:Addr} {p k:Int} {pl:List Int} (s:zu H H') (h:za4 H c tt p k pl):za4 H' c tt p k pl:=⟨s _ _ h.1,s _ _ h.2⟩
def lL:Option Int→V
 | none=>.non
 | some i=>.int i
def zbN (p:Int) (pl:List Int) (rw:List (Option Int)) (lq:List Int) (j:Nat):Bool:=match pl[j]?,rw[j]? with
 | some x,some (some i)=>decide (i=zn p x lq)
 | _,_=>false
def zbn (p:Int) (pl:List Int) (rw:List (Option Int)) (lq:List Int) (n:Nat):List Int:=((aD n).filter (zbN p pl rw lq)).map fun (j:Nat)=>(j:Int)
theorem zfe {p:Int} {pl:List Int} {rw:List (Option Int)} {lq:List Int} {n:Nat}:zbn p pl rw lq (n+1)=zbn p pl rw lq n++if zbN p pl rw lq n then [(n:Int)] else []:=by
 unfold zbn
 rw [cB,dE,aA]
 congr 1
 by_cases h:zbN p pl rw lq n=true
 ·rw [if_pos h]; simp [h]
 ·rw [if_neg h]; simp [h]
theorem zgj (p:Int) (pl:List Int) (rw:List (Option Int)) (lq:List Int) (n:Nat):(zbn p pl rw lq n).length≤n:=by
 unfold zbn
 rw [ab]
 exact be (dI _ _) (by rw [aW]; exact af _)
theorem zct {rw:List (Option Int)} {j:Nat} {x:V} (h:(rw.map lL)[j]? = some x):∃ o,x=lL o∧rw[j]? = some o:=by
 rw [ag] at h
 cases e:rw[j]? with
 | none=>rw [e] at h; cases h
 | some c=>rw [e] at h; exact⟨c,(aR h).symm,rfl⟩
def hide (H:Hp) (a:Addr):Hp:=fun b=>if b=a then none else H b
theorem zgk (H:Hp) (a:Addr):zu (hide H a) H:=fun b o e=>by
 unfold hide at e
 split at e
 ·cases e
 ·exact e
theorem zaI {H:Hp} {a b:Addr} {o:HO} (h:H b=some o) (lA:b≠a):hide H a b=some o:=by unfold hide; rw [if_neg lA]; exact h
end
end My
end
section
namespace My
open PySem L2 PyProof.Rows
section
variable {K:ah}
def zll (K:ah):Sp:=fun vs H Q _=>∃ (c tt ra po:Addr) (p k:Int) (pl lq:List Int) (rw:List (Option Int)),vs = [.ref c,.ref ra,.ref po]∧za4 H c tt p k pl∧H ra=some (.lst (rw.map lL))∧rw.length=pl.length∧H po=some (.tup (lq.map V.int))∧0 < p∧p≤97∧(∀ x∈pl,0≤x∧x < p)∧pl.length≤100 ∧
 ∀ (l:Addr) (H':Hp),H l=none→zu H H'→H' l=some (.lst ((zbn p pl rw lq pl.length).map V.int))→Q (.ref l) H'
theorem zj5 (o:Option Int) (z:Int):zmA (lL o) (.int z)=true:=by cases o <;> rfl
theorem zj6 {p:Int} {pl:List Int} {rw:List (Option Int)} {lq:List Int} {j:Nat} {x:Int} {o:Option Int} (hx:pl[j]? = some x) (ho:rw[j]? = some o):zbN p pl rw lq j=decide (lL o = .int (zn p x lq)):=by
 unfold zbN
 rw [hx,ho]
 cases o with
 | none=>rfl
 | some i=>simp [lL]
end
end My
end
section
namespace PySem
section
variable {prog:Program} {w:World} {A:Around} {E:Value→Shared→Prop} {s:Shared}
theorem zlm {z TI TO i1 i2:Addr} {pE pF:List Addr} {n1 n2 k1 k2:Nat} {P1 P2:Nat→Value→Prop} {S1 S2:Nat→Heap→Prop} {f0 f1 a b:Value} {Q:Option Value→Shared→Prop} (D1:Draws prog w A.in1 i1 pE n1 P1 S1) (D2:Draws prog w A.in1 i2 pF n2 P2 S2) (Z:Zap z TI TO i1 i2 pE pF)
  (hz:IsZ s.heap z TI TO f0 f1) (hf:ZF f0 f1) (sy:IsPair s.heap TI (.ref i1) (.ref i2)) (tD:IsPair s.heap TO a b) (mJ:S1 k1 s.heap) (lB:S2 k2 s.heap) (l1:k1 < n1) (l2:k2 < n2)
  (hQ:∀ x y h' tk g0 g1 a' b',P1 k1 x→P2 k2 y→IsZ h' z TI TO g0 g1→ZF g0 g1→IsPair h' TI (.ref i1) (.ref i2)→IsPair h' TO a' b'→S1 (k1+1) h'→S2 (k2+1) h'→IsPair h' s.heap.objs.size x y→h'.objs.size=s.heap.objs.size+1 →
   (∀ c o,c≠z→c≠TO→c≠i1→c≠i2→s.heap.get? c=some o→h'.get? c=some o)→Q (some (.ref s.heap.objs.size)) { s with heap:=h',toks:=tk }):wpAny (model prog w) A (pyNext (.ref z)) Q E s:=by
 have tW:s.TypeIs (.ref z) "zip":=⟨_,hz,rfl⟩
 unfold pyNext
 refine ae (cM (bh (name:=bP "__next__") tW c9 (bt c9 tW fN ?_ (fC _))))
 exact zh1 D1 D2 Z hz hf sy tD mJ lB l1 l2 fun x y h1 tk g0 g1 a' b' px py rf Df wL wM wN wO pM wQ kk=>ao (hQ x y h1 tk g0 g1 a' b' px py rf Df wL wM wN wO pM wQ kk)
theorem zmY {z TI TO i1 i2:Addr} {pE pF:List Addr} {n1 n2 k1 k2:Nat} {P1 P2:Nat→Value→Prop} {S1 S2:Nat→Heap→Prop} {f0 f1 a b:Value} {Q:Option Value→Shared→Prop} (D1:Draws prog w A.in1 i1 pE n1 P1 S1) (D2:Draws prog w A.in1 i2 pF n2 P2 S2) (Z:Zap z TI TO i1 i2 pE pF)
  (hz:IsZ s.heap z TI TO f0 f1) (hf:ZF f0 f1) (sy:IsPair s.heap TI (.ref i1) (.ref i2)) (tD:IsPair s.heap TO a b) (mJ:S1 k1 s.heap) (lB:S2 k2 s.heap) (l1:k1=n1∨(k1 < n1∧k2=n2))
  (hQ:∀ h' tk,(∀ c o,c≠z→c≠TO→c≠i1→c≠i2→s.heap.get? c=some o→h'.get? c=some o)→Q none { s with heap:=h',toks:=tk }):wpAny (model prog w) A (pyNext (.ref z)) Q E s:=by
 have tW:s.TypeIs (.ref z) "zip":=⟨_,hz,rfl⟩
 unfold pyNext
 refine ae (cM (bh (name:=bP "__next__") tW c9 (bt c9 tW fN ?_ (fC _))))
 refine zj4 D1 D2 Z hz hf sy tD mJ lB l1 fun h' tk x kk ⟨o,ho,hc⟩=>?_
 exact ae (eQ (T:="StopIteration") (b:=true) ⟨o,ho,hc⟩ gc (ao (hQ h' tk kk)))
theorem zh2 {z TI TO:Addr} {f0 f1:Value} {Q:Value→Shared→Prop} (hz:IsZ s.heap z TI TO f0 f1) (h:Q (.ref z) s):wpAny (model prog w) A (pyIter (.ref z)) Q E s:=by
 have hT:s.TypeIs (.ref z) "zip":=⟨_,hz,rfl⟩; refine gO hT F.slot_zip_iter (bt F.slot_zip_iter hT F.entry_zip_iter ?_ (F.args_zip_iter_1 _))
 show wpAny _ _ (ret (.ref z)) _ _ s; exact ao ⟨_,rfl,"zip",_,hT,F.slot_zip_next.lookup,h⟩
theorem znJ {elts:List Expr} {x1} {pos:Pos} {z TI TO T:Addr} {f0 f1:Value} {Q:Unit→Shared→Prop} (hz:IsZ s.heap z TI TO f0 f1) (hf:ZF f0 f1)
  (hQ:∀ h' g0,IsZ h' z TI TO g0 f1→ZF g0 f1→bj z s.heap h'→Q () { s with heap:=h' }):wpAny (model prog w) A (letOwnedTupleGo (.Tuple elts x1 pos) (.ref z) (.ref T)) Q E s:=by
 unfold letOwnedTupleGo; refine ae (wpAny_load hz ?_)
 show wpAny _ _ (if _ then _ else _) Q E s
 split
 ·refine ae (b8 ?_); show wpAny _ _ (setField (.ref z) 0 .none) Q E s
  exact bJ hz (by simp) fun h' BR mP=>hQ h' .none BR ⟨.inl rfl,hf.2⟩ mP
 ·exact ao (hQ s.heap f0 hz hf ⟨rfl,fun _ _=>rfl⟩)
end
end PySem
namespace L2
open PySem PySem.Spec PyProof.Rows
def zmZ (pT pU:Hp→Addr→List V→Prop) (a b:Addr):It :=
 ⟨(ziQ pT pU a b).go,(ziQ pT pU a b).yld,fun i H=>∃ xs ys,pT H a xs∧pU H b ys∧(xs.length=i∨(i < xs.length∧ys.length=i))⟩
abbrev zeR (n:Nat):List Addr:=[n+4,n+2,n+3,n,n+1]
abbrev znK (C:String) (n a b:Nat) (i:Nat) (h:Heap):Prop:=(∃ f0 f1,IsZ h (n+4) (n+2) (n+3) f0 f1∧ZF f0 f1)∧IsPair h (n+2) (.ref n) (.ref (n+1))∧(∃ u v,IsPair h (n+3) u v)∧h.IsTupleIter n a i∧ItC C h (n+1) b i
structure Sk (C:String) (Is:Heap→Addr→Array Value→Prop) (Sq:ah→Hp→Addr→List V→Prop):Prop where
 h:SkH C Is
 inv:∀ {X:Cx} {kE:List (Addr×Obj)} {σ:St} {H:Hp} {s:Shared} {a:Addr} {xs:List V},Inv X kE σ H s→Sq X.K H a xs→∃ kK:List Value,zN xs kK∧Is s.heap a kK.toArray∧a < s.heap.objs.size
 inj:∀ {X:Cx} {kE:List (Addr×Obj)} {σ:St} {H:Hp} {s:Shared} {a:Addr} {xs ys:List V},Inv X kE σ H s→Sq X.K H a xs→Sq X.K H a ys→xs=ys
theorem sqL:Sk "list_iterator" Heap.IsList kG:=⟨skL,fun I h=>let ⟨kK,r,p,_⟩:=I.list h; ⟨kK,r,p.isList,by obtain⟨_,_,e,_⟩:=p; exact aG e⟩,fun I h h'=>I.list_inj h h'⟩
theorem zj7 {C:String} {Is:Heap→Addr→Array Value→Prop} {Sq:ah→Hp→Addr→List V→Prop} (S:Sk C Is Sq) {P:Program} {w:World} {K:ah} {es:List Expr} {k:Nat} {pos:Pos} (a b n:Nat) (ha:a < n) (hb:b < n):Turn P w K (.Tuple es k pos) (zmZ (kP K) (Sq K) a b) (zeR n) (n+4) (znK C n a b) where
 mem:=by simp
 obj:=fun i h st c hc=>by
  obtain⟨⟨f0,f1,h1,_⟩,h2,⟨u,v,h3⟩,⟨o4,e4,_,d4⟩,⟨o5,e5,_,d5⟩⟩:=st
  simp only [zeR,aE,a8,or_false] at hc
  rcases hc with z | z | z | z | z <;> subst z
  ·exact⟨_,h1,fun v z=>by cases z⟩
  ·exact⟨_,h2,fun v z=>by cases z⟩
  ·exact⟨_,h3,fun v z=>by cases z⟩
  ·exact⟨_,e4,fun v z=>by rw [d4] at z; cases z⟩
  ·exact⟨_,e5,fun v z=>by rw [d5] at z; cases z⟩
 keep:=fun i h h' st kk=>by
  obtain⟨⟨f0,f1,h1,hf⟩,h2,⟨u,v,h3⟩,h4,h5⟩:=st
  obtain⟨o5,e5,r5⟩:=h5
  exact⟨⟨f0,f1,kk _ (by simp) _ h1,hf⟩,kk _ (by simp) _ h2,⟨u,v,kk _ (by simp) _ h3⟩,h4.at fun o eo=>kk _ (by simp) o eo,o5,kk _ (by simp) _ e5,r5⟩
 item:=by
  intro X hP hw hK hc i kE s σ H E I hf st hg
  subst hP hw hK
  obtain⟨xs,ys,x,y,pK,nL,hx,hy⟩:=hg
  obtain⟨⟨f0,f1,h1,vg⟩,h2,⟨u0,v0,h3⟩,h4,h5⟩:=st
  obtain⟨lU,rZ,p1,rf⟩:=I.tuple pK
  obtain⟨lT,sv,p2,_⟩:=S.inv I nL
  obtain⟨u,hu,ru⟩:=rZ.get hx
  obtain⟨v,hv,rv⟩:=sv.get hy
  have xT:n+4 < s.heap.objs.size:=aG h1
  have hh:X.A.in1.handled=none:=by simp [I.ok.hd hc]
  have p8:i < lU.toArray.size:=by have:=(ak.mp hu).1; simpa using this
  have p9:i < lT.toArray.size:=by have:=(ak.mp hv).1; simpa using this
  refine zlm (Draws.tuple hh n a (nq (by lia)) lU.toArray) (S.h.dr hh (n+1) b (nq (by lia)) lT.toArray) (zdO ha hb) h1 vg h2 h3 ⟨h4,(show s.heap.IsTuple a lU.toArray from p1)⟩ ⟨h5,p2⟩ p8 p9
   fun x' y' h' tk g0 g1 a' b' px py ez Dm e2 e3 t4 t5 pp hsz kk=>?_
  have eu:x'=u:=by
   have e1:lU[i]? = some x':=by simpa using px
   rw [hu] at e1; exact (aR e1).symm
  have ev:y'=v:=by
   have e1:lT[i]? = some y':=by simpa using py
   rw [hv] at e1; exact (aR e1).symm
  subst eu ev
  have ch:∀ c∈[n+4,n+3,n,n+1],c∈zeR n:=fun c kR=>by
   simp only [zeR,aE,a8,or_false] at kR ⊢
   rcases kR with z | z | z | z <;> subst z <;> simp
  have k1:∀ c o,c∉[n+4,n+3,n,n+1]→s.heap.get? c=some o→h'.get? c=some o:=fun c o kR eo=>by
   simp only [aE,a8,or_false,not_or] at kR
   exact kk c o kR.1 kR.2.1 kR.2.2.1 kR.2.2.2 eo
  have wI:∀ c∈[n+4,n+3,n,n+1],∃ o,h'.get? c=some o:=fun c kR=>by
   simp only [aE,a8,or_false] at kR
   rcases kR with z | z | z | z <;> subst z
   ·exact⟨_,ez⟩
   ·exact⟨_,e3⟩
   ·obtain⟨o,e,_⟩:=t4.1; exact⟨o,e⟩
   ·obtain⟨o,e,_⟩:=t5.1; exact⟨o,e⟩
  have I1:Inv X kE σ (kL H s.heap.objs.size (.tup [x,y])) { s with heap:=h',toks:=tk } :=
   I.turnedNew k1 (fun c kR=>hf c (ch c kR)) wI (af _) ⟨zaL,_,.cons ru (.cons rv .nil),zbx pp⟩
  refine⟨_,rfl,znJ (s:={ s with heap:=h',toks:=tk }) ez Dm fun uF g2 tQ yS mT=>?_⟩
  have fr:∀ c∈zeR n,kL H s.heap.objs.size (.tup [x,y]) c=none:=fun c kR=>by
   have lp:c < s.heap.objs.size:=by
    simp only [zeR,aE,a8,or_false] at kR
    rcases kR with z | z | z | z | z <;> subst z <;> exact nl (by lia)
   rw [zq (bi lp)]
   exact (hf c kR).1
  have I2:Inv X kE σ (kL H s.heap.objs.size (.tup [x,y])) { s with heap:=uF,toks:=tk } :=
   Inv.turnedL (s:={ s with heap:=h',toks:=tk }) (ch:=[n+4]) (t':=tk) I1 (fun c o kR eo=>mT.extBut c o (by simpa using kR) eo) (fun c kR=>by
    have z:c=n+4:=by simpa using kR
    subst z
    exact⟨fr _ (by simp),(hf _ (by simp)).2⟩) (fun c kR=>by
    have z:c=n+4:=by simpa using kR
    subst z
    exact⟨_,tQ⟩)
  have up:∀ c o,c≠n+4→h'.get? c=some o→uF.get? c=some o:=fun c o kR e=>mT.extBut c o kR e
  exact⟨.ref s.heap.objs.size,_,I2,rfl,⟨_,x,y,I.fresh,rfl,rfl,fun zs hz=>by rw [I.tuple_inj hz pK]; exact hx,fun zs hz=>by rw [S.inj I hz nL]; exact hy⟩,
   ⟨⟨g2,g1,tQ,yS⟩,up _ _ (nq (by lia)) e2,⟨_,_,up _ _ (nq (by lia)) e3⟩,t4.1.at fun o e=>up _ o (nq (by lia)) e,⟨t5.1.choose,up _ _ (nq (by lia)) t5.1.choose_spec.1,t5.1.choose_spec.2⟩⟩,fr⟩
 done:=by
  intro X hP hw hK hc i kE s σ H E I hf st hg
  subst hP hw hK
  obtain⟨xs,ys,pK,nL,hx⟩:=hg
  obtain⟨⟨f0,f1,h1,vg⟩,h2,⟨u0,v0,h3⟩,h4,h5⟩:=st
  obtain⟨lU,rZ,p1,rf⟩:=I.tuple pK
  obtain⟨lT,sv,p2,_⟩:=S.inv I nL
  have hh:X.A.in1.handled=none:=by simp [I.ok.hd hc]
  have vb:=rZ.length
  have pJ:=sv.length
  refine zmY (Draws.tuple hh n a (nq (by lia)) lU.toArray) (S.h.dr hh (n+1) b (nq (by lia)) lT.toArray) (zdO ha hb) h1 vg h2 h3 ⟨h4,(show s.heap.IsTuple a lU.toArray from p1)⟩ ⟨h5,p2⟩ (by rw [aq,aq]; lia) fun h' tk kk=>⟨rfl,?_⟩
  have sub:∀ c∈[n+4,n+3,n,n+1],c∈zeR n:=fun c kR=>by
   simp only [zeR,aE,a8,or_false] at kR ⊢
   rcases kR with z | z | z | z <;> subst z <;> simp
  have k1:∀ c o,c∉[n+4,n+3,n,n+1]→s.heap.get? c=some o→h'.get? c=some o:=fun c o kR e=>by
   simp only [aE,a8,or_false,not_or] at kR
   exact kk c o kR.1 kR.2.1 kR.2.2.1 kR.2.2.2 e
  have rT:∀ d u',H d=some u'→d∉[n+4,n+3,n,n+1]:=fun d u' e' hd=>by rw [(hf d (sub d hd)).1] at e'; cases e'
  refine I.step (g':=s.gens) (d':=s.drawn) (t':=tk) (ch:=[n+4,n+3,n,n+1]) (fun c kR=>?_) (fun c o _ _ lV e _=>k1 c o lV e) (fun c o _ _ lV e _=>⟨o.slots,k1 c o lV e⟩) (fun _ _ _ _ n=>n)
   (fun c o lV e=>⟨o,k1 c o lV e⟩) (fun _ _ e=>e) (fun _ _ _ e=>e) (fun c ps e=>⟨#[],by rw [e]; simp⟩) (fun m hm=>?_) (fun c u e=>?_) I.bare
  ·obtain⟨_,a1,_,a3,a4,a5⟩:=hf c (sub c kR)
   exact⟨a3,a1,a4,a5⟩
  ·obtain⟨o,uZ,ep,ho,r⟩:=hm
   exact⟨o,uZ,ep,k1 _ o (fun z=>(hf _ (sub _ z)).2.1 rfl) ho,r⟩
  ·refine (I.hok c u e).stay (fun d v' hd q=>k1 d v' ?_ q) (fun _ q=>q) fun _ _ q=>q
   rcases hd with z | z
   ·rw [z]; exact rT c u e
   ·exact rT d _ z
 self:=fun _ _ _ _ _ st h=>by
  obtain⟨⟨f0,f1,hz,_⟩,_⟩:=st
  exact zh2 hz h
def iZq (pT pU:Hp→Addr→List V→Prop) (ta:TA):TI:=fun σ H R=>ta σ H fun vs H1=>∃ a b xs ys,vs = [.ref a,.ref b]∧pT H1 a xs∧pU H1 b ys∧R (zmZ pT pU a b) H1
theorem zj8 {C:String} {Is:Heap→Addr→Array Value→Prop} {Sq:ah→Hp→Addr→List V→Prop} (S:Sk C Is Sq) {X:Cx} {es:List Expr} {k:Nat} {oK p pos:Pos} {a b:Expr} {ta:TA} (hg:Gl X "zip") (hm:X.mg "zip" = none) (ha:PA X [a,b] ta) (hs:starEach [a,b] X.env = [(false,eval a X.env),(false,eval b X.env)]:=by rfl) (nE:starEach [b] X.env = [(false,eval b X.env)]:=by rfl) :
  PI X (.Tuple es k oK) (.Call (.Name "zip" p) [a,b] [] pos) (iZq (kP X.K) (Sq X.K) ta):=by
 intro kE s σ H R I h
 refine Call_ (zbu I hg hm boot_zip (bE (thn (ha pos kE s σ H _ I h) fun us s1 ⟨vs,H1,I1,r1,q1⟩=>?_) (by rw [hs,nE]) (by rw [nE]; rfl)))
 obtain⟨l1,l2,xs,ys,e,pK,nL,q⟩:=q1
 subst e
 cases r1 with
 | cons r rr =>
  cases rr with
  | cons r' rr =>
   cases rr
   cases r
   cases r'
   obtain⟨lU,rZ,vU,rf⟩:=I1.tuple pK
   obtain⟨lT,sv,wJ,p9⟩:=S.inv I1 nL
   have p8:l1 < s1.heap.objs.size:=by obtain⟨_,e,_⟩:=vU; exact aG e
   refine zem S.h (show s1.heap.IsTuple l1 lU.toArray from vU) wJ fun h' n hn b1 b2 b3 b4 b5 b6 kk=>?_
   have I2:Inv X kE σ H1 { s1 with heap:=h' }:=I1.kept (t':=s1.toks) kk
   refine zh2 b1 ?_
   refine⟨_,zeR n,znK C n l1 l2,zmZ (kP X.K) (Sq X.K) l1 l2,H1,rfl,I2,zj7 S l1 l2 n (by rw [hn]; exact p8) (by rw [hn]; exact p9),⟨⟨_,_,b1,.inl rfl,_,rfl⟩,b2,⟨_,_,b3⟩,b4,b5⟩,fun c hc=>?_,q⟩
   have hle:s1.heap.objs.size≤c:=by
    simp only [zeR,aE,a8,or_false] at hc
    rw [← hn]
    rcases hc with z | z | z | z | z <;> subst z
    all_goals first | exact jY _ _ | exact af _
   exact I1.fpOk hle (I1.hok.fresh hle)
theorem zj9 {X:Cx} {es:List Expr} {k:Nat} {oK p pos:Pos} {a b:Expr} {ta:TA} (hg:Gl X "zip") (hm:X.mg "zip" = none) (ha:PA X [a,b] ta) (hs:starEach [a,b] X.env = [(false,eval a X.env),(false,eval b X.env)]:=by rfl) (nE:starEach [b] X.env = [(false,eval b X.env)]:=by rfl) :
  PI X (.Tuple es k oK) (.Call (.Name "zip" p) [a,b] [] pos) (iZq (kP X.K) (kG X.K) ta):=zj8 sqL hg hm ha hs nE
end L2
end
section
namespace L2
open PySem PySem.Spec PyProof.Rows
end L2
end
section
namespace L2
open PySem PySem.Spec PyProof.Rows
end L2
end
section
namespace L2
open PySem PySem.Spec PyProof.Rows
end L2
end
section
namespace L2
open PySem PySem.Spec PyProof.Rows
end L2
end
section
namespace L2
open PySem PySem.Spec PyProof.Rows
section
variable {P:Program} {w:World} {outer:List Env} {H H':Hp} {h h' B:Heap} {e C:Addr}
theorem zm0 {o:HO} {a:Addr} (x:zak P w H h a o):∃ ob,h.get? a=some ob:=by
 cases o with
 | lst xs=>obtain⟨_,_,_,_,e⟩:=x; exact⟨_,e⟩
 | tup xs=>obtain⟨_,_,_,o,e,_⟩:=x; exact⟨_,e⟩
 | dK kO=>obtain⟨_,_,_,_,o,_,_,e,_⟩:=x; exact⟨_,e⟩
 | dT kO=>obtain⟨_,_,_,_,o,_,_,e,_⟩:=x; exact⟨_,e⟩
 | set S n=>obtain⟨o,_,_,_,e,_⟩:=x; exact⟨_,e⟩
 | ins C dx fs=>obtain⟨_,_,_,e,_⟩:=x; exact⟨_,e⟩
 | own y=>obtain⟨_,e⟩:=x; exact⟨_,e⟩
 | xd fs=>obtain⟨_,⟨_,_,_,e,_⟩,_⟩:=x; exact⟨_,e⟩
 | rng lo hi=>obtain⟨_,_,_,e⟩:=x; exact⟨_,e⟩
 | frz ob u=>obtain⟨e,_⟩:=x; exact⟨_,e⟩
 | tbl ps=>exact⟨_,(show h.get? a=some _ from x)⟩
 | met f y=>exact⟨_,(show h.get? a=some _ from x)⟩
 | ext φ=>obtain⟨_,⟨_,e⟩,_⟩:=x; exact⟨_,e⟩
end
end L2
end
section
namespace L2
open PySem PySem.Spec PyProof.Rows
end L2
end
section
namespace L2
open PySem PySem.Spec PyProof.Rows
end L2
end
section
namespace L2
open PySem PySem.Spec PyProof.Rows
end L2
end
section
namespace L2
open PySem PySem.Spec PyProof.Rows
end L2
end
section
namespace L2
open PySem PySem.Spec PyProof.Rows
section
variable {κ:Type} [DecidableEq κ]
def zhn (kO:List (κ×V)) (k:κ):Option V:=(kO.find? fun kv=>decide (kv.1=k)).map (·.2)
def putK (kO:List (κ×V)) (k:κ) (v:V):List (κ×V) :=
 if (kO.any fun kv=>decide (kv.1=k))=true then kO.map (fun kv=>if kv.1=k then (kv.1,v) else kv) else kO++[(k,v)]
theorem zgl {p:κ×V} {r:List (κ×V)} {k:κ} (e:p.1=k):zhn (p :: r) k=some p.2:=by simp [zhn,fW,e]
theorem zgm {p:κ×V} {r:List (κ×V)} {k:κ} (e:¬ p.1=k):zhn (p :: r) k=zhn r k:=by simp [zhn,fW,e]
theorem zgn (k:κ):∀ kO:List (κ×V),(kO.any fun kv=>decide (kv.1=k))=(zhn kO k).isSome
 | []=>rfl
 | p :: r=>by
  rw [fH]
  by_cases e:p.1=k
  ·simp only [zgl e,decide_eq_true e,Bool.true_or,jv]
  ·rw [zgm e,decide_eq_false e,Bool.false_or]; exact zgn k r
theorem zdD (kO:List (κ×V)) (k:κ) (v:V):(putK kO k v).length≤kO.length+1:=by
 unfold putK
 split
 ·rw [ab]; lia
 ·rw [ar,cD,fX]; lia
theorem ziE.isSome_eq {o:Option V} {u:Option Value} (r:ziE o u):o.isSome=u.isSome:=by
 cases o with
 | none=>cases u with
  | none=>rfl
  | some _=>exact (show False from r).elim
 | some _=>cases u with
  | none=>exact (show False from r).elim
  | some _=>rfl
theorem KV.any {kO:List (κ×V)} {vs:List (κ×Value)} (r:KV kO vs) (k:κ):(kO.any fun kv=>decide (kv.1=k))=vs.any fun kv=>decide (kv.1=k):=by
 unfold KV at r
 induction r with
 | nil=>rfl
 | cons h t ih=>rw [fH,fH,ih,h.1]
theorem KV.repl {kO:List (κ×V)} {vs:List (κ×Value)} (r:KV kO vs) (k:κ) {y:V} {u:Value} (ry:RelV y u) :
  KV (kO.map fun kv=>if kv.1=k then (kv.1,y) else kv) (vs.map fun kv=>if kv.1=k then (kv.1,u) else kv):=by
 unfold KV at r ⊢
 induction r with
 | nil=>exact .nil
 | @cons p q ps qs h t ih =>
  rw [bd,bd]
  refine .cons ?_ ih
  obtain⟨h1,h2⟩:=h
  by_cases e:p.1=k
  ·rw [if_pos e,if_pos (h1.symm.trans e)]; exact⟨h1,ry⟩
  ·rw [if_neg e,if_neg (fun z=>e (h1.trans z))]; exact⟨h1,h2⟩
theorem KV.put {kO:List (κ×V)} {vs:List (κ×Value)} (r:KV kO vs) (k:κ) {y:V} {u:Value} (ry:RelV y u):KV (putK kO k y) (stored vs k u):=by
 unfold putK stored
 rw [r.any k]
 by_cases e:(vs.any fun kv=>decide (kv.1=k))=true
 ·rw [if_pos e,if_pos e]; exact r.repl k ry
 ·rw [if_neg e,if_neg e]; exact bO r ⟨rfl,ry⟩
theorem KV.length {kO:List (κ×V)} {vs:List (κ×Value)} (r:KV kO vs):kO.length=vs.length:=gw r
end
theorem zmh {P:Program} {w:World} {k:Key} {u:Value} (r:RelV (kV k) u):(zaH P w).is k u=true:=by
 cases k with
 | inl i=>obtain⟨t,e⟩:=(show ∃ t,u=io i t from r); subst e; exact zfW P w i t
 | inr x=>obtain⟨t,e⟩:=(show ∃ t,u=jf x t from r); subst e; exact zfX P w x t
theorem zff {P:Program} {w:World}:∀ {ks:List Key} {us:List Value},zN (ks.map kV) us→ItemsAre (zaH P w) ks us
 | [],_,r=>by rw [cJ] at r; cases r; exact .nil
 | k :: ks,_,r=>by
  rw [bd] at r
  cases r with
  | cons h t=>exact .cons (zmh h) (zff t)
abbrev KT (H:Hp):List (List Key×V)→List (List Key×Addr×Value)→Prop:=Paired fun p q=>p.1=q.1∧H q.2.1=some (.tup (p.1.map kV))∧RelV p.2 q.2.2
theorem KT.val {H:Hp} {kO:List (List Key×V)} {xs:List (List Key×Addr×Value)} (r:KT H kO xs) (k:List Key):ziE (zhn kO k) ((atKey xs k).map (·.2)):=by
 induction r with
 | nil=>exact eN
 | @cons p q ps qs h t ih =>
  obtain⟨h1,_,h2⟩:=h
  by_cases e:p.1=k
  ·have e':q.1=k:=h1.symm.trans e
   have b:atKey (q :: qs) k=some q.2:=by simp [atKey,fW,e']
   rw [zgl e,b]; exact h2
  ·have e':¬ q.1=k:=fun z=>e (h1.trans z)
   have b:atKey (q :: qs) k=atKey qs k:=by simp [atKey,fW,e']
   rw [zgm e,b]; exact ih
theorem KT.repl {H:Hp} {kO:List (List Key×V)} {xs:List (List Key×Addr×Value)} (r:KT H kO xs) (k:List Key) {y:V} {u:Value} (ry:RelV y u) :
  KT H (kO.map fun kv=>if kv.1=k then (kv.1,y) else kv) (xs.map (putAt k u)):=by
 induction r with
 | nil=>exact .nil
 | @cons p q ps qs h t ih =>
  rw [bd,bd]
  refine .cons ?_ ih
  obtain⟨h1,h2,h3⟩:=h
  unfold putAt
  by_cases e:p.1=k
  ·rw [if_pos e,if_pos (h1.symm.trans e)]; exact⟨h1,h2,ry⟩
  ·rw [if_neg e,if_neg (fun z=>e (h1.trans z))]; exact⟨h1,h2,h3⟩
theorem KT.put {H:Hp} {kO:List (List Key×V)} {xs:List (List Key×Addr×Value)} (r:KT H kO xs) (k:List Key) {b:Addr} {y:V} {u:Value} (hb:H b=some (.tup (k.map kV))) (ry:RelV y u) :
  KT H (putK kO k y) (storedH xs k b u):=by
 have e:(kO.any fun kv=>decide (kv.1=k))=(atKey xs k).isSome:=by
  rw [zgn,(r.val k).isSome_eq,Option.isSome_map]
 unfold putK storedH
 rw [e]
 by_cases q:(atKey xs k).isSome=true
 ·rw [if_pos q,if_pos q]; exact r.repl k ry
 ·rw [if_neg q,if_neg q]; exact bO r ⟨rfl,hb,ry⟩
theorem KT.keeps {H H':Hp} {kO:List (List Key×V)} {xs:List (List Key×Addr×Value)} (r:KT H kO xs) (ht:∀ b ys,H b=some (.tup ys)→H' b=some (.tup ys)):KT H' kO xs :=
 Paired.mapP r fun _ _ z=>⟨z.1,ht _ _ z.2.1,z.2.2⟩
section
variable {P:Program} {w:World} {H:Hp} {h:Heap} {a:Addr}
theorem zmi {u:HO} (ok:HOk P w H h) (e:Rd H a u):zak P w H h a u:=e.ok ok
theorem znL {kO:List (Key×V)} (ok:HOk P w H h) (e:Rd H a (.dK kO)):kO.length≤sizeLine∧(a == sysModules)=false∧∃ vs,KV kO vs∧h.DictOf (zaH P w) a vs :=
 show zak P w H h a (.dK kO) from zmi ok e
theorem znM {kO:List (Key×V)} (ok:HOk P w H h) (e:H a=some (.dK kO)):kO.length≤sizeLine∧(a == sysModules)=false∧∃ vs,KV kO vs∧h.DictOf (zaH P w) a vs:=znL ok (.inl e)
theorem zka {ks:List Key} (ok:HOk P w H h) (e:H a=some (.tup (ks.map kV))):(tupleKind (zaH P w)).is h ks a:=by
 obtain⟨_,kK,r,o,h1,h2,n,h3⟩:=(show zak P w H h a (.tup (ks.map kV)) from ok a _ e)
 exact⟨o,kK.toArray,n,h1,h2,h3,by simpa using zff r⟩
theorem znN {kO:List (List Key×V)} (ok:HOk P w H h) (e:Rd H a (.dT kO)):kO.length≤sizeLine∧(a == sysModules)=false ∧
  ∃ xs,KT H kO xs∧h.DictOfH (tupleKind (zaH P w)) a xs:=by
 obtain⟨z,y,xs,r,o,es,ep,h1,h2,h3,h4,h5⟩:=(show zak P w H h a (.dT kO) from zmi ok e)
 refine⟨z,y,xs,r,o,es,ep,h1,h2,h3,h4,fun x hx=>?_,h5⟩
 have all:∀ {l:List (List Key×V)} {m:List (List Key×Addr×Value)},KT H l m→∀ x∈m,(tupleKind (zaH P w)).is h x.1 x.2.1:=by
  intro l m q
  induction q with
  | nil=>intro x hx; exact nomatch hx
  | @cons p q ps qs hq t ih =>
   intro x hx
   rcases aE.mp hx with e | hx
   ·subst e
    exact zka ok (by rw [← hq.1]; exact hq.2.1)
   ·exact ih x hx
 exact all r x hx
theorem znO {kO:List (List Key×V)} (ok:HOk P w H h) (e:H a=some (.dT kO)):kO.length≤sizeLine∧(a == sysModules)=false ∧
  ∃ xs,KT H kO xs∧h.DictOfH (tupleKind (zaH P w)) a xs:=znN ok (.inl e)
end
def zkb (H:Hp) (a:Addr) (y v:V) (H':Hp):Prop :=
 (∃ kO k,H a=some (.dK kO)∧y=kV k∧kO.length < sizeLine∧H'=kL H a (.dK (putK kO k v))) ∨
 ∃ kO k b,H a=some (.dT kO)∧y = .ref b∧H b=some (.tup (k.map kV))∧kO.length < sizeLine∧H'=kL H a (.dT (putK kO k v))
theorem zkb.t {H:Hp} {a b:Addr} {kO:List (List Key×V)} {k:List Key} {v:V} (e:H a=some (.dT kO)) (eb:H b=some (.tup (k.map kV))) (hl:kO.length < sizeLine) :
  zkb H a (.ref b) v (kL H a (.dT (putK kO k v))):=.inr ⟨kO,k,b,e,rfl,eb,hl,rfl⟩
section
variable {X:Cx} {kE:List (Addr×Obj)} {σ:St} {H:Hp} {s:Shared} {a:Addr} {y v:V} {u r:Value} {o:Option V} {A:Around} {E:Value→Shared→Prop}
theorem Inv.big (I:Inv X kE σ H s):sysModules < s.heap.objs.size:=by
 have h:mainGlobals < s.heap.objs.size:=(I.mod.glob.keeps I.bk).lt
 exact Nat.lt_trans (by decide) h
theorem zh3 {h':Heap} {t':Nat} {ob:HO} (I:Inv X kE σ H s) (mu:Mut (H a)) (hs:bj a s.heap h') (he:∃ q,h'.get? a=some q) (new:zak X.prog X.w (kL H a ob) h' a ob) :
  Inv X kE σ (kL H a ob) { s with heap:=h',toks:=t' } :=
 I.write (x:=a) (e:=a) mu (.inl rfl) (fun b q hb z=>(hs.2 b hb).trans z) he new
theorem zm1 {P:Program} {w:World} {H':Hp} {h':Heap} {kO:List (Key×V)} {vs:List (Key×Value)} (z:kO.length≤sizeLine) (hd:(a == sysModules)=false) (rel:KV kO vs) (dd:h'.DictOf (zaH P w) a vs) :
  zak P w H' h' a (.dK kO):=⟨z,hd,vs,rel,dd⟩
theorem zi1 {H':Hp} {Q:Unit→Shared→Prop} (hu:A.units+1 < cLine) (I:Inv X kE σ H s) (g:zkb H a y v H') (ry:RelV y u) (rv:RelV v r) (h:∀ s',Inv X kE σ H' s'→Q () s') :
  wpAny (model X.prog X.w) A (setItem (.ref a) u r) Q E s:=by
 rcases g with ⟨kO,k,e,ey,l,eH⟩ | ⟨kO,k,b,e,ey,eb,l,eH⟩
 ·subst ey eH
  obtain⟨z,hd,vs,rel,dd⟩:=znM I.hok e
  have hz:vs.length≤sizeLine:=by rw [← rel.length]; exact z
  have hl:(putK kO k v).length≤sizeLine:=by have:=zdD kO k v; lia
  refine wpAny_setItem_pairs (hsz:=hz) (zmh ry) dd fun h' B0 hs=>h _ ?_
  have he:∃ q,h'.get? a=some q:=let ⟨q,_,_,hq,_⟩:=B0; ⟨q,hq⟩
  exact zh3 I (by rw [e]; exact eN) hs he (zm1 hl hd (rel.put k rv) B0)
 ·subst ey eH
  cases (show u=aY b from ry)
  obtain⟨z,hd,xs,rel,dd⟩:=znO I.hok e
  have hz:xs.length≤sizeLine:=by rw [← gw rel]; exact z
  have hl:(putK kO k v).length≤sizeLine:=by have:=zdD kO k v; lia
  refine wpAny_setItem_heap (hsz:=hz) (tupleKind_room_in1 hu) (zka I.hok eb) dd fun h' B0 hs=>h _ ?_
  obtain⟨q,es,ep,hq,h2,h3,h4,_,h5⟩:=B0
  refine zh3 I (by rw [e]; exact eN) hs ⟨q,hq⟩ ⟨hl,hd,_,(rel.put k eb rv).keeps fun c ys ec=>?_,q,es,ep,hq,h2,h3,h4,h5⟩
  rw [zq (znj ec e (fun z=>nomatch z))]
  exact ec
end
def znP (td ty tv:TE):TS:=fun D σ H=>tv σ H fun v H1=>td σ H1 fun x H2=>ty σ H2 fun y H3=>∃ a H4,x = .ref a∧zkb H3 a y v H4∧D.nx σ H4
section
variable {X:Cx} {o i e value:Expr} {pos pos' oK:Pos} {td ty tv:TE}
theorem zln (hu:X.A.units+1 < cLine) (ho:PE X o td) (hi:PE X i ty) (hv:PE X value tv) (hs:swapsWith value (some (.Subscript o i pos')) pos.line X.env=pure false) :
  PS X (.Assign [.Subscript o i pos'] value pos) (znP td ty tv):=by
 intro kE s σ H D I h
 refine wpAny_Assign_Subscript (thn (hv kE s σ H _ I h) fun r s1 ⟨v,H1,I1,rv,q1⟩=>thn (ho kE s1 σ H1 _ I1 q1) fun u s2 ⟨x,H2,I2,rx,q2⟩=>thn (hi kE s2 σ H2 _ I2 q2) fun iv s3 ⟨y,H3,I3,ry,a,H4,ex,g,q3⟩=>?_) hs
 subst ex
 obtain rfl:u=aY a:=rx
 exact zi1 hu I3 g ry rv fun s4 I4=>⟨σ,H4,I4,q3⟩
end
theorem zkc {P:Program} {w:World} {H:Hp} (h:Heap) (hb:sysModules < h.objs.size):zak P w H (h.push { cls:=.type "dict",data:=.dict #[] }) h.objs.size (.dT []) :=
 ⟨bb _,beq_eq_false_iff_ne.mpr (cR (bi hb)),[],.nil,_,#[],0,aI _ rfl,⟨rfl,rfl,rfl⟩,rfl,rfl,gh⟩
def zm2:TE:=fun _ H Q=>∀ p,H p=none→Q (.ref p) (kL H p (.dT []))
section
variable {X:Cx} {pos:Pos}
theorem zkd:PE X (.Dict [] [] pos) zm2:=fun kE s σ H Q I h =>
 wpAny_Dict_empty ⟨.ref s.heap.objs.size,_,I.laid (a:=s.heap.objs.size) (o:=.dT []) (t':=s.toks) (fun _ _ q=>ai _ q) (af _) (zkc s.heap I.big),rfl,h _ (I.hok.fresh (af _))⟩
end
end L2
end
section
namespace L2
open PySem PySem.Spec PyProof.Rows
end L2
namespace PySem
open PyProof.Rows
end PySem
namespace L2
open PySem PySem.Spec PyProof.Rows
end L2
end
section
namespace L2
open PySem PySem.Spec PyProof.Rows
end L2
namespace My
open PySem L2 PyProof.Rows
section
variable {K:ah}
structure RowAt (K:ah) (H:Hp) (r:Addr) (n:Nat) (rw:List (Option Int)):Prop where
 at':kG K H r (rw.map lL)
 len:rw.length=n
end
end My
end
section
namespace Srt
open PySem PyProof.Rows
def Vk (val:Keyed→Int) (xs:Array Keyed) (i:Nat):Int:=match xs[i]? with
 | some p=>val p
 | none=>0
theorem z8 {val:Keyed→Int} {xs ys:Array Keyed} {i j:Nat} (h:xs[i]? = ys[j]?):Vk val xs i=Vk val ys j:=by unfold Vk; rw [h]
theorem zX {val:Keyed→Int} {xs:Array Keyed} {i:Nat} {p:Keyed} (h:xs[i]? = some p):Vk val xs i=val p:=by unfold Vk; rw [h]
def SIn (val:Keyed→Int) (xs:Array Keyed) (lo hi:Nat):Prop:=∀ i j,lo≤i→i≤j→j < hi→Vk val xs i≤Vk val xs j
def DIn (val:Keyed→Int) (xs:Array Keyed) (lo hi:Nat):Prop:=∀ i j,lo≤i→i≤j→j < hi→Vk val xs j≤Vk val xs i
structure SB (κ:SortKind) (a₀:Array Keyed) (st:SortSt):Prop where
 perm:(arrOf st).Perm a₀
 kind:kindOf st=κ
 failed:failedOf st=none
theorem SB.size {κ:SortKind} {a₀:Array Keyed} {st:SortSt} (h:SB κ a₀ st):(arrOf st).size=a₀.size:=h.perm.size_eq
theorem SB.mem {κ:SortKind} {a₀:Array Keyed} {st:SortSt} (h:SB κ a₀ st) {i:Nat} (hi:i < a₀.size):∃ p,(arrOf st)[i]? = some p∧p∈a₀.toList:=by
 (have mW:i < (arrOf st).size:=by rw [h.size]; exact hi)
 exact⟨(arrOf st)[i],getElem?_pos _ i mW,(eS.mp h.perm).mem_iff.mp (by simp)⟩
structure SF (κ:SortKind) (a₀:Array Keyed) (lo:Nat) (st₀ st:SortSt):Prop where
 b:SB κ a₀ st
 low:∀ k,k < lo→(arrOf st)[k]? = (arrOf st₀)[k]?
 pend:pendingOf st=pendingOf st₀
theorem SF.refl {κ:SortKind} {a₀:Array Keyed} {lo:Nat} {st:SortSt} (h:SB κ a₀ st):SF κ a₀ lo st st:=⟨h,fun _ _=>rfl,rfl⟩
theorem SF.setArr {κ:SortKind} {a₀:Array Keyed} {lo:Nat} {st₀ st:SortSt} (h:SF κ a₀ lo st₀ st) {xs:Array Keyed} (hp:xs.Perm (arrOf st)) (hl:∀ k,k < lo→xs[k]? = (arrOf st)[k]?):SF κ a₀ lo st₀ (setArr st xs) :=
 ⟨⟨hp.trans h.b.perm,h.b.kind,h.b.failed⟩,fun k hk=>(hl k hk).trans (h.low k hk),h.pend⟩
section
variable {prog:Program} {w:World} {A:Around} {E:Value→Shared→Prop} {s:Shared} {a₀:Array Keyed} {κ:SortKind} {val:Keyed→Int}
def Cmp (prog:Program) (w:World) (A:Around) (s:Shared) (κ:SortKind) (val:Keyed→Int) (a₀:Array Keyed):Prop :=
 ∀ x y,x∈a₀.toList→y∈a₀.toList→∀ (Q:Bool→Shared→Prop) (E:Value→Shared→Prop),Q (decide (val x < val y)) s→wpAny (model prog w) A (keyLt' κ x.1 y.1) Q E s
theorem zke {st:SortSt} {x y:Keyed} {Q:Option Bool→SortSt→Prop} (hC:Cmp prog w A s κ val a₀) (hk:kindOf st=κ) (hx:x∈a₀.toList) (hy:y∈a₀.toList) (h:Q (some (decide (val x < val y))) st) :
  wpS (model prog w) A E s (lt' x y) Q st:=by
 rw [lt'_eq]
 refine av (eI ?_)
 rw [hk]
 refine av (gi (cM (hC x y hx hy _ _ ⟨rfl,?_⟩)))
 exact az h
theorem zS {st:SortSt} {arr:Array Keyed} {i:Nat} {p:Keyed} {Q:Keyed→SortSt→Prop} (hi:arr[i]? = some p) (h:Q p st):wpS (model prog w) A E s (elem' arr i) Q st:=by
 rw [elem'_eq,hi]
 exact az h
theorem zeo {st:SortSt} {i j:Nat} {Q:Option Bool→SortSt→Prop} (hC:Cmp prog w A s κ val a₀) (hB:SB κ a₀ st) (hi:i < a₀.size) (hj:j < a₀.size) (h:Q (some (decide (Vk val (arrOf st) i < Vk val (arrOf st) j))) st) :
  (wpS (model prog w) A E s (ltAt' i j) Q st):=by
 obtain⟨x,ex,mx⟩:=hB.mem hi
 obtain⟨y,ey,my⟩:=hB.mem hj
 rw [ltAt'_eq]
 refine av (eI ?_)
 (show wpS _ _ _ _ (do let x ← elem' (arrOf st) i; let y ← elem' (arrOf st) j; lt' x y) Q st)
 refine av (zS ex (av (zS ey (zke hC hB.kind mx my ?_))))
 rw [zX ex,zX ey] at h
 exact h
theorem zh4 {st:SortSt} {i j:Nat} {Q:Unit→SortSt→Prop} (h:Q () (setArr st (mirror (arrOf st) i j ((j - i) / 2)))) :
  (wpS (model prog w) A E s (reverseSlice' i j) Q st):=by
 ((rw [reverseSlice'_eq]; exact dC h))
theorem zep {xs:Array Keyed} {i j:Nat} (hj:j≤xs.size) (k:Nat):Vk val (mirror xs i j ((j - i) / 2)) k=if i≤k∧k < j then Vk val xs (i+j - 1 - k) else Vk val xs k:=by
 (have e:=je (i:=i) hj k)
 by_cases h1:i≤k∧k < j
 ·rw [if_pos h1] at e ⊢; exact z8 e
 ·rw [if_neg h1] at e ⊢; exact z8 e
theorem zbk {xs:Array Keyed} {i j:Nat} (hj:j≤xs.size) (heq:∀ k,i≤k→k < j→Vk val xs k=Vk val xs (j - 1)) (k:Nat):Vk val (mirror xs i j ((j - i) / 2)) k=Vk val xs k:=by
 rw [zep hj]
 split
 ·(rw [heq _ (by lia) (by lia),heq k (by lia) (by lia)])
 ·rfl
theorem zbZ {xs:Array Keyed} {lo i j:Nat} (hj:j≤xs.size) (hi:lo≤i):∀ k,k < lo→(mirror xs i j ((j - i) / 2))[k]? = xs[k]?:=fun k hk=>by
 rw [je hj,if_neg (by lia)]
theorem zho {xs:Array Keyed} {lo src d:Nat} (hs:src < xs.size) (hd:d≤src) (hl:lo≤src - d):∀ k,k < lo→(bubble xs src d)[k]? = xs[k]?:=fun k hk=>by
 rw [getElem?_bubble hs d hd,if_neg (by lia),if_neg (by lia)]
def zkf (lo a kU:Nat):StateT SortSt Sem AscSt :=
 forIn [a:kU] ((none,a):AscSt) fun _ st=>do
  let x ← ltAt' (lo+st.snd) (lo+st.snd - 1)
  match x with
  | some qa=>if qa=true then pure (fo (none,st.snd)) else pure (cm (none,st.snd+1))
  | _=>pure (fo (some none,st.snd))
def zgo (lo n kU:Nat):StateT SortSt Sem (Option Nat):=do
 reverseSlice' lo (lo+n)
 let st ← zkf lo n kU
 match st.fst with
 | some r=>pure r
 | none=>pure (some st.snd)
def zh5 (lo n kU:Nat):StateT SortSt Sem DescSt :=
 forIn [n:kU] ((none,n,0):DescSt) fun _ st=>do
  let x ← ltAt' (lo+st.snd.fst) (lo+st.snd.fst - 1)
  match x with
  | some qa =>
   if qa=true then
    if st.snd.snd > 0 then do
     reverseSlice' (lo+st.snd.fst - (st.snd.snd+1)) (lo+st.snd.fst)
     pure (cm (none,st.snd.fst+1,0))
    else pure (cm (none,st.snd.fst+1,0))
   else do
    let x ← ltAt' (lo+st.snd.fst - 1) (lo+st.snd.fst)
    match x with
    | some wR =>
     if wR=true then pure (fo (none,st.snd.fst,st.snd.snd))
     else pure (cm (none,st.snd.fst+1,st.snd.snd+1))
    | _=>pure (fo (some none,st.snd.fst,st.snd.snd))
  | _=>pure (fo (some none,st.snd.fst,st.snd.snd))
def zgp (lo n kU:Nat):StateT SortSt Sem (Option Nat):=do
 liftM (rule "list.sort.descending-run"); let st ← zh5 lo (n+1) kU
 match st.fst with
 | some r=>pure r
 | none =>
  if st.snd.snd > 0 then do
   reverseSlice' (lo+st.snd.fst - (st.snd.snd+1)) (lo+st.snd.fst)
   zgo lo st.snd.fst kU
  else zgo lo st.snd.fst kU
theorem zfD (lo kU:Nat):countRun' lo kU=(do
  let st ← zkf lo 1 kU
  match st.fst with
  | some r=>pure r
  | none =>
   if (st.snd == kU)=true then pure (some st.snd)
   else if st.snd > 1 then do
    let x ← ltAt' lo (lo+st.snd - 1)
    match x with
    | some yT=>if yT=true then pure (some st.snd) else do
      reverseSlice' lo (lo+st.snd)
      zgp lo st.snd kU
    | _=>pure none
   else zgp lo st.snd kU):=by
 rw [countRun'_eq]
 unfold zgp zgo zh5 zkf
 dsimp only
 refine congrArg (bind _) ?_
 funext c
 obtain⟨r,n⟩:=c
 cases r with
 | some r=>rfl
 | none =>
  dsimp only
  split
  ·rfl
  ·split
   ·congr 1
    funext x
    cases x with
    | none=>rfl
    | some yT =>
     dsimp only
     split
     ·rfl
     ·congr 1
      funext _r
      congr 1; funext _u; congr 1; congr 1; funext s2; obtain⟨r2,n2,q2⟩:=s2
      cases r2 with
      | some r2=>rfl
      | none =>
       dsimp only
       split
       ·congr 1; funext _v; congr 1; funext _w; congr 1; funext s3; obtain⟨r3,n3⟩:=s3; cases r3 <;> rfl
       ·congr 1; funext _w; congr 1; funext s3; obtain⟨r3,n3⟩:=s3; cases r3 <;> rfl
   ·congr 1; funext _u; congr 1; congr 1; funext s2; obtain⟨r2,n2,q2⟩:=s2
    cases r2 with
    | some r2=>rfl
    | none =>
     dsimp only
     split
     ·congr 1; funext _v; congr 1; funext _w; congr 1; funext s3; obtain⟨r3,n3⟩:=s3; cases r3 <;> rfl
     ·congr 1; funext _w; congr 1; funext s3; obtain⟨r3,n3⟩:=s3; cases r3 <;> rfl
theorem zmj {st₀ st:SortSt} {lo a kU:Nat} {Q:AscSt→SortSt→Prop} (hC:Cmp prog w A s κ val a₀) (hn:lo+kU≤a₀.size) (ha:1≤a) (han:a≤kU) (hB:SF κ a₀ lo st₀ st)
  (hs:SIn val (arrOf st) lo (lo+a))
  (h:∀ n,a≤n→n≤kU→SIn val (arrOf st) lo (lo+n)→(n=kU∨Vk val (arrOf st) (lo+n) < Vk val (arrOf st) (lo+n - 1))→Q (none,n) st) :
  wpS (model prog w) A E s (zkf lo a kU) Q st:=by
 unfold zkf
 refine bT (I:=fun x c kM=>kM=st∧c=(none,x)∧SIn val (arrOf st) lo (lo+x)) ?step ?fin ⟨rfl,rfl,hs⟩
 case fin =>
  rintro c kM ⟨rfl,rfl,mP⟩
  (rw [show max a kU=kU by lia] at mP ⊢)
  (exact h kU han (af _) mP (.inl rfl))
 case step =>
  (rintro x c kM yU B1 ⟨rfl,rfl,mP⟩)
  dsimp only
  refine av (zeo hC hB.b (by lia) (by lia) ?_)
  by_cases lZ:Vk val (arrOf kM) (lo+x) < Vk val (arrOf kM) (lo+x - 1)
  ·(simp only [lZ,decide_true,if_true])
   (exact az (h x yU (by lia) mP (.inr lZ)))
  ·(simp only [lZ,decide_false,bn,if_false])
   refine az ⟨rfl,rfl,fun i j qB oE hj=>?_⟩
   by_cases yV:j < lo+x
   ·exact mP i j qB oE yV
   ·have oI:j=lo+x:=by lia
    subst oI
    by_cases mW:i=lo+x
    ·(subst mW; exact bU _)
    ·exact b7 (mP i (lo+x - 1) qB (by lia) (by lia)) (Int.not_lt.mp lZ)
theorem zkg {st₀ st:SortSt} {lo n kU:Nat} {Q:Option Nat→SortSt→Prop} (hC:Cmp prog w A s κ val a₀) (hn:lo+kU≤a₀.size) (h1:1≤n) (tE:n≤kU) (hB:SF κ a₀ lo st₀ st)
  (hs:DIn val (arrOf st) lo (lo+n)) (h:∀ m kM,SF κ a₀ lo st₀ kM→1≤m→m≤kU→SIn val (arrOf kM) lo (lo+m)→Q (some m) kM) :
  wpS (model prog w) A E s (zgo lo n kU) Q st:=by
 unfold zgo
 have hsz:lo+n≤(arrOf st).size:=by rw [hB.b.size]; lia
 refine av (zh4 ?_)
 have m5:=hB.setArr (iJ (arrOf st) lo (lo+n) ((lo+n - lo) / 2)) (zbZ hsz (af _))
 refine av (zmj hC hn h1 tE m5 ?_ fun m rj qA wU _=>az (h m _ m5 (by lia) qA wU))
 intro i j qB oE hj
 show Vk val (mirror (arrOf st) lo (lo+n) ((lo+n - lo) / 2)) i≤Vk val (mirror (arrOf st) lo (lo+n) ((lo+n - lo) / 2)) j
 rw [zep hsz,zep hsz,if_pos (by lia),if_pos (by lia)]
 exact hs _ _ (by lia) (by lia) (by lia)
theorem zm3 {st₀ st:SortSt} {lo n kU:Nat} {Q:DescSt→SortSt→Prop} (hC:Cmp prog w A s κ val a₀) (hn:lo+kU≤a₀.size) (h1:1≤n) (tE:n≤kU) (hB:SF κ a₀ lo st₀ st)
  (hs:DIn val (arrOf st) lo (lo+n))
  (h:∀ m rk kM,SF κ a₀ lo st₀ kM→n≤m→m≤kU→DIn val (arrOf kM) lo (lo+m)→rk+1≤m→(∀ i,lo+m - (rk+1)≤i→i < lo+m→Vk val (arrOf kM) i=Vk val (arrOf kM) (lo+m - 1))→Q (none,m,rk) kM) :
  wpS (model prog w) A E s (zh5 lo n kU) Q st:=by
 unfold zh5
 refine bT (I:=fun x c kM=>∃ rk,c=(none,x,rk)∧SF κ a₀ lo st₀ kM∧DIn val (arrOf kM) lo (lo+x)∧rk+1≤x ∧
   (∀ i,lo+x - (rk+1)≤i→i < lo+x→Vk val (arrOf kM) i=Vk val (arrOf kM) (lo+x - 1))) ?step ?fin ⟨0,rfl,hB,hs,by lia,fun i h1 h2=>by congr 1; lia⟩
 case fin =>
  (rintro c kM ⟨rk,rfl,m5,mP,hq,he⟩)
  (rw [show max n kU=kU by lia] at mP hq he ⊢)
  (exact h kU rk kM m5 tE (af _) mP hq he)
 case step =>
  (rintro x c kM yU B1 ⟨rk,rfl,m5,mP,hq,he⟩)
  dsimp only
  have hsz:lo+x≤(arrOf kM).size:=by rw [m5.b.size]; lia
  refine av (zeo hC m5.b (by lia) (by lia) ?_)
  by_cases lZ:Vk val (arrOf kM) (lo+x) < Vk val (arrOf kM) (lo+x - 1)
  ·(simp only [lZ,decide_true,if_true])
   have step1:∀ xs:Array Keyed,(∀ k,Vk val xs k=Vk val (arrOf kM) k)→DIn val xs lo (lo+(x+1)):=by
    intro xs hk i j qB oE hj
    rw [hk,hk]
    by_cases yV:j < lo+x
    ·exact mP i j qB oE yV
    ·have oI:j=lo+x:=by lia
     subst oI
     by_cases mW:i=lo+x
     ·(subst mW; exact bU _)
     ·exact b7 (eJ lZ) (mP i (lo+x - 1) qB (by lia) (by lia))
   by_cases tX:rk > 0
   ·rw [if_pos tX]
    refine av (zh4 (az ⟨0,rfl,m5.setArr (iJ _ _ _ _) (zbZ hsz (by lia)),step1 _ (zbk hsz he),by lia,fun i h1 h2=>by congr 1; lia⟩))
   ·rw [if_neg tX]
    (exact az ⟨0,rfl,m5,step1 _ (fun _=>rfl),by lia,fun i h1 h2=>by congr 1; lia⟩)
  ·(simp only [lZ,decide_false,bn,if_false])
   refine av (zeo hC m5.b (by lia) (by lia) ?_)
   by_cases r8:Vk val (arrOf kM) (lo+x - 1) < Vk val (arrOf kM) (lo+x)
   ·(simp only [r8,decide_true,if_true])
    (exact az (h x rk kM m5 yU (by lia) mP hq he))
   ·(simp only [r8,decide_false,bn,if_false])
    have yW:Vk val (arrOf kM) (lo+x)=Vk val (arrOf kM) (lo+x - 1):=by lia
    refine az ⟨rk+1,rfl,m5,fun i j qB oE hj=>?_,by lia,fun i h1 h2=>?_⟩
    ·by_cases yV:j < lo+x
     ·exact mP i j qB oE yV
     ·have oI:j=lo+x:=by lia
      subst oI
      by_cases mW:i=lo+x
      ·(subst mW; exact bU _)
      ·rw [yW]; exact mP i (lo+x - 1) qB (by lia) (by lia)
    ·rw [show lo+(x+1) - 1=lo+x by lia]
     by_cases xX:i=lo+x
     ·subst xX; rfl
     ·(rw [yW]; exact he i (by lia) (by lia))
theorem zh6 {st₀ st:SortSt} {lo n kU:Nat} {Q:Option Nat→SortSt→Prop} (hC:Cmp prog w A s κ val a₀) (hn:lo+kU≤a₀.size) (tE:n+1≤kU) (hB:SF κ a₀ lo st₀ st)
  (hs:DIn val (arrOf st) lo (lo+(n+1))) (h:∀ m kM,SF κ a₀ lo st₀ kM→1≤m→m≤kU→SIn val (arrOf kM) lo (lo+m)→Q (some m) kM) :
  wpS (model prog w) A E s (zgp lo n kU) Q st:=by
 unfold zgp
 (refine av (gi (b8 ⟨rfl,?_⟩)))
 refine av (zm3 hC hn (by lia) tE hB hs fun m rk kM m5 rj qA mP hq he=>?_)
 dsimp only
 have hsz:lo+m≤(arrOf kM).size:=by rw [m5.b.size]; lia
 by_cases tX:rk > 0
 ·rw [if_pos tX]
  refine av (zh4 (zkg hC hn (by lia) qA (m5.setArr (iJ _ _ _ _) (zbZ hsz (by lia))) ?_ h))
  intro i j qB oE hj
  show Vk val (mirror (arrOf kM) _ _ _) j≤Vk val (mirror (arrOf kM) _ _ _) i
  rw [zbk hsz he,zbk hsz he]
  exact mP i j qB oE hj
 ·rw [if_neg tX]
  exact zkg hC hn (by lia) qA m5 mP h
theorem zlo {st₀ st:SortSt} {lo kU:Nat} {Q:Option Nat→SortSt→Prop} (hC:Cmp prog w A s κ val a₀) (hn:lo+kU≤a₀.size) (h1:1≤kU) (hB:SF κ a₀ lo st₀ st)
  (h:∀ m kM,SF κ a₀ lo st₀ kM→1≤m→m≤kU→SIn val (arrOf kM) lo (lo+m)→Q (some m) kM) :
  wpS (model prog w) A E s (countRun' lo kU) Q st:=by
 rw [zfD]
 refine av (zmj hC hn (af 1) h1 hB (fun i j qB oE hj=>(by
   have e:i=j:=by lia
   rw [e]
   exact bU _)) fun n uH qV uI hor=>?_)
 dsimp only
 by_cases tE:n=kU
 ·(rw [if_pos (by simpa using tE)])
  (exact az (h n st hB uH qV uI))
 ·(rw [if_neg (by simpa using tE)])
  have lp:Vk val (arrOf st) (lo+n) < Vk val (arrOf st) (lo+n - 1):=hor.resolve_left tE
  by_cases hgt:n > 1
  ·rw [if_pos hgt]
   refine av (zeo hC hB.b (by lia) (by lia) ?_)
   by_cases vX:Vk val (arrOf st) lo < Vk val (arrOf st) (lo+n - 1)
   ·(simp only [vX,decide_true,if_true])
    (exact az (h n st hB uH qV uI))
   ·(simp only [vX,decide_false,bn,if_false])
    have hsz:lo+n≤(arrOf st).size:=by rw [hB.b.size]; lia
    have mS:∀ k,lo≤k→k < lo+n→Vk val (arrOf st) k=Vk val (arrOf st) (lo+n - 1):=by
     intro k qC hk
     have a1:=uI lo k (af _) qC hk
     have a2:=uI k (lo+n - 1) qC (by lia) (by lia)
     lia
    refine av (zh4 (zh6 hC hn (by lia) (hB.setArr (iJ _ _ _ _) (zbZ hsz (af _))) ?_ h))
    intro i j qB oE hj
    show Vk val (mirror (arrOf st) _ _ _) j≤Vk val (mirror (arrOf st) _ _ _) i
    rw [zbk hsz mS,zbk hsz mS]
    by_cases yX:j < lo+n
    ·(rw [mS i (by lia) (by lia),mS j (by lia) yX]; exact bU _)
    ·have oI:j=lo+n:=by lia
     subst oI
     by_cases mW:i=lo+n
     ·(subst mW; exact bU _)
     ·(rw [mS i (by lia) (by lia)]; exact eJ lp)
  ·rw [if_neg hgt]
   have Dq:n=1:=by lia
   subst Dq
   refine zh6 hC hn (by lia) hB ?_ h
   intro i j qB oE hj
   by_cases mW:i=j
   ·(subst mW; exact bU _)
   ·have yY:i=lo:=by lia
    have wV:j=lo+1:=by lia
    subst yY; subst wV
    exact eJ lp
theorem zgq {xs:Array Keyed} {src d:Nat} (hs:src < xs.size) (hd:d≤src) (k:Nat) :
  Vk val (bubble xs src d) k=if k=src - d then Vk val xs src else if src - d < k∧k≤src then Vk val xs (k - 1) else Vk val xs k:=by
 (have e:=getElem?_bubble hs d hd k)
 by_cases h1:k=src - d
 ·rw [if_pos h1] at e ⊢; exact z8 e
 ·rw [if_neg h1] at e ⊢
  (by_cases h2:src - d < k∧k≤src)
  ·rw [if_pos h2] at e ⊢; exact z8 e
  ·rw [if_neg h2] at e ⊢; exact z8 e
theorem znQ {st₀ st:SortSt} {lo n ok:Nat} {Q:Bool→SortSt→Prop} (hC:Cmp prog w A s κ val a₀) (hn:lo+n≤a₀.size) (hok:ok≤n) (hB:SF κ a₀ lo st₀ st) (hs:SIn val (arrOf st) lo (lo+ok))
  (h:∀ kM,SF κ a₀ lo st₀ kM→SIn val (arrOf kM) lo (lo+n)→Q true kM):wpS (model prog w) A E s (binarySort' lo n ok) Q st:=by
 rw [binarySort'_eq]
 refine av (cQ (bT (I:=fun k c kM=>c=(none,())∧SF κ a₀ lo st₀ kM∧SIn val (arrOf kM) lo (lo+min k n))
  (Q:=fun c kM=>c=(none,())∧SF κ a₀ lo st₀ kM∧SIn val (arrOf kM) lo (lo+n)) ?step ?fin ?init) ?post)
 case post =>
  rintro c kM ⟨rfl,m5,mP⟩
  (exact az (h kM m5 mP))
 case init =>
  refine⟨rfl,hB,fun i j qB oE hj=>?_⟩
  by_cases h1:ok=0
  ·have e:i=j:=by lia
   rw [e]; exact bU _
  ·exact hs i j qB oE (by lia)
 case fin =>
  rintro c kM ⟨hc,m5,mP⟩
  refine⟨hc,m5,?_⟩
  (rwa [show min (max (max ok 1) n) n=n by lia] at mP)
 case step =>
  (rintro k c kM hak B2 ⟨rfl,m5,mP⟩)
  (rw [show min k n=k by lia] at mP)
  have hk:lo+k < a₀.size:=(by lia); refine av (cQ (bT (I:=fun x c mL=>mL=kM∧∃ l r,c=(none,l,r)∧l≤r∧r≤k∧r - l≤k - x ∧
    (∀ i,i < l→Vk val (arrOf kM) (lo+i)≤Vk val (arrOf kM) (lo+k))∧(∀ i,r≤i→i < k→Vk val (arrOf kM) (lo+k) < Vk val (arrOf kM) (lo+i)))
   (Q:=fun c mL=>mL=kM∧∃ l r,c=(none,l,r)∧l≤k∧(∀ i,i < l→Vk val (arrOf kM) (lo+i)≤Vk val (arrOf kM) (lo+k))∧(∀ i,l≤i→i < k→Vk val (arrOf kM) (lo+k) < Vk val (arrOf kM) (lo+i))) ?istep ?ifin ?iinit) ?ipost)
  case iinit=>(exact⟨rfl,0,k,rfl,by lia,by lia,by lia,fun i hi=>by lia,fun i h1 h2=>by lia⟩)
  case ifin =>
   (rintro c mL ⟨rfl,l,r,rfl,xY,Dr,hm,pD,vj⟩)
   have:l=r:=by lia
   subst this
   (exact⟨rfl,l,l,rfl,Dr,pD,vj⟩)
  case istep =>
   (rintro x c mL _ hxk ⟨rfl,l,r,rfl,xY,Dr,hm,pD,vj⟩)
   dsimp only
   by_cases oo:l≥r
   ·rw [if_pos oo]
    have:l=r:=by lia
    subst this
    (exact az ⟨rfl,l,l,rfl,Dr,pD,vj⟩)
   ·rw [if_neg oo]
    refine av (zeo hC m5.b hk (by lia) ?_)
    by_cases lZ:Vk val (arrOf mL) (lo+k) < Vk val (arrOf mL) (lo+(l+r) / 2)
    ·(simp only [lZ,decide_true,if_true])
     (refine az ⟨rfl,l,(l+r) / 2,rfl,by lia,by lia,by lia,pD,fun i h1 h2=>?_⟩)
     exact Int.lt_of_lt_of_le lZ (mP _ _ (by lia) (by lia) (by lia))
    ·(simp only [lZ,decide_false,bn,if_false])
     (refine az ⟨rfl,(l+r) / 2+1,r,rfl,by lia,by lia,by lia,fun i h1=>?_,vj⟩)
     exact b7 (mP (lo+i) (lo+(l+r) / 2) (by lia) (by lia) (by lia)) (Int.not_lt.mp lZ)
  case ipost =>
   (rintro c mL ⟨rfl,l,r,rfl,hlk,pD,vj⟩)
   show wpS _ _ _ _ (do moveDown' (lo+k) (lo+l); pure (cm (none,()))) _ _
   rw [moveDown'_eq]
   have Ds:lo+k < (arrOf mL).size:=by rw [m5.b.size]; exact hk
   refine av (dC (az ⟨rfl,m5.setArr (bubble_perm _ _ _) (zho Ds (by lia) (by lia)),?_⟩))
   (rw [show min (k+1) n=k+1 by lia])
   intro i j qB oE hj
   show Vk val (bubble (arrOf mL) (lo+k) (lo+k - (lo+l))) i≤Vk val (bubble (arrOf mL) (lo+k) (lo+k - (lo+l))) j
   rw [zgq Ds (by lia),zgq Ds (by lia),show lo+k - (lo+k - (lo+l))=lo+l by lia]
   have Dt:∀ i,lo≤i→i < lo+l→Vk val (arrOf mL) i≤Vk val (arrOf mL) (lo+k):=fun i h1 h2=>by
    have:=pD (i - lo) (by lia)
    rwa [show lo+(i - lo)=i by lia] at this
   have Du:∀ i,lo+l≤i→i < lo+k→Vk val (arrOf mL) (lo+k) < Vk val (arrOf mL) i:=fun i h1 h2=>by
    have:=vj (i - lo) (by lia) (by lia)
    rwa [show lo+(i - lo)=i by lia] at this
   repeat' split
   all_goals first
    | (exfalso; lia)
    | exact bU _
    | exact Dt _ (by lia) (by lia)
    | exact eJ (Du _ (by lia) (by lia))
    | exact mP _ _ (by lia) (by lia) (by lia)
end
end Srt
end
section
namespace Srt
open PySem PyProof.Rows
def zlp:Bool→Keyed→Array Keyed→Nat→Nat→Nat→StateT SortSt Sem (Option Nat):=sortPriv% PySem.Builtin.gallop
def zkh:Array Keyed→Array Keyed→StateT SortSt Sem (Array Keyed):=sortPriv% PySem.Builtin.mergeLo
def zki:Array Keyed→Array Keyed→StateT SortSt Sem (Array Keyed):=sortPriv% PySem.Builtin.mergeHi
def zcK:Nat→StateT SortSt Sem Unit:=sortPriv% PySem.Builtin.setMinGallop
theorem zfE {M:Model} {A:Around} {E:Value→Shared→Prop} {s:Shared} {α:Type} {m:StateT SortSt Sem α} {Q:α→SortSt→Prop} {st:SortSt} (h:wpAny M A (m st) (fun r s'=>s'=s∧Q r.1 r.2) E s):wpS M A E s m Q st:=h
theorem zfF {M:Model} {A:Around} {E:Value→Shared→Prop} {s:Shared} {α:Type} {m:StateT SortSt Sem α} {Q:α→SortSt→Prop} {st:SortSt} (h:wpS M A E s m Q st):wpAny M A (m st) (fun r s'=>s'=s∧Q r.1 r.2) E s:=h
section
variable {prog:Program} {w:World} {A:Around} {E:Value→Shared→Prop} {s:Shared} {a₀:Array Keyed} {κ:SortKind} {val:Keyed→Int}
def bB (val:Keyed→Int) (left:Bool) (key:Keyed) (arr:Array Keyed) (base i:Nat):Bool:=if left then decide (Vk val arr (base+i) < val key) else !decide (val key < Vk val arr (base+i))
theorem zc2 {left:Bool} {key:Keyed} {arr:Array Keyed} {base n i j:Nat} (hs:SIn val arr base (base+n)) (oE:i≤j) (hj:j < n) (h:bB val left key arr base j=true):bB val left key arr base i=true:=by
 have:=hs (base+i) (base+j) (by lia) (by lia) (by lia)
 unfold bB at h ⊢
 cases left <;> simp at h ⊢ <;> lia
theorem s_beyond {st:SortSt} {left:Bool} {key:Keyed} {arr:Array Keyed} {base i:Nat} {Q:Option Bool→SortSt→Prop} {p:Keyed} (hC:Cmp prog w A s κ val a₀) (hk:kindOf st=κ) (pI:key∈a₀.toList) (he:arr[base+i]? = some p) (hp:p∈a₀.toList)
  (h:Q (some (bB val left key arr base i)) st):wpS (model prog w) A E s (do
   let x ← elem' arr (base+i)
   if left then lt' x key else do
    let r ← lt' key x
    return r.map (!·)) Q st:=by
 refine av (zS he ?_)
 unfold bB at h
 rw [zX he] at h
 cases left with
 | true=>exact zke hC hk hp pI h
 | false=>exact av (zke hC hk pI hp (az h))
abbrev zlq:=Option (Option Nat)×Nat×Nat
theorem zkj {st:SortSt} {left:Bool} {key:Keyed} {arr:Array Keyed} {base n lo hi:Nat} {f:Nat→zlq→StateT SortSt Sem (ForInStep zlq)} (hs:SIn val arr base (base+n)) (hlh:lo≤hi) (Dv:hi≤n)
  (h1:∀ i,i < lo→bB val left key arr base i=true) (h2:∀ i,hi≤i→i < n→bB val left key arr base i=false)
  (hf:∀ (x l r:Nat) (R:ForInStep zlq→SortSt→Prop),r≤n→(l≥r→R (.done (none,l,r)) st)→(l < r→R (if bB val left key arr base (l+(r - l) / 2)=true then .yield (none,l+(r - l) / 2+1,r) else .yield (none,l,l+(r - l) / 2)) st)→wpS (model prog w) A E s (f x (none,l,r)) R st) :
  wpS (model prog w) A E s (forIn [0:n] ((none,lo,hi):zlq) f) (fun c kM=>kM=st∧∃ l,c=(none,l,l)∧l≤n∧(∀ i,i < l→bB val left key arr base i=true)∧(∀ i,l≤i→i < n→bB val left key arr base i=false)) st:=by
 refine bT (I:=fun x c kM=>kM=st∧∃ l r,c=(none,l,r)∧l≤r∧r≤n∧r - l≤n - x∧(∀ i,i < l→bB val left key arr base i=true)∧(∀ i,r≤i→i < n→bB val left key arr base i=false)) ?step ?fin ⟨rfl,lo,hi,rfl,hlh,Dv,by lia,h1,h2⟩
 case fin =>
  rintro c kM ⟨rfl,l,r,rfl,xY,uJ,hm,a1,a2⟩
  have:l=r:=by lia
  subst this
  exact⟨rfl,l,rfl,uJ,a1,a2⟩
 case step =>
  rintro x c kM _ B1 ⟨rfl,l,r,rfl,xY,uJ,hm,a1,a2⟩
  refine hf x l r _ uJ (fun oo=>?_) (fun lp=>?_)
  ·have:l=r:=by lia
   subst this
   exact⟨rfl,l,rfl,uJ,a1,a2⟩
  ·cases hb:bB val left key arr base (l+(r - l) / 2) with
   | true =>
    rw [if_pos rfl]
    exact⟨rfl,l+(r - l) / 2+1,r,rfl,by lia,uJ,by lia,fun i hi=>zc2 hs (by lia) (by lia) hb,a2⟩
   | false =>
    rw [if_neg (by decide)]
    refine⟨rfl,l,l+(r - l) / 2,rfl,by lia,by lia,by lia,a1,fun i hi oG=>?_⟩
    cases e:bB val left key arr base i with
    | false=>rfl
    | true=>rw [zc2 hs hi oG e] at hb; cases hb
theorem zbl {st:SortSt} {left:Bool} {key:Keyed} {arr:Array Keyed} {base n hint:Nat} {Q:Option Nat→SortSt→Prop} (hC:Cmp prog w A s κ val a₀) (hk:kindOf st=κ) (pI:key∈a₀.toList)
  (ha:∀ i,i < n→∃ p,arr[base+i]? = some p∧p∈a₀.toList) (hs:SIn val arr base (base+n)) (hh:hint < n)
  (h:∀ k,k≤n→(∀ i,i < k→bB val left key arr base i=true)→(∀ i,k≤i→i < n→bB val left key arr base i=false)→Q (some k) st) :
  wpS (model prog w) A E s (zlp left key arr base n hint) Q st:=by
 refine zfE ?_
 wp_delta
 wp_delta
 refine zfF ?_
 dsimp only
 obtain⟨p,ep,mp⟩:=ha hint hh
 refine av (s_beyond hC hk pI ep mp ?_)
 dsimp only
 have up:∀ {i j:Nat},i≤j→j < n→bB val left key arr base i=false→bB val left key arr base j=false:=fun {i j} oE hj h=>by
  cases e:bB val left key arr base j with
  | false=>rfl
  | true=>rw [zc2 hs oE hj e] at h; cases h
 cases hr:bB val left key arr base hint with
 | true =>
  simp only [if_true]
  refine av (cQ (bT (I:=fun x c kM=>kM=st∧∃ l o,c=(none,l,o)∧l < o∧x+1≤o∧hint+l < n∧bB val left key arr base (hint+l)=true)
   (Q:=fun c kM=>kM=st∧∃ l o,c=(none,l,o)∧l < o∧hint+l < n∧bB val left key arr base (hint+l)=true∧(hint+o < n→bB val left key arr base (hint+o)=false)) ?step ?fin ⟨rfl,0,1,rfl,by lia,by lia,hh,hr⟩) ?post)
  case fin =>
   rintro c kM ⟨rfl,l,o,rfl,pD,hx,hl,hb⟩
   exact⟨rfl,l,o,rfl,pD,hl,hb,fun z=>by lia⟩
  case step =>
   rintro x c kM _ B1 ⟨rfl,l,o,rfl,pD,hx,hl,hb⟩
   dsimp only
   by_cases oo:o≥n - hint
   ·rw [if_pos oo]
    exact az ⟨rfl,l,o,rfl,pD,hl,hb,fun z=>by lia⟩
   ·rw [if_neg oo]
    obtain⟨p,ep,mp⟩:=ha (hint+o) (by lia)
    refine av (s_beyond hC hk pI ep mp ?_)
    dsimp only
    cases tY:bB val left key arr base (hint+o) with
    | true =>
     rw [if_neg (by decide)]
     exact az ⟨rfl,o,2*o+1,rfl,by lia,by lia,by lia,tY⟩
    | false =>
     rw [if_pos (by decide)]
     exact az ⟨rfl,l,o,rfl,pD,hl,hb,fun _=>tY⟩
  case post =>
   rintro c kM ⟨rfl,l,o,rfl,pD,hl,hb,tY⟩
   dsimp only
   refine av (cQ (zkj (val:=val) (left:=left) (key:=key) (arr:=arr) (base:=base) hs (by lia) (by lia) (fun i hi=>zc2 hs (by lia) hl hb) (fun i hi oG=>(by
    by_cases ho:hint+o < n
    ·exact up (by lia) oG (tY ho)
    ·lia)) (fun x l' r' R uJ k1 k2=>?_)) ?_)
   ·dsimp only
    by_cases oo:l'≥r'
    ·rw [if_pos oo]
     exact az (k1 oo)
    ·rw [if_neg oo]
     obtain⟨p,ep,mp⟩:=ha (l'+(r' - l') / 2) (by lia)
     refine av (s_beyond hC hk pI ep mp ?_)
     have k3:=k2 (by lia)
     dsimp only
     cases xZ:bB val left key arr base (l'+(r' - l') / 2) with
     | true=>rw [xZ] at k3; rw [if_pos rfl] at k3 ⊢; exact az k3
     | false=>rw [xZ] at k3; rw [if_neg (by decide)] at k3 ⊢; exact az k3
   ·rintro c mL ⟨rfl,l,rfl,hl,b1,b2⟩
    exact az (h l hl b1 b2)
 | false =>
  (simp only [bn,if_false])
  refine av (cQ (bT (I:=fun x c kM=>kM=st∧∃ l o,c=(none,l,o)∧l < o∧x+1≤o∧l≤hint∧bB val left key arr base (hint - l)=false)
   (Q:=fun c kM=>kM=st∧∃ l o,c=(none,l,o)∧l < o∧l≤hint∧bB val left key arr base (hint - l)=false∧(o≤hint→bB val left key arr base (hint - o)=true)) ?step ?fin ⟨rfl,0,1,rfl,by lia,by lia,by lia,hr⟩) ?post)
  case fin =>
   rintro c kM ⟨rfl,l,o,rfl,pD,hx,hl,hb⟩
   exact⟨rfl,l,o,rfl,pD,hl,hb,fun z=>by lia⟩
  case step =>
   rintro x c kM _ B1 ⟨rfl,l,o,rfl,pD,hx,hl,hb⟩
   dsimp only
   by_cases oo:o≥hint+1
   ·rw [if_pos oo]
    exact az ⟨rfl,l,o,rfl,pD,hl,hb,fun z=>by lia⟩
   ·rw [if_neg oo]
    obtain⟨p,ep,mp⟩:=ha (hint - o) (by lia)
    refine av (s_beyond hC hk pI ep mp ?_)
    dsimp only
    cases tY:bB val left key arr base (hint - o) with
    | false =>
     rw [if_neg (by decide)]
     exact az ⟨rfl,o,2*o+1,rfl,by lia,by lia,by lia,tY⟩
    | true =>
     rw [if_pos rfl]
     exact az ⟨rfl,l,o,rfl,pD,hl,hb,fun _=>tY⟩
  case post =>
   rintro c kM ⟨rfl,l,o,rfl,pD,hl,hb,tY⟩
   dsimp only
   refine av (cQ (zkj (val:=val) (left:=left) (key:=key) (arr:=arr) (base:=base) hs (by lia) (by lia) (fun i hi=>(by
    by_cases ho:o≤hint
    ·exact zc2 hs (by lia) (by lia) (tY ho)
    ·lia)) (fun i hi oG=>up hi oG hb) (fun x l' r' R uJ k1 k2=>?_)) ?_)
   ·dsimp only
    by_cases oo:l'≥r'
    ·rw [if_pos oo]
     exact az (k1 oo)
    ·rw [if_neg oo]
     obtain⟨p,ep,mp⟩:=ha (l'+(r' - l') / 2) (by lia)
     refine av (s_beyond hC hk pI ep mp ?_)
     have k3:=k2 (by lia)
     dsimp only
     cases xZ:bB val left key arr base (l'+(r' - l') / 2) with
     | true=>rw [xZ] at k3; rw [if_pos rfl] at k3 ⊢; exact az k3
     | false=>rw [xZ] at k3; rw [if_neg (by decide)] at k3 ⊢; exact az k3
   ·rintro c mL ⟨rfl,l,rfl,hl,b1,b2⟩
    exact az (h l hl b1 b2)
end
end Srt
end
section
namespace Srt
open PySem PyProof.Rows
abbrev zan (st:SortSt) (g:Nat):SortSt:=kc (kindOf st) (arrOf st) (pendingOf st) g (failedOf st)
theorem zdn (g:Nat):zcK g=modify fun s=>zan s g:=rfl
def Le (val:Keyed→Int) (xs ys:List Keyed):Prop:=∀ x∈xs,∀ y∈ys,val x≤val y
def Ris (val:Keyed→Int) (xs:List Keyed):Prop:=xs.Pairwise fun x y=>val x≤val y
theorem zau {val:Keyed→Int} {xs ys:List Keyed}:Ris val (xs++ys)↔Ris val xs∧Ris val ys∧Le val xs ys:=List.pairwise_append
structure MI (val:Keyed→Int) (T o l r:List Keyed):Prop where
 perm:(o++l++r).Perm T
 so:Ris val o
 sl:Ris val l
 sr:Ris val r
 ol:Le val o l
 or':Le val o r
def Good (val:Keyed→Int) (T res:List Keyed):Prop:=res.Perm T∧Ris val res
section
variable {val:Keyed→Int} {T o l l1 l2 r r1 r2:List Keyed}
theorem Le.left {xs ys zs:List Keyed} (h:Le val (xs++ys) zs):Le val xs zs:=fun x hx y hy=>h x (aQ _ hx) y hy
theorem Le.right {xs ys zs:List Keyed} (h:Le val (xs++ys) zs):Le val ys zs:=fun x hx y hy=>h x (aH _ hx) y hy
theorem Le.app {xs ys zs:List Keyed} (h1:Le val xs zs) (h2:Le val ys zs):Le val (xs++ys) zs:=fun x hx y hy=>by
 rcases aP.mp hx with h | h
 ·exact h1 x h y hy
 ·exact h2 x h y hy
theorem Le.app' {xs ys zs:List Keyed} (h1:Le val xs ys) (h2:Le val xs zs):Le val xs (ys++zs):=fun x hx y hy=>by
 rcases aP.mp hy with h | h
 ·exact h1 x hx y h
 ·exact h2 x hx y h
theorem Le.sub {xs ys zs:List Keyed} (h1:Le val xs (ys++zs)):Le val xs ys∧Le val xs zs:=⟨fun x hx y hy=>h1 x hx y (aQ _ hy),fun x hx y hy=>h1 x hx y (aH _ hy)⟩
theorem MI.takeA (h:MI val T o (l1++l2) r) (hle:Le val l1 r):MI val T (o++l1) l2 r:=by
 obtain⟨a1,a2,a3⟩:=zau.mp h.sl
 obtain⟨b1,b2⟩:=h.ol.sub
 exact⟨by have:=h.perm; simpa [aV] using this,zau.mpr ⟨h.so,a1,b1⟩,a2,h.sr,b2.app a3,h.or'.app hle⟩
theorem MI.takeB (h:MI val T o l (r1++r2)) (hle:Le val r1 l):MI val T (o++r1) l r2:=by
 obtain⟨a1,a2,a3⟩:=zau.mp h.sr
 obtain⟨b1,b2⟩:=h.or'.sub
 refine⟨?_,zau.mpr ⟨h.so,a1,b1⟩,h.sl,a2,h.ol.app hle,b2.app a3⟩
 refine eZ ?_ h.perm
 have:(r1++l++r2).Perm (l++r1++r2):=List.perm_append_comm.append_right _
 simpa [aV] using this.append_left o
theorem MI.doneA (h:MI val T o l []):Good val T (o++l):=⟨by have:=h.perm; simpa using this,zau.mpr ⟨h.so,h.sl,h.ol⟩⟩
theorem MI.doneB (h:MI val T o [] r):Good val T (o++r):=⟨by have:=h.perm; simpa using this,zau.mpr ⟨h.so,h.sr,h.or'⟩⟩
theorem MI.last (h:MI val T o l r) (hle:Le val r l):Good val T (o++r++l):=by
 refine⟨eZ ?_ h.perm,?_⟩
 ·rw [aV,aV]
  exact List.perm_append_comm.append_left o
 ·exact zau.mpr ⟨zau.mpr ⟨h.so,h.sr,h.or'⟩,h.sl,h.ol.app hle⟩
end
section
variable {val:Keyed→Int} {T:List Keyed} {a b out:Array Keyed} {ia ib:Nat}
abbrev MA (val:Keyed→Int) (T:List Keyed) (a b out:Array Keyed) (ia ib:Nat):Prop:=MI val T out.toList (a.toList.drop ia) (b.toList.drop ib)
theorem zdP {xs:Array Keyed} {i:Nat} {p:Keyed} (h:xs[i]? = some p):xs.toList.drop i=p :: xs.toList.drop (i+1):=by
 have hi:i < xs.toList.length:=by
  have:=(cN.mp h).1
  simpa using this
 rw [cw hi]
 congr 1
 have:=(cN.mp h).2
 simpa using this
theorem zc3 {xs:Array Keyed} (h:SIn val xs 0 xs.size):∀ i,Ris val (xs.toList.drop i):=by
 have all:Ris val xs.toList:=by
  unfold Ris
  (rw [dS])
  intro i j hi hj oE
  (have mW:i < xs.size:=by simpa using hi)
  (have oI:j < xs.size:=by simpa using hj)
  have:=h i j (bb _) (by lia) oI
  rw [zX (getElem?_pos xs i mW),zX (getElem?_pos xs j oI)] at this
  simpa using this
 exact fun i=>iO (List.drop_sublist _ _) all
theorem zdQ {xs:Array Keyed} {i:Nat} {p q:Keyed} (h:SIn val xs 0 xs.size) (hp:xs[i]? = some p) (hq:q∈xs.toList.drop i):val p≤val q:=by
 have:=zc3 h i
 rw [zdP hp] at this hq
 rcases (aE.mp hq) with rfl | hq
 ·exact bU _
 ·exact List.rel_of_pairwise_cons this hq
theorem MA.pushB {y x:Keyed} (h:MA val T a b out ia ib) (sa:SIn val a 0 a.size) (hy:b[ib]? = some y) (hx:a[ia]? = some x) (hle:val y≤val x):MA val T a b (out.push y) ia (ib+1):=by
 unfold MA at h ⊢
 rw [zdP hy] at h
 have:=MI.takeB (r1:=[y]) h fun p hp q hq=>by
  rw [aU.mp hp]
  exact b7 hle (zdQ sa hx hq)
 simpa using this
theorem MA.pushA {y x:Keyed} (h:MA val T a b out ia ib) (sb:SIn val b 0 b.size) (hy:b[ib]? = some y) (hx:a[ia]? = some x) (hle:val x≤val y):MA val T a b (out.push x) (ia+1) ib:=by
 unfold MA at h ⊢
 rw [zdP hx] at h
 have:=MI.takeA (l1:=[x]) h fun p hp q hq=>by
  rw [aU.mp hp]
  exact b7 hle (zdQ sb hy hq)
 simpa using this
theorem zkk (xs:Array Keyed) (i k:Nat):xs.toList.drop i=(xs.extract i (i+k)).toList++xs.toList.drop (i+k):=by
 rw [da]
 have:(xs.toList.extract i (i+k))=(xs.toList.drop i).take k:=by
  simp [cU] <;> lia
 rw [this,← iP,cb]
theorem zdR {xs:Array Keyed} {i k:Nat} {p:Keyed} (h:p∈(xs.extract i (i+k)).toList):∃ j,j < k∧xs[i+j]? = some p:=by
 have e0:(xs.extract i (i+k)).toList=(xs.toList.drop i).take k:=by
  rw [da]
  simp [cU] <;> lia
 rw [e0] at h
 (obtain⟨j,hj,e⟩:=d9 h)
 have qX:j < k∧j < (xs.toList.drop i).length:=by
  rw [aJ] at hj
  lia
 refine⟨j,qX.1,?_⟩
 rw [← br,← er,am qX.2,← e,jH]
theorem MA.takeA {y:Keyed} {k:Nat} (h:MA val T a b out ia ib) (sb:SIn val b 0 b.size) (hy:b[ib]? = some y) (hle:∀ i,i < k→Vk val a (ia+i)≤val y):MA val T a b (out++a.extract ia (ia+k)) (ia+k) ib:=by
 unfold MA at h ⊢
 rw [zkk a ia k] at h
 have:=MI.takeA h fun p hp q hq=>by
  obtain⟨j,hj,e⟩:=zdR hp
  have:=hle j hj
  rw [zX e] at this
  exact b7 this (zdQ sb hy hq)
 simpa using this
theorem MA.takeB {x:Keyed} {k:Nat} (h:MA val T a b out ia ib) (sa:SIn val a 0 a.size) (hx:a[ia]? = some x) (hle:∀ i,i < k→Vk val b (ib+i)≤val x):MA val T a b (out++b.extract ib (ib+k)) ia (ib+k):=by
 unfold MA at h ⊢
 rw [zkk b ib k] at h
 have:=MI.takeB h fun p hp q hq=>by
  obtain⟨j,hj,e⟩:=zdR hp
  have:=hle j hj
  rw [zX e] at this
  exact b7 this (zdQ sa hx hq)
 simpa using this
theorem zcu (xs:Array Keyed) (i:Nat):(xs.extract i xs.size).toList=xs.toList.drop i:=by
 rw [da]
 simp only [cU]
 (exact aO (by simp))
theorem MA.doneB (h:MA val T a b out ia ib) (e:ib=b.size):Good val T (out++a.extract ia a.size++b.extract ib b.size).toList:=by
 unfold MA at h
 rw [show b.toList.drop ib = [] from dD (by simp [e])] at h
 have:=h.doneA
 rw [bK,bK,zcu,zcu,show b.toList.drop ib = [] from dD (by simp [e]),bw]
 exact this
theorem MA.doneA (h:MA val T a b out ia ib) (e:ia=a.size):Good val T (out++a.extract ia a.size++b.extract ib b.size).toList:=by
 unfold MA at h
 rw [show a.toList.drop ia = [] from dD (by simp [e])] at h
 have:=h.doneB
 rw [bK,bK,zcu,zcu,show a.toList.drop ia = [] from dD (by simp [e]),bw]
 exact this
theorem MA.last (h:MA val T a b out ia ib) (e:ia+1=a.size) (hl:∀ i,i < b.size→Vk val b i≤Vk val a (a.size - 1)):Good val T (out++b.extract ib b.size++a.extract ia a.size).toList:=by
 unfold MA at h
 have hx:a[ia]? = some (a[ia]'(by lia)):=getElem?_pos a ia (by lia)
 have:=h.last fun p hp q hq=>by
  rw [zdP hx,show a.toList.drop (ia+1) = [] from dD (by simp [e])] at hq
  rw [aU.mp hq]
  obtain⟨j,hj,ej⟩:=d9 (fY hp)
  have oI:j < b.size:=by simpa using hj
  have:=hl j oI
  rw [zX (getElem?_pos b j oI),show a.size - 1=ia by lia,zX hx] at this
  rw [← ej]
  simpa using this
 rw [bK,bK,zcu,zcu]
 exact this
end
end Srt
end
section
namespace Srt
open PySem PyProof.Rows
section
variable {prog:Program} {w:World} {A:Around} {E:Value→Shared→Prop} {s:Shared} {a₀:Array Keyed} {κ:SortKind} {val:Keyed→Int}
theorem zc4 {st:SortSt} {g:Nat} {Q:Unit→SortSt→Prop} (h:Q () (zan st g)):wpS (model prog w) A E s (zcK g) Q st:=by
 rw [zdn]
 exact dC h
theorem zar {xs:Array Keyed} {i:Nat} (h:i < xs.size):∃ p,xs[i]? = some p∧p∈xs.toList:=⟨xs[i],getElem?_pos xs i h,by simp⟩
theorem zb0 {key:Keyed} {arr:Array Keyed} {base i:Nat} (h:bB val true key arr base i=true):Vk val arr (base+i) < val key:=by
 unfold bB at h
 simpa using h
theorem zc5 {key:Keyed} {arr:Array Keyed} {base i:Nat} (h:bB val false key arr base i=true):Vk val arr (base+i)≤val key:=by
 unfold bB at h
 simp at h
 lia
theorem zcO {key:Keyed} {arr:Array Keyed} {base i:Nat} (h:bB val true key arr base i=false):val key≤Vk val arr (base+i):=by
 unfold bB at h
 simp at h
 lia
theorem zdS {key:Keyed} {arr:Array Keyed} {base i:Nat} (h:bB val false key arr base i=false):val key < Vk val arr (base+i):=by
 unfold bB at h
 simp at h
 exact h
theorem SIn.sub {xs:Array Keyed} {lo hi lo' mW:Nat} (h:SIn val xs lo hi) (h1:lo≤lo') (h2:mW≤hi):SIn val xs lo' mW:=fun i j a b c=>h i j (by lia) b (by lia)
theorem zz {σ α:Type} {M:Model} {c:Prop} {inst:Decidable c} {x y:StateT σ Sem α} {Q:α→σ→Prop} {st:σ} (h:c) (k:wpS M A E s x Q st):wpS M A E s (@ite _ c inst x y) Q st:=by rw [if_pos h]; exact k
theorem zA {σ α:Type} {M:Model} {c:Prop} {inst:Decidable c} {x y:StateT σ Sem α} {Q:α→σ→Prop} {st:σ} (h:¬ c) (k:wpS M A E s y Q st):wpS M A E s (@ite _ c inst x y) Q st:=by rw [if_neg h]; exact k
theorem zaU {σ α:Type} {M:Model} {c:Prop} {inst:Decidable c} {x y:StateT σ Sem α} {Q:α→σ→Prop} {st:σ} (h:c→wpS M A E s x Q st) (k:¬ c→wpS M A E s y Q st):wpS M A E s (@ite _ c inst x y) Q st:=by
 by_cases hc:c
 ·rw [if_pos hc]; exact h hc
 ·rw [if_neg hc]; exact k hc
theorem zi2 {st:SortSt} {a b:Array Keyed} {Q:Array Keyed→SortSt→Prop} (hC:Cmp prog w A s κ val a₀) (hk:kindOf st=κ) (ma:∀ p∈a.toList,p∈a₀.toList) (mb:∀ p∈b.toList,p∈a₀.toList)
  (sa:SIn val a 0 a.size) (sb:SIn val b 0 b.size) (h1:1≤a.size) (h2:1≤b.size) (hf:Vk val b 0≤Vk val a 0) (hl:∀ i,i < b.size→Vk val b i≤Vk val a (a.size - 1))
  (h:∀ out g,Good val (a.toList++b.toList) out.toList→Q out (zan st g)):wpS (model prog w) A E s (zkh a b) Q st:=by
 refine zfE ?_
 wp_delta
 wp_delta
 refine zfF ?_
 (refine av (gi (b8 ⟨rfl,?_⟩)))
 obtain⟨y0,uK,Dw⟩:=zar (xs:=b) (i:=0) (by lia)
 obtain⟨x0,uL,Dx⟩:=zar (xs:=a) (i:=0) (by lia)
 refine av (zS uK ?_)
 have I0:MA val (a.toList++b.toList) a b #[] 0 0:=⟨by simp,gL,zc3 sa 0,zc3 sb 0,fun x hx=>by simp at hx,fun x hx=>by simp at hx⟩
 have I1:MA val (a.toList++b.toList) a b #[y0] 0 1:=I0.pushB sa uK uL (by rw [zX uK,zX uL] at hf; exact hf)
 dsimp only
 by_cases r9:1=b.size
 ·refine zz (by simpa using r9) ?_
  exact az (h _ (gallopOf st) (I1.doneB r9))
 refine zA (by simpa using r9) ?_
 by_cases tF:0+1=a.size
 ·refine zz (by simpa using tF) ?_
  exact az (h _ (gallopOf st) (I1.last (by lia) hl))
 refine zA (by simpa using tF) ?_
 refine av (eI ?_)
 refine av (cQ (bT (I:=fun x c kM=>∃ g out ia ib mg,kM=zan st g∧c=(none,out,ia,ib,mg)∧MA val (a.toList++b.toList) a b out ia ib∧ia+1 < a.size∧ib < b.size∧x+1≤ia+ib)
  (Q:=fun c kM=>∃ g r o,kM=zan st g∧c=(some r,o)∧Good val (a.toList++b.toList) r.toList) ?step ?fin ⟨gallopOf st,#[y0],0,1,gallopOf st,rfl,rfl,I1,by lia,by lia,by lia⟩) ?post)
 case post =>
  rintro c kM ⟨g,r,o,rfl,rfl,hG⟩
  exact az (h _ g hG)
 case fin =>
  rintro c kM ⟨g,out,ia,ib,mg,rfl,rfl,hI,b1,b2,b3⟩
  lia
 case step =>
  rintro x c kM _ hx ⟨g,out,ia,ib,mg,rfl,rfl,hI,b1,b2,b3⟩
  dsimp only
  refine av (cQ (bT (I:=fun x c kM=>kM=zan st g∧∃ k6 mK mG ac bc,c=(none,k6,mK,mG,ac,bc)∧MA val (a.toList++b.toList) a b k6 mK mG∧mK+1 < a.size∧mG < b.size∧ia+ib+x≤mK+mG)
   (Q:=fun c kM=>kM=zan st g∧((∃ r o,c=(some r,o)∧Good val (a.toList++b.toList) r.toList)∨∃ k6 mK mG ac bc,c=(none,k6,mK,mG,ac,bc)∧MA val (a.toList++b.toList) a b k6 mK mG∧mK+1 < a.size∧mG < b.size∧ia+ib+1≤mK+mG)) ?step1 ?fin1 ⟨rfl,out,ia,ib,0,0,rfl,hI,b1,b2,by lia⟩) ?post1)
  case fin1 =>
   rintro c kM ⟨rfl,k6,mK,mG,ac,bc,rfl,hI,b1,b2,b3⟩
   exact⟨rfl,.inr ⟨k6,mK,mG,ac,bc,rfl,hI,b1,b2,by lia⟩⟩
  case step1 =>
   rintro x1 c kM _ uM ⟨rfl,k6,mK,mG,ac,bc,rfl,hI,b1,b2,b3⟩
   dsimp only
   obtain⟨y,ey,my⟩:=zar (xs:=b) (i:=mG) (by lia)
   obtain⟨z,ez,mz⟩:=zar (xs:=a) (i:=mK) (by lia)
   refine av (zS ey (av (zS ez (av (zke hC hk (mb y my) (ma z mz) ?_)))))
   dsimp only
   by_cases yZ:val y < val z
   ·refine zz (by simpa using yZ) ?_
    refine av (zS ey ?_)
    have oq:=hI.pushB sa ey ez (by lia)
    by_cases e1:mG+1=b.size
    ·refine zz (by simpa using e1) ?_
     exact az ⟨rfl,.inl ⟨_,_,rfl,oq.doneB e1⟩⟩
    refine zA (by simpa using e1) ?_
    refine zaU (fun _=>?_) (fun _=>?_)
    ·exact az ⟨rfl,.inr ⟨_,_,_,_,_,rfl,oq,b1,by lia,by lia⟩⟩
    ·exact az ⟨rfl,_,_,_,_,_,rfl,oq,b1,by lia,by lia⟩
   ·refine zA (by simpa using yZ) ?_
    refine av (zS ez ?_)
    have oq:=hI.pushA sb ey ez (by lia)
    by_cases e1:mK+1+1=a.size
    ·refine zz (by simpa using e1) ?_
     exact az ⟨rfl,.inl ⟨_,_,rfl,oq.last e1 hl⟩⟩
    refine zA (by simpa using e1) ?_
    refine zaU (fun _=>?_) (fun _=>?_)
    ·exact az ⟨rfl,.inr ⟨_,_,_,_,_,rfl,oq,by lia,b2,by lia⟩⟩
    ·exact az ⟨rfl,_,_,_,_,_,rfl,oq,by lia,b2,by lia⟩
  case post1 =>
   rintro c kM ⟨rfl,hc⟩
   rcases hc with ⟨r,o,rfl,hG⟩ | ⟨wW,Dy,Dz,DA,DB,rfl,DC,c1,c2,c3⟩
   ·exact az ⟨g,r,_,rfl,rfl,hG⟩
   dsimp only
   (refine av (gi (b8 ⟨rfl,?_⟩)))
   refine av (cQ (bT (I:=fun x c kM=>∃ g k6 mK mG mg ac bc,kM=zan st g∧c=(none,k6,mK,mG,mg,ac,bc)∧MA val (a.toList++b.toList) a b k6 mK mG∧mK+1 < a.size∧mG < b.size∧Dy+Dz≤mK+mG)
    (Q:=fun c kM=>∃ g,kM=zan st g∧((∃ r o,c=(some r,o)∧Good val (a.toList++b.toList) r.toList)∨∃ k6 mK mG mg ac bc,c=(none,k6,mK,mG,mg,ac,bc)∧MA val (a.toList++b.toList) a b k6 mK mG∧mK+1 < a.size∧mG < b.size∧Dy+Dz≤mK+mG)) ?step2 ?fin2 ⟨g,wW,Dy,Dz,_,DA,DB,rfl,rfl,DC,c1,c2,af _⟩) ?post2)
   case fin2 =>
    rintro c kM ⟨g,k6,mK,mG,mg,ac,bc,rfl,rfl,hI,b1,b2,b3⟩
    exact⟨g,rfl,.inr ⟨k6,mK,mG,mg,ac,bc,rfl,hI,b1,b2,b3⟩⟩
   case post2 =>
    rintro c kM ⟨g,rfl,hc⟩
    rcases hc with ⟨r,o,rfl,hG⟩ | ⟨wX,ia2,ib2,mg2,ac2,bc2,rfl,oq,d1,d2,d3⟩
    ·exact az ⟨g,r,_,rfl,rfl,hG⟩
    dsimp only
    refine av (zc4 (az ⟨_,wX,ia2,ib2,_,rfl,rfl,oq,d1,d2,by lia⟩))
   case step2 =>
    rintro x2 c kM _ sE ⟨g,k6,mK,mG,DD,ac,bc,rfl,rfl,hI,b1,b2,b3⟩
    dsimp only
    obtain⟨y,ey,my⟩:=zar (xs:=b) (i:=mG) (by lia)
    by_cases u9:DD > 1
    all_goals
     first
      | refine zz u9 ?_
      | refine zA u9 ?_
     refine av (zc4 (av (zS ey (av (zbl hC hk (mb y my) (fun i hi=>(by
      obtain⟨p,ep,mp⟩:=zar (xs:=a) (i:=mK+i) (by lia)
      exact⟨p,ep,ma p mp⟩)) (sa.sub (by lia) (by lia)) (by lia) fun k B3 oF uN=>?_)))))
     dsimp only
     have oq:=hI.takeA (k:=k) sb ey fun i hi=>zc5 (oF i hi)
     by_cases qC:k > 0
     ·refine zz qC ?_
      by_cases e1:mK+k+1=a.size
      ·refine zz (by simpa using e1) ?_
       exact az ⟨_,rfl,.inl ⟨_,_,rfl,oq.last e1 hl⟩⟩
      refine zA (by simpa using e1) ?_
      by_cases e2:mK+k=a.size
      ·refine zz (by simpa using e2) ?_
       exact az ⟨_,rfl,.inl ⟨_,_,rfl,oq.doneA e2⟩⟩
      refine zA (by simpa using e2) ?_
      refine av (zS ey ?_)
      obtain⟨z,ez,mz⟩:=zar (xs:=a) (i:=mK+k) (by lia)
      have rm:=oq.pushB sa ey ez (by have:=zdS (uN k (af _) (by lia)); rw [zX ez] at this; lia)
      by_cases e3:mG+1=b.size
      ·refine zz (by simpa using e3) ?_
       exact az ⟨_,rfl,.inl ⟨_,_,rfl,rm.doneB e3⟩⟩
      refine zA (by simpa using e3) ?_
      refine av (zS ez (av (zbl hC hk (ma z mz) (fun i hi=>(by
       obtain⟨p,ep,mp⟩:=zar (xs:=b) (i:=mG+1+i) (by lia)
       exact⟨p,ep,mb p mp⟩)) (sb.sub (by lia) (by lia)) (by lia) fun j wV qX vm=>?_)))
      dsimp only
      have sF:=rm.takeB (k:=j) sa ez fun i hi=>eJ (zb0 (qX i hi))
      by_cases rn:j > 0
      ·refine zz rn ?_
       by_cases e4:mG+1+j=b.size
       ·refine zz (by simpa using e4) ?_
        exact az ⟨_,rfl,.inl ⟨_,_,rfl,sF.doneB e4⟩⟩
       refine zA (by simpa using e4) ?_
       obtain⟨y2,oM,wY⟩:=zar (xs:=b) (i:=mG+1+j) (by lia)
       refine av (zS ez ?_)
       have m6:=sF.pushA sb oM ez (by have:=zcO (vm j (af _) (by lia)); rw [zX oM] at this; exact this)
       by_cases e9:mK+k+1+1=a.size
       ·refine zz (by simpa using e9) ?_
        exact az ⟨_,rfl,.inl ⟨_,_,rfl,m6.last e9 hl⟩⟩
       refine zA (by simpa using e9) ?_
       refine zaU (fun _=>?_) (fun _=>?_)
       ·exact az ⟨_,rfl,.inr ⟨_,_,_,_,_,_,rfl,m6,by lia,by lia,by lia⟩⟩
       ·exact az ⟨_,_,_,_,_,_,_,rfl,rfl,m6,by lia,by lia,by lia⟩
      ·refine zA rn ?_
       have wZ:j=0:=by lia
       subst wZ
       obtain⟨y2,oM,wY⟩:=zar (xs:=b) (i:=mG+1) (by lia)
       refine av (zS ez ?_)
       have m6:=rm.pushA sb oM ez (by have:=zcO (vm 0 (af _) (by lia)); rw [dY,zX oM] at this; exact this)
       by_cases e9:mK+k+1+1=a.size
       ·refine zz (by simpa using e9) ?_
        exact az ⟨_,rfl,.inl ⟨_,_,rfl,m6.last e9 hl⟩⟩
       refine zA (by simpa using e9) ?_
       refine zaU (fun _=>?_) (fun _=>?_)
       ·exact az ⟨_,rfl,.inr ⟨_,_,_,_,_,_,rfl,m6,by lia,by lia,by lia⟩⟩
       ·exact az ⟨_,_,_,_,_,_,_,rfl,rfl,m6,by lia,by lia,by lia⟩
     ·refine zA qC ?_
      have DE:k=0:=by lia
      subst DE
      refine av (zS ey ?_)
      obtain⟨z,ez,mz⟩:=zar (xs:=a) (i:=mK) (by lia)
      have rm:=hI.pushB sa ey ez (by have:=zdS (uN 0 (af _) (by lia)); rw [dY,zX ez] at this; lia)
      by_cases e3:mG+1=b.size
      ·refine zz (by simpa using e3) ?_
       exact az ⟨_,rfl,.inl ⟨_,_,rfl,rm.doneB e3⟩⟩
      refine zA (by simpa using e3) ?_
      refine av (zS ez (av (zbl hC hk (ma z mz) (fun i hi=>(by
       obtain⟨p,ep,mp⟩:=zar (xs:=b) (i:=mG+1+i) (by lia)
       exact⟨p,ep,mb p mp⟩)) (sb.sub (by lia) (by lia)) (by lia) fun j wV qX vm=>?_)))
      dsimp only
      have sF:=rm.takeB (k:=j) sa ez fun i hi=>eJ (zb0 (qX i hi))
      by_cases rn:j > 0
      ·refine zz rn ?_
       by_cases e4:mG+1+j=b.size
       ·refine zz (by simpa using e4) ?_
        exact az ⟨_,rfl,.inl ⟨_,_,rfl,sF.doneB e4⟩⟩
       refine zA (by simpa using e4) ?_
       obtain⟨y2,oM,wY⟩:=zar (xs:=b) (i:=mG+1+j) (by lia)
       refine av (zS ez ?_)
       have m6:=sF.pushA sb oM ez (by have:=zcO (vm j (af _) (by lia)); rw [zX oM] at this; exact this)
       by_cases e9:mK+1+1=a.size
       ·refine zz (by simpa using e9) ?_
        exact az ⟨_,rfl,.inl ⟨_,_,rfl,m6.last e9 hl⟩⟩
       refine zA (by simpa using e9) ?_
       refine zaU (fun _=>?_) (fun _=>?_)
       ·exact az ⟨_,rfl,.inr ⟨_,_,_,_,_,_,rfl,m6,by lia,by lia,by lia⟩⟩
       ·exact az ⟨_,_,_,_,_,_,_,rfl,rfl,m6,by lia,by lia,by lia⟩
      ·refine zA rn ?_
       have wZ:j=0:=by lia
       subst wZ
       obtain⟨y2,oM,wY⟩:=zar (xs:=b) (i:=mG+1) (by lia)
       refine av (zS ez ?_)
       have m6:=rm.pushA sb oM ez (by have:=zcO (vm 0 (af _) (by lia)); rw [dY,zX oM] at this; exact this)
       by_cases e9:mK+1+1=a.size
       ·refine zz (by simpa using e9) ?_
        exact az ⟨_,rfl,.inl ⟨_,_,rfl,m6.last e9 hl⟩⟩
       refine zA (by simpa using e9) ?_
       refine zaU (fun _=>?_) (fun _=>?_)
       ·exact az ⟨_,rfl,.inr ⟨_,_,_,_,_,_,rfl,m6,by lia,by lia,by lia⟩⟩
       ·exact az ⟨_,_,_,_,_,_,_,rfl,rfl,m6,by lia,by lia,by lia⟩
end
end Srt
end
section
namespace Srt
open PySem PyProof.Rows
structure MH (val:Keyed→Int) (T l r o:List Keyed):Prop where
 perm:(l++r++o).Perm T
 so:Ris val o
 sl:Ris val l
 sr:Ris val r
 lo:Le val l o
 ro:Le val r o
section
variable {val:Keyed→Int} {T o l l1 l2 r r1 r2:List Keyed}
theorem MH.takeA (h:MH val T (l1++l2) r o) (hle:Le val r l2):MH val T l1 r (l2++o):=by
 obtain⟨a1,a2,a3⟩:=zau.mp h.sl
 refine⟨?_,zau.mpr ⟨a2,h.so,h.lo.right⟩,a1,h.sr,a3.app' h.lo.left,hle.app' h.ro⟩
 refine eZ ?_ h.perm
 have:(r++l2).Perm (l2++r):=List.perm_append_comm
 have:=(this.append_left l1).append_right o
 simpa [aV] using this
theorem MH.takeB (h:MH val T l (r1++r2) o) (hle:Le val l r2):MH val T l r1 (r2++o):=by
 obtain⟨a1,a2,a3⟩:=zau.mp h.sr
 exact⟨by have:=h.perm; simpa [aV] using this,zau.mpr ⟨a2,h.so,h.ro.right⟩,h.sl,a1,hle.app' h.lo,a3.app' h.ro.left⟩
theorem MH.doneA (h:MH val T [] r o):Good val T (r++o):=⟨by have:=h.perm; simpa using this,zau.mpr ⟨h.sr,h.so,h.ro⟩⟩
theorem MH.doneB (h:MH val T l [] o):Good val T (l++o):=⟨by have:=h.perm; simpa using this,zau.mpr ⟨h.sl,h.so,h.lo⟩⟩
theorem MH.first (h:MH val T l r o) (hle:Le val r l):Good val T (r++l++o):=by
 refine⟨eZ (List.perm_append_comm.append_right _) h.perm,?_⟩
 exact zau.mpr ⟨zau.mpr ⟨h.sr,h.sl,hle⟩,h.so,h.ro.app h.lo⟩
end
section
variable {val:Keyed→Int} {T:List Keyed} {a b out:Array Keyed} {na nb:Nat}
abbrev MB (val:Keyed→Int) (T:List Keyed) (a b out:Array Keyed) (na nb:Nat):Prop:=MH val T (a.toList.take na) (b.toList.take nb) out.toList.reverse
theorem zh7 {xs:Array Keyed} {n:Nat} {p:Keyed} (h:xs[n]? = some p):xs.toList.take (n+1)=xs.toList.take n++[p]:=by
 rw [List.take_succ,br,h]
 rfl
theorem zgr {xs:Array Keyed} (h:SIn val xs 0 xs.size) (i:Nat):Ris val (xs.toList.take i):=by
 have:=zc3 h 0
 rw [dw] at this
 exact iO (cq _ _) this
theorem zeq {xs:Array Keyed} {n:Nat} {p:Keyed} (h:p∈xs.toList.take n):∃ j,j < n∧j < xs.size∧xs[j]? = some p:=by
 (obtain⟨j,hj,e⟩:=d9 h)
 have qX:j < n∧j < xs.toList.length:=by
  rw [aJ] at hj
  lia
 refine⟨j,qX.1,by simpa using qX.2,?_⟩
 rw [← br,am qX.2,← e,jH]
theorem zdT {xs:Array Keyed} {n:Nat} {p q:Keyed} (h:SIn val xs 0 xs.size) (hp:xs[n]? = some p) (hq:q∈xs.toList.take (n+1)):val q≤val p:=by
 obtain⟨j,hj,tP,e⟩:=zeq hq
 have hn:=(cN.mp hp).1
 have:=h j n (bb _) (by lia) hn
 rw [zX e,zX hp] at this
 exact this
theorem MB.pushA {y x:Keyed} (h:MB val T a b out (na+1) nb) (sb:SIn val b 0 b.size) (hn:1≤nb) (hy:b[nb - 1]? = some y) (hx:a[na]? = some x) (hle:val y≤val x):MB val T a b (out.push x) na nb:=by
 unfold MB at h ⊢
 rw [zh7 hx] at h
 have:=MH.takeA h fun p hp q hq=>by
  rw [aU.mp hq]
  exact b7 (zdT sb hy (by rw [show nb - 1+1=nb by lia]; exact hp)) hle
 simpa using this
theorem MB.pushB {y x:Keyed} (h:MB val T a b out na (nb+1)) (sa:SIn val a 0 a.size) (hn:1≤na) (hy:b[nb]? = some y) (hx:a[na - 1]? = some x) (hle:val x≤val y):MB val T a b (out.push y) na nb:=by
 unfold MB at h ⊢
 rw [zh7 hy] at h
 have:=MH.takeB h fun p hp q hq=>by
  rw [aU.mp hq]
  exact b7 (zdT sa hx (by rw [show na - 1+1=na by lia]; exact hp)) hle
 simpa using this
theorem zh8 (xs:Array Keyed) {i n:Nat} (h:i≤n):xs.toList.take n=xs.toList.take i++(xs.extract i n).toList:=by
 rw [da]
 simp only [cU]
 rw [← cb i (xs.toList.take n),kh,db h,List.drop_take]
theorem MB.takeA {y:Keyed} {at':Nat} (h:MB val T a b out na nb) (sb:SIn val b 0 b.size) (lC:at'≤na) (hn:1≤nb) (hy:b[nb - 1]? = some y) (hle:∀ i,at'≤i→i < na→val y≤Vk val a i):MB val T a b (out++(a.extract at' na).reverse) at' nb:=by
 unfold MB at h ⊢
 rw [zh8 a lC] at h
 have:=MH.takeA h fun p hp q hq=>by
  have nL:q∈(a.extract at' (at'+(na - at'))).toList:=by rw [show at'+(na - at')=na by lia]; exact hq
  obtain⟨j,hj,e⟩:=zdR nL
  have:=hle (at'+j) (by lia) (by lia)
  rw [zX e] at this
  exact b7 (zdT sb hy (by rw [show nb - 1+1=nb by lia]; exact hp)) this
 simpa using this
theorem MB.takeB {x:Keyed} {at':Nat} (h:MB val T a b out na nb) (sa:SIn val a 0 a.size) (lC:at'≤nb) (hn:1≤na) (hx:a[na - 1]? = some x) (hle:∀ i,at'≤i→i < nb→val x≤Vk val b i):MB val T a b (out++(b.extract at' nb).reverse) na at':=by
 unfold MB at h ⊢
 rw [zh8 b lC] at h
 have:=MH.takeB h fun p hp q hq=>by
  have nL:q∈(b.extract at' (at'+(nb - at'))).toList:=by rw [show at'+(nb - at')=nb by lia]; exact hq
  obtain⟨j,hj,e⟩:=zdR nL
  have:=hle (at'+j) (by lia) (by lia)
  rw [zX e] at this
  exact b7 (zdT sa hx (by rw [show na - 1+1=na by lia]; exact hp)) this
 simpa using this
theorem zbO (xs:Array Keyed) (n:Nat):(xs.extract 0 n).toList=xs.toList.take n:=by
 rw [da]
 simp [cU]
theorem MB.doneA (h:MB val T a b out na nb) (e:na=0):Good val T (a.extract 0 na++b.extract 0 nb++out.reverse).toList:=by
 unfold MB at h
 subst e
 have:=MH.doneA h
 rw [bK,bK,zbO,zbO,dz,iu,fZ]
 exact this
theorem MB.doneB (h:MB val T a b out na nb) (e:nb=0):Good val T (a.extract 0 na++b.extract 0 nb++out.reverse).toList:=by
 unfold MB at h
 subst e
 have:=MH.doneB h
 rw [bK,bK,zbO,zbO,dz,bw,fZ]
 exact this
theorem MB.first (h:MB val T a b out na nb) (e:nb=1) (sa:SIn val a 0 a.size) (h2:1≤b.size) (hf:Vk val b 0≤Vk val a 0):Good val T (b.extract 0 nb++a.extract 0 na++out.reverse).toList:=by
 unfold MB at h
 subst e
 have:=MH.first h fun p hp q hq=>by
  obtain⟨j,hj,tP,ej⟩:=zeq hp
  have rn:j=0:=by lia
  subst rn
  obtain⟨i,hi,his,ei⟩:=zeq hq
  have:=sa 0 i (bb _) (bb _) his
  rw [zX ei] at this
  rw [zX ej] at hf
  lia
 rw [bK,bK,zbO,zbO,fZ]
 exact this
end
section
variable {prog:Program} {w:World} {A:Around} {E:Value→Shared→Prop} {s:Shared} {a₀:Array Keyed} {κ:SortKind} {val:Keyed→Int}
theorem zi3 {st:SortSt} {a b:Array Keyed} {Q:Array Keyed→SortSt→Prop} (hC:Cmp prog w A s κ val a₀) (hk:kindOf st=κ) (ma:∀ p∈a.toList,p∈a₀.toList) (mb:∀ p∈b.toList,p∈a₀.toList)
  (sa:SIn val a 0 a.size) (sb:SIn val b 0 b.size) (h1:1≤a.size) (h2:1≤b.size) (hf:Vk val b 0≤Vk val a 0) (hl:∀ i,i < b.size→Vk val b i≤Vk val a (a.size - 1))
  (h:∀ out g,Good val (a.toList++b.toList) out.toList→Q out (zan st g)):wpS (model prog w) A E s (zki a b) Q st:=by
 refine zfE ?_
 wp_delta
 wp_delta
 refine zfF ?_
 (refine av (gi (b8 ⟨rfl,?_⟩)))
 obtain⟨x0,uL,Dx⟩:=zar (xs:=a) (i:=a.size - 1) (by lia)
 obtain⟨y0,uK,Dw⟩:=zar (xs:=b) (i:=b.size - 1) (by lia)
 refine av (zS uL ?_)
 have I0:MB val (a.toList++b.toList) a b #[] (a.size - 1+1) b.size:=by
  refine⟨?_,gL,zgr sa _,zgr sb _,fun x _ y hy=>by simp at hy,fun x _ y hy=>by simp at hy⟩
  rw [show a.size - 1+1=a.size by lia,aO (by simp),aO (by simp)]
  simp
 have I1:MB val (a.toList++b.toList) a b #[x0] (a.size - 1) b.size:=I0.pushA sb h2 uK uL (by have:=hl (b.size - 1) (by lia); rw [zX uK,zX uL] at this; exact this)
 dsimp only
 by_cases tF:a.size - 1=0
 ·refine zz (by simpa using tF) ?_
  exact az (h _ (gallopOf st) (I1.doneA tF))
 refine zA (by simpa using tF) ?_
 by_cases r9:b.size=1
 ·refine zz (by simpa using r9) ?_
  exact az (h _ (gallopOf st) (I1.first r9 sa h2 hf))
 refine zA (by simpa using r9) ?_
 refine av (eI ?_)
 refine av (cQ (bT (I:=fun x c kM=>∃ g out na nb mg,kM=zan st g∧c=(none,na,nb,out,mg)∧MB val (a.toList++b.toList) a b out na nb∧1≤na∧2≤nb∧na≤a.size∧nb≤b.size∧x+na+nb+1≤a.size+b.size)
  (Q:=fun c kM=>∃ g r o,kM=zan st g∧c=(some r,o)∧Good val (a.toList++b.toList) r.toList) ?step ?fin ⟨gallopOf st,#[x0],a.size - 1,b.size,gallopOf st,rfl,rfl,I1,by lia,by lia,by lia,by lia,by lia⟩) ?post)
 case post =>
  rintro c kM ⟨g,r,o,rfl,rfl,hG⟩
  exact az (h _ g hG)
 case fin =>
  rintro c kM ⟨g,out,na,nb,mg,rfl,rfl,hI,b1,b2,b3⟩
  lia
 case step =>
  rintro x c kM _ hx ⟨g,out,na,nb,mg,rfl,rfl,hI,b1,b2,b4,b5,b3⟩
  dsimp only
  refine av (cQ (bT (I:=fun x c kM=>kM=zan st g∧∃ k6 mU mV ac bc,c=(none,mU,mV,k6,ac,bc)∧MB val (a.toList++b.toList) a b k6 mU mV∧1≤mU∧2≤mV∧mU≤a.size∧mV≤b.size∧x+mU+mV≤na+nb)
   (Q:=fun c kM=>kM=zan st g∧((∃ r o,c=(some r,o)∧Good val (a.toList++b.toList) r.toList)∨∃ k6 mU mV ac bc,c=(none,mU,mV,k6,ac,bc)∧MB val (a.toList++b.toList) a b k6 mU mV∧1≤mU∧2≤mV∧mU≤a.size∧mV≤b.size∧1+mU+mV≤na+nb)) ?step1 ?fin1 ⟨rfl,out,na,nb,0,0,rfl,hI,b1,b2,b4,b5,by lia⟩) ?post1)
  case fin1 =>
   rintro c kM ⟨rfl,k6,mU,mV,ac,bc,rfl,hI,b1,b2,b4,b5,b3⟩
   exact⟨rfl,.inr ⟨k6,mU,mV,ac,bc,rfl,hI,b1,b2,b4,b5,by lia⟩⟩
  case step1 =>
   rintro x1 c kM _ uM ⟨rfl,k6,mU,mV,ac,bc,rfl,hI,b1,b2,b4,b5,b3⟩
   dsimp only
   obtain⟨n1,rfl⟩:∃ n1,mU=n1+1:=⟨mU - 1,by lia⟩
   obtain⟨m1,rfl⟩:∃ m1,mV=m1+1:=⟨mV - 1,by lia⟩
   simp only [cF]
   obtain⟨y,ey,my⟩:=zar (xs:=b) (i:=m1) (by lia)
   obtain⟨z,ez,mz⟩:=zar (xs:=a) (i:=n1) (by lia)
   refine av (zS ey (av (zS ez (av (zke hC hk (mb y my) (ma z mz) ?_)))))
   dsimp only
   by_cases yZ:val y < val z
   ·refine zz (by simpa using yZ) ?_
    refine av (zS ez ?_)
    have oq:=hI.pushA sb (by lia) ey ez (by lia)
    by_cases e1:n1=0
    ·refine zz (by simpa using e1) ?_
     exact az ⟨rfl,.inl ⟨_,_,rfl,oq.doneA e1⟩⟩
    refine zA (by simpa using e1) ?_
    refine zaU (fun _=>?_) (fun _=>?_)
    ·exact az ⟨rfl,.inr ⟨_,_,_,_,_,rfl,oq,by lia,by lia,by lia,by lia,by lia⟩⟩
    ·exact az ⟨rfl,_,_,_,_,_,rfl,oq,by lia,by lia,by lia,by lia,by lia⟩
   ·refine zA (by simpa using yZ) ?_
    refine av (zS ey ?_)
    have oq:=hI.pushB sa (by lia) ey ez (by lia)
    by_cases e1:m1=1
    ·refine zz (by simpa using e1) ?_
     exact az ⟨rfl,.inl ⟨_,_,rfl,oq.first e1 sa h2 hf⟩⟩
    refine zA (by simpa using e1) ?_
    refine zaU (fun _=>?_) (fun _=>?_)
    ·exact az ⟨rfl,.inr ⟨_,_,_,_,_,rfl,oq,by lia,by lia,by lia,by lia,by lia⟩⟩
    ·exact az ⟨rfl,_,_,_,_,_,rfl,oq,by lia,by lia,by lia,by lia,by lia⟩
  case post1 =>
   rintro c kM ⟨rfl,hc⟩
   rcases hc with ⟨r,o,rfl,hG⟩ | ⟨wW,DF,DG,DA,DB,rfl,DC,c1,c2,c4,c5,c3⟩
   ·exact az ⟨g,r,_,rfl,rfl,hG⟩
   dsimp only
   (refine av (gi (b8 ⟨rfl,?_⟩)))
   refine av (cQ (bT (I:=fun x c kM=>∃ g k6 mU mV mg ac bc,kM=zan st g∧c=(none,mU,mV,k6,mg,ac,bc)∧MB val (a.toList++b.toList) a b k6 mU mV∧1≤mU∧2≤mV∧mU≤a.size∧mV≤b.size∧mU+mV≤DF+DG)
    (Q:=fun c kM=>∃ g,kM=zan st g∧((∃ r o,c=(some r,o)∧Good val (a.toList++b.toList) r.toList)∨∃ k6 mU mV mg ac bc,c=(none,mU,mV,k6,mg,ac,bc)∧MB val (a.toList++b.toList) a b k6 mU mV∧1≤mU∧2≤mV∧mU≤a.size∧mV≤b.size∧mU+mV≤DF+DG)) ?step2 ?fin2 ⟨g,wW,DF,DG,_,DA,DB,rfl,rfl,DC,c1,c2,c4,c5,af _⟩) ?post2)
   case fin2 =>
    rintro c kM ⟨g,k6,mU,mV,mg,ac,bc,rfl,rfl,hI,b1,b2,b4,b5,b3⟩
    exact⟨g,rfl,.inr ⟨k6,mU,mV,mg,ac,bc,rfl,hI,b1,b2,b4,b5,b3⟩⟩
   case post2 =>
    rintro c kM ⟨g,rfl,hc⟩
    rcases hc with ⟨r,o,rfl,hG⟩ | ⟨wX,na2,nb2,mg2,ac2,bc2,rfl,oq,d1,d2,d4,d5,d3⟩
    ·exact az ⟨g,r,_,rfl,rfl,hG⟩
    dsimp only
    refine av (zc4 (az ⟨_,wX,na2,nb2,_,rfl,rfl,oq,d1,d2,d4,d5,by lia⟩))
   case step2 =>
    rintro x2 c kM _ sE ⟨g,k6,mU,mV,DD,ac,bc,rfl,rfl,hI,b1,b2,b4,b5,b3⟩
    dsimp only
    obtain⟨m1,rfl⟩:∃ m1,mV=m1+1:=⟨mV - 1,by lia⟩
    simp only [cF]
    obtain⟨y,ey,my⟩:=zar (xs:=b) (i:=m1) (by lia)
    by_cases u9:DD > 1
    all_goals
     first
      | refine zz u9 ?_
      | refine zA u9 ?_
     refine av (zc4 (av (zS ey (av (zbl hC hk (mb y my) (fun i hi=>(by
      obtain⟨p,ep,mp⟩:=zar (xs:=a) (i:=0+i) (by lia)
      exact⟨p,ep,ma p mp⟩)) (sa.sub (by lia) (by lia)) (by lia) fun k B3 oF uN=>?_)))))
     dsimp only
     have oq:=hI.takeA (at':=k) sb B3 (by lia) ey fun i h1 h2=>eJ (by have:=zdS (uN i h1 h2); rwa [c8] at this)
     by_cases qC:mU - k > 0
     ·refine zz qC ?_
      by_cases e1:k=0
      ·refine zz (by simpa using e1) ?_
       exact az ⟨_,rfl,.inl ⟨_,_,rfl,oq.doneA e1⟩⟩
      refine zA (by simpa using e1) ?_
      obtain⟨n1,rfl⟩:∃ n1,k=n1+1:=⟨k - 1,by lia⟩
      simp only [cF]
      refine av (zS ey ?_)
      obtain⟨z,ez,mz⟩:=zar (xs:=a) (i:=n1) (by lia)
      have rm:=oq.pushB sa (by lia) ey (show a[n1+1 - 1]? = some z by rw [cF]; exact ez) (by have:=zc5 (oF n1 (by lia)); rw [c8,zX ez] at this; exact this)
      by_cases e3:m1=1
      ·refine zz (by simpa using e3) ?_
       exact az ⟨_,rfl,.inl ⟨_,_,rfl,rm.first e3 sa h2 hf⟩⟩
      refine zA (by simpa using e3) ?_
      refine av (zS ez (av (zbl hC hk (ma z mz) (fun i hi=>(by
       obtain⟨p,ep,mp⟩:=zar (xs:=b) (i:=0+i) (by lia)
       exact⟨p,ep,mb p mp⟩)) (sb.sub (by lia) (by lia)) (by lia) fun j wV qX vm=>?_)))
      dsimp only
      have sF:=rm.takeB (at':=j) sa wV (by lia) (show a[n1+1 - 1]? = some z by rw [cF]; exact ez) fun i h1 h2=>(by have:=zcO (vm i h1 h2); rwa [c8] at this)
      by_cases rn:m1 - j > 0
      ·refine zz rn ?_
       by_cases e4:j=1
       ·refine zz (by simpa using e4) ?_
        exact az ⟨_,rfl,.inl ⟨_,_,rfl,sF.first e4 sa h2 hf⟩⟩
       refine zA (by simpa using e4) ?_
       by_cases e5:j=0
       ·refine zz (by simpa using e5) ?_
        exact az ⟨_,rfl,.inl ⟨_,_,rfl,sF.doneB e5⟩⟩
       refine zA (by simpa using e5) ?_
       obtain⟨y2,oM,wY⟩:=zar (xs:=b) (i:=j - 1) (by lia)
       refine av (zS ez ?_)
       have m6:=sF.pushA sb (by lia) oM ez (by have:=zb0 (qX (j - 1) (by lia)); rw [c8,zX oM] at this; lia)
       by_cases e9:n1=0
       ·refine zz (by simpa using e9) ?_
        exact az ⟨_,rfl,.inl ⟨_,_,rfl,m6.doneA e9⟩⟩
       refine zA (by simpa using e9) ?_
       refine zaU (fun _=>?_) (fun _=>?_)
       ·exact az ⟨_,rfl,.inr ⟨_,_,_,_,_,_,rfl,m6,by lia,by lia,by lia,by lia,by lia⟩⟩
       ·exact az ⟨_,_,_,_,_,_,_,rfl,rfl,m6,by lia,by lia,by lia,by lia,by lia⟩
      ·refine zA rn ?_
       have DH:j=m1:=by lia
       subst DH
       obtain⟨y2,oM,wY⟩:=zar (xs:=b) (i:=j - 1) (by lia)
       refine av (zS ez ?_)
       have m6:=rm.pushA sb (by lia) oM ez (by have:=zb0 (qX (j - 1) (by lia)); rw [c8,zX oM] at this; lia)
       by_cases e9:n1=0
       ·refine zz (by simpa using e9) ?_
        exact az ⟨_,rfl,.inl ⟨_,_,rfl,m6.doneA e9⟩⟩
       refine zA (by simpa using e9) ?_
       refine zaU (fun _=>?_) (fun _=>?_)
       ·exact az ⟨_,rfl,.inr ⟨_,_,_,_,_,_,rfl,m6,by lia,by lia,by lia,by lia,by lia⟩⟩
       ·exact az ⟨_,_,_,_,_,_,_,rfl,rfl,m6,by lia,by lia,by lia,by lia,by lia⟩
     ·refine zA qC ?_
      have B2:k=mU:=by lia
      subst B2
      obtain⟨n1,rfl⟩:∃ n1,k=n1+1:=⟨k - 1,by lia⟩
      simp only [cF]
      refine av (zS ey ?_)
      obtain⟨z,ez,mz⟩:=zar (xs:=a) (i:=n1) (by lia)
      have rm:=hI.pushB sa (by lia) ey (show a[n1+1 - 1]? = some z by rw [cF]; exact ez) (by have:=zc5 (oF n1 (by lia)); rw [c8,zX ez] at this; exact this)
      by_cases e3:m1=1
      ·refine zz (by simpa using e3) ?_
       exact az ⟨_,rfl,.inl ⟨_,_,rfl,rm.first e3 sa h2 hf⟩⟩
      refine zA (by simpa using e3) ?_
      refine av (zS ez (av (zbl hC hk (ma z mz) (fun i hi=>(by
       obtain⟨p,ep,mp⟩:=zar (xs:=b) (i:=0+i) (by lia)
       exact⟨p,ep,mb p mp⟩)) (sb.sub (by lia) (by lia)) (by lia) fun j wV qX vm=>?_)))
      dsimp only
      have sF:=rm.takeB (at':=j) sa wV (by lia) (show a[n1+1 - 1]? = some z by rw [cF]; exact ez) fun i h1 h2=>(by have:=zcO (vm i h1 h2); rwa [c8] at this)
      by_cases rn:m1 - j > 0
      ·refine zz rn ?_
       by_cases e4:j=1
       ·refine zz (by simpa using e4) ?_
        exact az ⟨_,rfl,.inl ⟨_,_,rfl,sF.first e4 sa h2 hf⟩⟩
       refine zA (by simpa using e4) ?_
       by_cases e5:j=0
       ·refine zz (by simpa using e5) ?_
        exact az ⟨_,rfl,.inl ⟨_,_,rfl,sF.doneB e5⟩⟩
       refine zA (by simpa using e5) ?_
       obtain⟨y2,oM,wY⟩:=zar (xs:=b) (i:=j - 1) (by lia)
       refine av (zS ez ?_)
       have m6:=sF.pushA sb (by lia) oM ez (by have:=zb0 (qX (j - 1) (by lia)); rw [c8,zX oM] at this; lia)
       by_cases e9:n1=0
       ·refine zz (by simpa using e9) ?_
        exact az ⟨_,rfl,.inl ⟨_,_,rfl,m6.doneA e9⟩⟩
       refine zA (by simpa using e9) ?_
       refine zaU (fun _=>?_) (fun _=>?_)
       ·exact az ⟨_,rfl,.inr ⟨_,_,_,_,_,_,rfl,m6,by lia,by lia,by lia,by lia,by lia⟩⟩
       ·exact az ⟨_,_,_,_,_,_,_,rfl,rfl,m6,by lia,by lia,by lia,by lia,by lia⟩
      ·refine zA rn ?_
       have DH:j=m1:=by lia
       subst DH
       obtain⟨y2,oM,wY⟩:=zar (xs:=b) (i:=j - 1) (by lia)
       refine av (zS ez ?_)
       have m6:=rm.pushA sb (by lia) oM ez (by have:=zb0 (qX (j - 1) (by lia)); rw [c8,zX oM] at this; lia)
       by_cases e9:n1=0
       ·refine zz (by simpa using e9) ?_
        exact az ⟨_,rfl,.inl ⟨_,_,rfl,m6.doneA e9⟩⟩
       refine zA (by simpa using e9) ?_
       refine zaU (fun _=>?_) (fun _=>?_)
       ·exact az ⟨_,rfl,.inr ⟨_,_,_,_,_,_,rfl,m6,by lia,by lia,by lia,by lia,by lia⟩⟩
       ·exact az ⟨_,_,_,_,_,_,_,rfl,rfl,m6,by lia,by lia,by lia,by lia,by lia⟩
end
end Srt
end
section
namespace Srt
open PySem PyProof.Rows
def wb (sa:Nat) (l:List (Keyed×Nat)) (xs:Array Keyed):Array Keyed:=l.foldl (fun a (p,j)=>a.setIfInBounds (sa+j) p) xs
theorem zkl (sa:Nat):∀ (l:List Keyed) (n:Nat) (xs:Array Keyed) (k:Nat),sa+n+l.length≤xs.size→(wb sa (l.zipIdx n) xs)[k]? = if sa+n≤k∧k < sa+n+l.length then l[k - (sa+n)]? else xs[k]?
 | [],n,xs,k,h=>by
  rw [if_neg (by simp only [fX]; lia)]
  rfl
 | p :: l,n,xs,k,h=>by
  have hl:(p :: l).length=l.length+1:=rfl
  rw [hl] at h ⊢
  show (wb sa (l.zipIdx (n+1)) (xs.setIfInBounds (sa+n) p))[k]? = _
  rw [zkl sa l (n+1) _ k (by rw [Array.size_setIfInBounds]; lia)]
  by_cases h1:sa+(n+1)≤k∧k < sa+(n+1)+l.length
  ·rw [if_pos h1,if_pos (by lia),show k - (sa+n)=k - (sa+(n+1))+1 by lia,dn]
  ·rw [if_neg h1,Array.getElem?_setIfInBounds]
   by_cases h2:sa+n=k
   ·rw [if_pos h2,if_pos (by lia),if_pos (by lia),show k - (sa+n)=0 by lia]
    rfl
   ·rw [if_neg h2,if_neg (by lia)]
theorem zlr {sa:Nat} {m xs:Array Keyed} (h:sa+m.size≤xs.size):(wb sa m.toList.zipIdx xs).toList=xs.toList.take sa++m.toList++xs.toList.drop (sa+m.size):=by
 have hm:m.toList.length=m.size:=by simp
 have hx:xs.toList.length=xs.size:=by simp
 refine gQ fun k=>?_
 rw [br,zkl sa m.toList 0 xs k (by rw [hm]; lia),hm,dY]
 by_cases h1:k < sa
 ·rw [if_neg (by lia),aV,bD (by rw [aJ]; lia),cC h1,br]
 ·by_cases h2:k < sa+m.size
  ·rw [if_pos (by lia),aV,bu (by rw [aJ]; lia),aJ,hx,show min sa xs.size=sa by lia,bD (by lia)]
  ·rw [if_neg (by lia),bu (by rw [ar,aJ]; lia),ar,aJ,hx,show min sa xs.size=sa by lia,hm,er,show sa+m.size+(k - (sa+m.size))=k by lia,br]
theorem zi4 (xs:List Keyed) {i j k:Nat} (h1:i≤j) (h2:j≤k):xs=xs.take i++((xs.drop i).take (j - i)++(xs.drop j).take (k - j))++xs.drop k:=by
 have e1:xs.drop i=(xs.drop i).take (j - i)++xs.drop j:=by
  have:=(cb (j - i) (xs.drop i)).symm
  rwa [iP,show i+(j - i)=j by lia] at this
 have e2:xs.drop j=(xs.drop j).take (k - j)++xs.drop k:=by
  have:=(cb (k - j) (xs.drop j)).symm
  rwa [iP,show j+(k - j)=k by lia] at this
 have e0:=(cb i xs).symm
 rw [e1,e2] at e0
 rw [aV,aV]
 exact e0
theorem zc6 (xs:Array Keyed) (i j:Nat):(xs.extract i j).toList=(xs.toList.drop i).take (j - i):=by
 rw [da]
theorem zls {sa sb e:Nat} {m xs:Array Keyed} (h1:sa≤sb) (h2:sb≤e) (h3:e≤xs.size) (hp:m.toList.Perm ((xs.extract sa sb).toList++(xs.extract sb e).toList)):(wb sa m.toList.zipIdx xs).Perm xs:=by
 have hms:m.size=e - sa:=by
  have:=hp.length_eq
  rw [ar,zc6,zc6,aJ,aJ,bS,bS] at this
  have hx:xs.toList.length=xs.size:=by simp
  have hm:m.toList.length=m.size:=by simp
  lia
 rw [eS,zlr (by lia),show sa+m.size=e by lia]
 refine eZ ((hp.append_left _).append_right _) ?_
 rw [zc6,zc6,← zi4 xs.toList h1 h2]
section
variable {prog:Program} {w:World} {A:Around} {E:Value→Shared→Prop} {s:Shared} {a₀:Array Keyed} {κ:SortKind} {val:Keyed→Int}
theorem zcP {xs:Array Keyed} {i j k:Nat} (h:k < j - i) (hj:j≤xs.size):(xs.extract i j)[k]? = xs[i+k]?:=by
 rw [← br,zc6,cC h,er,br]
theorem zc7 {xs:Array Keyed} {i j:Nat} (hj:j≤xs.size):(xs.extract i j).size=j - i:=by rw [Array.size_extract,db hj]
theorem zh9 {xs:Array Keyed} {i j:Nat} (hj:j≤xs.size) (h:SIn val xs i j):SIn val (xs.extract i j) 0 (xs.extract i j).size:=by
 rw [zc7 hj]
 intro p q _ hpq hq
 rw [z8 (zcP (by lia) hj),z8 (zcP hq hj)]
 exact h _ _ (by lia) (by lia) (by lia)
theorem zdU {xs:Array Keyed} {i j:Nat} (hj:j≤xs.size) {p:Keyed} (h:p∈(xs.extract i j).toList):∃ k,i≤k∧k < j∧xs[k]? = some p:=by
 obtain⟨k,hk,e⟩:=d9 h
 have uE:k < j - i:=by
  rwa [bv,zc7 hj] at hk
 refine⟨i+k,by lia,by lia,?_⟩
 rw [← zcP uE hj,← br,am hk,e]
theorem zi5 {st:SortSt} {i sa na pw sb nb pw2:Nat} {Q:Bool→SortSt→Prop} (hC:Cmp prog w A s κ val a₀) (hB:SB κ a₀ st) (e1:(pendingOf st)[i]? = some (sa,na,pw)) (e2:(pendingOf st)[i+1]? = some (sb,nb,pw2))
  (mi:sb=sa+na) (y4:1≤na) (hnb:1≤nb) (hsz:sb+nb≤a₀.size) (sA:SIn val (arrOf st) sa (sa+na)) (sB:SIn val (arrOf st) sb (sb+nb))
  (h:∀ kM,SB κ a₀ kM→pendingOf kM=((pendingOf st).setIfInBounds i (sa,na+nb,pw)).eraseIdxIfInBounds (i+1)→(∀ k,(k < sa∨sb+nb≤k)→(arrOf kM)[k]? = (arrOf st)[k]?)→SIn val (arrOf kM) sa (sb+nb)→Q true kM) :
  wpS (model prog w) A E s (mergeAt' i) Q st:=by
 refine zfE ?_
 wp_delta
 wp_delta
 refine zfF ?_
 refine av (eI ?_)
 rw [e1,e2]
 dsimp only
 have y6:=hB.size
 obtain⟨y0,uK,Dw⟩:=hB.mem (i:=sb) (by lia)
 generalize w6:(sortPriv% PySem.Builtin.SortState.mk) (kindOf st) (arrOf st) (((pendingOf st).setIfInBounds i (sa,na+nb,pw)).eraseIdxIfInBounds (i+1)) (gallopOf st) (failedOf st)=mJ
 have sG:SB κ a₀ mJ:=by subst w6; exact⟨hB.perm,hB.kind,hB.failed⟩
 have pM:pendingOf mJ=((pendingOf st).setIfInBounds i (sa,na+nb,pw)).eraseIdxIfInBounds (i+1):=by subst w6; rfl
 have tF:arrOf mJ=arrOf st:=by subst w6; rfl
 have vn:∀ n,n < a₀.size→∃ p,(arrOf st)[n]? = some p∧p∈a₀.toList:=fun n hn=>hB.mem hn
 refine av (show wpS _ _ _ _ (set mJ) _ st from dC (f:=fun _=>mJ) ?_)
 refine av (zS uK (av (zbl (arr:=arrOf st) hC sG.kind Dw (fun j hj=>vn (sa+j) (by lia)) sA (by lia) fun k B3 oF uN=>?_)))
 dsimp only
 have y8:∀ j,sa≤j→j < sa+k→Vk val (arrOf st) j≤Vk val (arrOf st) sb:=fun j h1 h2=>by
  have:=zc5 (oF (j - sa) (by lia))
  rwa [show sa+(j - sa)=j by lia,← zX (val:=val) uK] at this
 by_cases qC:na - k=0
 ·rw [if_pos (by simpa using qC)]
  refine az (h mJ sG pM (fun _ _=>by rw [tF]) ?_)
  rw [tF]
  intro p q h1 h2 h3
  by_cases hq:q < sa+na
  ·exact sA p q h1 h2 hq
  ·by_cases hp:p < sa+na
   ·exact b7 (y8 p h1 (by lia)) (sB sb q (by lia) (by lia) h3)
   ·exact sB p q (by lia) h2 h3
 rw [if_neg (by simpa using qC)]
 have y9:sa+k+(na - k) - 1=sa+na - 1:=by lia
 rw [y9]
 obtain⟨x0,uL,Dx⟩:=hB.mem (i:=sa+na - 1) (by lia)
 refine av (zS uL (av (zbl (arr:=arrOf st) hC sG.kind Dx (fun j hj=>vn (sb+j) (by lia)) sB (by lia) fun m rj qA B4=>?_)))
 dsimp only
 have vY:∀ j,sb+m≤j→j < sb+nb→Vk val (arrOf st) (sa+na - 1)≤Vk val (arrOf st) j:=fun j h1 h2=>by
  have:=zcO (B4 (j - sb) (by lia) (by lia))
  rwa [show sb+(j - sb)=j by lia,← zX (val:=val) uL] at this
 have DI:∀ j,sb≤j→j < sb+m→Vk val (arrOf st) j < Vk val (arrOf st) (sa+na - 1):=fun j h1 h2=>by
  have:=zb0 (qA (j - sb) (by lia))
  rwa [show sb+(j - sb)=j by lia,← zX (val:=val) uL] at this
 by_cases B5:m=0
 ·rw [if_pos (by simpa using B5)]
  refine az (h mJ sG pM (fun _ _=>by rw [tF]) ?_)
  rw [tF]
  intro p q h1 h2 h3
  by_cases hq:q < sa+na
  ·exact sA p q h1 h2 hq
  ·by_cases hp:p < sa+na
   ·exact b7 (sA p (sa+na - 1) h1 (by lia) (by lia)) (vY q (by lia) h3)
   ·exact sB p q (by lia) h2 h3
 rw [if_neg (by simpa using B5)]
 have zx:(arrOf st).size=a₀.size:=y6
 have z1:=zc7 (xs:=arrOf st) (i:=sa+k) (j:=sb) (by lia)
 have z2:=zc7 (xs:=arrOf st) (i:=sb) (j:=sb+m) (by lia)
 have hf:Vk val ((arrOf st).extract sb (sb+m)) 0≤Vk val ((arrOf st).extract (sa+k) sb) 0:=by
  rw [z8 (zcP (by lia) (by lia)),z8 (zcP (xs:=arrOf st) (i:=sa+k) (j:=sb) (k:=0) (by lia) (by lia))]
  have:=zdS (uN k (af _) (by lia))
  rw [← zX (val:=val) uK] at this
  simp only [dY] at this ⊢
  lia
 have hl:∀ j,j < ((arrOf st).extract sb (sb+m)).size→Vk val ((arrOf st).extract sb (sb+m)) j≤Vk val ((arrOf st).extract (sa+k) sb) (((arrOf st).extract (sa+k) sb).size - 1):=by
  intro j hj
  rw [z2] at hj
  rw [z1,z8 (zcP (by lia) (by lia)),z8 (zcP (xs:=arrOf st) (i:=sa+k) (j:=sb) (by lia) (by lia))]
  have:=DI (sb+j) (by lia) (by lia)
  rw [show sa+k+(sb - (sa+k) - 1)=sa+na - 1 by lia]
  lia
 have fin:∀ (out:Array Keyed) (g:Nat),Good val (((arrOf st).extract (sa+k) sb).toList++((arrOf st).extract sb (sb+m)).toList) out.toList →
   wpS (model prog w) A E s (do
    modify fun s=>setArr s (out.toList.zipIdx.foldl (fun a (p,j)=>a.setIfInBounds (sa+k+j) p) (arrOf s))
    let s' ← get
    pure (failedOf s').isNone) Q (zan mJ g):=by
  intro out g hG
  refine av (dC (av (eI ?_)))
  have hms:out.size=sb+m - (sa+k):=by
   have:=hG.1.length_eq
   rw [ar] at this
   have e1:out.toList.length=out.size:=by simp
   have e2:((arrOf st).extract (sa+k) sb).toList.length=sb - (sa+k):=by rw [bv,z1]
   have e3:((arrOf st).extract sb (sb+m)).toList.length=sb+m - sb:=by rw [bv,z2]
   lia
  have pW:=zls (xs:=arrOf st) (sa:=sa+k) (sb:=sb) (e:=sb+m) (by lia) (by lia) (by lia) hG.1
  have lC:∀ n,(wb (sa+k) out.toList.zipIdx (arrOf st))[n]? = if sa+k≤n∧n < sb+m then out[n - (sa+k)]? else (arrOf st)[n]?:=fun n=>by
   have:=zkl (sa+k) out.toList 0 (arrOf st) n (by rw [bv]; lia)
   rw [bv,dY,hms,show sa+k+(sb+m - (sa+k))=sb+m by lia,br] at this
   exact this
  have yu:(failedOf (setArr (zan mJ g) (wb (sa+k) out.toList.zipIdx (arrOf st)))).isNone=true:=by
   show (failedOf mJ).isNone=true
   rw [sG.failed]
   rfl
  have DJ:arrOf (zan mJ g)=arrOf st:=tF
  show wpS _ _ _ _ (pure (failedOf (setArr (zan mJ g) (wb (sa+k) out.toList.zipIdx (arrOf (zan mJ g))))).isNone) Q (setArr (zan mJ g) (wb (sa+k) out.toList.zipIdx (arrOf (zan mJ g))))
  rw [DJ,yu]
  refine az (h _ ⟨pW.trans hB.perm,sG.kind,sG.failed⟩ pM (fun n hn=>?_) ?_)
  ·show (wb (sa+k) out.toList.zipIdx (arrOf st))[n]? = _
   rw [lC,if_neg (by lia)]
  ·show SIn val (wb (sa+k) out.toList.zipIdx (arrOf st)) sa (sb+nb)
   have oG:∀ n,sa+k≤n→n < sb+m→∃ q,sa+k≤q∧q < sb+m∧Vk val (wb (sa+k) out.toList.zipIdx (arrOf st)) n=Vk val (arrOf st) q:=fun n h1 h2=>by
    have ho:n - (sa+k) < out.size:=by lia
    have rV:out[n - (sa+k)]? = some out[n - (sa+k)]:=getElem?_pos out _ ho
    have nM:out[n - (sa+k)]∈((arrOf st).extract (sa+k) sb).toList++((arrOf st).extract sb (sb+m)).toList:=hG.1.mem_iff.mp (by simp)
    have hv:Vk val (wb (sa+k) out.toList.zipIdx (arrOf st)) n=val out[n - (sa+k)]:=zX (by rw [lC,if_pos ⟨h1,h2⟩,rV])
    rcases aP.mp nM with nM | nM
    ·obtain⟨q,q1,q2,q3⟩:=zdU (by lia) nM
     exact⟨q,q1,by lia,by rw [hv,zX q3]⟩
    ·obtain⟨q,q1,q2,q3⟩:=zdU (by lia) nM
     exact⟨q,by lia,q2,by rw [hv,zX q3]⟩
   have rz:∀ n,¬ (sa+k≤n∧n < sb+m)→Vk val (wb (sa+k) out.toList.zipIdx (arrOf st)) n=Vk val (arrOf st) n:=fun n hn=>z8 (by rw [lC,if_neg hn])
   intro p q h1 h2 h3
   by_cases hp:p < sa+k
   ·rw [rz p (by lia)]
    by_cases hq:q < sa+k
    ·rw [rz q (by lia)]
     exact sA p q h1 h2 (by lia)
    ·have key:∀ q',sa+k≤q'→q' < sb+nb→Vk val (arrOf st) p≤Vk val (arrOf st) q':=fun q' a1 a2=>by
      by_cases tZ:q' < sb
      ·exact sA p q' h1 (by lia) (by lia)
      ·exact b7 (y8 p h1 hp) (sB sb q' (by lia) (by lia) a2)
     by_cases nL:q < sb+m
     ·obtain⟨q',q1,q2,q3⟩:=oG q (by lia) nL
      rw [q3]
      exact key q' q1 (by lia)
     ·rw [rz q (by lia)]
      exact key q (by lia) h3
   ·by_cases mX:p < sb+m
    ·by_cases nL:q < sb+m
     ·have Aa:p - (sa+k) < out.size:=by lia
      have rV:q - (sa+k) < out.size:=by lia
      rw [zX (p:=out[p - (sa+k)]) (by rw [lC,if_pos (by lia)]; exact getElem?_pos out _ Aa),zX (p:=out[q - (sa+k)]) (by rw [lC,if_pos (by lia)]; exact getElem?_pos out _ rV)]
      by_cases hpq:p=q
      ·subst hpq
       exact bU _
      ·have:=dS.mp hG.2 (p - (sa+k)) (q - (sa+k)) (by simpa using Aa) (by simpa using rV) (by lia)
       simpa using this
     ·obtain⟨p',p1,p2,p3⟩:=oG p (by lia) mX
      rw [p3,rz q (by lia)]
      by_cases qr:p' < sb
      ·exact b7 (sA p' (sa+na - 1) (by lia) (by lia) (by lia)) (vY q (by lia) h3)
      ·exact sB p' q (by lia) (by lia) h3
    ·rw [rz p (by lia),rz q (by lia)]
     exact sB p q (by lia) h2 h3
 have ma:∀ p∈((arrOf st).extract (sa+k) sb).toList,p∈a₀.toList:=fun p hp=>by
  obtain⟨q,q1,q2,q3⟩:=zdU (by lia) hp
  obtain⟨p',e,m'⟩:=vn q (by lia)
  rw [q3] at e
  cases e
  exact m'
 have mb:∀ p∈((arrOf st).extract sb (sb+m)).toList,p∈a₀.toList:=fun p hp=>by
  obtain⟨q,q1,q2,q3⟩:=zdU (by lia) hp
  obtain⟨p',e,m'⟩:=vn q (by lia)
  rw [q3] at e
  cases e
  exact m'
 have ss1:=zh9 (val:=val) (xs:=arrOf st) (i:=sa+k) (j:=sb) (by lia) (sA.sub (by lia) (by lia))
 have ss2:=zh9 (val:=val) (xs:=arrOf st) (i:=sb) (j:=sb+m) (by lia) (sB.sub (by lia) (by lia))
 by_cases hle:na - k≤m
 ·rw [if_pos hle]
  exact av (zi2 (a:=(arrOf st).extract (sa+k) sb) (b:=(arrOf st).extract sb (sb+m)) hC sG.kind ma mb ss1 ss2 (by lia) (by lia) hf hl fin)
 ·rw [if_neg hle]
  exact av (zi3 (a:=(arrOf st).extract (sa+k) sb) (b:=(arrOf st).extract sb (sb+m)) hC sG.kind ma mb ss1 ss2 (by lia) (by lia) hf hl fin)
end
end Srt
end
section
namespace Srt
open PySem PyProof.Rows
def Runs (val:Keyed→Int) (xs:Array Keyed):List (Nat×Nat×Nat)→Nat→Nat→Prop
 | [],lo,hi=>lo=hi
 | (s,n,_) :: r,lo,hi=>s=lo∧1≤n∧SIn val xs lo (lo+n)∧Runs val xs r (lo+n) hi
section
variable {val:Keyed→Int}
theorem Runs.le {xs:Array Keyed}:∀ {p:List (Nat×Nat×Nat)} {lo hi:Nat},Runs val xs p lo hi→lo+p.length≤hi
 | [],lo,hi,h=>by
  have h:lo=hi:=h
  simp only [fX]
  lia
 | (s,n,w) :: r,lo,hi,h=>by
  obtain⟨_,h1,_,h2⟩:=h
  have:=h2.le
  simp only [cD]
  lia
theorem Runs.append {xs:Array Keyed}:∀ {p q:List (Nat×Nat×Nat)} {lo hi:Nat},Runs val xs (p++q) lo hi↔∃ mid,Runs val xs p lo mid∧Runs val xs q mid hi
 | [],q,lo,hi=>⟨fun h=>⟨lo,rfl,h⟩,fun ⟨mid,h1,h2⟩=>by
   have h1:lo=mid:=h1
   subst h1
   exact h2⟩
 | (s,n,w) :: p,q,lo,hi=>by
  constructor
  ·rintro⟨h1,h2,h3,h4⟩
   obtain⟨mid,h5,h6⟩:=Runs.append.mp h4
   exact⟨mid,⟨h1,h2,h3,h5⟩,h6⟩
  ·rintro⟨mid,⟨h1,h2,h3,h5⟩,h6⟩
   exact⟨h1,h2,h3,Runs.append.mpr ⟨mid,h5,h6⟩⟩
theorem Runs.keep {xs ys:Array Keyed}:∀ {p:List (Nat×Nat×Nat)} {lo hi:Nat},Runs val xs p lo hi→(∀ k,lo≤k→k < hi→ys[k]? = xs[k]?)→Runs val ys p lo hi
 | [],lo,hi,h,_=>h
 | (s,n,w) :: p,lo,hi,h,e=>by
  obtain⟨h1,h2,h3,h4⟩:=h
  have:=h4.le
  refine⟨h1,h2,fun i j a b c=>?_,h4.keep fun k a b=>e k (by lia) b⟩
  rw [z8 (e i (by lia) (by lia)),z8 (e j (by lia) (by lia))]
  exact h3 i j a b c
theorem zkm {α:Type} (p q:List α) (x y v:α):((p++x :: y :: q).toArray.setIfInBounds p.length v).eraseIdxIfInBounds (p.length+1)=(p++v :: q).toArray:=by
 simp [Array.eraseIdxIfInBounds]
 rw [List.eraseIdx_append_of_length_le (by lia),show p.length+1 - p.length=1 by lia]
 rfl
theorem zgs {α:Type} (q:List α) (z:α) (f:α→α):(q++[z]).toArray.modify ((q++[z]).toArray.size - 1) f=(q++[f z]).toArray:=by
 apply Array.ext'
 simp
 induction q with
 | nil=>rfl
 | cons a q ih =>
  show (a :: (q++[z])).modify (q.length+1) f=a :: (q++[f z])
  rw [List.modify_succ_cons,ih]
theorem zia {xs:Array Keyed} {p:List (Nat×Nat×Nat)} {n:Nat} (hl:p.length≤1) (hn:1≤n) (h:Runs val xs p 0 n):SIn val xs 0 n:=by
 match p,hl,h with
 | [],_,h =>
  have h:0=n:=h
  lia
 | [(a,b,c)],_,h =>
  obtain⟨_,_,h3,h4⟩:=h
  have h4:0+b=n:=h4
  rw [← h4]
  exact h3
 | _ :: _ :: _,hl,_=>simp at hl
theorem zi6 {α:Type} {p:List α} {j:Nat} (h:j+2≤p.length):∃ pre x y post,p=pre++x :: y :: post∧pre.length=j:=by
 refine⟨p.take j,p[j],p[j+1],p.drop (j+2),?_,by rw [aJ]; lia⟩
 have e1:=(cb j p).symm
 rw [cw (show j < p.length by lia),cw (show j+1 < p.length by lia)] at e1
 exact e1
end
section
variable {prog:Program} {w:World} {A:Around} {E:Value→Shared→Prop} {s:Shared} {a₀:Array Keyed} {κ:SortKind} {val:Keyed→Int}
theorem zer {st:SortSt} {pre post:List (Nat×Nat×Nat)} {x y:Nat×Nat×Nat} {hi:Nat} {Q:Bool→SortSt→Prop} (hC:Cmp prog w A s κ val a₀) (hB:SB κ a₀ st) (hp:pendingOf st=(pre++x :: y :: post).toArray) (hR:Runs val (arrOf st) (pre++x :: y :: post) 0 hi) (vj:hi≤a₀.size)
  (h:∀ kM v,SB κ a₀ kM→pendingOf kM=(pre++v :: post).toArray→(∀ k,hi≤k→(arrOf kM)[k]? = (arrOf st)[k]?)→Runs val (arrOf kM) (pre++v :: post) 0 hi→Q true kM) :
  wpS (model prog w) A E s (mergeAt' pre.length) Q st:=by
 obtain⟨sa,na,pw⟩:=x
 obtain⟨sb,nb,pw2⟩:=y
 obtain⟨mid,r1,r2⟩:=Runs.append.mp hR
 obtain⟨rfl,q1,q2,rfl,q4,q5,r3⟩:=r2
 have hle:=r3.le
 refine zi5 (i:=pre.length) (sa:=sa) (na:=na) (pw:=pw) (sb:=sa+na) (nb:=nb) (pw2:=pw2) hC hB (by rw [hp]; simp) (by rw [hp]; simp) rfl q1 q4 (by lia) q2 q5 fun kM m5 qr hk hs=>?_
 refine h kM (sa,na+nb,pw) m5 (by rw [qr,hp,zkm]) (fun k uE=>hk k (by lia)) ?_
 refine Runs.append.mpr ⟨sa,r1.keep fun k _ b=>hk k (by lia),rfl,by lia,?_,?_⟩
 ·rw [← gG]
  exact hs
 ·rw [← gG]
  exact r3.keep fun k a b=>hk k (by lia)
theorem zlu {n:Nat} {c:Prop} [Decidable c] (h:¬ n≤1):(if c then n - 2 - 1 else n - 2)+2≤n:=by
 by_cases hc:c
 ·rw [if_pos hc]
  lia
 ·rw [if_neg hc]
  lia
theorem zkn {st:SortSt} {p:List (Nat×Nat×Nat)} {j hi:Nat} {Q:Bool→SortSt→Prop} (hj:j+2≤p.length) (hC:Cmp prog w A s κ val a₀) (hB:SB κ a₀ st) (hp:pendingOf st=p.toArray) (hR:Runs val (arrOf st) p 0 hi) (vj:hi≤a₀.size)
  (h:∀ kM p',SB κ a₀ kM→pendingOf kM=p'.toArray→Runs val (arrOf kM) p' 0 hi→p'.length+1=p.length→Q true kM):wpS (model prog w) A E s (mergeAt' j) Q st:=by
 obtain⟨pre,x,y,post,rfl,rfl⟩:=zi6 hj
 exact zer hC hB hp hR vj fun kM v a b _ d=>h kM _ a b d (by simp only [ar,cD]; lia)
theorem zm4 {st:SortSt} {Q:Unit→SortSt→Prop} (hC:Cmp prog w A s κ val a₀) (hB:SB κ a₀ st) (hp:pendingOf st = #[]) (h2:1≤a₀.size)
  (h:∀ kM,SB κ a₀ kM→SIn val (arrOf kM) 0 a₀.size→Q () kM):wpS (model prog w) A E s sortRuns' Q st:=by
 rw [sortRuns'_eq]
 refine av (eI ?_)
 dsimp only
 rw [hB.size]
 generalize minRun' a₀.size a₀.size 0=mr
 refine av (cQ (bT (I:=fun x c kM=>∃ lo p,c=(none,lo)∧SB κ a₀ kM∧pendingOf kM=p.toArray∧Runs val (arrOf kM) p 0 lo∧lo≤a₀.size∧min x a₀.size≤lo)
  (Q:=fun c kM=>∃ p,c=(none,a₀.size)∧SB κ a₀ kM∧pendingOf kM=p.toArray∧Runs val (arrOf kM) p 0 a₀.size) ?step ?fin ⟨0,[],rfl,hB,hp,rfl,by lia,by lia⟩) ?post)
 case fin =>
  rintro c kM ⟨lo,p,rfl,m5,qr,hR,pD,hx⟩
  have:lo=a₀.size:=by lia
  subst this
  exact⟨p,rfl,m5,qr,hR⟩
 case step =>
  rintro x c kM _ hx ⟨lo,p,rfl,m5,qr,hR,pD,Ab⟩
  dsimp only
  by_cases oo:lo≥a₀.size
  ·rw [if_pos oo]
   have:lo=a₀.size:=by lia
   subst this
   exact az ⟨p,rfl,m5,qr,hR⟩
  rw [if_neg oo]
  refine av (zlo hC (by lia) (by lia) (SF.refl m5) fun m mJ w8 rj qA DK=>?_)
  dsimp only
  by_cases hmr:m < mr
  ·rw [if_pos hmr]
   (refine av (gi (b8 ⟨rfl,?_⟩)))
   refine av (znQ hC (by lia) (by lia) w8 DK fun lB ya nE=>?_)
   rw [if_neg (by decide)]
   have uH:1≤min (a₀.size - lo) mr:=by lia
   have qV:lo+min (a₀.size - lo) mr≤a₀.size:=by lia
   generalize min (a₀.size - lo) mr=n at nE uH qV ⊢
   refine av (eI ?_)
   have pM:pendingOf lB=p.toArray:=ya.pend.trans qr
   have uO:Runs val (arrOf lB) p 0 lo:=hR.keep fun k _ b=>ya.low k b
   rcases eK p with rfl | ⟨q,z,rfl⟩
   ·rw [pM]
    show wpS _ _ _ _ (do
     modify fun s=>setPending s ((pendingOf s).push (lo,n,0)); pure (cm (none,lo+n))) _ _
    refine av (dC (az ⟨lo+n,[(lo,n,0)],rfl,⟨ya.b.perm,ya.b.kind,ya.b.failed⟩,?_,?_,by lia,by lia⟩))
    ·show (pendingOf lB).push _=_
     rw [pM]
     rfl
    ·have h0:0=lo:=uO
     subst h0
     exact⟨rfl,uH,nE,rfl⟩
   obtain⟨s1,n1,w1⟩:=z
   rw [pM,cT,show ((q++[(s1,n1,w1)]).toArray).back? = some (s1,n1,w1) by simp]
   rw [cT] at pM uO
   dsimp only
   generalize power' a₀.size (2*s1+n1) (2*s1+n1+n1+n) a₀.size=pw
   refine av (cQ (bT (I:=fun _ c kM=>c=(none,())∧∃ q' z,SB κ a₀ kM∧pendingOf kM=(q'++[z]).toArray∧Runs val (arrOf kM) (q'++[z]) 0 lo∧(∀ k,lo≤k→(arrOf kM)[k]? = (arrOf lB)[k]?))
    (Q:=fun c kM=>c=(none,())∧∃ q' z,SB κ a₀ kM∧pendingOf kM=(q'++[z]).toArray∧Runs val (arrOf kM) (q'++[z]) 0 lo∧(∀ k,lo≤k→(arrOf kM)[k]? = (arrOf lB)[k]?)) ?_ (fun _ _ hh=>hh) ⟨rfl,q,(s1,n1,w1),ya.b,pM,uO,fun _ _=>rfl⟩) ?_)
   ·rintro x2 c lB _ sE ⟨rfl,q',z,oz,mX,qt,oF⟩
    refine av (eI ?_)
    rcases eK q' with rfl | ⟨q2,y,rfl⟩
    ·rw [mX,if_neg (by simp)]
     exact az ⟨rfl,[],z,oz,mX,qt,oF⟩
    rw [cT,aV] at mX qt
    have Ac:(pendingOf lB).size - 2=q2.length:=by rw [mX]; simp
    have DL:(if (pendingOf lB).size > 1 then (pendingOf lB)[(pendingOf lB).size - 2]? else none)=some y:=by
     rw [if_pos (by rw [mX]; simp),Ac,mX]
     simp
    rw [DL]
    obtain⟨y1,y2,y3⟩:=y
    dsimp only
    by_cases ho:y3≤pw
    ·rw [if_pos ho]
     exact az ⟨rfl,q2++[(y1,y2,y3)],z,oz,by rw [mX,aV],by rw [aV]; exact qt,oF⟩
    ·rw [if_neg ho,Ac]
     refine av (zer hC oz mX qt (by lia) fun yw v Ad tG uN uP=>?_)
     rw [if_neg (by decide)]
     exact az ⟨rfl,q2,v,Ad,tG,uP,fun k hk=>(uN k hk).trans (oF k hk)⟩
   ·rintro c lB ⟨rfl,q',z,oz,mX,qt,oF⟩
    obtain⟨z1,z2,z3⟩:=z
    dsimp only
    refine av (dC (av (dC (az ⟨lo+n,q'++[(z1,z2,pw),(lo,n,0)],rfl,⟨oz.perm,oz.kind,oz.failed⟩,?_,?_,by lia,by lia⟩))))
    ·show ((pendingOf lB).modify ((pendingOf lB).size - 1) fun x=>(x.fst,x.2.fst,pw)).push (lo,n,0)=_
     rw [mX,zgs]
     simp
    ·show Runs val (arrOf lB) _ _ _
     obtain⟨mid,r1,r2⟩:=Runs.append.mp qt
     obtain⟨e1,e2,e3,e4⟩:=r2
     have e4:mid+z2=lo:=e4
     refine Runs.append.mpr ⟨mid,r1,e1,e2,e3,e4.symm,uH,?_,?_⟩
     ·intro i j a1 a2 a3
      rw [z8 (oF i (by lia)),z8 (oF j (by lia))]
      exact nE i j (by lia) a2 (by lia)
     ·show mid+z2+n=lo+n
      lia
  ·rw [if_neg hmr]
   have qV:lo+m≤a₀.size:=by lia
   refine av (eI ?_)
   have pM:pendingOf mJ=p.toArray:=w8.pend.trans qr
   have uO:Runs val (arrOf mJ) p 0 lo:=hR.keep fun k _ b=>w8.low k b
   rcases eK p with rfl | ⟨q,z,rfl⟩
   ·rw [pM]
    show wpS _ _ _ _ (do
     modify fun s=>setPending s ((pendingOf s).push (lo,m,0))
     pure (cm (none,lo+m))) _ _
    refine av (dC (az ⟨lo+m,[(lo,m,0)],rfl,⟨w8.b.perm,w8.b.kind,w8.b.failed⟩,?_,?_,by lia,by lia⟩))
    ·show (pendingOf mJ).push _=_
     rw [pM]
     rfl
    ·have h0:0=lo:=uO
     subst h0
     exact⟨rfl,rj,DK,rfl⟩
   obtain⟨s1,n1,w1⟩:=z
   rw [pM,cT,show ((q++[(s1,n1,w1)]).toArray).back? = some (s1,n1,w1) by simp]
   rw [cT] at pM uO
   dsimp only
   generalize power' a₀.size (2*s1+n1) (2*s1+n1+n1+m) a₀.size=pw
   refine av (cQ (bT (I:=fun _ c kM=>c=(none,())∧∃ q' z,SB κ a₀ kM∧pendingOf kM=(q'++[z]).toArray∧Runs val (arrOf kM) (q'++[z]) 0 lo∧(∀ k,lo≤k→(arrOf kM)[k]? = (arrOf mJ)[k]?))
    (Q:=fun c kM=>c=(none,())∧∃ q' z,SB κ a₀ kM∧pendingOf kM=(q'++[z]).toArray∧Runs val (arrOf kM) (q'++[z]) 0 lo∧(∀ k,lo≤k→(arrOf kM)[k]? = (arrOf mJ)[k]?)) ?_ (fun _ _ hh=>hh) ⟨rfl,q,(s1,n1,w1),w8.b,pM,uO,fun _ _=>rfl⟩) ?_)
   ·rintro x2 c lB _ sE ⟨rfl,q',z,oz,mX,qt,oF⟩
    refine av (eI ?_)
    rcases eK q' with rfl | ⟨q2,y,rfl⟩
    ·rw [mX,if_neg (by simp)]
     exact az ⟨rfl,[],z,oz,mX,qt,oF⟩
    rw [cT,aV] at mX qt
    have Ac:(pendingOf lB).size - 2=q2.length:=by rw [mX]; simp
    have DL:(if (pendingOf lB).size > 1 then (pendingOf lB)[(pendingOf lB).size - 2]? else none)=some y:=by
     rw [if_pos (by rw [mX]; simp),Ac,mX]
     simp
    rw [DL]
    obtain⟨y1,y2,y3⟩:=y
    dsimp only
    by_cases ho:y3≤pw
    ·rw [if_pos ho]
     exact az ⟨rfl,q2++[(y1,y2,y3)],z,oz,by rw [mX,aV],by rw [aV]; exact qt,oF⟩
    ·rw [if_neg ho,Ac]
     refine av (zer hC oz mX qt (by lia) fun yw v Ad tG uN uP=>?_)
     rw [if_neg (by decide)]
     exact az ⟨rfl,q2,v,Ad,tG,uP,fun k hk=>(uN k hk).trans (oF k hk)⟩
   ·rintro c lB ⟨rfl,q',z,oz,mX,qt,oF⟩
    obtain⟨z1,z2,z3⟩:=z
    dsimp only
    refine av (dC (av (dC (az ⟨lo+m,q'++[(z1,z2,pw),(lo,m,0)],rfl,⟨oz.perm,oz.kind,oz.failed⟩,?_,?_,by lia,by lia⟩))))
    ·show ((pendingOf lB).modify ((pendingOf lB).size - 1) fun x=>(x.fst,x.2.fst,pw)).push (lo,m,0)=_
     rw [mX,zgs]
     simp
    ·show Runs val (arrOf lB) _ _ _
     obtain⟨mid,r1,r2⟩:=Runs.append.mp qt
     obtain⟨e1,e2,e3,e4⟩:=r2
     have e4:mid+z2=lo:=e4
     refine Runs.append.mpr ⟨mid,r1,e1,e2,e3,e4.symm,rj,?_,?_⟩
     ·intro i j a1 a2 a3
      rw [z8 (oF i (by lia)),z8 (oF j (by lia))]
      exact DK i j (by lia) a2 (by lia)
     ·show mid+z2+m=lo+m
      lia
 case post =>
  rintro c mJ ⟨p,rfl,sG,pM,uO⟩
  dsimp only
  have lW:=uO.le
  refine av (cQ (bT (I:=fun x c kM=>c=(none,())∧∃ p,SB κ a₀ kM∧pendingOf kM=p.toArray∧Runs val (arrOf kM) p 0 a₀.size∧p.length≤max 1 (a₀.size - x))
   (Q:=fun c kM=>c=(none,())∧SB κ a₀ kM∧SIn val (arrOf kM) 0 a₀.size) ?_ ?_ ⟨rfl,p,sG,pM,uO,by lia⟩) ?_)
  ·rintro x c lB _ hx ⟨rfl,p2,oz,mX,qt,pJ⟩
   refine av (eI ?_)
   have hsz:(pendingOf lB).size=p2.length:=by rw [mX]; simp
   rw [hsz]
   by_cases hle:p2.length≤1
   ·rw [if_pos hle]
    exact az ⟨rfl,oz,zia hle h2 qt⟩
   rw [if_neg hle]
   refine av (zkn (p:=p2) (zlu hle) hC oz mX qt (af _) fun yw p3 Ad tG uP yb=>?_)
   rw [if_neg (by decide)]
   exact az ⟨rfl,p3,Ad,tG,uP,by lia⟩
  ·rintro c lB ⟨rfl,p2,oz,mX,qt,pJ⟩
   exact⟨rfl,oz,zia (by lia) h2 qt⟩
  ·rintro c lB ⟨rfl,oz,hS⟩
   exact az (h lB oz hS)
end
end Srt
end
section
namespace Srt
open PySem PyProof.Rows
def num (B:Int):List Int→Int
 | []=>0
 | n :: r=>n*B ^ r.length+num B r
theorem num_rng {B:Int} (hB:1≤B):∀ {ns:List Int},(∀ n∈ns,0≤n∧n < B)→0≤num B ns∧num B ns < B ^ ns.length
 | [],_=>by simp [num]
 | n :: r,h=>by
  obtain⟨h1,h2⟩:=num_rng hB (ns:=r) fun m hm=>h m (aw _ hm)
  obtain⟨a,b⟩:=h n (by simp)
  have hp:0 < B ^ r.length:=Int.pow_pos (by lia)
  have e:B ^ (n :: r).length=B ^ r.length*B:=by rw [cD,f8]
  show 0≤n*B ^ r.length+num B r∧n*B ^ r.length+num B r < _
  rw [e]
  have h3:0≤n*B ^ r.length:=ki a (by lia)
  have h4:n*B ^ r.length≤(B - 1)*B ^ r.length:=de (by lia) (by lia)
  have h5:(B - 1)*B ^ r.length=B ^ r.length*B - B ^ r.length:=by rw [Int.sub_mul,gn,df]
  lia
def zgt:List Int→List Int→Bool
 | [],[]=>false
 | [],_ :: _=>true
 | _ :: _,[]=>false
 | x :: xs,y :: ys=>if x=y then zgt xs ys else decide (x < y)
theorem zcv (x y:Int) (xs ys:List Int):zgt (x :: xs) (y :: ys)=if x=y then zgt xs ys else decide (x < y):=rfl
theorem zib {B:Int} (hB:1≤B):∀ {ms ns:List Int},ms.length=ns.length→(∀ n∈ms,0≤n∧n < B)→(∀ n∈ns,0≤n∧n < B)→zgt ms ns=decide (num B ms < num B ns)
 | [],[],_,_,_=>by simp [zgt,num]
 | [],_ :: _,h,_,_=>by simp at h
 | _ :: _,[],h,_,_=>by simp at h
 | m :: ms,n :: ns,hl,h1,h2=>by
  have BD:ms.length=ns.length:=by simpa using hl
  have ih:=zib hB BD (fun x hx=>h1 x (aw _ hx)) (fun x hx=>h2 x (aw _ hx))
  obtain⟨a1,a2⟩:=num_rng hB fun x hx=>h1 x (aw m hx)
  obtain⟨b1,b2⟩:=num_rng hB fun x hx=>h2 x (aw n hx)
  rw [zcv]
  show _=decide (m*B ^ ms.length+num B ms < n*B ^ ns.length+num B ns)
  rw [BD] at a2 ⊢
  have hp:0 < B ^ ns.length:=Int.pow_pos (by lia)
  by_cases e:m=n
  ·rw [if_pos e,ih,e]
   rw [dG]
   simp only [decide_eq_true_eq]
   lia
  ·rw [if_neg e,dG]
   simp only [decide_eq_true_eq]
   have key:∀ x y:Int,x < y→x*B ^ ns.length+B ^ ns.length≤y*B ^ ns.length:=fun x y hxy=>by
    have:=de (show x+1≤y by lia) (show 0≤B ^ ns.length by lia)
    rw [Int.add_mul,gn] at this
    exact this
   constructor
   ·intro h
    have:=key m n h
    lia
   ·intro h
    rcases jI m n with h3 | h3 | h3
    ·exact h3
    ·exact absurd h3 e
    ·have:=key n m h3
     lia
section
variable {prog:Program} {w:World} {A:Around} {E:Value→Shared→Prop} {s:Shared}
theorem zic {Q:Bool→Shared→Prop} {fin:Bool}:∀ {xs ys:List Value} {ms ns:List Int} (i:Nat),IntsAre xs ms→IntsAre ys ns→ms.length=ns.length→Q (if ms=ns then fin else zgt ms ns) s→PySem.W.KatLex prog w A true fin Q (xs.zip ys) i s
 | [],[],[],[],i,_,_,_,h=>PySem.W.kat_nil (by simpa using h)
 | _ :: _,_,[],_,_,hx,_,_,_=>by cases hx
 | [],_,_ :: _,_,_,hx,_,_,_=>by cases hx
 | _,[],_,_ :: _,_,_,hy,_,_=>by cases hy
 | _,_ :: _,_,[],_,_,hy,_,_=>by cases hy
 | x :: xs,y :: ys,m :: ms,n :: ns,i,hx,hy,hl,h=>by
  cases hx with
  | cons _ t hx =>
   cases hy with
   | cons _ u hy =>
    refine PySem.W.kat_cons (wpAny_eqBool_int ?_)
    by_cases e:m=n
    ·rw [show (m == n)=true by simpa using e]
     refine PySem.W.kat_yes (zic (i+1) hx hy (by simpa using hl) ?_)
     subst e
     rw [zcv,if_pos rfl] at h
     simpa using h
    ·rw [show (m == n)=false by simpa using e]
     have lA:¬ (m :: ms=n :: ns):=fun z=>e (i8 z).1
     rw [if_neg lA,zcv,if_neg e] at h
     refine PySem.W.kat_no ?_
     by_cases hi:i=0
     ·subst hi
      exact oneLt_int h
     ·have hb:(true && i == 0)=false:=by simp [hi]
      rw [hb]
      exact PySem.W.kat_one _ _ (wpAny_lt_int h)
end
end Srt
end
section
namespace PySem
open PyProof.Rows
def zes (h:Heap) (d:Addr) (es:Array DictEntry) (ep:Nat):Prop:=∃ o,h.get? d=some o∧o.ExactDict∧o.data = .dict es ep
theorem zes.at' {h h':Heap} {d:Addr} {es:Array DictEntry} {ep:Nat} (x:zes h d es ep) (e:∀ o,h.get? d=some o→h'.get? d=some o):zes h' d es ep:=let ⟨o,ho,r⟩:=x; ⟨o,e _ ho,r⟩
theorem zes.typeIs {s:Shared} {d:Addr} {es:Array DictEntry} {ep:Nat} (x:zes s.heap d es ep):s.TypeIs (.ref d) "dict":=let ⟨o,ho,hc,_⟩:=x; ⟨o,ho,hc.1⟩
section
variable {prog:Program} {w:World} {A:Around} {E:Value→Shared→Prop} {s:Shared} {it d:Addr} {i ep:Nat} {es:Array DictEntry}
theorem zko {Q:Value→Shared→Prop} (hd:(d == sysModules)=false) (hm:zes s.heap d es ep) (hQ:Q (.ref s.heap.objs.size) { s with heap:=s.heap.push { cls:=.type "dict_keyiterator",data:=.fields #[.ref d,.int 0 0,.int es.size 0,.int ep 0] } }):wpAny (model prog w) A (pyIter (.ref d)) Q E s:=by
 have hT:=hm.typeIs
 obtain⟨o,ho,hc,Ae⟩:=id hm
 refine gO hT jZ (bt jZ hT F.entry_dict_iter ?_ (F.args_dict_iter_1 _)); unfold Builtin.«dict.__iter__» Builtin.Dict.dictSlotNone
 refine ae (ae (wpAny_notOrdered_dict hT ?_)); show wpAny _ _ (pure (aY d)) _ _ s
 refine ao ?_; show wpAny _ _ (iQ d >>= _) _ _ s; unfold iQ
 rw [if_neg (show ¬ ((d == sysModules)=true) by rw [hd]; decide)]
 refine ae (ao (ae (gR ho Ae (ae (iA ho Ae (ae (bG (ao ⟨_,rfl,"dict_keyiterator",_,⟨_,aI _ rfl,rfl⟩,F.slot_dict_keyiterator_next.lookup,?_⟩))))))))
 simpa [rawInt] using hQ
theorem zkp {e:DictEntry} {Q:Option Value→Shared→Prop} (hit:s.heap.IsKeyIter it d i es.size ep) (hm:zes s.heap d es ep) (he:es[i]? = some e)
  (hQ:∀ h',h'.IsKeyIter it d (i+1) es.size ep→bj it s.heap h'→Q (some e.key) { s with heap:=h' }):wpAny (model prog w) A (pyNext (.ref it)) Q E s:=by
 (obtain⟨o,ho,hc,hd⟩:=id hit)
 obtain⟨od,Af,si,Ag⟩:=id hm
 have lp:i < es.size:=(cN.mp he).1
 have xa:gj "dict_keyiterator" = false:=by decide +kernel
 unfold pyNext; refine ae (cM (bh (name:=bP "__next__") hit.typeIs dA (bt dA hit.typeIs ga ?_ (f9 _))))
 refine ae (ao (ae (ae (ae (dm hit.typeIs (ao (ae (wpAny_fieldsOf ho hd ?_))))))))
 simp only [xa,bn,if_false]; show wpAny _ _ (if (aY d == cX)=true then _ else _) _ _ s
 rw [if_neg (show ¬ ((aY d == cX)=true) from fun z=>aM z)]
 refine ae (ao (ae (gR Af Ag ?_)))
 rw [if_neg (show ¬ ((((es.size:Nat):Int) != ((es.size:Nat):Int))=true) by simp)]
 refine ae (ao (ae (iA Af Ag ?_)))
 rw [if_neg (by simp)]; refine ao ?_
 simp only [show ¬ ((i:Int) < 0) by lia,if_false,bH,he]
 refine ae (ae (dm hit.typeIs (ao (ae (iR hit.typeIs ?_)))))
 show wpAny _ _ (setField (.ref it) 1 (rawInt ((i:Int)+1)) >>= _) _ _ s; refine ae (dW ho hd (by simp) ?_)
 have rd:(s.heap.update it (gE (·.setIfInBounds 1 (rawInt ((i:Int)+1))))).IsKeyIter it d (i+1) es.size ep:=⟨_,dH _ ho (eF (cS hd _)),(gN ..).trans hc,by rw [cS hd]; simp [rawInt]⟩
 refine ae (b9 (ae (iR (s:={ s with heap:=s.heap.update it (gE (·.setIfInBounds 1 (rawInt ((i:Int)+1)))) }) rd.typeIs ?_)))
 show wpAny _ _ (pure e.key) _ _ _; exact ao (ao ⟨_,rfl,ao (hQ _ rd (cI ..))⟩)
theorem zlv {Q:Option Value→Shared→Prop} (hh:A.handled=none) (hit:s.heap.IsKeyIter it d i es.size ep) (hm:zes s.heap d es ep) (he:es.size≤i) (hQ:∀ h',jL it s.heap h'→Q none { s with heap:=h' }):wpAny (model prog w) A (pyNext (.ref it)) Q E s:=by
 (obtain⟨o,ho,hc,hd⟩:=id hit)
 obtain⟨od,Af,si,Ag⟩:=id hm
 have xa:gj "dict_keyiterator" = false:=by decide +kernel
 unfold pyNext; refine ae (cM (bh (name:=bP "__next__") hit.typeIs dA (bt dA hit.typeIs ga ?_ (f9 _))))
 refine ae (ao (ae (ae (ae (dm hit.typeIs (ao (ae (wpAny_fieldsOf ho hd ?_))))))))
 simp only [xa,bn,if_false]; show wpAny _ _ (if (aY d == cX)=true then _ else _) _ _ s
 rw [if_neg (show ¬ ((aY d == cX)=true) from fun z=>aM z)]
 refine ae (ao (ae (gR Af Ag ?_)))
 rw [if_neg (show ¬ ((((es.size:Nat):Int) != ((es.size:Nat):Int))=true) by simp)]
 refine ae (ao (ae (iA Af Ag ?_)))
 rw [if_neg (by simp)]; refine ao ?_
 simp only [show ¬ ((i:Int) < 0) by lia,if_false,bH,Array.getElem?_eq_none he]
 refine ae (ae (dm hit.typeIs (ao ?_)))
 show wpAny _ _ (setField (.ref it) 0 .none >>= _) _ _ s; refine ae (dW ho hd (by simp) ?_)
 show wpAny _ _ (newExc (.type "StopIteration") [] >>= _) _ _ _; simp only [newExc,newTuple]
 refine ae (ae (bG (ae (m:=firstArgMember _ _) (eA (a:=cX) (by first | rfl | (simp only [firstArgMember]; rfl)) (bG ?_ (by size_fits)))) (by size_fits)))
 simp only [raiseNew]; refine ae (i7 ?_); rw [show A.in1.handled=none from hh]
 refine ae (ao (jM ?_)); refine ae (eQ (T:="StopIteration") (b:=true) ⟨_,aI _ rfl,rfl⟩ gc ?_)
 (exact ao (hQ _ (((cI ..).extBut.push _).push _)))
theorem zi7 (hh:A.handled=none) (I d:Addr) (lA:d≠I) (es:Array DictEntry) (ep:Nat) :
  Walks prog w A I [I,d] [I] es.size (fun i v=>∃ e,es[i]? = some e∧v=e.key) (fun i h=>h.IsKeyIter I d i es.size ep∧zes h d es ep) where
 sub:=(fun b hb=>by simp at hb; simp [hb])
 frame:=(fun _ _ _ st hk=>⟨st.1.at fun o e=>hk I (by simp) o e,st.2.at' fun o e=>hk d (by simp) o e⟩)
 item:=fun i s Q E hi st hQ=>zkp st.1 st.2 (getElem?_pos es i hi) fun h' rd mP=>hQ _ h' s.toks ⟨es[i],getElem?_pos es i hi,rfl⟩ ⟨rd,st.2.at' fun o e=>mP.extBut d o lA e⟩ fun b o hb e=>mP.extBut b o (fun h=>hb (by simp [h])) e
 done:=fun s Q E st hQ=>zlv hh st.1 st.2 (af _) fun h' uG=>hQ h' s.toks fun b o hb e=>uG b o (fun h=>hb (by simp [h])) e
 self:=(fun _ _ _ _ st hQ=>wpAny_pyIter_keyiter st.1 hQ)
theorem zlw (lo:(d == sysModules)=false):PySem.W.KdlSrc prog w "dict" d d es.size (fun i v=>∃ e,es[i]? = some e∧v=e.key) (fun h=>zes h d es ep) where
 type:=fun _ hm=>hm.typeIs
 there:=fun _ hm=>let ⟨_,ho,_⟩:=hm; ⟨aG ho,aG ho⟩
 keep:=(fun _ _ hm hk=>hm.at' fun o e=>hk d (.inl rfl) o e)
 notList:=by decide
 notTuple:=by decide
 hint:=fun _ _ _ _ hm hq=>PySem.W.kdl_hint_dict hm.typeIs hq
 iter:=fun _ _ hh hm=>⟨_,_,(fun _ _ hq=>zko lo hm hq),zi7 hh _ d (by obtain⟨_,ho,_⟩:=id hm; exact bi (aG ho)) es ep,⟨⟨_,aI _ rfl,rfl,rfl⟩,hm.at' fun o e=>ai _ e⟩⟩
end
end PySem
end
section
namespace Srt
open PySem PyProof.Rows
section
variable {prog:Program} {w:World} {A:Around} {E:Value→Shared→Prop} {s:Shared} {κ:SortKind} {val:Keyed→Int}
theorem zdo {vs:List Value} {p:Keyed} (h:p∈(pairsOf vs).toList):p.1∈vs∧p.2=p.1:=by
 rw [iS] at h
 obtain⟨i,hi,e⟩:=d9 h
 rw [List.getElem_zip] at e
 rw [← e]
 exact⟨hW _,rfl⟩
theorem zm5 {vs:List Value} {xs:Array Keyed} (hp:xs.Perm (pairsOf vs)) (hs:SIn val xs 0 (pairsOf vs).size):(xs.map (·.2)).toList.Perm vs∧(xs.map (·.2)).toList.Pairwise fun x y=>val (x,x)≤val (y,y):=by
 (have hl:xs.toList.Perm (vs.zip vs):=by rw [← iS]; exact eS.mp hp)
 have hm:∀ p∈xs.toList,p=(p.2,p.2):=fun p qr=>by
  have:=zdo (by rw [iS]; exact hl.mem_iff.mp qr)
  exact kz this.2.symm rfl
 constructor
 ·rw [j0]
  refine (hl.map (·.2)).trans ?_
  rw [show (vs.zip vs).map (·.2)=vs from List.map_snd_zip (af _)]
 ·rw [j0,cr,dS]
  intro i j hi hj oE
  (have mW:i < xs.size:=by simpa using hi)
  (have oI:j < xs.size:=by simpa using hj)
  have h1:=hs i j (bb _) (by lia) (by rw [← hp.size_eq]; exact oI)
  rw [zX (getElem?_pos xs i mW),zX (getElem?_pos xs j oI)] at h1
  have e1:=hm xs.toList[i] (hW _)
  have e2:=hm xs.toList[j] (hW _)
  rw [← e1,← e2]
  simpa using h1
theorem zi8 {a:Addr} {vs:List Value} {n:Nat} {P:PySem.Fin→Shared→Prop} (ho:s.heap.get? a=some (seqObj "list" vs.toArray n)) (kQ:vs.length≤sizeLine)
  (qv:∀ h',(∀ b o,b≠a→s.heap.get? b=some o→h'.get? b=some o)→2≤vs.length→∀ (Q:SortKind→Shared→Prop) (E:Value→Shared→Prop),Q κ { s with heap:=h' }→wpAny (model prog w) A (keyKind' vs.toArray) Q E { s with heap:=h' })
  (xb:∀ h',(∀ b o,b≠a→s.heap.get? b=some o→h'.get? b=some o)→Cmp prog w A { s with heap:=h' } κ val (pairsOf vs))
  (h:∀ out:Array Value,out.toList.Perm vs→(out.toList.Pairwise fun x y=>val (x,x)≤val (y,y))→P (.done (.ret .none)) { s with heap:=sortedHeap s.heap a vs out }):wpAny (model prog w) A (Builtin.«list.sort» ⟨[.ref a],[]⟩) P E s:=by
 rw [list_sort_plain]
 (have ha:a < s.heap.objs.size:=aG ho)
 have hz:vs.toArray.size=vs.length:=aq
 refine ae (listItems_at ho rfl (ae (i9 ho rfl ?_ (hsz:=by rw [hz]; exact kQ))))
 (obtain⟨e1,Aa⟩:∃ e1,(s.heap.update a (c6 fun _=>#[])).get? a=some (seqObj "list" #[] e1):=⟨_,get?_update_seq ho (fun _=>#[])⟩)
 refine ae (jO Aa rfl (ae (gg (ae (wpAny_newList (b9 ?_))) (hsz:=kQ))))
 have B6:(((s.heap.update a (c6 fun _=>#[])).push (seqObj "tuple" vs.toArray 0)).push (seqObj "list" #[] 0)).get? a=some (seqObj "list" #[] e1):=ai _ (ai _ Aa)
 have hk6:∀ b o,b≠a→s.heap.get? b=some o→(((s.heap.update a (c6 fun _=>#[])).push (seqObj "tuple" vs.toArray 0)).push (seqObj "list" #[] 0)).get? b=some o:=fun b o hb e=>ai _ (ai _ ((Heap.get?_update_ne _ _ _ _ hb).trans e))
 (show wpAny (model prog w) A _ P E { s with heap:=((s.heap.update a (c6 fun _=>#[])).push (seqObj "tuple" vs.toArray 0)).push (seqObj "list" #[] 0) })
 dsimp only
 have hcm:=xb _ hk6
 have fin:∀ kM:SortSt,SB κ (pairsOf vs) kM∨(arrOf kM=pairsOf vs∧failedOf kM=none)→SIn val (arrOf kM) 0 (pairsOf vs).size →
   P (.done (.ret .none)) { s with heap:=sortedHeap s.heap a vs ((arrOf kM).map (·.2)) }:=fun kM hB hs=>by
  have hp:(arrOf kM).Perm (pairsOf vs):=by
   rcases hB with hB | hB
   ·exact hB.perm
   ·rw [hB.1]
  obtain⟨b1,b2⟩:=zm5 hp hs
  exact h _ b1 b2
 (by_cases h2:vs.toArray.size < 2)
 ·rw [if_pos h2,if_pos h2]
  refine ae (ao ?_); rw [StateT.run_pure]; refine ae (ao ?_)
  dsimp only
  refine ae (jO B6 rfl (ae (i9 B6 rfl ?_ (hsz2:=by rw [kj]; show (pairsOf vs).size≤_; rw [ic]; lia))))
  (simp only [bne_self_eq_false,bn,if_false])
  refine ao (fin (kc general' (vs.toArray.zip vs.toArray) #[] 7 none) (.inr ⟨rfl,rfl⟩) fun i j _ oE hj=>?_)
  have e:i=j:=by rw [ic] at hj; lia
  rw [e]
  exact bU _
 ·rw [if_neg h2,if_neg h2]
  refine ae (qv _ hk6 (by lia) _ _ ?_)
  refine ae (cK (zm4 (a₀:=pairsOf vs) (κ:=κ) (val:=val) (st:=kc κ (vs.toArray.zip vs.toArray) #[] 7 none) (Q:=fun _ kM=>SB κ (pairsOf vs) kM∧SIn val (arrOf kM) 0 (pairsOf vs).size)
   hcm ⟨Array.Perm.refl _,rfl,rfl⟩ rfl (by rw [ic]; lia) fun kM a1 a2=>⟨a1,a2⟩) ?_ fun _ _ e=>e)
  rintro⟨⟨⟩,kM⟩ s' ⟨rfl,hB,hs⟩
  dsimp only
  refine ae (jO B6 rfl (ae (i9 B6 rfl ?_ (hsz2:=be (Nat.le_of_eq ((kj ..).trans (hB.perm.size_eq.trans (ic _)))) (by lia)))))
  rw [hB.failed]
  (simp only [bne_self_eq_false,bn,if_false])
  exact ao (fin kM (.inl hB) hs)
theorem zi9 {v:Value} {vs:List Value} {Q:Value→Shared→Prop} (kQ:vs.length≤sizeLine)
  (DM:∀ R:List Value→Shared→Prop,(∀ (h':Heap) (tk:Nat),(∀ b o,s.heap.get? b=some o→h'.get? b=some o)→R vs { s with heap:=h',toks:=tk })→wpAny (model prog w) A.in1 (collect v) R E s)
  (qv:∀ s',(∀ b o,s.heap.get? b=some o→s'.heap.get? b=some o)→2≤vs.length→∀ (A':Around) (Q:SortKind→Shared→Prop) (E:Value→Shared→Prop),Q κ s'→wpAny (model prog w) A' (keyKind' vs.toArray) Q E s')
  (xb:∀ s' A',(∀ b o,s.heap.get? b=some o→s'.heap.get? b=some o)→Cmp prog w A' s' κ val (pairsOf vs))
  (h:∀ (h':Heap) (tk:Nat) (out:Array Value) (e:Nat) (D:Addr),(∀ b o,s.heap.get? b=some o→h'.get? b=some o)→(∀ b o,s.heap.get? b=some o→b < D)→h'.get? D=some (seqObj "list" out e)→out.toList.Perm vs→(out.toList.Pairwise fun x y=>val (x,x)≤val (y,y))→Q (.ref D) { s with heap:=h',toks:=tk }) :
  wpAny (model prog w) A (call (.builtin "sorted") [v]) Q E s:=by
 refine Calls.call_function_entry kind_sorted plain_sorted entry_sorted (args_sorted1 _) ?_; unfold Builtin.«sorted»
 refine ae (m:=checkCount "sorted" 1 1 _) (ao (ae (cK (DM (fun us s'=>us=vs∧∃ (h':Heap) (tk:Nat),s' = { s with heap:=h',toks:=tk }∧∀ b o,s.heap.get? b=some o→h'.get? b=some o) fun h' tk k=>⟨rfl,h',tk,rfl,k⟩) ?_ fun _ _ e=>e)))
 rintro us s' ⟨rfl,h1,tk,rfl,kk⟩
 refine ae (wpAny_newList ?_ (hsz:=kQ))
 have yt:(h1.push (seqObj "list" us.toArray 0)).get? h1.objs.size=some (seqObj "list" us.toArray 0):=aI _ rfl
 have kn:∀ b o,s.heap.get? b=some o→b≠h1.objs.size:=fun b o e=>bi (aG (kk b o e))
 refine ae (b9 (bt slot_list_sort ⟨_,yt,rfl⟩ entry_list_sort (zi8 (κ:=κ) (val:=val) yt kQ (fun h' hk h2 Q E hq=>qv _ (fun b o e=>hk b o (kn b o e) (ai _ (kk b o e))) h2 _ Q E hq) (fun h' hk=>xb _ _ fun b o e=>hk b o (kn b o e) (ai _ (kk b o e))) fun out a1 a2=>⟨_,rfl,?_⟩) (args_list_sort _)))
 obtain⟨e,he⟩:=sortedHeap_at (out:=out) yt
 refine ao ⟨_,rfl,h _ tk out e h1.objs.size (fun b o x=>?_) (fun b o x=>aG (kk _ _ x)) he a1 a2⟩
 rw [sortedHeap_old (kn b o x) (by rw [bI]; exact dO (aG (kk _ _ x)))]
 exact ai _ (kk _ _ x)
end
end Srt
end
section
namespace L2
open PySem PySem.Spec PyProof.Rows PySem.Builtin.Str
end L2
end
section
namespace L2
open PySem PySem.Spec PyProof.Rows PySem.Builtin.Str
theorem Inv.above {X:Cx} {kE:List (Addr×Obj)} {σ:St} {H:Hp} {s:Shared} {h':Heap} {tk:Nat} {D:Addr} {o:HO} (I:Inv X kE σ H s) (k:∀ b o,s.heap.get? b=some o→h'.get? b=some o) (hD:∀ b o,s.heap.get? b=some o→b < D)
  (new:zak X.prog X.w (kL H D o) h' D o):H D=none∧Inv X kE σ (kL H D o) { s with heap:=h',toks:=tk }:=by
 have hn:H D=none:=by
  cases e:H D with
  | none=>rfl
  | some u =>
   obtain⟨ob,z⟩:=zm0 (I.hok D u e)
   exact absurd (hD D ob z) (bY _)
 have hL:X.env.locals < D:=by
  obtain⟨m,⟨o,es,ep,ho,_⟩,_⟩:=I.loc
  exact hD _ _ ho
 have I1:Inv X kE σ H { s with heap:=h',toks:=tk }:=I.kept k
 refine⟨hn,I1.track hn (gZ (Nat.lt_of_le_of_lt I.ok.above hL)) (bi hL) (fun x c e z=>?_) (fun p hp z=>?_) new⟩
 ·obtain⟨v,oc,q,_⟩:=I.cell x c e
  exact absurd (hD c oc q) (by rw [z]; exact bY _)
 ·exact absurd (hD p.1 _ (I.pin p hp).1) (by rw [z]; exact bY _)
end L2
end
section
namespace L2
open PySem PySem.Spec PyProof.Rows Srt
def zkq (xs:List V):List Int:=xs.filterMap fun x=>match x with
 | .int n=>some n
 | _=>none
theorem zja (ns:List Int):zkq (ns.map V.int)=ns:=by
 unfold zkq
 rw [jm]
 induction ns with
 | nil=>rfl
 | cons n ns ih =>
  rw [eU]
  simp only [Function.comp]
  rw [ih]
def zc8 (H:Hp) (v:Value):List Int:=match v with
 | .ref a=>(match H a with
  | some (.tup xs)=>zkq xs
  | _=>[])
 | _=>[]
theorem zet {H:Hp} {a:Addr} {ns:List Int} (h:H a=some (.tup (ns.map V.int))):zc8 H (.ref a)=ns:=by
 unfold zc8
 simp only [h]
 exact zja ns
def zlx (H:Hp) (k:Nat) (B:Int) (ps:List (Addr×List Int)):Prop:=∀ q∈ps,H q.1=some (.tup (q.2.map V.int))∧q.2.length=k∧∀ n∈q.2,0≤n∧n < B
theorem zc9:∀ (ps:List (Addr×List Int)),zN (ps.map fun q=>V.ref q.1) (ps.map fun q=>aY q.1)
 | []=>.nil
 | q :: ps=>.cons rfl (zc9 ps)
section
variable {X:Cx} {kE:List (Addr×Obj)} {σ:St} {H:Hp} {s:Shared} {k:Nat} {B:Int} {ps:List (Addr×List Int)}
theorem zfG (I:Inv X kE σ H s) {q:Addr×List Int} (h:H q.1=some (.tup (q.2.map V.int))):∃ o kK n,s.heap.get? q.1=some o∧o.cls = .type "tuple"∧o.data = .seq kK n∧IntsAre kK.toList q.2:=by
 obtain⟨kK,r,⟨o,ho,hc,n,hd⟩,hz⟩:=I.tuple (kP.of h)
 exact⟨o,kK.toArray,n,ho,hc,hd,by simpa using intsAre_of r⟩
theorem zm6 (I:Inv X kE σ H s) (hT:zlx H k B ps) (hk:1≤k) {s':Shared} (kk:∀ b o,s.heap.get? b=some o→s'.heap.get? b=some o):∃ fs:List Value,PySem.W.KatTups s'.heap (ps.map fun q=>aY q.1) fs∧fs.length=ps.length∧∀ v∈fs,∃ n t,v=io n t:=by
 induction ps with
 | nil=>exact⟨[],trivial,rfl,fun v hv=>by cases hv⟩
 | cons q ps ih =>
  obtain⟨fs,h1,h2,h3⟩:=ih fun q' tZ=>hT q' (aw _ tZ)
  obtain⟨hq,hl,_⟩:=hT q (by simp)
  obtain⟨o,kK,n,ho,hc,hd,hi⟩:=zfG I hq
  have kQ:=hi.length
  obtain⟨m,ms,e⟩:∃ m ms,q.2=m :: ms:=by
   cases e:q.2 with
   | nil=>rw [e] at hl; simp at hl; lia
   | cons m ms=>exact⟨m,ms,rfl⟩
  rw [e] at hi
  cases e2:kK.toList with
  | nil=>rw [e2] at hi; cases hi
  | cons f fr =>
   rw [e2] at hi
   cases hi with
   | cons _ t hi =>
    refine⟨.int m t :: fs,kD (kk _ _ ho) hc hd ?_ h1,by simp [h2],fun v hv=>?_⟩
    ·rw [← br,e2]
     rfl
    ·rcases (aE.mp hv) with rfl | hv
     ·exact⟨m,t,rfl⟩
     ·exact h3 v hv
theorem zfg:∀ ms:List Int,zgt ms ms=false
 | []=>rfl
 | m :: ms=>by rw [zcv,if_pos rfl,zfg ms]
theorem zm7 (I:Inv X kE σ H s) (hT:zlx H k B ps) (hB:1≤B) {s':Shared} {A':Around} (kk:∀ b o,s.heap.get? b=some o→s'.heap.get? b=some o) :
  Cmp X.prog X.w A' s' (tuples' true) (fun p=>num B (zc8 H p.1)) (pairsOf (ps.map fun q=>aY q.1)):=by
 intro x y hx hy Q E hQ
 obtain⟨qx,mx,ex⟩:=aB.mp (zdo hx).1
 obtain⟨qy,my,ey⟩:=aB.mp (zdo hy).1
 obtain⟨uM,sE,hx3⟩:=hT qx mx
 obtain⟨hy1,B7,hy3⟩:=hT qy my
 obtain⟨ox,ix,nx,gx,cx,dx,ax⟩:=zfG I uM
 obtain⟨oy,iy,ny,gy,cy,dy,ay⟩:=zfG I hy1
 have ev:decide ((fun p:Keyed=>num B (zc8 H p.1)) x < (fun p:Keyed=>num B (zc8 H p.1)) y)=zgt qx.2 qy.2:=by
  rw [zib hB (sE.trans B7.symm) hx3 hy3,← zet uM,← zet hy1]
  simp only [ex,ey]
 rw [ev] at hQ
 rw [← ex,← ey]
 refine PySem.W.kat_lt (kk _ _ gx) dx (kk _ _ gy) dy (zic 0 ax ay (sE.trans B7.symm) ?_)
 have hsz:decide (ix.size < iy.size)=false:=by
  have e1:=ax.length
  have e2:=ay.length
  rw [bv] at e1 e2
  exact decide_eq_false (by lia)
 rw [hsz]
 by_cases e:qx.2=qy.2
 ·rw [if_pos e]
  rw [e,zfg] at hQ
  exact hQ
 ·rw [if_neg e]
  exact hQ
theorem zkr (hT:zlx H k B ps) {out:Array Value} (hp:out.toList.Perm (ps.map fun q=>aY q.1)) (hs:out.toList.Pairwise fun x y=>num B (zc8 H x)≤num B (zc8 H y)) :
  ∃ qu:List (Addr×List Int),qu.Perm ps∧(qu.Pairwise fun a b=>num B a.2≤num B b.2)∧out.toList=qu.map fun q=>aY q.1:=by
 let g:Value→Addr×List Int:=fun v=>match v with
  | .ref a=>(a,zc8 H (.ref a))
  | _=>(0,[])
 have hg:∀ q∈ps,g (.ref q.1)=q:=fun q hq=>kz rfl (zet (hT q hq).1)
 have hv:∀ v∈out.toList,∃ q∈ps,v = .ref q.1:=fun v hv=>by
  obtain⟨q,hq,e⟩:=aB.mp (hp.mem_iff.mp hv)
  exact⟨q,hq,e.symm⟩
 refine⟨out.toList.map g,?_,?_,?_⟩
 ·refine (hp.map g).trans ?_
  rw [bA]
  have:ps.map (g ∘ fun q=>aY q.1)=ps:=by
   conv=>rhs; rw [← jP ps]
   exact cv fun q hq=>hg q hq
  rw [this]
 ·rw [cr]
  refine dZ (fun {x y} hx hy h=>?_) hs
  obtain⟨q,hq,rfl⟩:=hv x hx
  obtain⟨q',tZ,rfl⟩:=hv y hy
  exact h
 ·rw [bA]
  conv=>lhs; rw [← jP out.toList]
  refine cv fun v hv'=>?_
  obtain⟨q,hq,rfl⟩:=hv v hv'
  rfl
end
theorem zjb {M:Model} {h:Heap} {n:Int} {t:Tok}:PySem.W.Looks M h (typeOf (.int n t)) (.type "int"):=PySem.W.Looks.of_pure rfl
theorem zly {X:Cx} {kE:List (Addr×Obj)} {σ:St} {H:Hp} {s:Shared} {d:Addr} {kO:List (List Key×V)} {mj:List (List Int)} (I:Inv X kE σ H s) (hd:H d=some (.dT kO)) (hk:kO.map (·.1)=mj.map (·.map dh)) :
  (d == sysModules)=false∧kO.length≤sizeLine∧∃ (ps:List (Addr×List Int)) (es:Array DictEntry) (ep:Nat),zes s.heap d es ep∧es.toList.map (·.key)=(ps.map fun q=>aY q.1)∧ps.map (·.2)=mj∧∀ q∈ps,H q.1=some (.tup (q.2.map V.int)):=by
 obtain⟨hz,hs,xs,hp,o,es,ep,ho,hx,he,xT,nN⟩:=I.hok d _ hd
 refine⟨hs,hz,?_⟩
 have key:∀ {kO:List (List Key×V)} {xs:List (List Key×Addr×Value)} {mj:List (List Int)},Paired (fun (p:List Key×V) (q:List Key×Addr×Value)=>p.1=q.1∧H q.2.1=some (.tup (p.1.map kV))∧RelV p.2 q.2.2) kO xs→kO.map (·.1)=mj.map (·.map dh) →
   ∃ ps:List (Addr×List Int),xs.map (fun x=>aY x.2.1)=(ps.map fun q=>aY q.1)∧ps.map (·.2)=mj∧∀ q∈ps,H q.1=some (.tup (q.2.map V.int)):=by
  intro kO xs mj hp
  induction hp generalizing mj with
  | nil =>
   intro e
   cases mj with
   | nil=>exact⟨[],rfl,rfl,fun q hq=>by cases hq⟩
   | cons m mj=>simp at e
  | @cons x y l1 l2 h1 h2 ih =>
   intro e
   cases mj with
   | nil=>simp at e
   | cons m mj =>
    rw [bd,bd] at e
    obtain⟨e1,e2⟩:=i8 e
    obtain⟨ps,a1,a2,a3⟩:=ih e2
    obtain⟨_,h12,_⟩:=h1
    refine⟨(y.2.1,m) :: ps,by rw [bd,bd,a1],by rw [bd,a2],fun q hq=>?_⟩
    rcases (aE.mp hq) with rfl | hq
    ·rw [h12,e1,bA]
     rfl
    ·exact a3 q hq
 obtain⟨ps,a1,a2,a3⟩:=key hp hk
 refine⟨ps,es,ep,⟨o,ho,hx,he⟩,?_,a2,a3⟩
 rw [xT,bA,← a1]
 rfl
theorem zfH {X:Cx} (hc:X.calm=true):zbC X (.builtin "sorted") (fun xs H Q=>∃ (d:Addr) (k:Nat) (B:Int) (kO:List (List Key×V)) (mj:List (List Int)),xs = [.ref d]∧H d=some (.dT kO)∧kO.map (·.1)=mj.map (·.map dh)∧(∀ ms∈mj,ms.length=k∧∀ n∈ms,0≤n∧n < B)∧1≤k∧1≤B ∧
  ∀ (l:Addr) (qu:List (Addr×List Int)),H l=none→(qu.map (·.2)).Perm mj→(qu.Pairwise fun a b=>num B a.2≤num B b.2)→(∀ q∈qu,H q.1=some (.tup (q.2.map V.int)))→Q (.ref l) (kL H l (.lst (qu.map fun q=>V.ref q.1)))):=by
 intro kE s σ H xs us Q I r h
 obtain⟨d,k,B,kO,mj,rfl,hd,xc,nF,hk,hB,q⟩:=h
 obtain⟨u,rfl,rx⟩:=vals1 r
 cases rx
 obtain⟨hs,hz,ps,es,ep,DN,hek,lh,hH⟩:=zly I hd xc
 have hT:zlx H k B ps:=fun q' tZ=>⟨hH q' tZ,nF q'.2 (by rw [← lh]; exact eW tZ)⟩
 have hlp:ps.length=kO.length:=by
  have e1:=congrArg et lh
  have e2:=congrArg et xc
  rw [ab] at e1
  rw [ab,ab] at e2
  lia
 have xT:es.size=ps.length:=by
  have:=congrArg et hek
  rw [ab,ab,bv] at this
  exact this
 refine zi9 (vs:=ps.map fun q=>aY q.1) (κ:=tuples' true) (val:=fun p=>num B (zc8 H p.1)) (by rw [ab]; lia) (fun R hR=>?_) (fun s' kk h2 A' Q' E' tZ=>?_) (fun s' A' kk=>zm7 I hT hB kk) fun h' tk out e D kk hD DO hp hs=>?_
 ·refine PySem.W.kdu_collect (zlw (es:=es) (ep:=ep) hs) (by simp [I.ok.hd hc]) DN (by lia) fun h' tk acc kk tS=>?_
  have:acc.toList=ps.map fun q=>aY q.1:=by
   rw [← hek]
   refine gQ fun j=>?_
   by_cases hj:j < es.size
   ·have hja:j < acc.size:=by rw [tS.1]; exact hj
    obtain⟨e',h1,h2⟩:=tS.2 j acc[j] (getElem?_pos acc j hja)
    rw [br,getElem?_pos acc j hja,ag,br,h1,h2]
    rfl
   ·rw [dJ (by rw [bv,tS.1]; lia),dJ (by rw [ab,bv]; lia)]
  rw [this]
  exact hR h' tk kk
 ·obtain⟨fs,k1,k2,k3⟩:=zm6 I hT hk kk
  exact PySem.W.kat_kind (T:=.type "int") k1 (by rw [ab] at h2; lia) (fun v hv=>by obtain⟨n,t,rfl⟩:=k3 v hv; exact zjb) rfl tZ
 ·obtain⟨qu,p1,p2,p3⟩:=zkr hT hp hs
  have hl:=p1.length_eq
  obtain⟨hn,I2⟩:=I.above (tk:=tk) (D:=D) (o:=.lst (qu.map fun q=>V.ref q.1)) kk hD ⟨by rw [ab]; lia,qu.map fun q=>aY q.1,e,zc9 qu,by rw [← p3]; exact DO⟩
  exact⟨.ref D,_,I2,rfl,q D qu hn (by rw [← lh]; exact p1.map _) p2 fun q' tZ=>(hT q' (p1.mem_iff.mp tZ)).1⟩
end L2
end
section
namespace L2
open PySem PySem.Spec PyProof.Rows
section
variable {X:Cx} {elt t1 i1 t2 i2:Expr} {f1 f2:List Expr} {scope:Scope} {pos:Pos} {N':List Str} {ix:List (Option Nat)} {yc vo:List Nat} {g1 g2:TG} {B8 yd:TT} {te:TE} {B9 ye:TI}
theorem zkt (hc:X.calm=true) (Ah:GS vo g2) (uQ:∀ s₃ H₃ ex kE,PI (zI X N' scope s₃ H₃ ex kE) t2 i2 ye)
  (vi:∀ s₃ H₃ ex kE,PG (zI X N' scope s₃ H₃ ex kE) t2 g2) (vp:∀ s₃ H₃ ex kE,zcW (zI X N' scope s₃ H₃ ex kE) f2 yd) (he:∀ s₃ H₃ ex kE,PE (zI X N' scope s₃ H₃ ex kE) elt te)
  (nE:∀ s₃ H₃ ex kE x,foldedSetIterable i2 (zI X N' scope s₃ H₃ ex kE).env x=pure x) :
  ∀ s₃ H₃ ex kE D,PM (zI X N' scope s₃ H₃ ex kE) D vo ((fun D env=>zhQ (.ListComp elt [⟨t1,i1,f1,0⟩,⟨t2,i2,f2,0⟩] scope pos) i2 1 (.ref D) env) D (zI X N' scope s₃ H₃ ex kE).env) (zhS ye g2 yd (zhR te)):=by
 intro s₃ H₃ ex kE D
 have h:=zmM (Y:=zI X N' scope s₃ H₃ ex kE) (D:=D) (js:=vo) (js':=[]) (elt:=elt) (gens:=[⟨t1,i1,f1,0⟩,⟨t2,i2,f2,0⟩]) (scope:=scope) (pos:=pos) (d:=1) (p:=i2.pos) hc rfl Ah (fun _ _ z=>by cases z) (uQ s₃ H₃ ex kE) (vi s₃ H₃ ex kE) (vp s₃ H₃ ex kE) (zhb rfl (he s₃ H₃ ex kE)) rfl (fun it=>zmN it D _) (nE s₃ H₃ ex kE)
 rw [bw] at h
 exact h
theorem zlz (SC:CompSc X N' ix scope) (hc:X.calm=true) (DP:GS yc g1) (Ah:GS vo g2) (nK:∀ j∈yc,j∉vo) (tP:∀ j∈yc++vo,ix[j]? = some none) (vq:PI X t1 i1 B9)
  (yf:∀ s₃ H₃ ex kE,PG (zI X N' scope s₃ H₃ ex kE) t1 g1) (xf:∀ s₃ H₃ ex kE,zcW (zI X N' scope s₃ H₃ ex kE) f1 B8) (uQ:∀ s₃ H₃ ex kE,PI (zI X N' scope s₃ H₃ ex kE) t2 i2 ye)
  (vi:∀ s₃ H₃ ex kE,PG (zI X N' scope s₃ H₃ ex kE) t2 g2) (vp:∀ s₃ H₃ ex kE,zcW (zI X N' scope s₃ H₃ ex kE) f2 yd) (he:∀ s₃ H₃ ex kE,PE (zI X N' scope s₃ H₃ ex kE) elt te)
  (hs:∀ x,foldedSetIterable i1 X.env x=pure x:=by intro _; rfl) (nE:∀ s₃ H₃ ex kE x,foldedSetIterable i2 (zI X N' scope s₃ H₃ ex kE).env x=pure x:=by intros; rfl) :
  PE X (.ListComp elt [⟨t1,i1,f1,0⟩,⟨t2,i2,f2,0⟩] scope pos) (zfv ix B9 g1 B8 (zhS ye g2 yd (zhR te))) :=
 zf5 SC hc DP nK tP vq yf xf (zkt hc Ah uQ vi vp he nE) (fun it D env=>zjP it D env) hs
theorem zhp {i:Nat} {x:Str} {pos' oJ:Pos} (hN:X.N.Nodup) (yK:X.N[i]? = some x) (hx:Loc X.env.scope x) (SC:CompSc X N' ix scope) (hc:X.calm=true) (DP:GS yc g1) (Ah:GS vo g2) (nK:∀ j∈yc,j∉vo) (tP:∀ j∈yc++vo,ix[j]? = some none) (vq:PI X t1 i1 B9)
  (yf:∀ s₃ H₃ ex kE,PG (zI X N' scope s₃ H₃ ex kE) t1 g1) (xf:∀ s₃ H₃ ex kE,zcW (zI X N' scope s₃ H₃ ex kE) f1 B8) (uQ:∀ s₃ H₃ ex kE,PI (zI X N' scope s₃ H₃ ex kE) t2 i2 ye)
  (vi:∀ s₃ H₃ ex kE,PG (zI X N' scope s₃ H₃ ex kE) t2 g2) (vp:∀ s₃ H₃ ex kE,zcW (zI X N' scope s₃ H₃ ex kE) f2 yd) (he:∀ s₃ H₃ ex kE,PE (zI X N' scope s₃ H₃ ex kE) elt te)
  (yL:swapsWith (.ListComp elt [⟨t1,i1,f1,0⟩,⟨t2,i2,f2,0⟩] scope pos) (some (.Name x pos')) oJ.line X.env=pure true:=by rfl)
  (hs:∀ x,foldedSetIterable i1 X.env x=pure x:=by intro _; rfl) (nE:∀ s₃ H₃ ex kE x,foldedSetIterable i2 (zI X N' scope s₃ H₃ ex kE).env x=pure x:=by intros; rfl) (hf:X.fn x=true∨X.env.scope.names.lookup x=some .local:=by first | exact .inl rfl | exact .inr rfl | assumption) :
  PS X (.Assign [.Name x pos'] (.ListComp elt [⟨t1,i1,f1,0⟩,⟨t2,i2,f2,0⟩] scope pos) oJ) (zg1 (zfv ix B9 g1 B8 (zhS ye g2 yd (zhR te))) (za0 i)) :=
 zdz hN yK hx SC hc DP nK tP vq yf xf (zkt hc Ah uQ vi vp he nE) (fun it D env=>zjP it D env) yL hs hf
end
theorem zid {J:It} {n:Nat} {g:TG} {ts:TT} {tm:TM} {σ0:St} {Q:List V→Hp→Prop} {ys:List V} {H:Hp} (Pv:Nat→List V→Hp→Prop) (h0:Pv 0 ys H) (yE:∀ i ys H,i < n→Pv i ys H→J.go i H) (qU:∀ ys H,Pv n ys H→J.stop n H)
  (hs:∀ i x ys H H',i < n→Pv i ys H→J.yld i H x H'→g x σ0 H' fun σ2 H2=>ts σ2 H2 fun b H3=>if b=true then tm ys σ2 H3 (Pv (i+1)) else Pv (i+1) ys H3)
  (hd:∀ ys H,Pv n ys H→Q ys H):cIn g ts tm σ0 J Q ys H:=by
 refine⟨fun i m ys H=>m=n - i∧i≤n∧Pv i ys H,⟨n,by simp,bb _,h0⟩,?_⟩
 rintro i m ys H ⟨rfl,hi,p⟩
 by_cases lp:i < n
 ·exact .inr ⟨yE i ys H lp p,Pv (i+1),fun qw H' p'=>⟨n - (i+1),by lia,rfl,lp,p'⟩,fun x H' y=>hs i x ys H H' lp p y⟩
 ·have e:i=n:=by lia
  subst e
  exact .inl ⟨qU ys H p,hd ys H p⟩
end L2
end
section
namespace L2
open PySem PySem.Spec PyProof.Rows
end L2
end
section
namespace L2
open PySem PySem.Spec PyProof.Rows
def zm8 (sc:Scope) (x:Str):Bool:=match sc.names.lookup x with
 | some .local=>true
 | some .cell=>true
 | some .free=>true
 | _=>false
theorem zlA {sc:Scope} {x:Str} (h:zm8 sc x=true):Vis sc x:=by
 unfold zm8 at h
 unfold Vis
 cases e:sc.names.lookup x with
 | none=>rw [e] at h; cases h
 | some k=>cases k <;> simp_all
def pvB (N:List Str) (sc:Scope) (i:Nat) (x:Str):Bool:=decide (N[i]? = some x) && zm8 sc x && !(x == ("__debug__" : Str)) && !(x == ("__classdict__" : Str))
theorem pvx {X:Cx} (i:Nat) {x:Str} {pos:Pos} (h:pvB X.N X.env.scope i x=true):PE X (.Name x pos) (znk i):=by
 unfold pvB at h
 simp only [dt,Bool.not_eq_true',decide_eq_true_eq] at h
 exact zmr h.1.1.1 (zlA h.1.1.2) h.1.2 h.2
end L2
end
section
namespace My
open PySem L2 PyProof.Rows
def nxt {α:Type} (xs:List α) (c:Nat×List α):List (Nat×List α):=(aD (xs.length - c.1)).map fun j=>(c.1+j+1,c.2++xs[c.1+j]?.toList)
def chs {α:Type} (xs:List α):Nat→List (Nat×List α)
 | 0=>[(0,[])]
 | m+1=>(chs xs m).flatMap (nxt xs)
theorem zfI {α:Type} (xs:List α) (c:Nat×List α):(nxt xs c).length=xs.length - c.1:=by unfold nxt; rw [ab,aW]
theorem zlB {α:Type} {xs:List α} {c:Nat×List α} {j:Nat} {x:α} (h:xs[c.1+j]? = some x):(nxt xs c)[j]? = some (c.1+j+1,c.2++[x]):=by
 have hj:j < xs.length - c.1:=by
  have:=(ak.mp h).1
  lia
 unfold nxt
 rw [ag,bR hj]
 simp [h]
theorem zie:∀ r:Nat,((aD r).map fun j=>2 ^ (r - j - 1)).sum+1=2 ^ r
 | 0=>rfl
 | r+1=>by
  rw [iG,bd,fK,bA]
  have e:((aD r).map ((fun j=>2 ^ (r+1 - j - 1)) ∘ Nat.succ))=(aD r).map fun j=>2 ^ (r - j - 1):=cv fun j _=>by
   show 2 ^ (r+1 - (j+1) - 1)=2 ^ (r - j - 1)
   congr 1
   lia
  rw [e]
  have:=zie r
  rw [Nat.pow_succ]
  show 2 ^ (r+1 - 0 - 1)+_+1=_
  rw [show r+1 - 0 - 1=r from by lia]
  lia
def pot {α:Type} (n:Nat) (cs:List (Nat×List α)):Nat:=(cs.map fun c=>2 ^ (n - c.1)).sum
theorem zlC {α:Type} (xs:List α) (c:Nat×List α):pot xs.length (nxt xs c)≤2 ^ (xs.length - c.1):=by
 unfold pot nxt
 rw [bA]
 have e:((aD (xs.length - c.1)).map ((fun c:Nat×List α=>2 ^ (xs.length - c.1)) ∘ fun j=>(c.1+j+1,c.2++xs[c.1+j]?.toList)))=(aD (xs.length - c.1)).map fun j=>2 ^ (xs.length - c.1 - j - 1):=cv fun j _=>by
  show 2 ^ (xs.length - (c.1+j+1))=_
  congr 1
  lia
 rw [e]
 have:=zie (xs.length - c.1)
 lia
theorem zgu {α:Type} (xs:List α):∀ cs:List (Nat×List α),pot xs.length (cs.flatMap (nxt xs))≤pot xs.length cs
 | []=>af _
 | c :: cs=>by
  have h1:=zlC xs c
  have h2:=zgu xs cs
  rw [dP]
  unfold pot at h1 h2 ⊢
  rw [aA,List.sum_append,bd,fK]
  lia
theorem zif {α:Type} (n:Nat):∀ cs:List (Nat×List α),cs.length≤pot n cs
 | []=>af _
 | c :: cs=>by
  have h:=zif n cs
  have:0 < 2 ^ (n - c.1):=Nat.pos_of_ne_zero (by simp)
  unfold pot at h ⊢
  rw [bd,fK,cD]
  lia
theorem zig {α:Type} (xs:List α):∀ m,pot xs.length (chs xs m)≤2 ^ xs.length
 | 0=>by
  unfold chs pot
  simp
 | m+1=>be (zgu xs (chs xs m)) (zig xs m)
theorem zlD {α:Type} (xs:List α) (m:Nat):(chs xs m).length≤2 ^ xs.length:=be (zif _ _) (zig xs m)
theorem zdp {α:Type} {xs:List α} (m:Nat) (h:xs.length≤16):(chs xs m).length≤65536:=be (zlD xs m) (be (iZ (by decide) h) (by decide))
theorem zjc {α β:Type} {f:α→List β} {l:List α} {i j:Nat} {c:α} (hc:l[i]? = some c) (hj:j < (f c).length):((l.take i).flatMap f).length+j < (l.flatMap f).length:=by
 have e:l.flatMap f=(l.take i).flatMap f++(f c++(l.drop (i+1)).flatMap f):=by
  conv=>lhs; rw [zel hc]
  rw [dq,dP]
 rw [e,ar,ar]
 lia
theorem zjd {α β:Type} {f:α→List β} {l:List α} {i:Nat} {c:α} (hc:l[i]? = some c):(l.take (i+1)).flatMap f=(l.take i).flatMap f++f c:=by
 rw [take_snoc hc,dq,dP,fO,bw]
theorem zm9 {α:Type} {xs:List α}:∀ {m:Nat} {c:Nat×List α},c∈chs xs m→c.1≤xs.length
 | 0,c,h=>by
  unfold chs at h
  rw [aU] at h
  subst h
  exact bb _
 | m+1,c,h=>by
  unfold chs at h
  obtain⟨c',_,hc⟩:=dB.mp h
  unfold nxt at hc
  obtain⟨j,hj,rfl⟩:=aB.mp hc
  have:=bm.mp hj
  show c'.1+j+1≤xs.length
  lia
theorem zgv {α:Type} {xs:List α}:∀ {m:Nat} {c:Nat×List α},c∈chs xs m→c.2.length≤m
 | 0,c,h=>by
  unfold chs at h
  rw [aU] at h
  subst h
  exact af _
 | m+1,c,h=>by
  unfold chs at h
  obtain⟨c',hm,hc⟩:=dB.mp h
  have:=zgv hm
  unfold nxt at hc
  obtain⟨j,hj,rfl⟩:=aB.mp hc
  show (c'.2++xs[c'.1+j]?.toList).length≤m+1
  rw [ar]
  have:xs[c'.1+j]?.toList.length≤1:=by cases xs[c'.1+j]? <;> simp
  lia
theorem Paired.get {α β:Type} {F:α→β→Prop}:∀ {l₁:List α} {l₂:List β},Paired F l₁ l₂→∀ {i:Nat} {a:α},l₁[i]? = some a→∃ b,l₂[i]? = some b∧F a b
 | _,_,.nil,i,a,h=>by simp at h
 | _,_,.cons r t,0,a,h=>by
  (simp only [fu,gS] at h)
  subst h
  exact⟨_,rfl,r⟩
 | _,_,.cons r t,i+1,a,h=>by
  rw [dn] at h
  obtain⟨b,hb,f⟩:=Paired.get t h
  exact⟨b,by rw [dn]; exact hb,f⟩
def zlE (H:Hp) (t:Addr) (c:Nat×List V):Prop:=∃ L,H t=some (.tup [.int (c.1:Int),.ref L])∧H L=some (.lst c.2)
theorem zlE.same {H H':Hp} (s:zu H H') {t:Addr} {c:Nat×List V} (h:zlE H t c):zlE H' t c:=let ⟨L,h1,h2⟩:=h; ⟨L,s _ _ h1,s _ _ h2⟩
def zeu (H:Hp):List Addr→List (Nat×List V)→Prop:=Paired (zlE H)
theorem zeu.same {H H':Hp} (s:zu H H') {ts:List Addr} {cs:List (Nat×List V)} (h:zeu H ts cs):zeu H' ts cs:=bq (fun _ _ z=>z.same s) h
def zgw (H:Hp):List Addr→List (List V)→Prop:=Paired fun l pk=>H l=some (.lst pk)
theorem zgw.same {H H':Hp} (s:zu H H') {ts:List Addr} {cs:List (List V)} (h:zgw H ts cs):zgw H' ts cs:=bq (fun _ _ z=>s _ _ z) h
def zhq (K:ah):Sp:=fun vs H Q _=>∃ (a:Addr) (m:Nat) (xs:List V),vs = [.ref a,.int (m:Int)]∧kG K H a xs∧xs.length≤16∧m≤1000 ∧
 ∀ (l:Addr) (ls:List Addr) (H':Hp),H l=none→zu H H'→H' l=some (.lst (ls.map V.ref))→zgw H' ls ((chs xs m).map (·.2))→Q (.ref l) H'
end My
end
section
namespace My
open PySem L2 PyProof.Rows
def quo (p r:Int):List Int→List Int
 | []=>[]
 | [_]=>[]
 | _ :: d :: cs=>zn p r (d :: cs) :: quo p r (d :: cs)
theorem zih (p r:Int):∀ (c:Int) (cs:List Int),(quo p r (c :: cs)).length=cs.length
 | _,[]=>rfl
 | _,d :: cs=>by
  show (quo p r (d :: cs)).length+1=cs.length+1
  rw [zih p r d cs]
theorem zku {p r x:Int}:∀ d:List Int,Cg p (zn p x d - zn p r d) ((x - r)*zn p x (quo p r d))
 | []=>Cg.of_eq (by show (0:Int) - 0=(x - r)*0; lia)
 | [c]=>by
  have h1:Cg p (zn p x [c]) (c+x*0):=zP p x c []
  have h2:Cg p (zn p r [c]) (c+r*0):=zP p r c []
  refine (h1.sub h2).trans (Cg.of_eq ?_)
  show c+x*0 - (c+r*0)=(x - r)*0
  lia
 | c :: d :: cs=>by
  have h1:=zP p x c (d :: cs)
  have h2:=zP p r c (d :: cs)
  have ih:=zku (p:=p) (r:=r) (x:=x) (d :: cs)
  have h3:Cg p (zn p x (quo p r (c :: d :: cs))) (zn p r (d :: cs)+x*zn p x (quo p r (d :: cs))):=zP p x _ _
  have h4:=(Cg.refl p (x - r)).mul h3
  have h5:=(Cg.refl p x).mul ih
  refine (h1.sub h2).trans (Cg.symm (h4.trans ?_))
  refine (Cg.of_eq (show _=(x - r)*zn p r (d :: cs)+x*((x - r)*zn p x (quo p r (d :: cs))) by grind)).trans ?_
  refine ((Cg.refl p ((x - r)*zn p r (d :: cs))).add h5.symm).trans (Cg.of_eq (by grind))
theorem zgx {p r:Int}:∀ d:List Int,Cg p (zn p r d) 0→(∀ c∈quo p r d,Cg p c 0)→∀ c∈d,Cg p c 0
 | [],_,_,c,hc=>by cases hc
 | [a],h,_,c,hc=>by
  obtain rfl:c=a:=by simpa using hc
  have h1:Cg p (zn p r [c]) (c+r*0):=zP p r c []
  exact ((Cg.of_eq (by lia)).trans h1.symm).trans h
 | a :: d :: cs,h,hq,c,hc=>by
  have h0:Cg p (zn p r (d :: cs)) 0:=hq _ aF
  rcases (aE.mp hc) with rfl | hc
  ·have h1:=zP p r c (d :: cs)
   have h2:=(Cg.refl p r).mul h0
   have h3:=(h1.symm.trans h).sub h2
   exact (Cg.of_eq (by lia)).trans (h3.trans (Cg.of_eq (by lia)))
  ·exact zgx (d :: cs) h0 (fun c hc=>hq c (aw _ hc)) c hc
theorem zcw {p a y:Int} (hp:p∈zm) (ha0:a % p≠0) (h:Cg p (a*y) 0):Cg p y 0:=by
 have rp:=zo hp
 have g0:=aK a (show p≠0 by lia)
 have g1:=aC a (show 0 < p by lia)
 have hi:=zef hp (h:=a % p) (by lia) g1
 have h1:Cg p (inv p (a % p)*(a % p)*y) (1*y):=hi.mul (Cg.refl p y)
 have h2:Cg p (inv p (a % p)*(a % p)*y) (inv p (a % p)*(a*y)):=by
  have:=((Cg.refl p (inv p (a % p))).mul (Cg.emod p a)).mul (Cg.refl p y)
  exact this.trans (Cg.of_eq (by grind))
 have h3:=(Cg.refl p (inv p (a % p))).mul h
 exact (Cg.of_eq (by lia)).trans (h1.symm.trans (h2.trans (h3.trans (Cg.of_eq (by lia)))))
theorem zew {p:Int} (hp:p∈zm):∀ (n:Nat) (d xs:List Int),d.length=n→n≤xs.length→xs.Nodup→(∀ x∈xs,0≤x∧x < p)→(∀ x∈xs,Cg p (zn p x d) 0)→∀ c∈d,Cg p c 0
 | 0,d,xs,hd,_,_,_,_,c,hc=>by
  rw [fv] at hd
  subst hd
  cases hc
 | n+1,d,[],hd,hx,_,_,_,c,hc=>by simp at hx
 | n+1,[],r :: xs,hd,hx,_,_,_,c,hc=>by cases hc
 | n+1,a :: cs,r :: xs,hd,hx,nN,nF,hz,c,hc=>by
  have rp:=zo hp
  obtain⟨r0,r1⟩:=nF r aF
  have hr:=hz r aF
  refine zgx (a :: cs) hr (zew hp n (quo p r (a :: cs)) xs (by rw [zih]; simpa using hd) (by simpa using hx) (cY.mp nN).2 (fun x h=>nF x (aw _ h)) fun x h=>?_) c hc
  obtain⟨x0,x1⟩:=nF x (aw _ h)
  have lA:x≠r:=fun e=>(cY.mp nN).1 (e ▸ h)
  have he:=zku (p:=p) (r:=r) (x:=x) (a :: cs)
  have h0:=(hz x (aw _ h)).sub hr
  refine zcw hp (a:=x - r) (fun e=>?_) (he.symm.trans (h0.trans (Cg.of_eq (by lia))))
  have:Cg p x r:=by
   have h1:Cg p (x - r) 0:=Cg.of_mod (by rw [e]; simp)
   have h2:=h1.add (Cg.refl p r)
   exact (Cg.of_eq (by lia)).trans (h2.trans (Cg.of_eq (by lia)))
  exact lA (this.eq x0 x1 r0 r1)
theorem zgy {p x:Int}:∀ {a b:List Int},a.length=b.length→Cg p (zn p x (aT (· - ·) a b)) (zn p x a - zn p x b)
 | [],[],_=>Cg.of_eq rfl
 | c :: a,d :: b,h=>by
  have ih:=zgy (p:=p) (x:=x) (a:=a) (b:=b) (by simpa using h)
  have h1:=zP p x c a
  have h2:=zP p x d b
  have h3:Cg p (zn p x (aT (· - ·) (c :: a) (d :: b))) (c - d+x*zn p x (aT (· - ·) a b)):=zP p x (c - d) _
  refine h3.trans (((Cg.refl p (c - d)).add ((Cg.refl p x).mul ih)).trans (Cg.symm ((h1.sub h2).trans (Cg.of_eq (by grind)))))
 | [],_ :: _,h=>by simp at h
 | _ :: _,[],h=>by simp at h
theorem zgz {p:Int}:∀ {a b:List Int},a.length=b.length→(∀ c∈a,0≤c∧c < p)→(∀ c∈b,0≤c∧c < p)→(∀ c∈aT (· - ·) a b,Cg p c 0)→a=b
 | [],[],_,_,_,_=>rfl
 | c :: a,d :: b,h,ha,hb,hz=>by
  obtain⟨c0,c1⟩:=ha c aF
  obtain⟨d0,d1⟩:=hb d aF
  have h1:Cg p (c - d) 0:=hz _ aF
  have h2:Cg p c d:=(Cg.of_eq (by lia)).trans ((h1.add (Cg.refl p d)).trans (Cg.of_eq (by lia)))
  rw [h2.eq c0 c1 d0 d1,zgz (by simpa using h) (fun c hc=>ha c (aw _ hc)) (fun c hc=>hb c (aw _ hc)) (fun c hc=>hz c (aw _ hc))]
 | [],_ :: _,h,_,_,_=>by simp at h
 | _ :: _,[],h,_,_,_=>by simp at h
theorem zdE {p:Int} (hp:p∈zm) {a b xs:List Int} (hl:a.length=b.length) (hx:a.length≤xs.length) (nN:xs.Nodup) (nF:∀ x∈xs,0≤x∧x < p) (ha:∀ c∈a,0≤c∧c < p) (hb:∀ c∈b,0≤c∧c < p)
  (he:∀ x∈xs,zn p x a=zn p x b):a=b:=by
 refine zgz hl ha hb (zew hp a.length _ xs (by rw [d8]; lia) hx nN nF fun x h=>?_)
 refine (zgy hl).trans (Cg.of_eq ?_)
 rw [he x h]
 lia
theorem zhr {p:Int} (hp:p∈zm) {pk:List (Int×Int)} (hP:Pts p pk) {q:List Int} (hl:q.length=pk.length) (hq:∀ c∈q,0≤c∧c < p) (hh:∀ a∈pk,zn p a.1 q=a.2):q=thr p pk:=by
 obtain⟨h1,h2,h3⟩:=zei hp hP
 refine zdE hp (xs:=pk.map (·.1)) (by lia) (by rw [ab]; lia) hP.nd (fun x hx=>?_) hq h2 fun x hx=>?_
 ·obtain⟨a,ha,rfl⟩:=aB.mp hx
  exact⟨(hP.rg a ha).1,(hP.rg a ha).2.1⟩
 ·obtain⟨a,ha,rfl⟩:=aB.mp hx
  rw [hh a ha,h3 a ha]
theorem Pts.sub {p:Int} {pk kH:List (Int×Int)} (h:Pts p kH) (hs:pk.Sublist kH):Pts p pk:=⟨(hs.map _).nodup h.nd,fun q hq=>h.rg q (hs.subset hq)⟩
theorem zii {α:Type} {xs:List α}:∀ {m:Nat} {c:Nat×List α},c∈chs xs m→c.2.Sublist (xs.take c.1)∧c.2.length=m∧c.1≤xs.length
 | 0,c,h=>by
  unfold chs at h
  rw [aU] at h
  subst h
  exact⟨ie _,rfl,bb _⟩
 | m+1,c,h=>by
  unfold chs at h
  obtain⟨c',hm,hc⟩:=dB.mp h
  obtain⟨h1,h2,h3⟩:=zii hm
  unfold nxt at hc
  obtain⟨j,hj,rfl⟩:=aB.mp hc
  (have oI:=bm.mp hj)
  have lp:c'.1+j < xs.length:=by lia
  have e:xs[c'.1+j]? = some xs[c'.1+j]:=am lp
  dsimp only
  rw [e]
  refine⟨?_,by rw [ar,h2]; rfl,by lia⟩
  rw [take_snoc e]
  refine List.Sublist.append (h1.trans ?_) (List.Sublist.refl _)
  have:xs.take c'.1=(xs.take (c'.1+j)).take c'.1:=by rw [kh]; congr 1; lia
  rw [this]
  exact cq _ _
theorem sub_one {α:Type} {l:List α} {x:α} (h:l.Sublist [x]):l = []∨l = [x]:=by
 cases h with
 | cons _ h=>exact .inl (ig.mp h)
 | cons_cons _ h=>exact .inr (by rw [ig.mp h])
theorem zdV {α:Type} {xs:List α}:∀ {m n:Nat} {pk:List α},pk.Sublist (xs.take n)→pk.length=m→∃ s,s≤n∧(s,pk)∈chs xs m
 | 0,n,pk,h,hl=>by
  rw [fv] at hl
  subst hl
  exact⟨0,bb _,by unfold chs; exact aU.mpr rfl⟩
 | m+1,0,pk,h,hl=>by
  rw [dz] at h
  rw [ig.mp h] at hl
  simp at hl
 | m+1,n+1,pk,h,hl=>by
  cases e:xs[n]? with
  | none =>
   have:xs.take (n+1)=xs.take n:=by
    have:=gW.mp e
    rw [aO (by lia),aO this]
   rw [this] at h
   obtain⟨s,h1,h2⟩:=zdV (m:=m+1) (n:=n) h hl
   exact⟨s,by lia,h2⟩
  | some x =>
   rw [take_snoc e] at h
   obtain⟨l1,l2,rfl,h1,h2⟩:=List.sublist_append_iff.mp h
   rcases (sub_one h2) with rfl | rfl
   ·rw [bw] at hl ⊢
    obtain⟨s,a1,a2⟩:=zdV (m:=m+1) (n:=n) h1 hl
    exact⟨s,by lia,a2⟩
   ·obtain⟨s,a1,a2⟩:=zdV (m:=m) (n:=n) h1 (by simpa using hl)
    refine⟨n+1,af _,?_⟩
    unfold chs
    refine dB.mpr ⟨(s,l1),a2,?_⟩
    have lp:=(ak.mp e).1
    unfold nxt
    refine aB.mpr ⟨n - s,bm.mpr (by show n - s < xs.length - s; lia),?_⟩
    have es:s+(n - s)=n:=by lia
    dsimp only
    rw [es,e]
    rfl
theorem zfJ {α:Type} {xs pk:List α} {m:Nat}:pk∈(chs xs m).map (·.2)↔pk.Sublist xs∧pk.length=m:=by
 constructor
 ·intro h
  obtain⟨c,hc,rfl⟩:=aB.mp h
  obtain⟨h1,h2,h3⟩:=zii hc
  exact⟨h1.trans (cq _ _),h2⟩
 ·rintro⟨h1,h2⟩
  obtain⟨s,_,hs⟩:=zdV (xs:=xs) (n:=xs.length) (by rw [aZ]; exact h1) h2
  exact aB.mpr ⟨_,hs,rfl⟩
def hit (p:Int) (q:List Int) (a:Int×Int):Bool:=decide (zn p a.1 q=a.2)
def hits (p:Int) (q:List Int) (kH:List (Int×Int)):Nat:=(kH.filter (hit p q)).length
def IsP (p:Int) (k:Nat) (q:List Int):Prop:=q.length=k∧∀ c∈q,0≤c∧c < p
theorem zhs {p:Int} (hp:p∈zm) {kH:List (Int×Int)} (hP:Pts p kH) {q:List Int} {k t n:Nat} (hq:IsP p k q) (hk:k≤t) (hn:kH.length≤n+(t - k)) (ht:t≤hits p q kH) :
  ∃ pk,pk∈(chs (kH.take n) k).map (·.2)∧q=thr p pk:=by
 have DQ:hits p q kH=((kH.take n).filter (hit p q)).length+((kH.drop n).filter (hit p q)).length:=by
  unfold hits
  conv=>lhs; rw [← cb n kH]
  rw [dE,ar]
 have hd:=dI (hit p q) (kH.drop n)
 rw [bS] at hd
 have uE:k≤((kH.take n).filter (hit p q)).length:=by lia
 have hs:(((kH.take n).filter (hit p q)).take k).Sublist (kH.take n):=(cq _ _).trans (List.filter_sublist)
 have hl:(((kH.take n).filter (hit p q)).take k).length=k:=by rw [aJ]; lia
 refine⟨_,zfJ.mpr ⟨hs,hl⟩,zhr hp (hP.sub (hs.trans (cq _ _))) (by rw [hl]; exact hq.1) hq.2 fun a ha=>?_⟩
 have:=(bF.mp ((cq _ _).subset ha)).2
 simpa [hit] using this
theorem zij {p:Int} (hp:p∈zm) {kH pk:List (Int×Int)} (hP:Pts p kH) {k:Nat} (h:pk∈(chs kH k).map (·.2)):IsP p k (thr p pk):=by
 obtain⟨h1,h2⟩:=zfJ.mp h
 obtain⟨a,b,_⟩:=zei hp (hP.sub h1)
 exact⟨a.trans h2,b⟩
def lh:List Int→List (Option Int)→List (Int×Int)
 | x :: pl,some y :: rw=>(x,y) :: lh pl rw
 | _ :: pl,none :: rw=>lh pl rw
 | _,_=>[]
theorem zda:∀ {pl:List Int} {rw:List (Option Int)} {i:Nat} {x:Int} {o:Option Int},pl[i]? = some x→rw[i]? = some o→lh (pl.take (i+1)) (rw.take (i+1))=lh (pl.take i) (rw.take i)++(match o with | some y=>[(x,y)] | none=>[])
 | [],_,i,x,o,h,_=>by simp at h
 | _ :: _,[],i,x,o,_,h=>by simp at h
 | a :: pl,b :: rw,0,x,o,h1,h2=>by
  simp only [fu,gS] at h1 h2
  subst h1 h2
  cases b <;> rfl
 | a :: pl,b :: rw,i+1,x,o,h1,h2=>by
  rw [dn] at h1 h2
  have ih:=zda h1 h2
  cases b with
  | none=>exact ih
  | some y =>
   show (a,y) :: lh (pl.take (i+1)) (rw.take (i+1))=(a,y) :: lh (pl.take i) (rw.take i)++_
   rw [ih]
   rfl
theorem zb1:∀ (pl:List Int) (rw:List (Option Int)),(lh pl rw).length≤pl.length
 | [],rw=>by unfold lh; simp
 | a :: pl,[]=>by unfold lh; simp
 | a :: pl,none :: rw=>by
  have:=zb1 pl rw
  show (lh pl rw).length≤pl.length+1
  lia
 | a :: pl,some y :: rw=>by
  have:=zb1 pl rw
  show (lh pl rw).length+1≤pl.length+1
  lia
theorem zcx:∀ {pl:List Int} {rw:List (Option Int)} {a:Int×Int},a∈lh pl rw→a.1∈pl∧some a.2∈rw
 | [],_,a,h=>by unfold lh at h; cases h
 | _ :: _,[],a,h=>by unfold lh at h; cases h
 | x :: pl,none :: rw,a,h=>by
  obtain⟨h1,h2⟩:=zcx (pl:=pl) (rw:=rw) h
  exact⟨aw _ h1,aw _ h2⟩
 | x :: pl,some y :: rw,a,h=>by
  rcases (aE.mp h) with rfl | h
  ·exact⟨aF,aF⟩
  ·obtain⟨h1,h2⟩:=zcx (pl:=pl) (rw:=rw) h
   exact⟨aw _ h1,aw _ h2⟩
theorem zfK:∀ (pl:List Int) (rw:List (Option Int)),((lh pl rw).map (·.1)).Sublist pl
 | [],_=>by unfold lh; exact ie _
 | _ :: _,[]=>by unfold lh; exact ie _
 | x :: pl,none :: rw=>(zfK pl rw).cons _
 | x :: pl,some y :: rw=>(zfK pl rw).cons_cons _
theorem zik {p:Int} {pl:List Int} {rw:List (Option Int)} (h1:pl.Nodup) (h2:∀ x∈pl,0≤x∧x < p) (h3:∀ z,some z∈rw→0≤z∧z < p):Pts p (lh pl rw) :=
 ⟨(zfK pl rw).nodup h1,fun q hq=>⟨(h2 _ (zcx hq).1).1,(h2 _ (zcx hq).1).2,(h3 _ (zcx hq).2).1,(h3 _ (zcx hq).2).2⟩⟩
theorem zgA {p:Int} {pl:List Int} {rw:List (Option Int)} {q:List Int} (hl:rw.length=pl.length):∀ n,n≤pl.length→(zbn p pl rw q n).length=hits p q (lh (pl.take n) (rw.take n))
 | 0,_=>by simp [zbn,hits,lh]
 | n+1,hn=>by
  have ih:=zgA (p:=p) (q:=q) hl n (by lia)
  have e1:pl[n]? = some pl[n]:=am (by lia)
  have e2:rw[n]? = some rw[n]:=am (by lia)
  rw [zfe,ar,ih,zda e1 e2]
  unfold hits
  rw [dE,ar]
  congr 1
  unfold zbN
  rw [e1,e2]
  cases rw[n] with
  | none=>rfl
  | some y =>
   show (if decide (y=zn p pl[n] q)=true then [(n:Int)] else []).length=([(pl[n],y)].filter (hit p q)).length
   by_cases e:y=zn p pl[n] q
   ·rw [ed (by simp [hit,e])]
    simp [e]
   ·rw [ee (by simp [hit]; exact fun z=>e z.symm)]
    simp [e]
theorem zil {p:Int} {pl:List Int} {rw:List (Option Int)} {q:List Int} (hl:rw.length=pl.length):(zbn p pl rw q pl.length).length=hits p q (lh pl rw):=by
 have:=zgA (p:=p) (q:=q) hl pl.length (af _)
 rw [aZ,aO (by lia)] at this
 exact this
def zje (p:Int) (k:Nat) (qs:List (List Int)):Prop:=(∀ q∈qs,IsP p k q)∧qs.Pairwise fun a b=>Srt.num p a < Srt.num p b
theorem zim {B:Int} (hB:1≤B):∀ {a b:List Int},a.length=b.length→(∀ n∈a,0≤n∧n < B)→(∀ n∈b,0≤n∧n < B)→Srt.num B a=Srt.num B b→a=b
 | [],[],_,_,_,_=>rfl
 | c :: a,d :: b,h,ha,hb,e=>by
  have h':a.length=b.length:=by simpa using h
  have ra:=Srt.num_rng hB (ns:=a) fun n hn=>ha n (aw _ hn)
  have rb:=Srt.num_rng hB (ns:=b) fun n hn=>hb n (aw _ hn)
  have e':c*B ^ a.length+Srt.num B a=d*B ^ b.length+Srt.num B b:=e
  rw [← h'] at e' rb
  generalize B ^ a.length=M at e' ra rb
  have hM:0 < M:=by lia
  have si:c=d:=by
   have e2:(c - d)*M=Srt.num B b - Srt.num B a:=by
    rw [Int.sub_mul]
    lia
   rcases (jI c d) with lp | heq | hgt
   ·have:(c - d)*M≤(-1)*M:=de (by lia) (by lia)
    lia
   ·exact heq
   ·have:1*M≤(c - d)*M:=de (by lia) (by lia)
    lia
  subst si
  rw [zim hB h' (fun n hn=>ha n (aw _ hn)) (fun n hn=>hb n (aw _ hn)) (by lia)]
 | [],_ :: _,h,_,_,_=>by simp at h
 | _ :: _,[],h,_,_,_=>by simp at h
theorem zlF {p:Int} (hp:1≤p) {k:Nat} {qs:List (List Int)} (h1:∀ q∈qs,IsP p k q) (h2:qs.Nodup) (h3:qs.Pairwise fun a b=>Srt.num p a≤Srt.num p b):zje p k qs:=by
 refine⟨h1,?_⟩
 have h4:=h3.and h2
 refine dZ (fun {a b} ha hb h=>?_) h4
 have lA:Srt.num p a≠Srt.num p b:=fun e=>h.2 (zim hp ((h1 a ha).1.trans (h1 b hb).1.symm) (h1 a ha).2 (h1 b hb).2 e)
 have:=h.1
 lia
theorem zje.filter {p:Int} {k:Nat} {qs:List (List Int)} (f:List Int→Bool) (h:zje p k qs):zje p k (qs.filter f):=⟨fun q hq=>h.1 q (bF.mp hq).1,h.2.filter f⟩
end My
end
section
namespace My
open PySem L2 PyProof.Rows
def sm:Nat→(Nat→Int)→Int
 | 0,_=>0
 | n+1,f=>sm n f+f n
theorem zR {f g:Nat→Int}:∀ {n:Nat},(∀ i,i < n→f i=g i)→sm n f=sm n g
 | 0,_=>rfl
 | n+1,h=>by
  show sm n f+f n=sm n g+g n
  rw [zR (n:=n) fun i hi=>h i (by lia),h n (by lia)]
theorem zby {p:Int} {f g:Nat→Int}:∀ {n:Nat},(∀ i,i < n→Cg p (f i) (g i))→Cg p (sm n f) (sm n g)
 | 0,_=>Cg.refl _ _
 | n+1,h=>(zby (n:=n) fun i hi=>h i (by lia)).add (h n (by lia))
theorem zfL {f g:Nat→Int}:∀ n:Nat,sm n (fun i=>f i+g i)=sm n f+sm n g
 | 0=>rfl
 | n+1=>by
  show sm n (fun i=>f i+g i)+(f n+g n)=sm n f+f n+(sm n g+g n)
  rw [zfL n]
  lia
theorem za5 {c:Int} {f:Nat→Int}:∀ n:Nat,sm n (fun i=>c*f i)=c*sm n f
 | 0=>by show (0:Int)=c*0; lia
 | n+1=>by
  show sm n (fun i=>c*f i)+c*f n=c*(sm n f+f n)
  rw [za5 n,Int.mul_add]
theorem zaC {f:Nat→Int}:∀ {n:Nat},(∀ i,i < n→f i=0)→sm n f=0
 | 0,_=>rfl
 | n+1,h=>by
  show sm n f+f n=0
  rw [zaC (n:=n) fun i hi=>h i (by lia),h n (by lia)]
  rfl
theorem zfM {f:Nat→Int} {j:Nat}:∀ {n:Nat},j < n→(∀ i,i < n→i≠j→f i=0)→sm n f=f j
 | 0,hj,_=>by lia
 | n+1,hj,h=>by
  show sm n f+f n=f j
  by_cases e:j=n
  ·subst e
   rw [zaC fun i hi=>h i (by lia) (by lia)]
   lia
  ·rw [zfM (n:=n) (by lia) fun i hi lA=>h i (by lia) lA,h n (by lia) (by lia)]
   lia
theorem zdW {f:Nat→Int}:∀ n:Nat,sm (n+1) f=f 0+sm n (fun i=>f (i+1))
 | 0=>by show (0:Int)+f 0=f 0+0; lia
 | n+1=>by
  show sm (n+1) f+f (n+1)=f 0+(sm n (fun i=>f (i+1))+f (n+1))
  rw [zdW n]
  lia
theorem zdX {f:Nat→Nat→Int} (m:Nat):∀ n:Nat,sm n (fun i=>sm m (fun j=>f i j))=sm m (fun j=>sm n fun i=>f i j)
 | 0=>(zaC fun _ _=>rfl).symm
 | n+1=>by
  show sm n (fun i=>sm m (fun j=>f i j))+sm m (fun j=>f n j)=sm m (fun j=>sm n (fun i=>f i j)+f n j)
  rw [zdX m n,← zfL]
theorem zin {f:Nat→Int} {m:Nat}:∀ {n:Nat},m≤n→(∀ i,m≤i→i < n→f i=0)→sm n f=sm m f
 | 0,h,_=>by rw [show m=0 by lia]
 | n+1,h,hz=>by
  by_cases e:m=n+1
  ·rw [e]
  ·show sm n f+f n=_
   rw [zin (n:=n) (by lia) fun i h1 h2=>hz i h1 (by lia),hz n (by lia) (by lia)]
   lia
def gl (w:List Int) (y:Nat):Int:=w.getD y 0
theorem za9 {w:List Int} {y:Nat} {c:Int} (h:w[y]? = some c):gl w y=c:=by
 unfold gl
 rw [aN,h]
 rfl
theorem zaQ {w:List Int} {y:Nat} (h:w.length≤y):gl w y=0:=by
 unfold gl
 rw [aN,dJ h]
 rfl
theorem zax {w:List Int} {y:Nat} (h:y < w.length):w[y]? = some (gl w y):=by
 rw [am h,za9 (am h)]
theorem zb2 {w:List Int} {p:Int} (hp:0 < p) (h:∀ c∈w,0≤c∧c < p) (y:Nat):0≤gl w y∧gl w y < p:=by
 by_cases hy:y < w.length
 ·exact h _ (ap (zax hy))
 ·rw [zaQ (by lia)]
  lia
theorem zht {f:Int→Int} {w:List Int} {y:Nat} (h:y < w.length):gl (w.map f) y=f (gl w y):=za9 (by rw [ag,zax h]; rfl)
theorem zkv {f:Int→Int→Int} {v w:List Int} {y:Nat} (h:y < v.length) (h':y < w.length):gl (aT f v w) y=f (gl v y) (gl w y):=za9 (by rw [iN,zax h,zax h'])
theorem zio {p x:Int}:∀ q:List Int,Cg p (zn p x q) (sm q.length fun i=>gl q i*x ^ i)
 | []=>Cg.refl _ _
 | c :: q=>by
  refine (zP p x c q).trans ?_
  rw [cD,zdW]
  have e:sm q.length (fun i=>gl (c :: q) (i+1)*x ^ (i+1))=x*sm q.length (fun i=>gl q i*x ^ i):=by
   rw [← za5]
   refine zR fun i _=>?_
   show gl q i*x ^ (i+1)=_
   rw [f8]
   grind
  rw [e]
  refine Cg.add (Cg.of_eq ?_) ((Cg.refl p x).mul (zio q))
  show c=c*x ^ 0
  rw [jy,iC]
theorem zaR {p x:Int} {q:List Int} {n:Nat} (h:q.length≤n):Cg p (zn p x q) (sm n fun i=>gl q i*x ^ i):=by
 rw [zin h fun i h1 _=>by rw [zaQ h1,cf]]
 exact zio q
def vx (vs:List (List Int)) (i x:Nat):Int:=gl (vs.getD i []) x
def Rel (p:Int) (L N:Nat) (vs:List (List Int)) (u:Nat→Int):Prop:=∀ x,x < L→Cg p (u x) (sm N fun i=>u (L+i)*vx vs i x)
theorem Rel.sub {p:Int} {L N:Nat} {vs:List (List Int)} {u w r:Nat→Int} (hu:Rel p L N vs u) (hw:Rel p L N vs w) (t:Int) (hr:∀ y,y < L+N→Cg p (r y) (u y - t*w y)):Rel p L N vs r:=fun x hx=>by
 refine (hr x (by lia)).trans (((hu x hx).sub ((Cg.refl p t).mul (hw x hx))).trans ?_)
 have e:sm N (fun i=>u (L+i)*vx vs i x) - t*sm N (fun i=>w (L+i)*vx vs i x)=sm N (fun i=>(u (L+i) - t*w (L+i))*vx vs i x):=by
  rw [show ∀ a b:Int,a - t*b=a+(-t)*b by intros; grind,← za5,← zfL]
  exact zR fun i _=>by grind
 rw [e]
 exact zby fun i hi=>(hr (L+i) (by lia)).symm.mul (Cg.refl _ _)
structure Ech (p:Int) (L N m:Nat) (vs:List (List Int)) (cl:List (Nat×List Int)):Prop where
 ln:cl.length=m
 one:∀ (j:Nat) (a:Nat×List Int),cl[j]? = some a→a.1 < L∧a.2.length=L+N∧(∀ c∈a.2,0≤c∧c < p)∧Rel p L N vs (gl a.2)∧gl a.2 a.1=1∧∀ i,j < i→i < N→gl a.2 (L+i)=0
 up:∀ (j j':Nat) (a a':Nat×List Int),cl[j]? = some a→cl[j']? = some a'→j < j'→gl a'.2 a.1=0
 ii:∀ u:Nat→Int,Rel p L N vs u→(∀ i,m≤i→i < N→Cg p (u (L+i)) 0)→(∀ a∈cl,Cg p (u a.1) 0)→∀ i,i < N→Cg p (u (L+i)) 0
theorem Ech.start (p:Int) (L N:Nat) (vs:List (List Int)):Ech p L N 0 vs [] where
 ln:=rfl
 one:=fun _ _ h=>by simp at h
 up:=fun _ _ _ _ h=>by simp at h
 ii:=fun u _ h _ i hi=>h i (bb _) hi
structure Wh (p:Int) (L N m:Nat) (vs:List (List Int)) (cl:List (Nat×List Int)) (w:List Int):Prop where
 ln:w.length=L+N
 rg:∀ c∈w,0≤c∧c < p
 rel:Rel p L N vs (gl w)
 top:gl w (L+m)=1
 up:∀ j,m < j→j < N→gl w (L+j)=0
 z:∀ a∈cl,gl w a.1=0
theorem zgB {p:Int} (hp:p∈zm) {L N m:Nat} {vs:List (List Int)} {v:List Int} (hm:m < N) (hv:vs[m]? = some v) (hl:v.length=L) (hr:∀ c∈v,0≤c∧c < p):Wh p L N m vs [] ((v++aj N 0).set (L+m) 1):=by
 have rp:=zo hp
 have DR:∀ y,y < L→gl ((v++aj N 0).set (L+m) 1) y=gl v y:=fun y hy=>za9 (by
  rw [bN (by lia),bD (by lia),zax (by lia)])
 have Ai:gl ((v++aj N 0).set (L+m) 1) (L+m)=1:=za9 (by
  rw [cp (by rw [ar,aL]; lia)])
 have hz:∀ j,j < N→j≠m→gl ((v++aj N 0).set (L+m) 1) (L+j)=0:=fun j hj lA=>za9 (by
  rw [bN (by lia),bu (by lia),cH]
  rw [if_pos (by lia)])
 refine⟨by rw [ck,ar,aL,hl],fun c hc=>?_,fun x hx=>?_,Ai,fun j h1 h2=>hz j h2 (by lia),fun a ha=>by cases ha⟩
 ·rcases cV hc with h | rfl
  ·rcases (aP.mp h) with h | h
   ·exact hr c h
   ·rw [dg h]; lia
  ·lia
 ·rw [DR x hx,zfM (j:=m) hm fun i hi lA=>by rw [hz i hi lA,cf],Ai,gn]
  unfold vx
  rw [aN,hv]
  exact Cg.refl _ _
theorem ziq {p:Int} (hp:p∈zm) {L N m i:Nat} {vs:List (List Int)} {cl:List (Nat×List Int)} {w:List Int} {a:Nat×List Int} (E:Ech p L N m vs cl) (hm:m < N) (ha:cl[i]? = some a) (W:Wh p L N m vs (cl.take i) w) :
  Wh p L N m vs (cl.take (i+1)) (aT (fun x y=>(x - gl w a.1*y) % p) w a.2):=by
 have rp:=zo hp
 obtain⟨a1,a2,a3,a4,a5,a6⟩:=E.one i a ha
 have him:i < m:=by rw [← E.ln]; exact (ak.mp ha).1
 have hg:∀ y,y < L+N→gl (aT (fun x y=>(x - gl w a.1*y) % p) w a.2) y=(gl w y - gl w a.1*gl a.2 y) % p:=fun y hy=>zkv (by rw [W.ln]; exact hy) (by lia)
 refine⟨by rw [d8,W.ln,a2,Nat.min_self],fun c hc=>?_,W.rel.sub a4 (gl w a.1) fun y hy=>by rw [hg y hy]; exact Cg.emod _ _,?_,fun j h1 h2=>?_,fun b hb=>?_⟩
 ·obtain⟨x,y,rfl⟩:=zcZ hc
  exact⟨aK _ (by lia),aC _ (by lia)⟩
 ·rw [hg _ (by lia),W.top,a6 m him hm,bV,jz]
  exact bW (by lia) (by lia)
 ·rw [hg _ (by lia),W.up j h1 h2,a6 j (by lia) h2,bV]
  rfl
 ·rw [take_snoc ha] at hb
  rcases (aP.mp hb) with hb | hb
  ·obtain⟨j,hj⟩:=bx hb
   have hji:j < i:=by
    have:=(ak.mp hj).1
    rw [aJ] at this
    lia
   have oI:cl[j]? = some b:=by rw [cC hji] at hj; exact hj
   have r9:=(E.one j b oI).1
   rw [hg _ (by lia),W.z b hb,E.up j i b a oI ha hji,bV]
   rfl
  ·obtain rfl:b=a:=by simpa using hb
   rw [hg _ (by lia),a5,iC,Int.sub_self]
   rfl
theorem zgC {p:Int} (hp:p∈zm) {L N m:Nat} {vs:List (List Int)} {cl:List (Nat×List Int)} {w:List Int} {ld:Nat} (E:Ech p L N m vs cl) (hm:m < N) (W:Wh p L N m vs cl w) (B':ld < L) (h0:gl w ld≠0) :
  Ech p L N (m+1) vs (cl++[(ld,w.map fun x=>x*inv p (gl w ld) % p)]):=by
 have rp:=zo hp
 obtain⟨g0,g1⟩:=zb2 (show 0 < p by lia) W.rg ld
 have hi:=zef hp (h:=gl w ld) (by lia) g1
 have hg:∀ y,y < L+N→gl (w.map fun x=>x*inv p (gl w ld) % p) y=gl w y*inv p (gl w ld) % p:=fun y hy=>zht (f:=fun x=>x*inv p (gl w ld) % p) (by rw [W.ln]; exact hy)
 have lC:∀ j a,(cl++[(ld,w.map fun x=>x*inv p (gl w ld) % p)])[j]? = some a→(j < m∧cl[j]? = some a)∨(j=m∧a=(ld,w.map fun x=>x*inv p (gl w ld) % p)):=fun j a h=>by
  by_cases hj:j < m
  ·rw [bD (by rw [E.ln]; exact hj)] at h
   exact .inl ⟨hj,h⟩
  ·rw [bu (by rw [E.ln]; lia),E.ln] at h
   have rn:j - m=0:=by
    have:=(ak.mp h).1
    simp at this
    lia
   rw [rn] at h
   exact .inr ⟨by lia,(by simpa using h.symm)⟩
 refine⟨by rw [ar,E.ln]; rfl,fun j a h=>?_,fun j j' a a' h h' lp=>?_,fun u hu hup hz i mW=>?_⟩
 ·rcases lC j a h with ⟨_,h⟩ | ⟨rfl,rfl⟩
  ·exact E.one j a h
  ·refine⟨B',by rw [ab,W.ln],fun c hc=>?_,?_,?_,fun i h1 h2=>?_⟩
   ·obtain⟨x,_,rfl⟩:=aB.mp hc
    exact⟨aK _ (by lia),aC _ (by lia)⟩
   ·refine Rel.sub (u:=fun _=>0) (fun x _=>Cg.of_eq (zaC fun i _=>cf _).symm) W.rel (-inv p (gl w ld)) fun y hy=>?_
    rw [hg y hy]
    exact (Cg.emod _ _).trans (Cg.of_eq (by grind))
   ·rw [hg ld (by lia)]
    have h2:Cg p (gl w ld*inv p (gl w ld)) 1:=(Cg.of_eq (df _ _)).trans hi
    rw [h2.mod_eq]
    exact bW (by lia) (by lia)
   ·rw [hg _ (by lia),W.up i h1 h2,cf]
    rfl
 ·rcases lC j' a' h' with ⟨oI,h'⟩ | ⟨rfl,rfl⟩
  ·rcases lC j a h with ⟨_,h⟩ | ⟨rfl,_⟩
   ·exact E.up j j' a a' h h' lp
   ·lia
  ·rcases lC j a h with ⟨_,h⟩ | ⟨rfl,_⟩
   ·have:=(E.one j a h).1
    rw [hg _ (by lia),W.z a (ap h),cf]
    rfl
   ·lia
 ·have hru:Rel p L N vs (fun y=>u y - u (L+m)*gl w y):=hu.sub W.rel (u (L+m)) fun y _=>Cg.refl _ _
  have mS:=E.ii (fun y=>u y - u (L+m)*gl w y) hru (fun i h1 h2=>by
   by_cases e:i=m
   ·subst e
    show Cg p (u (L+i) - u (L+i)*gl w (L+i)) 0
    rw [W.top]
    exact Cg.of_eq (by lia)
   ·show Cg p (u (L+i) - u (L+m)*gl w (L+i)) 0
    rw [W.up i (by lia) h2,bV,jz]
    exact hup i (by lia) h2) (fun a ha=>by
   show Cg p (u a.1 - u (L+m)*gl w a.1) 0
   rw [W.z a ha,bV,jz]
   exact hz a (aQ _ ha))
  have Aj:Cg p (u ld - u (L+m)*gl w ld) 0:=(hru ld B').trans ((zby (g:=fun _=>0) fun i hi=>((mS i hi).mul (Cg.refl _ _)).trans (Cg.of_eq (cf _))).trans (Cg.of_eq (zaC fun _ _=>rfl)))
  have mY:=hz (ld,_) (aH _ (aU.mpr rfl))
  have hc:Cg p (gl w ld*u (L+m)) 0:=by
   have:=mY.sub Aj
   exact (Cg.of_eq (by show gl w ld*u (L+m)=u ld - (u ld - u (L+m)*gl w ld); grind)).trans (this.trans (Cg.of_eq (by lia)))
  have ua:Cg p (u (L+m)) 0:=zcw hp (by rw [bW g0 g1]; exact h0) hc
  have:=mS i mW
  have h3:=this.add (ua.mul (Cg.refl p (gl w (L+i))))
  exact (Cg.of_eq (by show u (L+i)=u (L+i) - u (L+m)*gl w (L+i)+u (L+m)*gl w (L+i); lia)).trans (h3.trans (Cg.of_eq (by lia)))
def Indep (p:Int) (L:Nat) (vs:List (List Int)):Prop:=∀ u:Nat→Int,(∀ x,x < L→Cg p (sm vs.length fun i=>u i*vx vs i x) 0)→∀ i,i < vs.length→Cg p (u i) 0
def Dep (p:Int) (L:Nat) (vs:List (List Int)) (c:List Int):Prop:=∀ x,x < L→Cg p (sm vs.length fun i=>gl c i*vx vs i x) 0
theorem zkw {p:Int} {L:Nat} {vs:List (List Int)} {cl:List (Nat×List Int)} (E:Ech p L vs.length vs.length vs cl):Indep p L vs:=fun u hu i hi=>by
 have h:=E.ii (fun y=>if y < L then sm vs.length (fun i=>u i*vx vs i y) else u (y - L)) (fun x hx=>?_) (fun i h1 h2=>by lia) (fun a ha=>?_) i hi
 ·rw [if_neg (by lia),fw] at h
  exact h
 ·dsimp only
  rw [if_pos hx]
  refine Cg.of_eq (zR fun i _=>?_)
  rw [if_neg (by lia),fw]
 ·obtain⟨j,hj⟩:=bx ha
  have:=(E.one j a hj).1
  rw [if_pos this]
  exact hu _ this
theorem zkx {p:Int} {L m:Nat} {vs:List (List Int)} {cl:List (Nat×List Int)} {w:List Int} (W:Wh p L vs.length m vs cl w) (hm:m < vs.length) (hz:∀ x,x < L→gl w x=0) :
  IsP p (m+1) ((w.drop L).take (m+1))∧gl ((w.drop L).take (m+1)) m=1∧Dep p L vs ((w.drop L).take (m+1)):=by
 have hg:∀ i,i≤m→gl ((w.drop L).take (m+1)) i=gl w (L+i):=fun i hi=>za9 (by
  rw [cC (by lia),er]
  exact zax (by rw [W.ln]; lia))
 have hl:((w.drop L).take (m+1)).length=m+1:=by
  rw [aJ,bS,W.ln]
  lia
 refine⟨⟨hl,fun c hc=>W.rg c (fY (dU hc))⟩,by rw [hg m (af _)]; exact W.top,fun x hx=>?_⟩
 have h:=W.rel x hx
 rw [hz x hx] at h
 refine Cg.trans (Cg.of_eq (zR fun i hi=>?_)) h.symm
 by_cases e:i≤m
 ·rw [hg i e]
 ·rw [W.up i (by lia) hi,zaQ (by lia)]
end My
end
section
namespace My
open PySem L2 PyProof.Rows
theorem zlG {α β:Type} (f:α→β) (xs:List α) (c:Nat×List α):nxt (xs.map f) (c.1,c.2.map f)=(nxt xs c).map fun d=>(d.1,d.2.map f):=by
 unfold nxt
 rw [bA,ab]
 refine cv fun j _=>?_
 show (c.1+j+1,c.2.map f++(xs.map f)[c.1+j]?.toList)=(c.1+j+1,(c.2++xs[c.1+j]?.toList).map f)
 rw [ag,aA]
 cases xs[c.1+j]? <;> rfl
theorem zir {α β:Type} (f:α→β) (xs:List α):∀ m,chs (xs.map f) m=(chs xs m).map fun d=>(d.1,d.2.map f)
 | 0=>rfl
 | m+1=>by
  show (chs (xs.map f) m).flatMap (nxt (xs.map f))=((chs xs m).flatMap (nxt xs)).map _
  rw [zir f xs m,List.map_flatMap,List.flatMap_map]
  congr 1
  funext c
  exact zlG f xs c
theorem zfh {α β:Type} (f:α→β) (xs:List α) (m:Nat):(chs (xs.map f) m).map (·.2)=((chs xs m).map (·.2)).map (·.map f):=by
 rw [zir,bA,bA]
 rfl
def PtB (H:Hp):List Addr→List (Int×Int)→Prop:=Paired fun b q=>H b=some (.tup [.int q.1,.int q.2])
theorem PtB.same {H H':Hp} (s:zu H H') {bs:List Addr} {kH:List (Int×Int)} (h:PtB H bs kH):PtB H' bs kH:=bq (fun _ _ z=>s _ _ z) h
theorem PtB.zs {H:Hp}:∀ {bs:List Addr} {kH:List (Int×Int)},PtB H bs kH→∃ zs:List (Addr×Int×Int),bs=zs.map (·.1)∧kH=zs.map (·.2)∧∀ z∈zs,H z.1=some (.tup [.int z.2.1,.int z.2.2])
 | _,_,.nil=>⟨[],rfl,rfl,by simp⟩
 | _,_,.cons (a:=b) (b:=q) r t=>by
  obtain⟨zs,h1,h2,h3⟩:=PtB.zs t
  refine⟨(b,q) :: zs,by rw [h1]; rfl,by rw [h2]; rfl,fun z hz=>?_⟩
  rcases (aE.mp hz) with rfl | hz
  ·exact r
  ·exact h3 z hz
theorem PtB.take {H:Hp} {bs:List Addr} {kH:List (Int×Int)} (h:PtB H bs kH) (n:Nat):PtB H (bs.take n) (kH.take n):=by
 induction h generalizing n with
 | nil=>rw [gH,gH]; exact .nil
 | cons r t ih =>
  cases n with
  | zero=>exact .nil
  | succ n=>exact .cons r (ih n)
def zbo (H:Hp):List Addr→List (List Int)→Prop:=Paired fun r q=>H r=some (.tup (q.map V.int))
theorem zbo.same {H H':Hp} (s:zu H H') {rs:List Addr} {qs:List (List Int)} (h:zbo H rs qs):zbo H' rs qs:=bq (fun _ _ z=>s _ _ z) h
theorem zbo.of {H:Hp}:∀ {ps:List (Addr×List Int)},(∀ q∈ps,H q.1=some (.tup (q.2.map V.int)))→zbo H (ps.map (·.1)) (ps.map (·.2))
 | [],_=>.nil
 | a :: ps,h=>.cons (h a aF) (zbo.of fun q hq=>h q (aw _ hq))
theorem zky {κ:Type} [DecidableEq κ] (kO:List (κ×V)) (k:κ) (v:V):(putK kO k v).map (·.1)=if k∈kO.map (·.1) then kO.map (·.1) else kO.map (·.1)++[k]:=by
 unfold putK
 by_cases h:(kO.any fun kv=>decide (kv.1=k))=true
 ·rw [if_pos h]
  obtain⟨kv,h1,h2⟩:=ij.mp h
  have h2:kv.1=k:=by simpa using h2
  rw [if_pos (by rw [← h2]; exact eW h1),bA]
  refine cv fun a _=>?_
  show (if a.1=k then (a.1,v) else a).1=a.1
  split <;> rfl
 ·rw [if_neg h]
  rw [if_neg (fun hm=>h ?_),aA]
  ·rfl
  ·obtain⟨kv,h1,h2⟩:=aB.mp hm
   exact ij.mpr ⟨kv,h1,by simpa using h2⟩
theorem zlH {a b:List Int} (h:(a.map dh:List Key)=b.map dh):a=b:=by
 induction a generalizing b with
 | nil=>cases b with
  | nil=>rfl
  | cons _ _=>simp at h
 | cons x a ih=>cases b with
  | nil=>simp at h
  | cons y b =>
   rw [bd,bd] at h
   obtain⟨h1,h2⟩:=i8 h
   rw [kB h1,ih h2]
def KeysAre (kO:List (List Key×V)) (mj:List (List Int)):Prop:=kO.map (·.1)=mj.map (·.map dh)
theorem zkz {kO:List (List Key×V)} {mj:List (List Int)} (h:KeysAre kO mj) (hn:mj.Nodup) (q:List Int) (v:V):∃ sH,KeysAre (putK kO (q.map dh) v) sH∧sH.Nodup∧sH.length≤mj.length+1∧∀ x,x∈sH↔x∈mj∨x=q:=by
 unfold KeysAre at h ⊢
 rw [zky,h]
 have hm:(q.map dh:List Key)∈mj.map (·.map dh)↔q∈mj:=by
  constructor
  ·intro hm
   obtain⟨x,hx,e⟩:=aB.mp hm
   rw [← zlH e]
   exact hx
  ·intro hm
   exact eW hm
 by_cases hq:q∈mj
 ·refine⟨mj,by rw [if_pos (hm.mpr hq)],hn,by lia,fun x=>⟨.inl,fun z=>z.elim id fun e=>e ▸ hq⟩⟩
 ·refine⟨mj++[q],by rw [if_neg fun z=>hq (hm.mp z),aA]; rfl,?_,by rw [ar]; exact af _,fun x=>by rw [aP,aU]⟩
  rw [dk]
  exact⟨hn,by simp,fun a ha b hb e=>hq (by rw [← aU.mp hb,← e]; exact ha)⟩
def zlI (K:ah):Sp:=fun vs H Q _=>∃ (c tt r:Addr) (p k:Int) (pl:List Int) (rw:List (Option Int)),vs = [.ref c,.ref r]∧za4 H c tt p k pl∧RowAt K H r pl.length rw∧pl.length≤1000 ∧
 ∀ (l:Addr) (bs:List Addr) (H':Hp),H l=none→zu H H'→H' l=some (.lst (bs.map V.ref))→PtB H' bs (lh pl rw)→Q (.ref l) H'
def zex (K:ah):Sp:=fun vs H Q _=>∃ (c tt a:Addr) (p:Int) (k:Nat) (pl:List Int) (bs:List Addr) (kH:List (Int×Int)),vs = [.ref c,.ref a]∧za4 H c tt p k pl∧kG K H a (bs.map V.ref)∧PtB H bs kH∧kH.length≤16∧p∈zm∧Pts p kH∧1≤k∧k≤100 ∧
 ∀ (l:Addr) (rs:List Addr) (qs:List (List Int)) (H':Hp),H l=none→zu H H'→H' l=some (.lst (rs.map V.ref))→zbo H' rs qs→qs.length≤65536→zje p k qs→(∀ q,q∈qs↔∃ pk∈(chs kH k).map (·.2),q=thr p pk)→Q (.ref l) H'
end My
end
section
namespace My
open PySem L2 PyProof.Rows
end My
end
section
namespace L2
open PySem PySem.Spec PyProof.Rows
def zna (K:ah):R2:=fun x y H Q=>∃ a b xs ys,x = .ref a∧y = .ref b∧kP K H a xs∧kP K H b ys∧ys≠[]∧xs.length+ys.length≤sizeLine ∧
 (xs = []→Q (.ref b) H)∧(xs≠[]→∀ p,H p=none→Q (.ref p) (kL H p (.tup (xs++ys))))
theorem zfi {X:Cx} {K:ah} (hK:X.K=K):OpR X (binaryOp .Add) (zna K):=by
 subst hK
 intro kE s σ H x y v u Q I rx ry h
 obtain⟨a,b,xs,ys,rfl,rfl,ha,hb,hy,hz,q1,q2⟩:=h
 by_cases hx:xs = []
 ·cases rx
  cases ry
  obtain⟨kK,r1,p1,_⟩:=I.tuple ha
  obtain⟨lT,r2,p2,_⟩:=I.tuple hb
  obtain⟨⟨cls,dd,data,sl⟩,ho,hc,n,hd⟩:=id p1
  obtain⟨⟨CH,BH,data2,BI⟩,rV,uD,n2,hd2⟩:=id p2
  simp only at hc hd uD hd2
  subst hc hd uD hd2
  exact jl ⟨_,ho,rfl⟩ ⟨_,rV,rfl⟩ g6 i6 fE fq (fg _ _)
   (tuple_addW0 a b kK.toArray lT.toArray n n2 dd BH sl BI (by simp [r1.nil_iff.mpr hx])) ⟨ho,rV,⟨.ref b,H,I,rfl,q1 hx⟩⟩
 ·exact zla kE s σ H _ _ v u Q I rx ry ⟨a,b,xs,ys,rfl,rfl,ha,hb,hx,hz,fun z=>absurd z hy,fun _=>q2 hx⟩
end L2
end
section
namespace My
open PySem L2 PyProof.Rows
theorem zey {X:Cx} {st:Stmt} {ts:TS} (h:PS X st ts):PS X st (fun D σ H=>∃ Pv:L2.St→Hp→Prop,ts { D with nx:=Pv } σ H∧∀ σ' H',Pv σ' H'→D.nx σ' H'):=by
 intro kE s σ H D I hq
 obtain⟨Pv,h1,h2⟩:=hq
 refine thn (h kE s σ H _ I h1) fun f s1 q=>?_
 cases f with
 | next =>
  obtain⟨σ',H',I',p⟩:=q
  exact⟨σ',H',I',h2 _ _ p⟩
 | ret v=>exact q
 | brk=>exact q
 | cont=>exact q
theorem PtB.pts {K:ah} {H:Hp} {a:Addr} {bs:List Addr} {kH:List (Int×Int)} (ha:H a=some (.lst (bs.map V.ref))) (h:PtB H bs kH):zj0 K H a kH:=by
 refine⟨bs,kG.of ha,h.length,fun i b q h1 h2=>?_⟩
 obtain⟨q',h3,h4⟩:=Paired.get h h1
 rw [h2] at h3
 cases h3
 exact h4
end My
end
section
namespace L2
open PySem PySem.Spec PyProof.Rows
theorem zdq:fillsNumberSlot (.type "tuple") "mul" = pure false :=
 PySem.fillsNumberSlot_seq (id:="tuple.__mul__") (r:=some (.builtin "tuple.__rmul__")) PySem.F.slot_tuple_mul.lookup (by decide +kernel) PySem.F.slot_tuple_rmul.lookup (by decide +kernel)
theorem zfN:seqRepeat? (.type "tuple")=pure (some (.builtin "tuple.__mul__")):=by
 unfold seqRepeat?
 rw [j3 (T:="tuple") (name:="__mul__") (id:="tuple.__mul__") PySem.F.slot_tuple_mul.lookup (by decide +kernel),j3 (T:="tuple") (name:="__rmul__") (id:="tuple.__rmul__") PySem.F.slot_tuple_rmul.lookup (by decide +kernel)]
 rfl
theorem zez (a:Int) (t:Tok) (l:Addr) (items:Array Value) (n:Nat) (dd:Option Addr) (sl:Array (Option Value)) :
  Meets (Builtin.«int.__rmul__» ⟨[.int a t,.ref l],[]⟩) (fun _ R s=>s.heap.get? l=some { cls:=.type "tuple",dict:=dd,data:=.seq items n,slots:=sl }∧R (.ok (.ret Value.notImplemented)) s) :=
 .of_wp fun prog w A R s h=>by (obtain⟨hp,g,d,tk,os⟩:=s; obtain⟨hl,h⟩:=h; wp_walk using cA hl; exact⟨_,rfl,h⟩)
theorem zkA (l:Addr) (items:Array Value) (n:Nat) (dd:Option Addr) (sl:Array (Option Value)) (u:Tok) :
  Meets (Builtin.«tuple.__mul__» ⟨[.ref l,.int 1 u],[]⟩) (fun _ R s=>s.heap.get? l=some { cls:=.type "tuple",dict:=dd,data:=.seq items n,slots:=sl }∧R (.ok (.ret (.ref l))) s) :=
 .of_wp fun prog w A R s h=>by
  (obtain⟨hp,g,d,tk,os⟩:=s)
  obtain⟨hl,h⟩:=h
  have f1:=ik
  have f2:=fj
  wp_walk using cA hl; exact⟨_,rfl,h⟩
theorem zkB (l:Addr) (items:Array Value) (n:Nat) (dd:Option Addr) (sl:Array (Option Value)) (k:Int) (u:Tok) (ua:(decide (k < -(2 ^ 63)) || decide (k≥2 ^ 63))=false) (tH:(items.isEmpty || k == 1)=false) (uD:(decide (k≤0) || items.isEmpty)=true) :
  Meets (Builtin.«tuple.__mul__» ⟨[.ref l,.int k u],[]⟩) (fun _ R s=>s.heap.get? l=some { cls:=.type "tuple",dict:=dd,data:=.seq items n,slots:=sl }∧R (.ok (.ret (aY s.heap.objs.size))) { s with heap:=s.heap.push { cls:=iT "tuple",data:=kA #[] },toks:=s.toks }) :=
 .of_wp fun prog w A R s h=>by
  (obtain⟨hp,g,d,tk,os⟩:=s)
  obtain⟨hl,h⟩:=h
  have f1:=ik
  have f2:=fj
  wp_walk using cA hl; refine iB (by rw [ua]; rfl) ?_
  wp_walk using cA hl; exact⟨_,rfl,h⟩
theorem zkC (l:Addr) (items:Array Value) (n:Nat) (dd:Option Addr) (sl:Array (Option Value)) (k:Int) (u:Tok) (ua:(decide (k < -(2 ^ 63)) || decide (k≥2 ^ 63))=false) (tH:(items.isEmpty || k == 1)=false) (uD:(decide (k≤0) || items.isEmpty)=false)
  (DS:¬(items.size:Int)*k > (2 ^ 63 - 1) / 8) (hc4:gI (items.size*k)=false) (hsz:(fS (fun x1 x2=>x1++x2) #[] (aj k.toNat items)).size≤sizeLine) :
  Meets (Builtin.«tuple.__mul__» ⟨[.ref l,.int k u],[]⟩) (fun _ R s=>s.heap.get? l=some { cls:=.type "tuple",dict:=dd,data:=.seq items n,slots:=sl }∧R (.ok (.ret (aY s.heap.objs.size))) { s with heap:=s.heap.push { cls:=iT "tuple",data:=kA (fS (fun x1 x2=>x1++x2) #[] (aj k.toNat items)) },toks:=s.toks }) :=
 .of_wp fun prog w A R s h=>by
  (obtain⟨hp,g,d,tk,os⟩:=s)
  obtain⟨hl,h⟩:=h
  have f1:=ik
  have f2:=fj
  wp_walk using cA hl; refine iB (by rw [ua]; rfl) ?_
  wp_walk using cA hl; refine iB (decide_eq_false DS) ?_
  wp_walk using cA hl; exact⟨_,rfl,h⟩
def znR (K:ah):R2:=fun x y H Q=>∃ a k xs,x = .ref a∧y = .int k∧kP K H a xs∧xs≠[]∧-(2 ^ 63)≤k∧k < 2 ^ 63∧xs.length*k.toNat≤sizeLine ∧
 (k=1→Q (.ref a) H)∧(k≠1→∀ p,H p=none→Q (.ref p) (kL H p (.tup (aj k.toNat xs).flatten)))
theorem zis {X:Cx}:OpR X (binaryOp .Mult) (znR X.K):=by
 intro kE s σ H x y v u Q I rx ry h
 obtain⟨a,k,xs,rfl,rfl,hx,lA,h1,h2,hz,q,q2⟩:=h
 cases rx
 obtain⟨t,rfl⟩:=ry
 obtain⟨kK,r,p1,_⟩:=I.tuple hx
 obtain⟨⟨cls,dd,data,sl⟩,ho,hc,n,hd⟩:=id p1
 simp only at hc hd
 subst hc hd
 have hl:xs.length=kK.length:=r.length
 have DT:kK≠[]:=fun e=>lA (r.nil_iff.mp e)
 have he:kK.toArray.isEmpty=false:=by simpa using DT
 have ua:(decide (k < -(2 ^ 63)) || decide (k≥2 ^ 63))=false:=by
  rw [decide_eq_false (by lia),decide_eq_false (by lia)]; rfl
 refine gV (T:="tuple") (U:="int") (by decide) ⟨_,ho,rfl⟩ (fun s'=>gU s' k t) zdq F.fills_int_mul fT zfN F.slot_int_index.lookup
  (eh fT (gU s k t) jT (jF _ _) (zez k t a kK.toArray n dd sl) ⟨ho,rfl,⟨_,ho,rfl⟩,?_⟩)
 by_cases e1:k=1
 ·subst e1
  refine eh il ⟨_,ho,rfl⟩ gT (gv _ _) (zkA a kK.toArray n dd sl t) ⟨ho,?_⟩
  exact⟨.ref a,H,I,rfl,q rfl⟩
 have tH:(kK.toArray.isEmpty || k == 1)=false:=by rw [he]; simpa using e1
 by_cases e0:k≤0
 ·refine eh il ⟨_,ho,rfl⟩ gT (gv _ _) (zkB a kK.toArray n dd sl k t ua tH (by rw [decide_eq_true e0]; rfl)) ⟨ho,?_⟩
  have hf:=I.hok.fresh (af _)
  have e:(aj k.toNat xs).flatten = []:=by rw [show k.toNat=0 by lia]; rfl
  refine⟨.ref s.heap.objs.size,_,I.laid (t':=s.toks) (o:=.tup []) (fun b ob q=>ai _ q) (af _) ?_,rfl,by rw [← e]; exact q2 e1 _ hf⟩
  exact⟨bb _,[],.nil,gq _ _⟩
 ·have hm:(kK.toArray.size:Int)*k=((xs.length*k.toNat:Nat):Int):=by
   rw [aq,← hl,Int.natCast_mul,Int.toNat_of_nonneg (by lia)]
  have om:(sizeLine:Nat)≤16777216:=by decide
  have u5:fS (fun x1 x2=>x1++x2) #[] (aj k.toNat kK.toArray)=(aj k.toNat kK).flatten.toArray:=by
   have:=foldl_rep kK k.toNat []
   rw [iu] at this
   exact this
  refine eh il ⟨_,ho,rfl⟩ gT (gv _ _) (zkC a kK.toArray n dd sl k t ua tH (by rw [decide_eq_false e0,he]; rfl) (by rw [hm]; lia) (by rw [hm]; unfold gI; exact decide_eq_false (by lia)) (by rw [u5,aq,len_rep,jr,← hl]; exact hz)) ⟨ho,?_⟩
  have hf:=I.hok.fresh (af _)
  rw [u5]
  refine⟨.ref s.heap.objs.size,_,I.laid (t':=s.toks) (o:=.tup (aj k.toNat xs).flatten) (fun b ob q=>ai _ q) (af _) ?_,rfl,q2 e1 _ hf⟩
  exact⟨by rw [len_rep,jr]; exact hz,_,r.rep k.toNat,gq _ _⟩
def znS (K:ah):R2:=fun x y H Q=>∃ a k xs,x = .ref a∧y = .int k∧kP K H a xs∧xs≠[]∧-(2 ^ 63)≤k∧k < 2 ^ 63∧xs.length*k.toNat≤sizeLine ∧
 ∀ p H',zu H H'→kP K H' p (aj k.toNat xs).flatten→Q (.ref p) H'
theorem zlJ {X:Cx}:OpR X (binaryOp .Mult) (znS X.K):=by
 intro kE s σ H x y v u Q I rx ry h
 obtain⟨a,k,xs,rfl,rfl,hx,lA,h1,h2,hz,q⟩:=h
 exact zis kE s σ H _ _ v u Q I rx ry ⟨a,k,xs,rfl,rfl,hx,lA,h1,h2,hz,fun e=>q a H (fun _ _ e=>e) (by rw [e]; simpa using hx),fun _ p hp=>q p _ (fun b o z=>by rw [zq (fun e=>by rw [e,hp] at z; cases z)]; exact z) (kP.of zb)⟩
theorem zlK {X:Cx} {K:ah} {tg l:Expr} {tl:TE} (hK:X.K=K) (hl:PE X l tl):PI X tg l (znr K tl):=by subst hK; exact zg3 hl
end L2
end
section
namespace HT
open PySem PySem.Spec PyProof.Rows
section
variable {prog:Program} {w:World} {A:Around} {E:Value→Shared→Prop} {s:Shared}
theorem getItem_tuple_whole {t sl:Addr} {items:Array Value} {vl vu:Value} {lo hi:Option Int} {Q:Value→Shared→Prop} (ht:IsTup s.heap t items) (hs:s.heap.IsSliceOf sl vl vu .none) (pl:IsPart vl lo) (pu:IsPart vu hi)
  (hw:sIx items.size 0 lo=0∧sIx items.size items.size hi=items.size) (h:Q (.ref t) s):wpAny (model prog w) A (getItem (.ref t) (.ref sl)) Q E s:=by
 obtain⟨os,wB,BJ,yz⟩:=id hs
 have CI:s.TypeIs (.ref sl) "slice":=⟨os,wB,BJ⟩
 unfold getItem
 try with_reducible refine b9 ?_
 first | refine ae (ao ?_) | skip
 refine ae (wpAny_sequenceKey ht.typeIs (by decide) ?_)
 refine ae (bh (name:=bP "__getitem__") ht.typeIs cW
  (bt cW ht.typeIs jb ?_ (jn _ _)))
 show wpAny _ _ (gC (.ref t) >>= _) _ _ s
 refine ae (tupleItemsOf_ ht ?_)
 refine ae (jo CI ?_)
 rw [if_pos (by decide)]
 refine ae (zbK hs pl pu ?_)
 have DU:(((sIx items.size 0 lo:Nat):Int) == 0 && (1:Int) == 1 && (sIx items.size items.size hi - sIx items.size 0 lo) == items.size)=true:=by
  rw [hw.1,hw.2]
  simp
 show wpAny _ _ (if (((sIx items.size 0 lo:Nat):Int) == 0 && (1:Int) == 1 && (sIx items.size items.size hi - sIx items.size 0 lo) == items.size)=true then _ else _) _ _ s
 rw [if_pos DU]
 refine ae (m:=Builtin.Tuple.tupleIsExact _) (ae (jo ht.typeIs (ao ?_)))
 rw [if_pos (by decide)]
 first
  | exact ae (b8 (ao ⟨_,rfl,ao h⟩))
  | exact ae (ae (b8 (ao ⟨_,rfl,ao h⟩)))
end
end HT
namespace L2
open PySem PySem.Spec PyProof.Rows
def znT (K:ah):V→Option Int→Option Int→Hp→VK→Prop:=fun x lo hi H Q=>∃ a xs,x = .ref a∧kP K H a xs∧∀ p H',zu H H'→kP K H' p (za2 xs lo hi)→Q (.ref p) H'
theorem zlL {X:Cx}:SlR X (znT X.K):=by
 intro kE s σ H x v vl vu lo hi sl Q I rx hs pl pu h
 obtain⟨a,xs,rfl,hx,q⟩:=h
 by_cases hw:HT.sIx xs.length 0 lo=0∧HT.sIx xs.length xs.length hi=xs.length
 ·have rx':=rx
  cases rx
  obtain⟨kK,r,ht,hz⟩:=I.tuple hx
  have kQ:kK.toArray.size=xs.length:=by rw [aq]; exact r.length.symm
  refine⟨"tuple",_,PyProof.Rows.slot_tuple_getitem.lookup,ht.typeIs,?_⟩
  refine HT.getItem_tuple_whole ht hs pl pu (by rw [kQ]; exact hw) ⟨.ref a,H,I,rfl,q a H (fun _ _ e=>e) ?_⟩
  have e:za2 xs lo hi=xs:=by
   unfold za2
   rw [hw.1,hw.2,dw,eL,aZ]
  rw [e]
  exact hx
 ·exact zjG kE s σ H (.ref a) v vl vu lo hi sl Q I rx hs pl pu ⟨a,xs,rfl,hx,hw,fun p hp=>q p _ (fun b o z=>by rw [zq (fun e=>by rw [e,hp] at z; cases z)]; exact z) (kP.of zb)⟩
theorem zkD {X:Cx} {K:ah} (hK:X.K=K):SlR X (znT K):=by subst hK; exact zlL
theorem zkE {X:Cx} {K:ah} {tg l:Expr} {tl:TE} (hK:X.K=K) (hl:PE X l tl):PI X tg l (zl9 K tl):=by subst hK; exact zT hl
def zok:V→Option Int→Option Int→Hp→VK→Prop:=fun x lo hi H Q=>∃ a xs,x = .ref a∧H a=some (.tup xs)∧∀ p H',zu H H'→H' p=some (.tup (za2 xs lo hi))→Q (.ref p) H'
theorem zlM {X:Cx}:SlR X zok:=by
 intro kE s σ H x v vl vu lo hi sl Q I rx hs pl pu h
 obtain⟨a,xs,rfl,hx,q⟩:=h
 have hX:kP X.K H a xs:=kP.of hx
 by_cases hw:HT.sIx xs.length 0 lo=0∧HT.sIx xs.length xs.length hi=xs.length
 ·cases rx
  obtain⟨kK,r,ht,hz⟩:=I.tuple hX
  have kQ:kK.toArray.size=xs.length:=by rw [aq]; exact r.length.symm
  refine⟨"tuple",_,PyProof.Rows.slot_tuple_getitem.lookup,ht.typeIs,?_⟩
  refine HT.getItem_tuple_whole ht hs pl pu (by rw [kQ]; exact hw) ⟨.ref a,H,I,rfl,q a H (fun _ _ e=>e) ?_⟩
  have e:za2 xs lo hi=xs:=by
   unfold za2
   rw [hw.1,hw.2,dw,eL,aZ]
  rw [e]
  exact hx
 ·exact zjG kE s σ H (.ref a) v vl vu lo hi sl Q I rx hs pl pu ⟨a,xs,rfl,hX,hw,fun p hp=>q p _ (fun b o z=>by rw [zq (fun e=>by rw [e,hp] at z; cases z)]; exact z) zb⟩
def znU:R2:=fun x y H Q=>∃ a b xs ys,x = .ref a∧y = .ref b∧H a=some (.tup xs)∧H b=some (.tup ys)∧xs.length+ys.length≤sizeLine∧ys≠[]∧∀ p H',zu H H'→H' p=some (.tup (xs++ys))→Q (.ref p) H'
theorem zit {X:Cx}:OpR X (binaryOp .Add) znU:=by
 intro kE s σ H x y v u Q I rx ry h
 obtain⟨a,b,xs,ys,rfl,rfl,ha,hb,hz,hy,q⟩:=h
 refine zfi rfl kE s σ H _ _ v u Q I rx ry ⟨a,b,xs,ys,rfl,rfl,kP.of ha,kP.of hb,hy,hz,fun e=>?_,fun _ p hp=>q p _ (fun b o z=>by rw [zq (fun e=>by rw [e,hp] at z; cases z)]; exact z) zb⟩
 subst e
 exact q b H (fun _ _ e=>e) hb
def znV:R2:=fun x y H Q=>∃ a k xs,x = .ref a∧y = .int k∧H a=some (.tup xs)∧xs≠[]∧-(2 ^ 63)≤k∧k < 2 ^ 63∧xs.length*k.toNat≤sizeLine∧∀ p H',zu H H'→H' p=some (.tup (aj k.toNat xs).flatten)→Q (.ref p) H'
theorem zlN {X:Cx}:OpR X (binaryOp .Mult) znV:=by
 intro kE s σ H x y v u Q I rx ry h
 obtain⟨a,k,xs,rfl,rfl,hx,lA,h1,h2,hz,q⟩:=h
 refine zis kE s σ H _ _ v u Q I rx ry ⟨a,k,xs,rfl,rfl,kP.of hx,lA,h1,h2,hz,fun e=>q a H (fun _ _ e=>e) (by rw [e]; simpa using hx),fun _ p hp=>q p _ (fun b o z=>by rw [zq (fun e=>by rw [e,hp] at z; cases z)]; exact z) zb⟩
end L2
end
section
namespace My
open PySem L2 PyProof.Rows
def md (p:Int) (q:Int×Int):Int×Int:=(q.1,q.2 % p)
theorem zgD (p:Int) (s:List Int×List Int) (q:Int×Int):zcj p s (md p q)=zcj p s q:=by
 unfold zcj md
 have:(q.2 % p - zn p q.1 s.1)*inv p (zn p q.1 s.2) % p=(q.2 - zn p q.1 s.1)*inv p (zn p q.1 s.2) % p:=(((Cg.emod p q.2).sub (Cg.refl p _)).mul (Cg.refl p _)).mod_eq
 dsimp only
 rw [this]
theorem ziu (p:Int):∀ (kH:List (Int×Int)) (s:List Int×List Int),(kH.map (md p)).foldl (zcj p) s=kH.foldl (zcj p) s
 | [],s=>rfl
 | q :: kH,s=>by
  rw [bd,ir,ir,zgD,ziu p kH]
theorem znb (p:Int) (kH:List (Int×Int)):thr p (kH.map (md p))=thr p kH:=by
 unfold thr znH
 rw [ziu,ab]
def zgE (K:ah):Sp:=fun vs H Q _=>∃ (p:Int) (a:Addr) (kH:List (Int×Int)),vs = [.int p,.ref a]∧zj0 K H a kH∧kH.length≤100∧p∈zm∧Pts p (kH.map (md p))∧(∀ q∈kH,0≤q.2∧q.2 < 10000) ∧
 ∀ (l:Addr) (H':Hp),H l=none→zu H H'→H' l=some (.tup ((thr p (kH.map (md p))).map V.int))→Q (.ref l) H'
def zhu (K:ah):Sp:=fun vs H Q _=>∃ (p tm:Int) (a b:Addr) (as bs:List Int),vs = [.int p,.ref a,.int tm,.ref b]∧H a=some (.lst (as.map V.int))∧H b=some (.lst (bs.map V.int))∧as.length=bs.length∧as.length≤1000∧0 < p∧0≤tm∧tm < 1000 ∧
 ∀ (l:Addr) (H':Hp),H l=none→zu H H'→H' l=some (.lst ((aT (fun x y=>(x - tm*y) % p) as bs).map V.int))→Q (.ref l) H'
def LsA (H:Hp):List Addr→List (List Int)→Prop:=Paired fun b v=>H b=some (.lst (v.map V.int))
theorem LsA.same {H H':Hp} (s:zu H H') {bs:List Addr} {vv:List (List Int)} (h:LsA H bs vv):LsA H' bs vv:=bq (fun _ _ z=>s _ _ z) h
def ClA (ca:Addr) (H:Hp):List Addr→List (Nat×List Int)→Prop:=Paired fun b a=>∃ wa,H b=some (.tup [.int (a.1:Int),.ref wa])∧H wa=some (.lst (a.2.map V.int))∧wa≠ca
theorem ClA.same {ca:Addr} {H H':Hp} (s:zu H H') {bs:List Addr} {cl:List (Nat×List Int)} (h:ClA ca H bs cl):ClA ca H' bs cl:=bq (fun _ _ ⟨wa,z1,z2,z3⟩=>⟨wa,s _ _ z1,s _ _ z2,z3⟩) h
theorem ClA.put {ca:Addr} {H:Hp} {bs:List Addr} {cl:List (Nat×List Int)} {xs:List V} {o:HO} (h:ClA ca H bs cl) (hf:H ca=some (.lst xs)):ClA ca (kL H ca o) bs cl:=bq (fun b _ ⟨wa,z1,z2,z3⟩=>⟨wa,by
 rw [zq (fun e=>by rw [e,hf] at z1; cases z1)]; exact z1,by rw [zq z3]; exact z2,z3⟩) h
theorem zlO {xs:List V} {a b:Nat} (h:b≤xs.length):za2 xs (some (a:Int)) (some (b:Int))=(xs.drop a).take (b - a):=by
 unfold za2
 rw [HT.sIx_nat,HT.sIx_nat]
 by_cases ha:a≤xs.length
 ·rw [db ha,db h]
 ·rw [show min a xs.length=xs.length by lia,db h,eB (af _),eB (show xs.length≤a by lia),gH,gH]
def zdb (K:ah):Sp:=fun vs H Q _=>∃ (p:Int) (a:Addr) (ls:List Addr) (vv:List (List Int)) (L:Nat),vs = [.int p,.ref a]∧H a=some (.lst (ls.map V.ref))∧LsA H ls vv∧vv≠[]∧vv.length≤100∧L≤800∧(∀ v∈vv,v.length=L∧∀ c∈v,0≤c∧c < p)∧p∈zm ∧
 (∀ H',zu H H'→Indep p L vv→Q .non H')∧(∀ (l:Addr) (c:List Int) (m:Nat) (H':Hp),H l=none→zu H H'→H' l=some (.lst (c.map V.int))→IsP p (m+1) c→m < vv.length→gl c m=1→Dep p L vv c→Q (.ref l) H')
theorem znc {K:ah} {H H':Hp} {a:Addr} {xs:List V} (e:zu H H') (h:kP K H a xs):kP K H' a xs:=by
 rcases h with (h | ⟨o,h⟩) | h
 ·exact .inl (.inl (e _ _ h))
 ·exact .inl (.inr ⟨o,e _ _ h⟩)
 ·exact .inr h
def tmP (p:Int) (l:List Int) (kH:List (Int×Int)):List (Int×Int):=kH.map fun a=>(a.1,zn p a.1 l*a.2 % p)
theorem zcy {p:Int} (p0:0 < p) {l:List Int} {kH:List (Int×Int)} (hP:Pts p kH):Pts p (tmP p l kH):=by
 refine⟨?_,fun q hq=>?_⟩
 ·unfold tmP
  rw [bA]
  exact hP.nd
 ·obtain⟨a,ha,rfl⟩:=aB.mp hq
  obtain⟨h1,h2,_⟩:=hP.rg a ha
  exact⟨h1,h2,aK _ (by lia),aC _ p0⟩
theorem zkF (p:Int) (l:List Int) (kH:List (Int×Int)):(kH.map fun a=>(a.1,zn p a.1 l*a.2)).map (md p)=tmP p l kH:=by
 rw [bA]
 rfl
def zdr (K:ah):Sp:=fun vs H Q _=>∃ (p:Int) (la a:Addr) (l:List Int) (bs:List Addr) (kH:List (Int×Int)),vs = [.int p,.ref la,.ref a]∧kP K H la (l.map V.int)∧kG K H a (bs.map V.ref)∧PtB H bs kH∧kH.length≤100∧p∈zm∧Pts p kH ∧
 ∀ (z:Addr) (H':Hp),H z=none→zu H H'→H' z=some (.tup ((thr p (tmP p l kH)).map V.int))→Q (.ref z) H'
def bey (m:Nat) (rs:List (List Int)):List Int:=rs.flatMap fun r=>r.drop m
theorem zgF (m:Nat) {rs:List (List Int)} {i:Nat} {r:List Int} (h:rs[i]? = some r):bey m (rs.take (i+1))=bey m (rs.take i)++r.drop m:=by
 unfold bey
 rw [take_snoc h,dq]
 simp
def zjf (K:ah):Sp:=fun vs H Q _=>∃ (a:Addr) (m:Nat) (bs:List Addr) (rs:List (List Int)),vs = [.ref a,.int (m:Int)]∧kG K H a (bs.map V.ref)∧zbo H bs rs∧(∀ i,(bey m (rs.take i)).length≤10000) ∧
 ∀ (z:Addr) (H':Hp),H z=none→zu H H'→H' z=some (.lst ((bey m rs).map V.int))→Q (.ref z) H'
def szd (q:List Int) (m:Nat):List Int:=(q++aj m 0).take m
def zkG (K:ah):Sp:=fun vs H Q _=>∃ (a:Addr) (m:Nat) (q:List Int),vs = [.ref a,.int (m:Int)]∧H a=some (.tup (q.map V.int))∧1≤m∧q.length+m≤10000 ∧
 ∀ (z:Addr) (H':Hp),zu H H'→H' z=some (.tup ((szd q m).map V.int))→Q (.ref z) H'
def unit (i:Nat):List Int:=aj i 0++[1]
theorem zfO (i j:Nat):gl (unit i) j=if j=i then 1 else 0:=by
 unfold unit
 by_cases h:j < i
 ·rw [if_neg (by lia)]
  exact za9 (by rw [bD (by rw [aL]; exact h),cH,if_pos h])
 ·by_cases e:j=i
  ·rw [if_pos e]
   exact za9 (by rw [bu (by rw [aL]; lia),aL,e,d6]; rfl)
  ·rw [if_neg e]
   exact zaQ (by rw [ar,aL]; show i+1≤j; lia)
theorem zjg {p x:Int} (i:Nat):Cg p (zn p x (unit i)) (x ^ i):=by
 refine (zaR (n:=i+1) (by unfold unit; rw [ar,aL]; exact af _)).trans ?_
 rw [zfM (j:=i) (by lia) fun j _ lA=>by rw [zfO,if_neg lA,cf],zfO,if_pos rfl,gn]
 exact Cg.refl _ _
def Tp (p:Int) (kH:List (Int×Int)) (i:Nat):List Int:=thr p (tmP p (unit i) kH)
theorem zcQ {p:Int} (hp:p∈zm) {kH:List (Int×Int)} (hP:Pts p kH) (l:List Int):(thr p (tmP p l kH)).length=kH.length:=by
 have rp:=zo hp
 rw [(zei hp (zcy (l:=l) (by lia) hP)).1]
 unfold tmP
 rw [ab]
theorem zkH {p:Int} (hp:p∈zm) {kH:List (Int×Int)} (hP:Pts p kH) (l:List Int):∀ c∈thr p (tmP p l kH),0≤c∧c < p:=by
 have rp:=zo hp
 exact (zei hp (zcy (l:=l) (by lia) hP)).2.1
theorem zmk {p:Int} (hp:p∈zm) {kH:List (Int×Int)} (hP:Pts p kH) (l:List Int) {a:Int×Int} (ha:a∈kH):zn p a.1 (thr p (tmP p l kH))=zn p a.1 l*a.2 % p:=by
 have rp:=zo hp
 exact (zei hp (zcy (l:=l) (by lia) hP)).2.2 _ (aB.mpr ⟨a,ha,rfl⟩)
theorem ziv {p:Int} (hp:p∈zm) {kH:List (Int×Int)} (hP:Pts p kH) {l:List Int} {N:Nat} (hl:l.length≤N) (x:Nat):Cg p (gl (thr p (tmP p l kH)) x) (sm N fun i=>gl l i*gl (Tp p kH i) x):=by
 have rp:=zo hp
 have p0:0 < p:=by lia
 obtain⟨C,hC⟩:∃ C,C=(aD kH.length).map fun x=>(sm N fun i=>gl l i*gl (Tp p kH i) x) % p:=⟨_,rfl⟩
 have hCl:C.length=kH.length:=by rw [hC,ab,aW]
 have hCg:∀ x,x < kH.length→gl C x=(sm N fun i=>gl l i*gl (Tp p kH i) x) % p:=fun x hx=>za9 (by rw [hC,ag,bR hx]; rfl)
 have hCr:∀ c∈C,0≤c∧c < p:=fun c hc=>by
  rw [hC] at hc
  obtain⟨x,_,rfl⟩:=aB.mp hc
  exact⟨aK _ (by lia),aC _ p0⟩
 have vZ:∀ a∈kH,zn p a.1 C=zn p a.1 l*a.2 % p:=fun a ha=>by
  refine Cg.eq ?_ (zas p0 _) (zat p0 _) (aK _ (by lia)) (aC _ p0)
  refine (zaR (n:=kH.length) (by lia)).trans ?_
  have h1:Cg p (sm kH.length fun x=>gl C x*a.1 ^ x) (sm kH.length fun x=>sm N fun i=>gl l i*(gl (Tp p kH i) x*a.1 ^ x)):=zby fun x hx=>by
   rw [hCg x hx]
   refine ((Cg.emod _ _).mul (Cg.refl p _)).trans (Cg.of_eq ?_)
   rw [df,← za5]
   exact zR fun i _=>by grind
  refine h1.trans ?_
  rw [zdX]
  have h2:Cg p (sm N fun i=>sm kH.length fun x=>gl l i*(gl (Tp p kH i) x*a.1 ^ x)) (sm N fun i=>a.2*(gl l i*a.1 ^ i)):=zby fun i _=>by
   rw [za5]
   have e1:Cg p (sm kH.length fun x=>gl (Tp p kH i) x*a.1 ^ x) (zn p a.1 (Tp p kH i)):=(zaR (by unfold Tp; rw [zcQ hp hP]; exact af _)).symm
   have e2:Cg p (zn p a.1 (Tp p kH i)) (a.1 ^ i*a.2):=by
    unfold Tp
    rw [zmk hp hP (unit i) ha]
    exact (Cg.emod _ _).trans ((zjg i).mul (Cg.refl p _))
   exact ((Cg.refl p (gl l i)).mul (e1.trans e2)).trans (Cg.of_eq (by grind))
  refine h2.trans ?_
  rw [za5]
  refine ((Cg.refl p a.2).mul (zaR hl).symm).trans ((Cg.of_eq (df _ _)).trans (Cg.emod _ _).symm)
 have DV:C=thr p (tmP p l kH):=zhr hp (zcy p0 hP) (by unfold tmP; rw [ab]; exact hCl) hCr fun a ha=>by
  obtain⟨b,hb,rfl⟩:=aB.mp ha
  exact vZ b hb
 rw [← DV]
 by_cases hx:x < kH.length
 ·rw [hCg x hx]
  exact Cg.emod _ _
 ·rw [zaQ (by lia)]
  refine Cg.of_eq (zaC fun i _=>?_).symm
  rw [zaQ (w:=Tp p kH i) (by unfold Tp; rw [zcQ hp hP]; lia),bV]
theorem zcR {a b:List Int} (x:Nat):gl (a++b) x=if x < a.length then gl a x else gl b (x - a.length):=by
 unfold gl
 rw [aN,aN,aN]
 by_cases h:x < a.length
 ·rw [if_pos h,bD h]
 ·rw [if_neg h,bu (by lia)]
theorem ziw {a:List Int} (m x:Nat):gl (a.drop m) x=gl a (m+x):=by
 unfold gl
 rw [aN,aN,er]
theorem zix {p:Int} (hp:p∈zm) {c:Nat→Int} {N m:Nat}:∀ {kJ:List (List (Int×Int))},(∀ kH∈kJ,Pts p kH) →
  ((∀ x,Cg p (sm N fun i=>c i*gl (bey m (kJ.map fun kH=>Tp p kH i)) x) 0)↔∀ kH∈kJ,∀ y,m≤y→Cg p (sm N fun i=>c i*gl (Tp p kH i) y) 0)
 | [],_=>by
  refine⟨fun _ kH h=>by (cases h),fun _ x=>Cg.of_eq (zaC fun i _=>?_)⟩
  show c i*gl [] x=0
  rw [zaQ (bb _),bV]
 | kH :: kJ,hP=>by
  have ih:=zix hp (c:=c) (N:=N) (m:=m) (kJ:=kJ) fun q hq=>hP q (aw _ hq)
  have hl:∀ i,((Tp p kH i).drop m).length=kH.length - m:=fun i=>by
   rw [bS]
   unfold Tp
   rw [zcQ hp (hP kH aF)]
  have hb:∀ i x,gl (bey m ((kH :: kJ).map fun kH=>Tp p kH i)) x=if x < kH.length - m then gl (Tp p kH i) (m+x) else gl (bey m (kJ.map fun kH=>Tp p kH i)) (x - (kH.length - m)):=fun i x=>by
   have:bey m ((kH :: kJ).map fun kH=>Tp p kH i)=(Tp p kH i).drop m++bey m (kJ.map fun kH=>Tp p kH i):=rfl
   rw [this,zcR,hl,ziw]
  constructor
  ·intro h q hq y hy
   rcases (aE.mp hq) with rfl | hq
   ·by_cases hyl:y < q.length
    ·have:=h (y - m)
     refine Cg.trans (Cg.of_eq (zR fun i _=>?_)) this
     rw [hb,if_pos (by lia),show m+(y - m)=y by lia]
    ·refine Cg.of_eq (zaC fun i _=>?_)
     rw [zaQ (by unfold Tp; rw [zcQ hp (hP q aF)]; lia),bV]
   ·refine ih.mp (fun x=>?_) q hq y hy
    have:=h (kH.length - m+x)
    refine Cg.trans (Cg.of_eq (zR fun i _=>?_)) this
    rw [hb,if_neg (by lia),show kH.length - m+x - (kH.length - m)=x by lia]
  ·intro h x
   by_cases hx:x < kH.length - m
   ·have:=h kH aF (m+x) (by lia)
    refine Cg.trans (Cg.of_eq (zR fun i _=>?_)) this
    rw [hb,if_pos hx]
   ·have:=ih.mpr (fun q hq=>h q (aw _ hq)) (x - (kH.length - m))
    refine Cg.trans (Cg.of_eq (zR fun i _=>?_)) this
    rw [hb,if_neg hx]
def Good (p:Int) (k e:Nat) (kJ:List (List (Int×Int))) (l:List Int):Prop:=∀ kH∈kJ,∃ right,IsP p (k+e) right∧∀ a∈kH,zn p a.1 right=zn p a.1 l*a.2 % p
theorem zkI (q:List Int) (m x:Nat):gl (szd q m) x=if x < m then gl q x else 0:=by
 unfold szd
 by_cases h:x < m
 ·rw [if_pos h]
  unfold gl
  rw [aN,cC h,← aN]
  show gl (q++aj m 0) x=_
  rw [zcR]
  split
  ·rfl
  ·show gl (aj m 0) _=q.getD x 0
   rw [show q.getD x 0=gl q x from rfl,zaQ (w:=q) (by lia)]
   unfold gl
   rw [aN,cH]
   split <;> rfl
 ·rw [if_neg h]
  exact zaQ (by rw [aJ]; lia)
theorem ziy {p:Int} (p0:0 < p) {q:List Int} (hq:∀ c∈q,0≤c∧c < p) (m:Nat):IsP p m (szd q m):=by
 unfold szd
 refine⟨by rw [aJ,ar,aL]; lia,fun c hc=>?_⟩
 rcases aP.mp (dU hc) with h | h
 ·exact hq c h
 ·rw [dg h]; lia
theorem zgG {p:Int} (p0:0 < p) {q:List Int} {m:Nat} (hz:∀ y,m≤y→gl q y=0) (x:Int):zn p x (szd q m)=zn p x q:=by
 refine Cg.eq ?_ (zas p0 _) (zat p0 _) (zas p0 _) (zat p0 _)
 refine (zaR (n:=q.length+m) (by unfold szd; rw [aJ,ar,aL]; lia)).trans (Cg.trans (Cg.of_eq (zR fun i _=>?_)) (zaR (n:=q.length+m) (by lia)).symm)
 rw [zkI]
 by_cases h:i < m
 ·rw [if_pos h]
 ·rw [if_neg h,hz i (by lia)]
theorem zkJ {p:Int} (hp:p∈zm) {k e:Nat} {kH:List (Int×Int)} (hP:Pts p kH) {l:List Int} (hz:∀ y,k+e≤y→gl (thr p (tmP p l kH)) y=0) :
  IsP p (k+e) (szd (thr p (tmP p l kH)) (k+e))∧∀ a∈kH,zn p a.1 (szd (thr p (tmP p l kH)) (k+e))=zn p a.1 l*a.2 % p:=by
 have rp:=zo hp
 refine⟨ziy (by lia) (zkH hp hP l) _,fun a ha=>?_⟩
 rw [zgG (by lia) hz]
 exact zmk hp hP l ha
theorem zjh {p:Int} (hp:p∈zm) {k e:Nat} {kH:List (Int×Int)} (hP:Pts p kH) {l right:List Int} (hr:IsP p (k+e) right) (vZ:∀ a∈kH,zn p a.1 right=zn p a.1 l*a.2 % p) (y:Nat) (hy:k+e≤y):gl (thr p (tmP p l kH)) y=0:=by
 have rp:=zo hp
 by_cases hyl:y < kH.length
 ·have e1:right++aj (kH.length - (k+e)) 0=thr p (tmP p l kH):=zhr hp (zcy (by lia) hP) (by unfold tmP; rw [ab,ar,aL,hr.1]; lia) (fun c hc=>by
   rcases aP.mp hc with h | h
   ·exact hr.2 c h
   ·rw [dg h]; lia) fun a ha=>by
    obtain⟨b,hb,rfl⟩:=aB.mp ha
    rw [zgb]
    exact vZ b hb
  rw [← e1,zcR,hr.1,if_neg (by lia)]
  unfold gl
  rw [aN,cH]
  split <;> rfl
 ·exact zaQ (by rw [zcQ hp hP]; lia)
def za6 (p:Int) (k e:Nat) (kJ:List (List (Int×Int))):List (List Int):=(aD (e+1)).map fun i=>bey (k+e) (kJ.map fun kH=>Tp p kH i)
theorem zlP {p:Int} {k e:Nat} {kJ:List (List (Int×Int))} {i:Nat} (hi:i < e+1) (x:Nat):vx (za6 p k e kJ) i x=gl (bey (k+e) (kJ.map fun kH=>Tp p kH i)) x:=by
 unfold vx za6
 rw [aN,ag,bR hi]
 rfl
theorem zdY {p:Int} (hp:p∈zm) {m i:Nat}:∀ {kJ:List (List (Int×Int))},(∀ kH∈kJ,Pts p kH)→(bey m (kJ.map fun kH=>Tp p kH i)).length=(kJ.map fun kH=>kH.length - m).sum
 | [],_=>rfl
 | kH :: kJ,hP=>by
  have:bey m ((kH :: kJ).map fun kH=>Tp p kH i)=(Tp p kH i).drop m++bey m (kJ.map fun kH=>Tp p kH i):=rfl
  rw [this,ar,zdY hp fun q hq=>hP q (aw _ hq),bS,bd,fK]
  unfold Tp
  rw [zcQ hp (hP kH aF)]
def zcl (k e:Nat) (kJ:List (List (Int×Int))):Nat:=(kJ.map fun kH=>kH.length - (k+e)).sum
theorem zlQ {p:Int} (hp:p∈zm) {k e:Nat} {kJ:List (List (Int×Int))} (hP:∀ kH∈kJ,Pts p kH):∀ v∈za6 p k e kJ,v.length=zcl k e kJ∧∀ c∈v,0≤c∧c < p:=fun v hv=>by
 obtain⟨i,_,rfl⟩:=aB.mp hv
 refine⟨zdY hp hP,fun c hc=>?_⟩
 obtain⟨r,hr,hcr⟩:=dB.mp hc
 obtain⟨kH,lx,rfl⟩:=aB.mp hr
 exact zkH hp (hP kH lx) _ c (fY hcr)
theorem zml {p:Int} (hp:p∈zm) {k e:Nat} {kJ:List (List (Int×Int))} (hP:∀ kH∈kJ,Pts p kH) {c:Nat→Int} :
  (∀ x,x < zcl k e kJ→Cg p (sm (za6 p k e kJ).length fun i=>c i*vx (za6 p k e kJ) i x) 0)↔∀ kH∈kJ,∀ y,k+e≤y→Cg p (sm (e+1) fun i=>c i*gl (Tp p kH i) y) 0:=by
 have hn:(za6 p k e kJ).length=e+1:=by unfold za6; rw [ab,aW]
 rw [hn,← zix hp hP]
 have hs:∀ x,sm (e+1) (fun i=>c i*vx (za6 p k e kJ) i x)=sm (e+1) fun i=>c i*gl (bey (k+e) (kJ.map fun kH=>Tp p kH i)) x:=fun x=>zR fun i hi=>by rw [zlP hi]
 constructor
 ·intro h x
  by_cases hx:x < zcl k e kJ
  ·rw [← hs]; exact h x hx
  ·refine Cg.of_eq (zaC fun i _=>?_)
   rw [zaQ (by rw [zdY hp hP]; exact jU hx),bV]
 ·intro h x _
  rw [hs]
  exact h x
theorem zkK {p:Int} (hp:p∈zm) {k e:Nat} {kJ:List (List (Int×Int))} (hP:∀ kH∈kJ,Pts p kH) (hI:Indep p (zcl k e kJ) (za6 p k e kJ)) {l:List Int} (hl:IsP p (e+1) l) (hg:Good p k e kJ l):∀ i,gl l i=0:=by
 have rp:=zo hp
 have hn:(za6 p k e kJ).length=e+1:=by unfold za6; rw [ab,aW]
 intro i
 by_cases hi:i < e+1
 ·have h:=hI (gl l) ((zml hp hP).mpr fun kH lx y hy=>?_) i (by lia)
  ·obtain⟨g0,g1⟩:=zb2 (show 0 < p by lia) hl.2 i
   exact h.eq g0 g1 (bU _) (by lia)
  ·obtain⟨right,h1,h2⟩:=hg kH lx
   refine (ziv hp (hP kH lx) (by rw [hl.1]; exact af _) y).symm.trans (Cg.of_eq ?_)
   exact zjh hp (hP kH lx) h1 h2 y hy
 ·exact zaQ (by rw [hl.1]; lia)
theorem zkL {p:Int} (hp:p∈zm) {k e:Nat} {kJ:List (List (Int×Int))} (hP:∀ kH∈kJ,Pts p kH) {c:List Int} (hc:c.length≤e+1) (hD:Dep p (zcl k e kJ) (za6 p k e kJ) c):∀ kH∈kJ,∀ y,k+e≤y→gl (thr p (tmP p c kH)) y=0:=fun kH lx y hy=>by
 have rp:=zo hp
 have h:=(zml hp hP).mp hD kH lx y hy
 obtain⟨g0,g1⟩:=zb2 (show 0 < p by lia) (zkH hp (hP kH lx) c) y
 exact ((ziv hp (hP kH lx) hc y).trans h).eq g0 g1 (bU _) (by lia)
theorem zkM {p:Int} (hp:p∈zm) {k e n:Nat} {kJ:List (List (Int×Int))} (hn:∀ kH∈kJ,kH.length≤n) (hI:Indep p (zcl k e kJ) (za6 p k e kJ)):k+e < n:=by
 have rp:=zo hp
 refine Nat.lt_of_not_le fun h=>?_
 have h0:zcl k e kJ=0:=by
  unfold zcl
  refine List.sum_eq_zero_iff_forall_eq_nat.mpr fun x hx=>?_
  obtain⟨kH,lx,rfl⟩:=aB.mp hx
  have:=hn kH lx
  lia
 have hl:(za6 p k e kJ).length=e+1:=by unfold za6; rw [ab,aW]
 have:=hI (fun _=>1) (fun x hx=>by lia) 0 (by lia)
 have:=this.eq (by lia) (by lia) (bU _) (by lia)
 lia
structure LocOk (p:Int) (k:Nat) (kJ:List (List (Int×Int))) (e:Nat) (left:List Int) (kW:List (List Int)):Prop where
 lf:IsP p (e+1) left
 nz:∃ i,gl left i≠0
 rt:kW=kJ.map fun kH=>szd (thr p (tmP p left kH)) (k+e)
 ok:∀ kH∈kJ,IsP p (k+e) (szd (thr p (tmP p left kH)) (k+e))∧∀ a∈kH,zn p a.1 (szd (thr p (tmP p left kH)) (k+e))=zn p a.1 left*a.2 % p
 mn:∀ e',e' < e→∀ l,IsP p (e'+1) l→Good p k e' kJ l→∀ i,gl l i=0
theorem zlR {p:Int} (p0:0 < p) {c:List Int} {m:Nat} (hc:c.length≤m) (kH:List (Int×Int)):tmP p (szd c m) kH=tmP p c kH:=by
 unfold tmP
 refine cv fun a _=>?_
 rw [zgG p0 fun y hy=>zaQ (by lia)]
theorem znd {p:Int} (hp:p∈zm) {k e:Nat} {kJ:List (List (Int×Int))} (hP:∀ kH∈kJ,Pts p kH) {c:List Int} {m:Nat} (hc:IsP p (m+1) c) (hm:m < e+1) (h1:gl c m=1) (hD:Dep p (zcl k e kJ) (za6 p k e kJ) c)
  (tR:∀ e',e' < e→Indep p (zcl k e' kJ) (za6 p k e' kJ)):LocOk p k kJ e (szd c (e+1)) (kJ.map fun kH=>szd (thr p (tmP p (szd c (e+1)) kH)) (k+e)):=by
 have rp:=zo hp
 have qW:c.length≤e+1:=by rw [hc.1]; lia
 refine⟨ziy (by lia) hc.2 _,⟨m,by rw [zkI,if_pos hm,h1]; decide⟩,rfl,fun kH lx=>?_,fun e' uG l hl hg=>zkK hp hP (tR e' uG) hl hg⟩
 refine zkJ hp (hP kH lx) fun y hy=>?_
 rw [zlR (by lia) qW]
 exact zkL hp hP qW hD kH lx y hy
theorem zbo.put {H:Hp} {rs:List Addr} {qs:List (List Int)} {f:Addr} {xs:List V} {o:HO} (h:zbo H rs qs) (hf:H f=some (.lst xs)):zbo (kL H f o) rs qs:=bq (fun a q z=>by
 have:a≠f:=fun e=>by rw [e,hf] at z; cases z
 show kL H f o a=_
 rw [zq this]
 exact z) h
def zdJ (n:Nat) (H:Hp):List Addr→List (List (Option Int))→Prop:=Paired fun b rw=>H b=some (.lst (rw.map lL))∧rw.length=n
theorem zdJ.same {n:Nat} {H H':Hp} (s:zu H H') {bs:List Addr} {rws:List (List (Option Int))} (h:zdJ n H bs rws):zdJ n H' bs rws:=bq (fun _ _ ⟨z,z'⟩=>⟨s _ _ z,z'⟩) h
def zfP (H:Hp):List Addr→List (List (Int×Int))→Prop:=Paired fun b kH=>∃ bs,H b=some (.lst (bs.map V.ref))∧PtB H bs kH
theorem zfP.same {H H':Hp} (s:zu H H') {bs:List Addr} {kJ:List (List (Int×Int))} (h:zfP H bs kJ):zfP H' bs kJ:=bq (fun _ _ ⟨bs,z,z'⟩=>⟨bs,s _ _ z,z'.same s⟩) h
def NdA (p:Int) (kJ:List (List (Int×Int))) (na:Addr) (H:Hp):List Addr→List Nat→Prop:=Paired fun b i=>∃ us,H b=some (.lst (us.map V.ref))∧b≠na∧zbo H us (kJ.map fun kH=>Tp p kH i)
theorem NdA.same {p:Int} {kJ:List (List (Int×Int))} {na:Addr} {H H':Hp} (s:zu H H') {bs:List Addr} {is:List Nat} (h:NdA p kJ na H bs is):NdA p kJ na H' bs is:=bq (fun _ _ ⟨us,z,z',z2⟩=>⟨us,s _ _ z,z',z2.same s⟩) h
theorem NdA.put {p:Int} {kJ:List (List (Int×Int))} {na:Addr} {H:Hp} {bs:List Addr} {is:List Nat} {xs:List V} {o:HO} (h:NdA p kJ na H bs is) (hf:H na=some (.lst xs)):NdA p kJ na (kL H na o) bs is:=bq (fun _ _ ⟨us,z,z',z2⟩=>⟨us,by rw [zq z']; exact z,z',z2.put hf⟩) h
theorem zhv {α:Type} {f:α→Nat} {b:Nat}:∀ {l:List α},(∀ x∈l,f x≤b)→(l.map f).sum≤l.length*b
 | [],_=>by simp
 | x :: l,h=>by
  have ih:=zhv (f:=f) (b:=b) (l:=l) fun y hy=>h y (aw _ hy)
  have:=h x aF
  rw [bd,fK,cD,fi]
  lia
def zds (K:ah):Sp:=fun vs H Q _=>∃ (c tt ra:Addr) (p:Int) (k:Nat) (pl:List Int) (k7:List Addr) (rws:List (List (Option Int))),vs = [.ref c,.ref ra]∧za4 H c tt p k pl∧kG K H ra (k7.map V.ref)∧zdJ pl.length H k7 rws∧rws.length≤10∧pl.length≤16∧p∈zm∧pl.Nodup∧(∀ x∈pl,0≤x∧x < p)∧(∀ rw∈rws,∀ z,some z∈rw→0≤z∧z < p)∧1≤k∧k≤100 ∧
 ∀ (z la l3:Addr) (us:List Addr) (e:Nat) (left:List Int) (kW:List (List Int)) (H':Hp),zu H H'→H' z=some (.tup [.int (e:Int),.ref la,.ref l3])→H' la=some (.tup (left.map V.int))→H' l3=some (.lst (us.map V.ref))→zbo H' us kW→e≤16→LocOk p k (rws.map (lh pl)) e left kW→Q (.ref z) H'
def zeS (K:ah):Sp:=fun vs H Q _=>∃ (c tt r:Addr) (p:Int) (k:Nat) (pl:List Int) (rw:List (Option Int)),vs = [.ref c,.ref r]∧za4 H c tt p k pl∧H r=some (.lst (rw.map lL))∧rw.length=pl.length∧pl.length≤16∧p∈zm∧pl.Nodup∧(∀ x∈pl,0≤x∧x < p)∧(∀ z,some z∈rw→0≤z∧z < p)∧1≤k∧k≤100 ∧
 ∀ (z la rb:Addr) (e:Nat) (left right:List Int) (H':Hp),zu H H'→H' z=some (.tup [.int (e:Int),.ref la,.ref rb])→H' la=some (.tup (left.map V.int))→H' rb=some (.tup (right.map V.int))→e≤16→LocOk p k [lh pl rw] e left [right]→Q (.ref z) H'
end My
end
section
namespace L2
open PySem PySem.Spec PyProof.Rows
end L2
end
section
namespace L2
open PySem PySem.Spec PyProof.Rows
theorem zhw {prog:Program} {w:World} {A:Around} {E:Value→Shared→Prop} {s:Shared} {l:Addr} {xs:Array (Int×Tok)} {Q:Value→Shared→Prop} (hh:A.handled=none) (hl:s.heap.IsTuple l (intItems xs)) (lA:0 < xs.size) (h:∀ v h' tk,(intItems xs)[argBest (fun i j=>decide (numAt xs i > numAt xs j)) (xs.size - 1)]? = some v→(∀ b o,s.heap.get? b=some o→h'.get? b=some o)→Q v { s with heap:=h',toks:=tk }):wpAny (model prog w) A (call (.builtin "max") [.ref l]) Q E s:=by
 have lp:l < s.heap.objs.size:=by (obtain⟨_,e,_⟩:=hl; exact aG e)
 refine call_max_walk (ff hl ?_)
 refine⟨_,[s.heap.objs.size,l],[s.heap.objs.size],_,_,_,_,rfl,Walks.tuple (A:=A.in1) hh _ l (bi lp) (intItems xs),⟨⟨_,aI _ rfl,rfl,rfl⟩,hl.push _⟩,fun c hc=>?_,by simpa [intItems] using lA,CmpOf.ints_gt (numAt xs) (fun _ _=>intItems_at),fun v h' tk hP hk=>?_⟩
 ·show c < (s.heap.push _).objs.size
  rw [bI]
  rcases (aE.mp hc) with e | hc
  ·(rw [e]; exact fL _)
  ·rw [aU.mp hc]; exact dO lp
 ·refine h v h' tk (by simpa [intItems] using hP) fun b o e=>hk b o (fun hm=>?_) (ai _ e)
  have:=aG e
  rw [aU.mp hm] at this
  exact bY _ this
theorem zji {X:Cx} (hc:X.calm=true):zbC X (.builtin "max") (fun xs H Q=>∃ (p:Addr) (ns:List Int),xs = [.ref p]∧kP X.K H p (ns.map V.int)∧ns≠[]∧∀ M:Int,M∈ns→(∀ a∈ns,a≤M)→Q (.int M) H):=by
 intro kE s σ H xs us Q I r h
 obtain⟨p,ns,rfl,hq,hn,q⟩:=h
 obtain⟨u,rfl,rx⟩:=vals1 r
 cases rx
 obtain⟨kK,rv,pl,hz⟩:=I.tuple hq
 have hi:IntsAre kK ns:=by simpa using intsAre_of rv
 (obtain⟨xs,e⟩:=hi.allInts.items)
 have xP:ns=xs.toList.map (·.1):=by rw [← hi.numsOf,← nums_intItems,← e]
 have hsz:0 < xs.size:=by
  have h3:=eX.mpr hn
  rw [xP,ab,bv] at h3
  exact h3
 have hl:s.heap.IsTuple p kK.toArray:=pl
 rw [e] at hl
 refine zhw (I.ok.hd hc) hl hsz fun v h' tk hv hk=>?_
 (obtain⟨t,rfl⟩:=intItems_at hv)
 (obtain⟨h1,h2⟩:=argBest_gt (numAt xs) (xs.size - 1))
 refine⟨.int _,H,I.kept hk,⟨_,rfl⟩,q _ ?_ fun a ha=>?_⟩
 ·(rw [xP,numAt_eq]; exact getD_mem (by rw [ab,bv]; lia))
 ·rw [xP] at ha
  (obtain⟨j,hj,rfl⟩:=mem_getD ha)
  (rw [ab,bv] at hj)
  (rw [← numAt_eq]; exact h2 j (by lia))
end L2
end
section
namespace My
open PySem L2 PyProof.Rows
theorem zeA {S:List Nat}:∀ {l:List Nat},l.Nodup→l.length≤(l.filter fun i=>decide (i∉S)).length+S.length:=by
 induction S with
 | nil =>
  intro l _
  rw [List.filter_eq_self.mpr (by simp)]
  exact af _
 | cons a S ih =>
  intro l hl
  have h1:=ih hl
  have h2:l.filter (fun i=>decide (i∉a :: S))=(l.filter fun i=>decide (i∉S)).filter (fun i=>i != a):=by
   rw [List.filter_filter]
   refine List.filter_congr fun i _=>?_
   by_cases e:i=a <;> by_cases e2:i∈S <;> simp [e,e2]
  have h3:=List.Nodup.erase_eq_filter (hl.filter fun i=>decide (i∉S)) a
  have h4:(l.filter fun i=>decide (i∉S)).length≤((l.filter fun i=>decide (i∉S)).erase a).length+1:=by
   rw [List.length_erase]
   split <;> lia
  rw [h2,← h3,cD]
  lia
theorem zdc {f:Nat→Int} (m:Nat):∀ n,sm (m+n) f=sm m f+sm n fun j=>f (m+j)
 | 0=>by show sm m f=sm m f+0; lia
 | n+1=>by
  show sm (m+n) f+f (m+n)=sm m f+(sm n (fun j=>f (m+j))+f (m+n))
  rw [zdc m n]
  lia
end My
end
section
namespace My
open PySem L2 PyProof.Rows
theorem zeB {p z:Int} (f:List Int):∀ i,Cg p (zn p z (aj i 0++f)) (z ^ i*zn p z f)
 | 0=>Cg.of_eq (by rw [jy,gn]; rfl)
 | i+1=>by
  have h:Cg p (zn p z (aj (i+1) 0++f)) (0+z*zn p z (aj i 0++f)):=zP p z 0 _
  refine h.trans (((Cg.refl p 0).add ((Cg.refl p z).mul (zeB f i))).trans (Cg.of_eq ?_))
  rw [f8]
  grind
def zgH (f left:List Int) (n N:Nat):List Int:=(aD n).map fun t=>sm N fun i=>gl left i*gl (aj i 0++f) t
theorem zne {p z:Int} {f left:List Int} {k e:Nat} (hf:f.length≤k) (hl:left.length≤e+1):Cg p (zn p z (zgH f left (k+e) (e+1))) (zn p z left*zn p z f):=by
 have hC:(zgH f left (k+e) (e+1)).length=k+e:=by unfold zgH; rw [ab,aW]
 have hg:∀ t,t < k+e→gl (zgH f left (k+e) (e+1)) t=sm (e+1) fun i=>gl left i*gl (aj i 0++f) t:=fun t ht=>za9 (by unfold zgH; rw [ag,bR ht]; rfl)
 refine (zaR (n:=k+e) (by lia)).trans ?_
 have h1:sm (k+e) (fun t=>gl (zgH f left (k+e) (e+1)) t*z ^ t)=sm (k+e) fun t=>sm (e+1) fun i=>gl left i*(gl (aj i 0++f) t*z ^ t):=zR fun t ht=>by
  rw [hg t ht,df,← za5]
  exact zR fun i _=>by grind
 rw [h1,zdX]
 have h2:Cg p (sm (e+1) fun i=>sm (k+e) fun t=>gl left i*(gl (aj i 0++f) t*z ^ t)) (sm (e+1) fun i=>zn p z f*(gl left i*z ^ i)):=zby fun i hi=>by
  rw [za5]
  have e1:Cg p (sm (k+e) fun t=>gl (aj i 0++f) t*z ^ t) (zn p z (aj i 0++f)):=(zaR (by rw [ar,aL]; lia)).symm
  exact ((Cg.refl p (gl left i)).mul (e1.trans (zeB f i))).trans (Cg.of_eq (by grind))
 refine h2.trans ?_
 rw [za5]
 exact ((Cg.refl p _).mul (zaR hl).symm).trans (Cg.of_eq (df _ _))
theorem zfj {p z:Int}:∀ q:List Int,Cg p (zn p z (q.map (· % p))) (zn p z q)
 | []=>Cg.refl _ _
 | c :: q=>(zP p z (c % p) _).trans (((Cg.emod p c).add ((Cg.refl p z).mul (zfj q))).trans (zP p z c q).symm)
theorem zgI {p z:Int}:∀ {q:List Int},(∀ c∈q,Cg p c 0)→Cg p (zn p z q) 0
 | [],_=>Cg.refl _ _
 | c :: q,h=>(zP p z c q).trans (((h c aF).add ((Cg.refl p z).mul (zgI fun d hd=>h d (aw _ hd)))).trans (Cg.of_eq (by lia)))
def zgJ (z:Int):List Int→Int
 | []=>1
 | x :: xs=>(z - x)*zgJ z xs
theorem zeC {z:Int}:∀ {xs:List Int},z∈xs→zgJ z xs=0
 | [],h=>by cases h
 | x :: xs,h=>by
  show (z - x)*zgJ z xs=0
  rcases (aE.mp h) with rfl | h
  ·rw [Int.sub_self,cf]
  ·rw [zeC h,bV]
theorem zgK {p z:Int} (hp:p∈zm) (hz:0≤z∧z < p):∀ {xs:List Int},(∀ x∈xs,0≤x∧x < p∧x≠z)→¬ Cg p (zgJ z xs) 0
 | [],_,h=>by
  have rp:=zo hp
  have:=Cg.eq (a:=1) (b:=0) h (by lia) (by lia) (by lia) (by lia)
  lia
 | x :: xs,hx,h=>by
  have rp:=zo hp
  obtain⟨x0,x1,xz⟩:=hx x aF
  rcases zdB hp h with h | h
  ·have h2:Cg p z x:=by
    have:=h.add (Cg.refl p x)
    exact (Cg.of_eq (by lia)).trans (this.trans (Cg.of_eq (by lia)))
   exact xz (h2.eq hz.1 hz.2 x0 x1).symm
  ·exact zgK hp hz (fun y hy=>hx y (aw _ hy)) h
def zdF (p:Int):List Int→List Int
 | []=>[1]
 | x :: xs=>zci p x (zdF p xs)
theorem zfQ {p z:Int}:∀ xs:List Int,Cg p (zn p z (zdF p xs)) (zgJ z xs)
 | []=>by
  have h:Cg p (zn p z [1]) (1+z*0):=zP p z 1 []
  exact h.trans (Cg.of_eq (by show 1+z*0=1; lia))
 | x :: xs=>(zhV _).trans ((Cg.refl p _).mul (zfQ xs))
theorem zgL {p:Int} (hp:p∈zm):∀ xs:List Int,IsP p (xs.length+1) (zdF p xs)
 | []=>⟨rfl,fun c hc=>by
  have rp:=zo hp
  obtain rfl:c=1:=by simpa [zdF] using hc
  lia⟩
 | x :: xs=>by
  have rp:=zo hp
  exact⟨by show (zci p x (zdF p xs)).length=_; rw [zdl,(zgL hp xs).1]; rfl,zjV (by lia) _⟩
end My
end
section
namespace My
open PySem L2 PyProof.Rows
def top (i:Nat):Stmt:=PySem.Challenge.pw_slipcurve_k26_whole_locators_together.main.body.getD i (.Pass ⟨0,0,0,0⟩)
abbrev zb3:Stmt:=top 1
abbrev zcz:Stmt:=top 2
abbrev za7:Stmt:=top 3
abbrev zeD:Stmt:=top 4
abbrev zcA:Stmt:=top 5
abbrev zaM:Stmt:=top 10
abbrev zeE:Stmt:=top 11
abbrev zbt:Stmt:=top 13
abbrev zaS:Stmt:=top 14
abbrev zbz:Stmt:=top 15
abbrev zbP:Stmt:=top 17
abbrev zal:Stmt:=top 18
abbrev zbA:Stmt:=top 20
abbrev za8:Stmt:=top 21
abbrev zaE:Stmt:=top 22
abbrev s_beyond:Stmt:=top 23
abbrev zdZ:Stmt:=top 24
abbrev z6:Stmt:=top 25
abbrev zbs:Stmt:=top 27
abbrev zdd:Stmt:=top 29
abbrev zcB:Stmt:=top 30
abbrev zcC:Stmt:=top 31
abbrev zcm:Stmt:=top 32
abbrev zcD:Stmt:=top 33
abbrev zbm:Stmt:=top 34
abbrev zb4:Stmt:=top 35
abbrev zbE:Stmt:=top 36
abbrev zcn:Stmt:=top 37
abbrev zaN:Stmt:=top 38
abbrev zcE:Stmt:=top 39
abbrev zbQ:Stmt:=top 40
structure Adr where
 SlipError:Addr
 TooFew:Addr
 value_at:Addr
 inverse:Addr
 times_root:Addr
 bent:Addr
 through:Addr
 heard_points:Addr
 fits:Addr
 choices:Addr
 all_through:Addr
 all_near:Addr
 without:Addr
 first_relation:Addr
 heard_at:Addr
 joint_near:Addr
 times_entries:Addr
 beyond:Addr
 sized:Addr
 joint_locator:Addr
 locator_of:Addr
 l_cell:Addr
 l_draws:Addr
 l_whole:Addr
 l_code:Addr
 l_value:Addr
 l_rank:Addr
 l_powers:Addr
 l_can:Addr
 l_rows:Addr
 l_polynomial:Addr
 l_right:Addr
 law:Addr
structure Txt (K:ah) (mg:Str→Option Value) (t:Adr):Prop where
 len_:mg "len" = none
 range_:mg "range" = none
 list_:mg "list" = none
 tuple_:mg "tuple" = none
 min_:mg "min" = none
 max_:mg "max" = none
 isinstance_:mg "isinstance" = none
 int_:mg "int" = none
 bool_:mg "bool" = none
 zip_:mg "zip" = none
 enumerate_:mg "enumerate" = none
 reversed_:mg "reversed" = none
 sorted_:mg "sorted" = none
 ValueError_:mg "ValueError" = none
 x_SlipError:mg "SlipError" = some (.ref t.SlipError)
 x_TooFew:mg "TooFew" = some (.ref t.TooFew)
 sb:i5 K t.SlipError (.type "BaseException")=some true
 m_value_at:mg "value_at" = some (.ref t.value_at)
 m_inverse:mg "inverse" = some (.ref t.inverse)
 m_times_root:mg "times_root" = some (.ref t.times_root)
 m_bent:mg "bent" = some (.ref t.bent)
 m_through:mg "through" = some (.ref t.through)
 m_heard_points:mg "heard_points" = some (.ref t.heard_points)
 m_fits:mg "fits" = some (.ref t.fits)
 m_choices:mg "choices" = some (.ref t.choices)
 m_all_through:mg "all_through" = some (.ref t.all_through)
 m_all_near:mg "all_near" = some (.ref t.all_near)
 m_without:mg "without" = some (.ref t.without)
 m_first_relation:mg "first_relation" = some (.ref t.first_relation)
 m_heard_at:mg "heard_at" = some (.ref t.heard_at)
 m_joint_near:mg "joint_near" = some (.ref t.joint_near)
 m_times_entries:mg "times_entries" = some (.ref t.times_entries)
 m_beyond:mg "beyond" = some (.ref t.beyond)
 m_sized:mg "sized" = some (.ref t.sized)
 m_joint_locator:mg "joint_locator" = some (.ref t.joint_locator)
 m_locator_of:mg "locator_of" = some (.ref t.locator_of)
 m_l_cell:mg "_law_cell" = some (.ref t.l_cell)
 m_l_draws:mg "_law_draws" = some (.ref t.l_draws)
 m_l_whole:mg "_law_whole" = some (.ref t.l_whole)
 m_l_code:mg "_law_code" = some (.ref t.l_code)
 m_l_value:mg "_law_value" = some (.ref t.l_value)
 m_l_rank:mg "_law_rank" = some (.ref t.l_rank)
 m_l_powers:mg "_law_powers" = some (.ref t.l_powers)
 m_l_can:mg "_law_can" = some (.ref t.l_can)
 m_l_rows:mg "_law_rows" = some (.ref t.l_rows)
 m_l_polynomial:mg "_law_polynomial" = some (.ref t.l_polynomial)
 m_l_right:mg "_law_right" = some (.ref t.l_right)
 f_value_at:∃ fd,Fun K "value_at" "value_at" zb3 t.value_at fd∧Binds K fd ["p","polynomial","x"] []
 f_inverse:∃ fd,Fun K "inverse" "inverse" zcz t.inverse fd∧Binds K fd ["p","number"] []
 f_times_root:∃ fd,Fun K "times_root" "times_root" za7 t.times_root fd∧Binds K fd ["p","polynomial","root"] []
 f_bent:∃ fd,Fun K "bent" "bent" zeD t.bent fd∧Binds K fd ["p","polynomial","vanishing","point"] []
 f_through:∃ fd,Fun K "through" "through" zcA t.through fd∧Binds K fd ["p","points"] []
 f_heard_points:∃ fd,Fun K "heard_points" "heard_points" zaM t.heard_points fd∧Binds K fd ["code","row"] []
 f_fits:∃ fd,Fun K "fits" "fits" zeE t.fits fd∧Binds K fd ["code","row","polynomial"] []
 f_choices:∃ fd,Fun K "choices" "choices" zbt t.choices fd∧Binds K fd ["things","many"] []
 f_all_through:∃ fd,Fun K "all_through" "all_through" zaS t.all_through fd∧Binds K fd ["code","points"] []
 f_all_near:∃ fd,Fun K "all_near" "all_near" zbz t.all_near fd∧Binds K fd ["code","row","t"] []
 f_without:∃ fd,Fun K "without" "without" zbP t.without fd∧Binds K fd ["p","vector","times","other"] []
 f_first_relation:∃ fd,Fun K "first_relation" "first_relation" zal t.first_relation fd∧Binds K fd ["p","vectors"] []
 f_heard_at:∃ fd,Fun K "heard_at" "heard_at" zbA t.heard_at fd∧Binds K fd ["row","numbers"] []
 f_joint_near:∃ fd,Fun K "joint_near" "joint_near" za8 t.joint_near fd∧Binds K fd ["code","rows","t"] []
 f_times_entries:∃ fd,Fun K "times_entries" "times_entries" zaE t.times_entries fd∧Binds K fd ["p","left","points"] []
 f_beyond:∃ fd,Fun K "beyond" "beyond" s_beyond t.beyond fd∧Binds K fd ["rights","many"] []
 f_sized:∃ fd,Fun K "sized" "sized" zdZ t.sized fd∧Binds K fd ["polynomial","many"] []
 f_joint_locator:∃ fd,Fun K "joint_locator" "joint_locator" z6 t.joint_locator fd∧Binds K fd ["code","rows"] []
 f_locator_of:∃ fd,Fun K "locator_of" "locator_of" zbs t.locator_of fd∧Binds K fd ["code","row"] []
 f_l_cell:∃ fd,Fun K "_law_cell" "_law_cell" zdd t.l_cell fd∧Binds K fd ["script","k"] []
 f_l_draws:∃ fd,Fun K "_law_draws" "_law_draws" zcB t.l_draws fd∧Binds K fd ["script","k","many","base"] []
 f_l_whole:∃ fd,Fun K "_law_whole" "_law_whole" zcC t.l_whole fd∧Binds K fd ["found"] []
 f_l_code:∃ fd,Fun K "_law_code" "_law_code" zcm t.l_code fd∧Binds K fd ["script","at","most_k","most_n"] []
 f_l_value:∃ fd,Fun K "_law_value" "_law_value" zcD t.l_value fd∧Binds K fd ["p","polynomial","x"] []
 f_l_rank:∃ fd,Fun K "_law_rank" "_law_rank" zbm t.l_rank fd∧Binds K fd ["p","rows"] []
 f_l_powers:∃ fd,Fun K "_law_powers" "_law_powers" zb4 t.l_powers fd∧Binds K fd ["p","x","many"] []
 f_l_can:∃ fd,Fun K "_law_can" "_law_can" zbE t.l_can fd∧Binds K fd ["code","rows","e"] []
 f_l_rows:∃ fd,Fun K "_law_rows" "_law_rows" zcn t.l_rows fd∧Binds K fd ["script","at","code","many"] []
 f_l_polynomial:∃ fd,Fun K "_law_polynomial" "_law_polynomial" zaN t.l_polynomial fd∧Binds K fd ["draws","p","k"] []
 f_l_right:∃ fd,Fun K "_law_right" "_law_right" zcE t.l_right fd∧Binds K fd ["code","rows","e","left","rights"] []
section
variable {P:Program} {w:World} {K:ah} {mg:Str→Option Value} {base:Heap} {t:Adr}
theorem zjj:FnScope ["script","k"] ["script","k"] (zh zdd):=⟨rfl,rfl,rfl,by decide +kernel,rfl,by decide +kernel,by decide +kernel⟩
theorem zjk {fd:FuncData} (T:Txt K mg t) (F:Fun K "_law_cell" "_law_cell" zdd t.l_cell fd):FnOk P w K mg base CX0 1 t.l_cell fd ["script","k"] (ziW K):=by
 refine F.ok zjj (fun vs H Q E h=>?_) (fun ly A outer s H vs Q E hr h=>?_)
 ·obtain⟨a,ns,k,rfl,_⟩:=h; rfl
 ·obtain⟨a,ns,k,rfl,hS,kQ,k0,k1,q⟩:=h
  refine⟨_,#[zd,#[zaJ,#[zy,#[zf1],#[pvx,1],#[zw,#[zr],T.len_,bM,#[za,#[pvx,0],#[ze]]],(zL _)],#[zl,#[zE,#[zM,#[zC],#[pvx,0],#[pvx,1]]]],#[zZ]],#[zd,#[zaJ,#[zy,#[zce],#[zw,#[zr],T.len_,bM,#[za,#[pvx,0],#[ze]]],#[zg],(zL _)],#[zl,#[zE,#[zi,#[zB],#[zi,#[zU],#[zg],#[pvx,1]],#[zg]]]],#[zZ]],#[zl,#[zE,#[zi,#[zB],#[zi,#[zH],#[zM,#[zC],#[pvx,0],#[zi,#[zH],#[pvx,1],#[zw,#[zr],T.len_,bM,#[za,#[pvx,0],#[ze]]]]],#[zg]],#[zi,#[zU],#[zg],#[pvx,1]]]]]]],?_⟩
  refine (kF rfl (kF rfl ⟨a,(kF rfl ⟨.inl hS,(kN rfl rfl (kF rfl ?_))⟩)⟩)); rw [ab]
  refine zaf (fun h=>?_) (fun h=>?_)
  ·have h:k < (ns.length:Int):=by simpa using h
   obtain⟨c,hc⟩:=zc0 k0 h
   exact (kF rfl (kF rfl (ex4 a _ k _ ⟨rfl,rfl,hS,hc,q c⟩)))
  ·have h:¬ k < (ns.length:Int):=by simpa using h
   refine (kF rfl ⟨a,(kF rfl ⟨.inl hS,rfl,(kF rfl ?_)⟩)⟩)
   rw [ab]
   refine zaf (fun h2=>?_) (fun h2=>?_)
   ·exact (kF rfl (kN rfl rfl ⟨.inl ⟨by decide,by decide⟩,(kN rfl rfl (q _))⟩))
   ·have h2:¬ V.int (ns.length:Int)=V.int 0:=by simpa using h2
    have Ak:0 < (ns.length:Int):=by
     have:(ns.length:Int)≠0:=fun z=>h2 (by rw [z])
     lia
    have m0:=aK k (show (ns.length:Int)≠0 by lia)
    have m1:=aC k Ak
    obtain⟨c,hc⟩:=zc0 m0 m1
    refine (kF rfl (kF rfl (kF rfl ⟨a,(kF rfl ⟨.inl hS,(kN rfl rfl ⟨by rw [ab]; exact Ak,a,_,_,_,rfl,rfl,hS,by rw [ab]; exact hc,(kN rfl rfl ⟨(by show (0:Int) < 1000003; decide),?_⟩)⟩)⟩)⟩)))
    exact (kF rfl (kN rfl rfl ⟨.inl ⟨by decide,by decide⟩,(kN rfl rfl (q _))⟩))
theorem zaa:FnScope ["script","k","many","base","primes","cell","rest","row","j","mash"] ["script","k","many","base"] (zh zcB):=⟨rfl,rfl,rfl,by decide +kernel,rfl,by decide +kernel,by decide +kernel⟩
theorem zcS {fd:FuncData} (T:Txt K mg t) (F:Fun K "_law_draws" "_law_draws" zcB t.l_draws fd):FnOk P w K mg base CX0 2 t.l_draws fd ["script","k","many","base"] (zhf K):=by
 obtain⟨sI,qD,oO⟩:=T.f_l_cell
 have ub:=zjk (P:=P) (w:=w) (base:=base) T qD
 refine F.ok zaa (fun vs H Q E h=>?_) (fun ly A outer s H vs Q E hr h=>?_)
 ·obtain⟨a,ns,k,many,base,rfl,_⟩:=h
  rfl
 ·obtain⟨a,ns,k,many,bs,rfl,hS,kQ,k0,k1,m0,m1,b0,b1,q⟩:=h
  refine⟨_,#[zd,#[zp,4,zaa.nd,(au rfl),#[zaK,#[zga,#[zga,#[zga,#[zga,#[zga,#[za,#[zg],#[za,#[zg],#[za,#[zg],#[ze]]]]]]]]]]],#[zd,#[zp,5,zaa.nd,(au rfl),#[zt,ub,(hr.mono (by decide)),T.m_l_cell,qD.kp,oO,#[zO],#[za,#[pvx,0],#[za,#[pvx,1],#[ze]]]]],#[zd,#[zp,6,zaa.nd,(au rfl),#[zg]],#[zd,#[zaJ,#[zy,#[zmb],#[pvx,5],#[zi,(@zmz _),#[zg],#[zg]],(zL _)],#[zl,#[zp,6,zaa.nd,(au rfl),#[pvx,5]]],#[zZ]],#[zd,#[zp,7,zaa.nd,(au rfl),#[z9,#[ze]]],#[zd,#[zam,aX,#[zaF,T.range_,#[za,#[pvx,2],#[ze]]],#[zf,8,zaa.nd,(au rfl)],#[zd,#[zp,9,zaa.nd,(au rfl),#[zi,#[zU],#[zi,#[zH],#[pvx,5],#[zM,#[zbv],#[pvx,4],#[zi,#[zH],#[pvx,8],#[zg]]]],#[zi,#[zB],#[zg],#[zi,#[zU],#[zi,#[zU],#[zg],#[pvx,8]],#[pvx,8]]]]],#[zd,#[zp,9,zaa.nd,(au rfl),#[zi,#[zB],#[zi,#[zB],#[pvx,9],#[zi,#[zU],#[zi,#[zU],#[zg],#[zi,#[zB],#[pvx,8],#[zg]]],#[zi,#[zB],#[pvx,8],#[zg]]]],#[zi,#[zU],#[zg],#[pvx,1]]]],#[zd,#[zp,9,zaa.nd,(au rfl),#[zi,#[zH],#[pvx,9],#[zM,#[zbv],#[pvx,4],#[zi,#[zH],#[zi,#[zB],#[zi,#[zU],#[zg],#[pvx,8]],#[pvx,1]],#[zg]]]]],#[zd,#[zp,9,zaa.nd,(au rfl),#[zi,#[zH],#[zi,#[zU],#[zi,#[zU],#[pvx,9],#[pvx,9]],#[pvx,9]],#[zM,#[zbv],#[pvx,4],#[zi,#[zH],#[zi,#[zB],#[pvx,8],#[zg]],#[zg]]]]],#[zd,#[zaJ,#[zy,#[zf2],#[pvx,6],#[zg],(zL _)],#[zl,#[zp,9,zaa.nd,(au rfl),#[pvx,6]]],#[zZ]],#[zd,#[zbS,#[zdx,bX,cg,ci,#[zbb],#[pvx,7],#[za,#[zi,#[zH],#[pvx,9],#[pvx,3]],#[ze]]]],#[zl,#[zp,6,zaa.nd,(au rfl),#[zi,#[zfn],#[pvx,6],#[pvx,3]]]]]]]]]]],#[zl,#[zE,#[pvx,7]]]]]]]]],?_⟩
  refine⟨by show 8≤sizeLine; rw [a7]; decide,fun tp ht=>?_⟩
  have s1:zu H (kL H tp (.tup zlf)):=zc ht
  refine (kF rfl (kF rfl (ex3 a ns k ⟨rfl,s1.seq hS,kQ,k0,k1,fun c=>?_⟩)))
  refine (kF rfl (kN rfl rfl ⟨⟨by decide,by decide,by decide⟩,(kN rfl rfl (kF rfl ?_))⟩))
  refine zaf (fun _=>(kF rfl ?_)) (fun _=>?_)
  all_goals
   refine⟨bb _,fun l hl=>?_⟩
   have Al:H l=none:=zu.free s1 hl
   have v3:tp≠l:=zJ zb hl
   refine⟨_,rfl,many,rfl,by lia,by lia,zaZ (lo:=0) (n:=many.toNat) (fun i σ H'=>∃ (r:Int) (v8 v9:Option V) (ds:List Int),σ = [some (.ref a),some (.int k),some (.int many),some (.int bs),some (.ref tp),some (.int c),some (.int r),some (.ref l),v8,v9]∧zhZ i bs ds∧zu H H'∧H' tp=some (.tup zlf)∧H' l=some (.lst (ds.map V.int)))
    ⟨_,none,none,[],rfl,⟨rfl,by simp⟩,z0 s1 Al,by rw [zq v3]; exact zb,zb⟩ ?_ ?_⟩
   ·rintro i σ H2 hi ⟨r,v8,v9,ds,rfl,hd,s2,Am,ml⟩
    obtain⟨q1,e1,q1p,q1l⟩:=zej (0+(i:Int))
    obtain⟨q2,e2,q2p,q2l⟩:=zej (3*(0+(i:Int))+k)
    obtain⟨q3,e3,q3p,q3l⟩:=zej (0+(i:Int)+5)
    have c1:=aK c (show q1≠0 by lia)
    have c2:=aC c q1p
    have mW:(i:Int) < 1000:=by lia
    refine (kF rfl (kF rfl (kF rfl (kN rfl rfl ⟨(by show (0:Int) < 8; decide),tp,_,_,_,rfl,rfl,kP.of Am,e1,(kN rfl rfl ⟨q1p,(kF rfl (kN rfl rfl ⟨.inl ⟨by decide,by decide⟩,(kF rfl (kN rfl rfl ⟨.inl ⟨by lia,by lia⟩,(kN rfl rfl (kN rfl rfl ⟨.inl ⟨by lia,by lia⟩,?_⟩))⟩))⟩))⟩)⟩))))
    refine (kF rfl (kF rfl (kN rfl rfl (kN rfl rfl ⟨.inl ⟨by decide,by decide⟩,(kF rfl (kN rfl rfl (kN rfl rfl ⟨.inl ⟨by lia,by lia⟩,(kN rfl rfl (kF rfl (kN rfl rfl ⟨.inl ⟨by decide,by decide⟩,(kN rfl rfl ?_)⟩)))⟩)))⟩))))
    refine (kF rfl (kF rfl (kF rfl (kN rfl rfl ⟨.inl ⟨by decide,by decide⟩,(kF rfl (kN rfl rfl (kN rfl rfl ⟨(by show (0:Int) < 8; decide),tp,_,_,_,rfl,rfl,kP.of Am,e2,(kN rfl rfl ⟨q2p,?_⟩)⟩)))⟩))))
    generalize c % q1*(48271+2*(0+(i:Int))*(0+(i:Int)))+7919*(0+(i:Int)+1)*(0+(i:Int)+1)+104729*k=ms
    have d1:=aK ms (show q2≠0 by lia)
    have d2:=aC ms q2p
    refine (kF rfl (kF rfl (kN rfl rfl ⟨.inl ⟨by lia,by lia⟩,(kF rfl (kN rfl rfl ⟨.inr ⟨by lia,by lia⟩,(kF rfl (kF rfl (kN rfl rfl (kN rfl rfl ⟨(by show (0:Int) < 8; decide),tp,_,_,_,rfl,rfl,kP.of Am,e3,(kN rfl rfl ⟨q3p,?_⟩)⟩))))⟩))⟩)))
    refine (kF rfl (kN rfl rfl (kF rfl ?_)))
    have An:=hd.1
    refine zaf (fun _=>(kF rfl ?_)) (fun _=>?_)
    all_goals
     refine⟨_,rfl,.inl ⟨rfl,_,kG.of ml⟩,_,rfl,_,rfl,_,_,rfl,rfl,b0,l,_,_,rfl,rfl,ml,zaB (by rw [ab]; lia),?_⟩
     refine (kF rfl (kF rfl (kN rfl rfl ⟨⟨b0,b1⟩,?_⟩)))
     refine (ex4 _ _ _ (ds++[_]) ⟨rfl,⟨by rw [ar,An]; rfl,fun d hm=>?_⟩,z0 s2 Al,by rw [zq v3]; exact Am,by rw [zb,aA]; rfl⟩); rcases aP.mp hm with hm | hm
     ·exact hd.2 d hm
     ·have e:=aU.mp hm
      rw [e]
      exact⟨aK _ (by lia),aC _ b0⟩
   ·rintro σ H2 ⟨r,v8,v9,ds,rfl,hd,s2,Am,ml⟩
    exact (kF rfl (q l ds H2 Al s2 hd ml))
theorem zhx:FnScope ["found"] ["found"] (zh zcC):=⟨rfl,rfl,rfl,by decide +kernel,rfl,by decide +kernel,by decide +kernel⟩
theorem zhy {fd:FuncData} (T:Txt K mg t) (F:Fun K "_law_whole" "_law_whole" zcC t.l_whole fd):FnOk P w K mg base CX0 1 t.l_whole fd ["found"] (zhh K):=by
 refine F.ok zhx (fun vs H Q E h=>?_) (fun ly A outer s H vs Q E hr h=>?_)
 ·obtain⟨i,rfl,_⟩:=h
  rfl
 ·obtain⟨i,rfl,q⟩:=h
  refine⟨_,#[zl,#[zE,#[zgZ,#[zw,#[zbj],T.isinstance_,fb,#[za,#[pvx,0],#[za,#[zcT,(.ty "int"),T.int_,boot_int],#[ze]]]],#[zgY,(@zms _ _ _ _ #[zw,#[zbj],T.isinstance_,fb,#[za,#[pvx,0],#[za,#[zcT,(.ty "bool"),T.bool_,boot_bool],#[ze]]]])]]]],?_⟩
  refine (kF rfl (ex4 _ _ _ _ ⟨rfl,.int i,rfl,(kF rfl (zmJ ?_))⟩))
  exact (kF rfl (ex4 _ _ _ _ ⟨rfl,.int i,rfl,(kF rfl q)⟩))
theorem zbc:FnScope ["script","at","most_k","most_n","plan","primes","p","k","many","left"] ["script","at","most_k","most_n"] (zh zcm):=⟨rfl,rfl,rfl,by decide +kernel,rfl,by decide +kernel,by decide +kernel⟩
theorem zjl {fd:FuncData} (T:Txt K mg t) (F:Fun K "_law_code" "_law_code" zcm t.l_code fd):FnOk P w K mg base CX0 3 t.l_code fd ["script","at","most_k","most_n"] (ziX K):=by
 obtain⟨m7,lj,lu⟩:=T.f_l_draws
 have lM:=zcS (P:=P) (w:=w) (base:=base) T lj
 refine F.ok zbc (fun vs H Q E h=>?_) (fun ly A outer s H vs Q E hr h=>?_)
 ·obtain⟨a,ns,at',mk,mn,rfl,_⟩:=h
  rfl
 ·obtain⟨a,ns,at',mk,mn,rfl,hS,kQ,a0,a1,k1,k5,kn,yg,q⟩:=h
  refine⟨_,#[zd,#[zp,4,zbc.nd,(cn rfl),#[zt,lM,(hr.mono (by decide)),T.m_l_draws,lj.kp,lu,#[zO],#[za,#[pvx,0],by exact #[za,#[pvx,1],#[za,#[zg],#[za,#[zg],#[ze]]]]]]],(by exact (@zjS _ 5 _ _ _ _ _ _ _ [5,7,11,13,17,19,23,29,31,37,41,43,47,53,59,61,67,71,73,79,83,89,97] (by decide +kernel) zbc.nd rfl (au rfl) (by first | exact .inl rfl | exact .inr rfl) (by exact #[zd,#[zp,6,zbc.nd,(au rfl),#[zM,#[zC],#[z9,#[za,#[zM,#[zC],#[pvx,5],#[zi,#[zH],#[zM,#[zC],#[pvx,4],#[zg]],#[zg]]],#[za,#[zM,#[zC],#[pvx,5],#[zi,#[zH],#[zM,#[zC],#[pvx,4],#[zg]],#[zg]]],#[ze]]]],#[zi,#[zH],#[zM,#[zC],#[pvx,4],#[zg]],#[zg]]]],#[zd,#[zp,7,zbc.nd,(au rfl),#[zi,#[zB],#[zg],#[zi,#[zH],#[zM,#[zC],#[pvx,4],#[zg]],#[zw,#[zdh],T.min_,boot_min,#[za,#[pvx,2],#[za,#[pvx,6],#[ze]]]]]]],#[zd,#[zp,8,zbc.nd,(au rfl),#[zi,#[zB],#[pvx,7],#[zi,#[zH],#[zM,#[zC],#[pvx,4],#[zg]],#[zi,#[zB],#[zi,#[zba],#[zw,#[zdh],T.min_,boot_min,#[za,#[pvx,3],#[za,#[pvx,6],#[ze]]]],#[pvx,7]],#[zg]]]]],#[zd,#[zp,9,zbc.nd,(cn rfl),#[zaO,#[zcJ],T.list_,jA,#[za,#[zaO,#[zdA],T.range_,iV,#[za,#[pvx,6],#[ze]]],#[ze]]]],#[zl,#[zE,#[zaK,#[za,#[pvx,6],#[za,#[pvx,7],#[za,#[zaO,#[zbf],T.tuple_,f',#[za,#[zad,(CompSc.of (N':=["j","left","plan"]) (ix:=[none,some 9,some 4]) (zh zcm) ["script","at","most_k","most_n","plan","primes","p","k","many","left"] rfl rfl (by decide +kernel)),#[zai],#[zaF,T.range_,#[za,#[pvx,8],#[ze]]],(fun _ _ _ _=>#[zf,0,(show (["j","left","plan"]:List Str).Nodup by decide +kernel),(au rfl)]),(fun _ _ _ _=>#[zG]),(fun _ _ _ _=>(@zmT _ (K) _ _ _ _ _ _ _ _ _ _ _ rfl bX PySem.F.slot_list_pop PySem.F.type_list_pop (@zjK _) #[pvx,1] #[za,#[zi,#[zH],#[zM,#[zbM,(K)],#[pvx,2],#[zi,#[zB],#[zg],#[pvx,0]]],#[zw,#[zbg,(K)],T.len_,bM,#[za,#[pvx,1],#[ze]]]],#[ze]] (by rfl) (by rfl) (by rfl) (by rfl) (by rfl)))],#[ze]]],#[ze]]]]]]]]]]])))],?_⟩
  refine (kF rfl (kF rfl (ex5 a ns at' 20 27720 ⟨rfl,hS,kQ,a0,a1,by decide,by decide,by decide,by decide,fun l ds H1 hl s1 hd lW=>?_⟩)))
  have An:ds.length=20:=hd.1
  have dat:∀ m:Int,0≤m→m < 20→∃ c:Int,atI (ds.map V.int) m=some (.int c):=fun m h0 h1=>zc0 h0 (by lia)
  refine⟨by show 23≤sizeLine; rw [a7]; decide,fun pr Ao=>?_⟩
  have DW:l≠pr:=zJ lW Ao
  obtain⟨d0,Ca⟩:=dat 0 (by decide) (by decide)
  obtain⟨d1,ed1⟩:=dat 1 (by decide) (by decide)
  obtain⟨d2,ed2⟩:=dat 2 (by decide) (by decide)
  obtain⟨d3,ed3⟩:=dat 3 (by decide) (by decide)
  have mX:(kL H1 pr (.lst (zm.map V.int))) l=some (.lst (ds.map V.int)):=by rw [zq DW]; exact lW
  obtain⟨p1,mp1,ep1⟩:=zjZ (ns:=zm) (k:=d0 % 23) (aK _ (by decide)) (aC _ (by decide))
  obtain⟨p2,mp2,ep2⟩:=zjZ (ns:=zm) (k:=d0 % 3) (aK _ (by decide)) (by have:=aC d0 (show (0:Int) < 3 by decide); have e:(zm.length:Int)=23:=rfl; lia)
  obtain⟨p,ep,hpp⟩:=zmU (x:=p1) (y:=p2) (m:=d1 % 2) (aK _ (by decide)) (aC _ (by decide))
  have mp:p∈zm:=by rcases hpp with e | e <;> rw [e] <;> assumption
  have rp:=zo mp
  refine⟨_,rfl,_,rfl,l,_,_,_,rfl,rfl,kG.of mX,Ca,_,_,rfl,rfl,(by show (0:Int) < 23; decide),pr,_,_,_,rfl,rfl,kG.of zb,ep1,
   _,rfl,_,rfl,l,_,_,_,rfl,rfl,kG.of mX,Ca,_,_,rfl,rfl,(by show (0:Int) < 3; decide),pr,_,_,_,rfl,rfl,kG.of zb,ep2,zaL,fun l2 pJ=>?_⟩
  have DX:l≠l2:=zJ mX pJ
  have tG:(kL (kL H1 pr (.lst (zm.map V.int))) l2 (.lst [.int p1,.int p2])) l=some (.lst (ds.map V.int)):=by rw [zq DX]; exact mX
  refine (kF rfl (ex4 l _ _ _ ⟨rfl,rfl,kG.of tG,ed1,(kN rfl rfl ⟨(by show (0:Int) < 2; decide),l2,_,_,_,rfl,rfl,kG.of zb,ep,?_⟩)⟩))
  have rj:(0:Int) < (if p < mk then p else mk):=by split <;> lia
  have qA:(if p < mk then p else mk)≤mk:=by split <;> lia
  have B4:(if p < mk then p else mk)≤p:=by split <;> lia
  refine⟨_,rfl,l,_,_,_,rfl,rfl,kG.of tG,ed2,_,rfl,_,rfl,_,_,rfl,_,_,rfl,rfl,rj,_,_,rfl,rfl,?_⟩
  generalize (if p < mk then p else mk)=mm at rj qA B4 ⊢
  have qC:=aK d2 (show mm≠0 by lia)
  have B3:=aC d2 rj
  have uH:(if p < mn then p else mn)≤mn:=by split <;> lia
  have qV:(if p < mn then p else mn)≤p:=by split <;> lia
  have hn3:mm≤(if p < mn then p else mn):=by split <;> lia
  refine (kF rfl (kF rfl (ex4 l _ _ _ ⟨rfl,rfl,kG.of tG,ed3,(kF rfl (kF rfl ⟨_,_,rfl,(kF rfl (kN rfl rfl (kN rfl rfl (kN rfl rfl ⟨(by lia),(kN rfl rfl ?_)⟩))))⟩))⟩)))
  generalize (if p < mn then p else mn)=nn at uH qV hn3 ⊢
  have hq0:=aK d3 (show nn - (1+d2 % mm)+1≠0 by lia)
  have pK:=aC d3 (show 0 < nn - (1+d2 % mm)+1 by lia)
  refine (kF rfl ⟨p,rfl,fun r yh=>⟨r,p,rfl,zb,by lia,by lia,fun lf yi=>?_⟩⟩)
  have xY:l≠r:=zJ tG yh
  have Ap:l≠lf:=by
   refine zJ (H:=kL (kL (kL H1 pr (.lst (zm.map V.int))) l2 (.lst [.int p1,.int p2])) r (.rng 0 p)) (o:=.lst (ds.map V.int)) ?_ yi
   rw [zq xY]; exact tG
  have sA:zu H (kL (kL H1 pr (.lst (zm.map V.int))) l2 (.lst [.int p1,.int p2])):=(s1.trans (zc Ao)).trans (zc pJ)
  have sB:=(sA.trans (zc (o:=.rng 0 p) yh)).trans (zc (o:=.lst ((zaw 0 p.toNat).map V.int)) yi)
  have DY:H lf=none:=(sA.trans (zc (o:=.rng 0 p) yh)).free yi
  obtain⟨nd0,rg0⟩:=ziY p
  refine⟨_,rfl,_,rfl,_,rfl,_,rfl,by lia,by lia,zY (n:=(1+d2 % mm+d3 % (nn - (1+d2 % mm)+1)).toNat) (fun i ys H'=>∃ xs ls:List Int,ys=xs.map V.int∧xs.length=i∧zu H H'∧H' l=some (.lst (ds.map V.int))∧H' lf=some (.lst (ls.map V.int))∧ls.length+i=p.toNat∧(xs++ls).Nodup∧∀ y∈xs++ls,0≤y∧y < p)
   ⟨[],zaw 0 p.toNat,rfl,rfl,sB,by rw [zq Ap,zq xY]; exact tG,zb,by rw [zcI]; rfl,by simpa using nd0,by simpa using rg0⟩ (fun i ys H' hi _=>hi) (fun ys H' _=>af _) ?_ ?_⟩
  ·rintro i x ys H4 H5 hi ⟨xs,ls,rfl,Ab,s4,xg,vt,vw,nd,rg⟩ ⟨rfl,rfl⟩
   refine gY ?_
   obtain⟨c,ec⟩:=dat (4+(0+(i:Int))) (by lia) (by lia)
   have lpos:0 < ls.length:=by lia
   have lm:((ls.map V.int).length:Int)=(ls.length:Int):=by rw [ab]
   have c0:=aK c (show (ls.length:Int)≠0 by lia)
   have c1:=aC c (show (0:Int) < ls.length by lia)
   have om:=a7
   obtain⟨y,ey⟩:∃ y,ls[(c % (ls.length:Int)).toNat]? = some y:=⟨ls[(c % (ls.length:Int)).toNat]'(by lia),by simp⟩
   refine (kF rfl ⟨.inl ⟨rfl,_,kG.of vt⟩,(kF rfl (kF rfl (kN rfl rfl (ex4 l _ _ _ ⟨rfl,rfl,kG.of xg,ec,(kF rfl ⟨lf,(kF rfl ⟨.inl (kG.of vt),(kN rfl rfl ⟨(by rw [lm]; lia),lf,_,_,(c % (ls.length:Int)).toNat,.int y,rfl,rfl,vt,?_⟩)⟩)⟩)⟩))))⟩)
   rw [lm]
   refine⟨by lia,by lia,by rw [ab]; exact gk c0 c1,by rw [ag,ey]; rfl,zaB (by rw [ab]; lia),xs++[y],ls.eraseIdx (c % (ls.length:Int)).toNat,by rw [aA]; rfl,by rw [ar,Ab]; rfl,z0 s4 DY,by rw [zq Ap]; exact xg,by rw [zb,zfc],?_,zlh ey nd rg⟩
   rw [List.length_eraseIdx]
   split <;> lia
  ·rintro ys H4 D ⟨xs,ls,rfl,Ab,s4,xg,vt,vw,nd,rg⟩ hD
   refine⟨D,(kF rfl (.inl ⟨kG.of zb,fun tt Aq=>⟨by show 3≤sizeLine; rw [a7]; decide,fun c hc=>?_⟩⟩))⟩
   have s5:=(s4.trans (zc (o:=.lst (xs.map V.int)) hD)).trans (zc (o:=.tup (xs.map V.int)) Aq)
   refine q c tt p _ xs _ (s5.free hc) (s5.trans (zc hc)) ⟨mp,by lia,by lia,by lia,by lia,(dk.mp nd).1,fun y hy=>rg y (aQ _ hy)⟩ zb ?_
   rw [zq (zJ zb hc)]
   exact zb
theorem zbd:FnScope ["p","polynomial","x","total","power","number"] ["p","polynomial","x"] (zh zcD):=⟨rfl,rfl,rfl,by decide +kernel,rfl,by decide +kernel,by decide +kernel⟩
theorem zeF {fd:FuncData} (T:Txt K mg t) (F:Fun K "_law_value" "_law_value" zcD t.l_value fd):FnOk P w K mg base CX0 1 t.l_value fd ["p","polynomial","x"] (zhg K):=by
 refine F.ok zbd (fun vs H Q E h=>?_) (fun ly A outer s H vs Q E hr h=>?_)
 ·obtain⟨p,x,a,cs,rfl,_⟩:=h
  rfl
 ·obtain⟨p,x,a,cs,rfl,hS,p0,p1,x0,x1,q⟩:=h
  refine⟨_,#[zd,#[zp,3,zbd.nd,(au rfl),#[zg]],#[zd,#[zp,4,zbd.nd,(au rfl),#[zg]],#[zd,#[zam,aX,(@zmS _ _ _ _ #[pvx,1]),#[zf,5,zbd.nd,(au rfl)],#[zd,#[zp,3,zbd.nd,(au rfl),#[zi,#[zH],#[zi,#[zB],#[pvx,3],#[zi,#[zU],#[pvx,5],#[pvx,4]]],#[pvx,0]]],#[zl,#[zp,4,zbd.nd,(au rfl),#[zi,#[zH],#[zi,#[zU],#[pvx,4],#[pvx,2]],#[pvx,0]]]]]],#[zl,#[zE,#[pvx,3]]]]]],?_⟩
  refine (kF rfl ⟨a,rfl,?_⟩)
  rcases hS with hS | hS
  ·refine .inl ⟨⟨_,hS⟩,za1 (K:=K) (a:=a) (xs:=cs.map V.int) (fun i σ H'=>H'=H∧∃ (kS power:Int) (nb:Option V),σ = [some (.int p),some (.ref a),some (.int x),some (.int kS),some (.int power),nb]∧0≤power∧power≤97∧lv p x kS power (cs.drop i)=lv p x 0 1 cs)
    ⟨rfl,0,1,none,rfl,by decide,by decide,rfl⟩ (fun i σ H' _ ⟨e,_⟩=>by rw [e]; exact hS) ?_ ?_⟩
   ·rintro i y σ H1 hy ⟨rfl,kS,power,nb,rfl,w0,w1,hl⟩
    obtain⟨c,rfl,hc⟩:=zae hy
    have m0:=aK (power*x) (show p≠0 by lia)
    have m1:=aC (power*x) p0
    refine (kF rfl (kF rfl (kF rfl (kN rfl rfl ⟨.inr ⟨by lia,by lia⟩,(kN rfl rfl (kF rfl (kN rfl rfl ⟨p0,?_⟩)))⟩))))
    refine (kF rfl (kF rfl (kN rfl rfl ⟨.inl ⟨by lia,by lia⟩,(kF rfl (kN rfl rfl ⟨p0,?_⟩))⟩)))
    exact⟨rfl,_,_,_,rfl,m0,by lia,(zh0 hc).symm.trans hl⟩
   ·rintro σ H1 ⟨rfl,kS,power,nb,rfl,w0,w1,hl⟩
    rw [ab,fP] at hl
    have hl:kS=lv p x 0 1 cs:=hl
    rw [zhU p0] at hl
    rw [← hl] at q
    exact (kF rfl q)
  ·refine .inr ⟨⟨_,hS⟩,zk4 (K:=K) (a:=a) (xs:=cs.map V.int) (fun i σ H'=>H'=H∧∃ (kS power:Int) (nb:Option V),σ = [some (.int p),some (.ref a),some (.int x),some (.int kS),some (.int power),nb]∧0≤power∧power≤97∧lv p x kS power (cs.drop i)=lv p x 0 1 cs)
    ⟨rfl,0,1,none,rfl,by decide,by decide,rfl⟩ (fun i σ H' _ ⟨e,_⟩=>by rw [e]; exact hS) ?_ ?_⟩
   ·rintro i y σ H1 hy ⟨rfl,kS,power,nb,rfl,w0,w1,hl⟩
    obtain⟨c,rfl,hc⟩:=zae hy
    have m0:=aK (power*x) (show p≠0 by lia)
    have m1:=aC (power*x) p0
    refine (kF rfl (kF rfl (kF rfl (kN rfl rfl ⟨.inr ⟨by lia,by lia⟩,(kN rfl rfl (kF rfl (kN rfl rfl ⟨p0,?_⟩)))⟩))))
    refine (kF rfl (kF rfl (kN rfl rfl ⟨.inl ⟨by lia,by lia⟩,(kF rfl (kN rfl rfl ⟨p0,?_⟩))⟩)))
    exact⟨rfl,_,_,_,rfl,m0,by lia,(zh0 hc).symm.trans hl⟩
   ·rintro σ H1 ⟨rfl,kS,power,nb,rfl,w0,w1,hl⟩
    rw [ab,fP] at hl
    have hl:kS=lv p x 0 1 cs:=hl
    rw [zhU p0] at hl
    rw [← hl] at q
    exact (kF rfl q)
theorem zkN (xs:List V) (j:Nat):za2 xs none (some (j:Int))=xs.take j:=by
 unfold za2
 rw [HT.sIx_nat,HT.sIx_none,eL,dw]
 by_cases h:j≤xs.length
 ·rw [db h]
 ·rw [show min j xs.length=xs.length by lia,aO (af _),aO (show xs.length≤j by lia)]
def zjm (K:ah):Sp:=fun vs H Q _=>∃ (a:Addr) (ds:List Int) (p k:Int),vs = [.ref a,.int p,.int k]∧kG K H a (ds.map V.int)∧ds.length≤1000∧0 < p ∧
 ∀ (l:Addr) (lq:List Int) (H':Hp),H l=none→zu H H'→(lq.length≤ds.length∧∀ x∈lq,0≤x∧x < p)→H' l=some (.tup (lq.map V.int))→(∀ n:Nat,k=(n:Int)→n≤ds.length→lq.length=n)→Q (.ref l) H'
theorem zdK:FnScope ["draws","p","k"] ["draws","p","k"] (zh zaN):=⟨rfl,rfl,rfl,by decide +kernel,rfl,by decide +kernel,by decide +kernel⟩
theorem zdL {fd:FuncData} (T:Txt K mg t) (F:Fun K "_law_polynomial" "_law_polynomial" zaN t.l_polynomial fd):FnOk P w K mg base CX0 1 t.l_polynomial fd ["draws","p","k"] (zjm K):=by
 refine F.ok zdK (fun vs H Q E h=>?_) (fun ly A outer s H vs Q E hr h=>?_)
 ·obtain⟨a,ds,p,k,rfl,_⟩:=h
  rfl
 ·obtain⟨a,ds,p,k,rfl,ha,hn,p0,q⟩:=h
  refine⟨_,#[zl,#[zE,#[zaO,#[zbf],T.tuple_,f',#[za,#[zad,(CompSc.of (N':=["draw","p"]) (ix:=[none,some 1]) (zh zaN) ["draws","p","k"] rfl rfl (by decide +kernel)),#[zai],#[zT,#[zbi,zcq,#[pvx,0],#[zbU],#[zbq,#[pvx,2]]]],(fun _ _ _ _=>#[zf,0,(show (["draw","p"]:List Str).Nodup by decide +kernel),(au rfl)]),(fun _ _ _ _=>#[zG]),(fun _ _ _ _=>#[zi,#[zH],#[pvx,0],#[pvx,1]])],#[ze]]]]],?_⟩
  obtain⟨ms,ems,lms⟩:=zj2 ds none (some k)
  refine (kF rfl (kF rfl (kF rfl ⟨a,(kF rfl ⟨ha,fun z hz=>?_⟩)⟩)))
  rw [ems]
  have s4:=zc (o:=.lst (ms.map V.int)) hz
  refine⟨z,rfl,⟨_,kG.of zb⟩,zcs (K:=K) (xs:=ms.map V.int) (fs:=ms.map fun d=>V.int (d % p)) (kG.of zb) (by rw [ab,ab]) (by rw [ab]; lia) ?_ ?_⟩
  ·intro j x y R B hx hy hR
   obtain⟨c,_,rfl,rfl⟩:=zgg hx hy
   refine gY ?_
   exact (kF rfl (kF rfl (kN rfl rfl ⟨p0,hR⟩)))
  intro D hD
  have DZ:(ms.map fun d=>V.int (d % p))=(ms.map (· % p)).map V.int:=by rw [bA]; rfl
  rw [DZ]
  refine⟨D,(kF rfl (.inl ⟨kG.of zb,fun po Ar=>?_⟩))⟩
  have s5:=s4.trans (zc (o:=.lst ((ms.map (· % p)).map V.int)) hD)
  refine q po _ _ (s5.free Ar) (s5.trans (zc Ar)) ⟨by rw [ab]; exact lms,fun x hx=>?_⟩ zb (fun n B2 hle=>?_)
  ·obtain⟨d,_,rfl⟩:=aB.mp hx
   exact⟨aK _ (by lia),aC _ p0⟩
  ·have h1:=congrArg et ems
   rw [B2,zkN,aJ,ab,ab] at h1
   rw [ab]
   lia
theorem zbF:FnScope ["p","polynomial","x","value","number"] ["p","polynomial","x"] (zh zb3):=⟨rfl,rfl,rfl,by decide +kernel,rfl,by decide +kernel,by decide +kernel⟩
theorem zco {fd:FuncData} (T:Txt K mg t) (F:Fun K "value_at" "value_at" zb3 t.value_at fd):FnOk P w K mg base CX0 1 t.value_at fd ["p","polynomial","x"] (zdC K):=by
 refine F.ok zbF (fun vs H Q E h=>?_) (fun ly A outer s H vs Q E hr h=>?_)
 ·obtain⟨p,x,a,cs,rfl,_⟩:=h
  rfl
 ·obtain⟨p,x,a,cs,rfl,hS,p0,p1,x0,x1,q⟩:=h
  refine⟨_,#[zd,#[zp,3,zbF.nd,(au rfl),#[zg]],#[zd,#[zam,aX,(@zmP _ _ _ _ _ _ rfl T.reversed_ #[za,#[pvx,1],#[ze]] (by rfl)),#[zf,4,zbF.nd,(au rfl)],#[zl,#[zp,3,zbF.nd,(au rfl),#[zi,#[zH],#[zi,#[zB],#[zi,#[zU],#[pvx,3],#[pvx,2]],#[pvx,4]],#[pvx,0]]]]],#[zl,#[zE,#[pvx,3]]]]],?_⟩
  refine (kF rfl ⟨a,cs.map V.int,rfl,?_⟩)
  rcases hS with hS | hS
  ·refine .inl ⟨hS,?_⟩
   rw [ab]
   refine zcN (n:=cs.length) (fun i σ H'=>H'=H∧∃ nb,σ = [some (.int p),some (.ref a),some (.int x),some (.int (zn p x (cs.drop (cs.length - i)))),nb]) ⟨rfl,none,by rw [eL,fP]; rfl⟩
    (fun i σ H' hi ⟨e,_⟩=>⟨hi,cs.map V.int,by rw [e]; exact hS,by rw [ab]⟩) (fun σ H' _=>af _) ?_ ?_
   ·rintro i y σ H1 H2 hi ⟨rfl,nb,rfl⟩ ⟨rfl,hy⟩
    obtain⟨c,rfl,hc⟩:=zae (hy _ hS)
    have v0:=zas (x:=x) p0 (cs.drop (cs.length - i))
    have v1:=zat (x:=x) p0 (cs.drop (cs.length - i))
    refine (kF rfl (kF rfl (kN rfl rfl ⟨.inl ⟨by lia,by lia⟩,(kF rfl (kN rfl rfl (kF rfl (kN rfl rfl ⟨p0,?_⟩))))⟩)))
    refine⟨rfl,some (.int c),?_⟩
    rw [zfd hi hc]
    show _ = [some (V.int p),_,_,some (V.int ((c+x*zn p x (cs.drop (cs.length - i))) % p)),_]
    rw [Int.add_comm c,df x]
    rfl
   ·rintro σ H1 ⟨rfl,nb,rfl⟩
    rw [d6,dw]
    exact (kF rfl q)
  ·refine .inr ⟨hS,?_⟩
   rw [ab]
   refine zcN (n:=cs.length) (fun i σ H'=>H'=H∧∃ nb,σ = [some (.int p),some (.ref a),some (.int x),some (.int (zn p x (cs.drop (cs.length - i)))),nb]) ⟨rfl,none,by rw [eL,fP]; rfl⟩
    (fun i σ H' hi ⟨e,_⟩=>⟨hi,cs.map V.int,by rw [e]; exact hS,by rw [ab]⟩) (fun σ H' _=>af _) ?_ ?_
   ·rintro i y σ H1 H2 hi ⟨rfl,nb,rfl⟩ ⟨rfl,hy⟩
    obtain⟨c,rfl,hc⟩:=zae (hy _ hS)
    have v0:=zas (x:=x) p0 (cs.drop (cs.length - i))
    have v1:=zat (x:=x) p0 (cs.drop (cs.length - i))
    refine (kF rfl (kF rfl (kN rfl rfl ⟨.inl ⟨by lia,by lia⟩,(kF rfl (kN rfl rfl (kF rfl (kN rfl rfl ⟨p0,?_⟩))))⟩)))
    refine⟨rfl,some (.int c),?_⟩
    rw [zfd hi hc]
    show _ = [some (V.int p),_,_,some (V.int ((c+x*zn p x (cs.drop (cs.length - i))) % p)),_]
    rw [Int.add_comm c,df x]
    rfl
   ·rintro σ H1 ⟨rfl,nb,rfl⟩
    rw [d6,dw]
    exact (kF rfl q)
theorem zaW:FnScope ["p","number","product","square","left"] ["p","number"] (zh zcz):=⟨rfl,rfl,rfl,by decide +kernel,rfl,by decide +kernel,by decide +kernel⟩
theorem zeG {fd:FuncData} (T:Txt K mg t) (F:Fun K "inverse" "inverse" zcz t.inverse fd):FnOk P w K mg base CX0 1 t.inverse fd ["p","number"] (zhi K):=by
 refine F.ok zaW (fun vs H Q E h=>?_) (fun ly A outer s H vs Q E hr h=>?_)
 ·obtain⟨p,h,rfl,_⟩:=h
  rfl
 ·obtain⟨p,hh,rfl,mp,h0,h1,q⟩:=h
  refine⟨_,#[zd,#[zp,2,zaW.nd,(au rfl),#[zg]],#[zd,#[zp,3,zaW.nd,(au rfl),#[zi,#[zH],#[pvx,1],#[pvx,0]]],#[zd,#[zp,4,zaW.nd,(au rfl),#[zi,#[zba],#[pvx,0],#[zg]]],#[zd,#[zd7,aX,#[zy,#[zf2],#[pvx,4],#[zg],(zL _)],#[zd,#[zaJ,#[zy,#[zce],#[zi,#[zH],#[pvx,4],#[zg]],#[zg],(zL _)],#[zl,#[zp,2,zaW.nd,(au rfl),#[zi,#[zH],#[zi,#[zU],#[pvx,2],#[pvx,3]],#[pvx,0]]]],#[zZ]],#[zd,#[zp,3,zaW.nd,(au rfl),#[zi,#[zH],#[zi,#[zU],#[pvx,3],#[pvx,3]],#[pvx,0]]],#[zl,#[zjx,4,zaW.nd,(au rfl),#[zg],zjA]]]]],#[zl,#[zE,#[pvx,2]]]]]]],?_⟩
  have rp:=zo mp
  have e0:=aK hh (show p≠0 by lia)
  have e1:=aC hh (show 0 < p by lia)
  refine (kF rfl (kF rfl (kN rfl rfl ⟨(by show 0 < p; lia),(kF rfl (kN rfl rfl ?_))⟩)))
  refine zjz (fun σ H'=>H'=H∧∃ (prod sq left:Int) (n:Nat),σ = [some (.int p),some (.int hh),some (.int prod),some (.int sq),some (.int left)]∧0≤prod∧prod < p∧0≤sq∧sq < p∧0≤left∧left < 2 ^ n∧zcr p n prod sq left=inv p hh) (fun σ _=>zmV σ)
   ⟨rfl,1,hh % p,p - 2,7,rfl,by lia,by lia,e0,e1,by lia,by lia,rfl⟩ ?_ ?_
  ·rintro σ H1 ⟨rfl,prod,sq,left,n,rfl,b0,b1,s0,s1,l0,l1,hi⟩
   refine (kF rfl (kN rfl rfl (kF rfl ?_)))
   refine zaf (fun hl=>?_) (fun hl=>?_)
   ·have hl:0 < left:=by simpa using hl
    obtain⟨m,rfl⟩:∃ m,n=m+1:=by
     cases n with
     | zero=>lia
     | succ m=>exact⟨m,rfl⟩
    rw [zfA hl l1] at hi
    have l2:left / 2 < 2 ^ m:=by
     have:(2:Int) ^ (m+1)=2 ^ m*2:=f8 ..
     lia
    have m0:=aK (prod*sq) (show p≠0 by lia)
    have m1:=aC (prod*sq) (show 0 < p by lia)
    have n0:=aK (sq*sq) (show p≠0 by lia)
    have n1:=aC (sq*sq) (show 0 < p by lia)
    refine (kF rfl (kN rfl rfl ⟨(by show (0:Int) < 2; decide),rfl,(kF rfl ?_)⟩)); refine zaf (fun ho=>?_) (fun ho=>?_)
    ·have ho:left % 2=1:=by simpa using ho
     rw [if_pos ho] at hi
     refine (kF rfl (kF rfl (kN rfl rfl ⟨.inl ⟨by lia,by lia⟩,(kF rfl (kN rfl rfl ⟨(by show 0 < p; lia),?_⟩))⟩)))
     refine (kF rfl (kF rfl (kN rfl rfl ⟨.inl ⟨by lia,by lia⟩,(kF rfl (kN rfl rfl ⟨(by show 0 < p; lia),?_⟩))⟩)))
     refine (kF rfl (kN rfl rfl ⟨⟨by decide,by decide⟩,⟨rfl,_,_,_,m,rfl,m0,m1,n0,n1,by lia,l2,hi⟩,?_⟩))
     show (left / 2).toNat < left.toNat
     lia
    ·have ho:¬ left % 2=1:=by simpa using ho
     rw [if_neg ho] at hi
     refine (kF rfl (kF rfl (kN rfl rfl ⟨.inl ⟨by lia,by lia⟩,(kF rfl (kN rfl rfl ⟨(by show 0 < p; lia),?_⟩))⟩)))
     refine (kF rfl (kN rfl rfl ⟨⟨by decide,by decide⟩,⟨rfl,_,_,_,m,rfl,b0,b1,n0,n1,by lia,l2,hi⟩,?_⟩))
     show (left / 2).toNat < left.toNat
     lia
   ·have hl:¬ 0 < left:=by simpa using hl
    have el:left=0:=by lia
    subst el
    rw [zge] at hi
    rw [← hi] at q
    exact (kF rfl q)
  ·rintro σ H1 Q1 Q2 hq ⟨v,e,i,j,e1,e2,k,e3,q⟩
   exact⟨v,e,i,j,e1,e2,k,e3,hq _ _ q⟩
theorem zbI:FnScope ["p","polynomial","root","raised","kept"] ["p","polynomial","root"] (zh za7):=⟨rfl,rfl,rfl,by decide +kernel,rfl,by decide +kernel,by decide +kernel⟩
theorem zeT {fd:FuncData} (T:Txt K mg t) (F:Fun K "times_root" "times_root" za7 t.times_root fd):FnOk P w K mg base CX0 1 t.times_root fd ["p","polynomial","root"] (zeQ K):=by
 refine F.ok zbI (fun vs H Q E h=>?_) (fun ly A outer s H vs Q E hr h=>?_)
 ·obtain⟨p,r,a,cs,rfl,_⟩:=h
  rfl
 ·obtain⟨p,r,a,cs,rfl,ha,kQ,p0,r0,r1,q⟩:=h
  refine⟨_,#[zd,#[zp,3,zbI.nd,(au rfl),#[zi,#[zcM],#[z9,#[za,#[zg],#[ze]]],#[pvx,1]]],#[zd,#[zp,4,zbI.nd,(au rfl),#[zi,#[zcM],#[pvx,1],#[z9,#[za,#[zg],#[ze]]]]],#[zl,#[zE,#[zad,(CompSc.of (N':=["high","low","root","p"]) (ix:=[none,none,some 2,some 0]) (zh za7) ["p","polynomial","root","raised","kept"] rfl rfl (by decide +kernel)),#[zbw,#[zW,#[zW,#[za3]]]],#[zcY,T.zip_,#[za,#[pvx,3],#[za,#[pvx,4],#[ze]]]],(fun _ _ _ _=>#[zaT,(K),2,#[zj,#[zf,0,(show (["high","low","root","p"]:List Str).Nodup by decide +kernel),(au rfl)],#[zj,#[zf,1,(show (["high","low","root","p"]:List Str).Nodup by decide +kernel),(au rfl)],#[zK]]]]),(fun _ _ _ _=>#[zG]),(fun _ _ _ _=>#[zi,#[zH],#[zi,#[zba],#[pvx,0],#[zi,#[zU],#[pvx,2],#[pvx,1]]],#[pvx,3]])]]]]],?_⟩
  have om:=a7
  refine⟨by show 1≤sizeLine; lia,fun z hz=>(kF rfl (ex4 z a ([.int 0]) (cs.map V.int) ⟨rfl,rfl,zb,by rw [zq (zJ ha hz)]; exact ha,by rw [ab]; show 1+cs.length≤sizeLine; lia,fun ra mf=>?_⟩))⟩
  have s1:zu H (kL (kL H z (.lst [.int 0])) ra (.lst ([.int 0]++cs.map V.int))):=(zc hz).trans (zc mf)
  refine (kF rfl ⟨by show 1≤sizeLine; lia,fun z2 p7=>(ex4 a z2 (cs.map V.int) ([.int 0]) ⟨rfl,rfl,by rw [zq (zJ (s1 _ _ ha) p7)]; exact s1 _ _ ha,zb,by rw [ab]; show cs.length+1≤sizeLine; lia,fun ke D0=>?_⟩)⟩)
  have s2:=s1.trans ((zc (o:=.lst [.int 0]) p7).trans (zc (o:=.lst (cs.map V.int++[.int 0])) D0))
  have uc:kL (kL (kL (kL H z (.lst [.int 0])) ra (.lst ([.int 0]++cs.map V.int))) z2 (.lst [.int 0])) ke (.lst (cs.map V.int++[.int 0])) ra=some (.lst ((0 :: cs).map V.int)) :=
   ((zc (o:=.lst [.int 0]) p7).trans (zc (o:=.lst (cs.map V.int++[.int 0])) D0)) _ _ zb
  have ud:kL (kL (kL (kL H z (.lst [.int 0])) ra (.lst ([.int 0]++cs.map V.int))) z2 (.lst [.int 0])) ke (.lst (cs.map V.int++[.int 0])) ke=some (.lst ((cs++[0]).map V.int)):=by rw [zb,aA]; rfl
  generalize kL (kL (kL (kL H z (.lst [.int 0])) ra (.lst ([.int 0]++cs.map V.int))) z2 (.lst [.int 0])) ke (.lst (cs.map V.int++[.int 0]))=H2 at s2 uc ud ⊢
  refine (kF rfl (kF rfl (ex4 ra ke _ _ ⟨rfl,kG.of uc,kG.of ud,zY (n:=cs.length+1) (fun i ys H'=>ys=((zci p r cs).take i).map V.int∧zu H2 H') ⟨by simp,fun _ _ e=>e⟩ ?_ ?_ ?_ ?_⟩)))
  ·rintro i ys H3 hi ⟨_,s3⟩
   obtain⟨x,hx⟩:∃ x,(0 :: cs)[i]? = some x:=⟨(0 :: cs)[i]'(by simpa using hi),by simp⟩
   obtain⟨y,hy⟩:∃ y,(cs++[0])[i]? = some y:=⟨(cs++[0])[i]'(by simpa using hi),by simp⟩
   exact⟨_,_,.int x,.int y,kG.of (s3 _ _ uc),kG.of (s3 _ _ ud),by rw [ag,hx]; rfl,by rw [ag,hy]; rfl⟩
  ·rintro ys H3 ⟨_,s3⟩
   exact⟨_,_,kG.of (s3 _ _ uc),kG.of (s3 _ _ ud),.inl (by simp)⟩
  ·rintro i x ys H3 H4 hi ⟨rfl,s3⟩ ⟨T,u,v,hT,rfl,rfl,hu,hv⟩
   obtain⟨x,rfl,hx⟩:=zae (hu _ (kG.of (s3 _ _ uc)))
   obtain⟨y,rfl,hy⟩:=zae (hv _ (kG.of (s3 _ _ ud)))
   refine gY2 (kP.of zb) ?_
   refine (kF rfl (kF rfl (kF rfl (kN rfl rfl ⟨.inl ⟨by lia,by lia⟩,(kN rfl rfl (kF rfl (kN rfl rfl ⟨p0,zaB ?_,?_,s3.trans (zc hT)⟩)))⟩))))
   ·rw [ab]
    exact be (eV _ _) (by lia)
   ·show _=(List.take (i+1) (aT (trF p r) (0 :: cs) (cs++[0]))).map V.int
    rw [zgf hx hy,aA]
    rfl
  ·rintro ys H3 D ⟨rfl,s3⟩ hD
   refine q D _ ((s2.trans s3).free hD) ((s2.trans s3).trans (zc hD)) ?_
   rw [zb,aO (by rw [zdl]; exact af _)]
theorem zkO {p f:Int}:∀ (cs vs:List Int),vs.length≤cs.length→ad p f cs vs=aT (fun number other=>(number+f*other) % p) cs vs++cs.drop vs.length
 | [],[],_=>rfl
 | _ :: _,[],_=>rfl
 | [],_ :: _,h=>by simp at h
 | c :: cs,v :: vs,h=>by
  show (c+f*v) % p :: ad p f cs vs=(c+f*v) % p :: (aT _ cs vs++cs.drop vs.length)
  rw [zkO cs vs (by simpa using h)]
theorem zgM {xs:List V} {k:Nat} (h:k≤xs.length):za2 xs (some (k:Int)) none=xs.drop k:=by
 have e1:HT.sIx xs.length 0 (some (k:Int))=k:=by
  unfold HT.sIx
  simp
  split <;> lia
 have e2:HT.sIx xs.length xs.length none=xs.length:=rfl
 unfold za2
 rw [e1,e2]
 exact aO (by rw [bS]; exact af _)
def zlS (K:ah):Sp:=fun vs H Q _=>∃ (p x y:Int) (c v b:Addr) (cs ws:List Int),vs = [.int p,.ref c,.ref v,.ref b]∧H c=some (.lst (cs.map V.int))∧H v=some (.lst (ws.map V.int))∧H b=some (.tup [.int x,.int y])∧p∈zm∧0≤x∧x < p∧0≤y∧y < 10000∧0 < zn p x ws∧zn p x ws < p∧ws.length≤cs.length∧cs.length≤1000 ∧
 ∀ (l:Addr) (H':Hp),H l=none→zu H H'→H' l=some (.lst ((ad p ((y - zn p x cs)*inv p (zn p x ws) % p) cs ws).map V.int))→Q (.ref l) H'
theorem zcF:FnScope ["p","polynomial","vanishing","point","x","y","missing","factor","added"] ["p","polynomial","vanishing","point"] (zh zeD):=⟨rfl,rfl,rfl,by decide +kernel,rfl,by decide +kernel,by decide +kernel⟩
theorem zlT {fd:FuncData} (T:Txt K mg t) (F:Fun K "bent" "bent" zeD t.bent fd):FnOk P w K mg base CX0 2 t.bent fd ["p","polynomial","vanishing","point"] (zlS K):=by
 obtain⟨mM,kX,k8⟩:=T.f_value_at
 have lD:=zco (P:=P) (w:=w) (base:=base) T kX
 obtain⟨oP,l5,l6⟩:=T.f_inverse
 have nO:=zeG (P:=P) (w:=w) (base:=base) T l5
 refine F.ok zcF (fun vs H Q E h=>?_) (fun ly A outer s H vs Q E hr h=>?_)
 ·obtain⟨p,x,y,c,v,b,cs,ws,rfl,_⟩:=h
  rfl
 ·obtain⟨p,x,y,c,v,b,cs,ws,rfl,hc,hv,hb,mp,x0,x1,y0,y1,g0,g1,hle,kQ,q⟩:=h
  refine⟨_,#[zd,#[zaG,#[pvx,3],#[zav,#[zj,#[zf,4,zcF.nd,(au rfl)],#[zj,#[zf,5,zcF.nd,(au rfl)],#[zK]]]]],#[zd,#[zp,6,zcF.nd,(au rfl),#[zi,#[zba],#[pvx,5],#[zt,lD,(hr.mono (by decide)),T.m_value_at,kX.kp,k8,#[zO],#[za,#[pvx,0],#[za,#[pvx,1],#[za,#[pvx,4],#[ze]]]]]]],#[zd,#[zp,7,zcF.nd,(cn rfl),#[zi,#[zH],#[zi,#[zU],#[pvx,6],#[zt,nO,(hr.mono (by decide)),T.m_inverse,l5.kp,l6,#[zO],#[za,#[pvx,0],#[za,#[zt,lD,(hr.mono (by decide)),T.m_value_at,kX.kp,k8,#[zO],#[za,#[pvx,0],#[za,#[pvx,2],#[za,#[pvx,4],#[ze]]]]],#[ze]]]]],#[pvx,0]]],#[zd,#[zaA,8,zcF.nd,(au rfl),(CompSc.of (N':=["number","other","factor","p"]) (ix:=[none,none,some 7,some 0]) (zh zeD) ["p","polynomial","vanishing","point","x","y","missing","factor","added"] rfl rfl (by decide +kernel)),#[zbw,#[zW,#[zW,#[za3]]]],#[zcY,T.zip_,#[za,#[pvx,1],#[za,#[pvx,2],#[ze]]]],(fun _ _ _ _=>#[zaT,(K),2,#[zj,#[zf,0,(show (["number","other","factor","p"]:List Str).Nodup by decide +kernel),(au rfl)],#[zj,#[zf,1,(show (["number","other","factor","p"]:List Str).Nodup by decide +kernel),(au rfl)],#[zK]]]]),(fun _ _ _ _=>#[zG]),(fun _ _ _ _=>#[zi,#[zH],#[zi,#[zB],#[pvx,0],#[zi,#[zU],#[pvx,2],#[pvx,1]]],#[pvx,3]])],#[zl,#[zE,#[zi,#[zcM],#[pvx,8],#[zbi,zcq,#[pvx,1],#[zbq,#[zw,#[zr],T.len_,bM,#[za,#[pvx,8],#[ze]]]],#[zbU]]]]]]]]],?_⟩
  have om:=a7
  have rp:=zo mp
  have p0:0 < p:=by lia
  have v0:=zas (x:=x) p0 cs
  have v1:=zat (x:=x) p0 cs
  refine⟨_,rfl,b,_,rfl,kP.of hb,rfl,_,_,rfl,_,_,rfl,rfl,?_⟩
  refine (kF rfl (kF rfl (kF rfl (kF rfl (ex4 p x c cs ⟨rfl,.inl (kG.of hc),p0,by lia,x0,x1,(kN rfl rfl ?_)⟩)))))
  refine (kF rfl (kF rfl (kF rfl (kF rfl (kF rfl (ex4 p x v ws ⟨rfl,.inl (kG.of hv),p0,by lia,x0,x1,p,(kF rfl ⟨mp,by lia,by lia,(kN rfl rfl ⟨.inl ⟨by lia,by lia⟩,(kF rfl (kN rfl rfl ⟨p0,?_⟩))⟩)⟩)⟩))))))
  have f0:=aK ((y - zn p x cs)*inv p (zn p x ws)) (show p≠0 by lia)
  have f1:=aC ((y - zn p x cs)*inv p (zn p x ws)) p0
  refine (kF rfl (kF rfl (ex4 c v _ _ ⟨rfl,kG.of hc,kG.of hv,zdm (n:=ws.length) (f:=fun number other=>(number+((y - zn p x cs)*inv p (zn p x ws) % p)*other) % p) hc hv hle (af _) (.inr (af _)) (by lia) ?_ ?_⟩)))
  ·intro j u w H6 T R B hu hv s6 hT hR
   refine gY2 (kP.of zb) ?_
   exact (kF rfl (kF rfl (kF rfl (kN rfl rfl ⟨.inl ⟨by lia,by lia⟩,(kN rfl rfl (kF rfl (kN rfl rfl ⟨p0,hR⟩)))⟩))))
  ·intro D H6 s6 hD
   obtain⟨f,hf⟩:∃ f,(y - zn p x cs)*inv p (zn p x ws) % p=f:=⟨_,rfl⟩
   rw [hf] at q ⊢
   have lz:(aT (fun number other=>(number+f*other) % p) cs ws).length=ws.length:=by rw [d8]; lia
   have s7:=s6.trans (zc (o:=.lst ((aT (fun number other=>(number+f*other) % p) cs ws).map V.int)) hD)
   have tI:kL H6 D (.lst ((aT (fun number other=>(number+f*other) % p) cs ws).map V.int)) D=some (.lst ((aT (fun number other=>(number+f*other) % p) cs ws).map V.int)):=zb
   generalize kL H6 D (.lst ((aT (fun number other=>(number+f*other) % p) cs ws).map V.int))=H7 at s7 tI ⊢
   have As:=s7 _ _ hc
   refine (kF rfl (kF rfl (kF rfl ⟨D,(kF rfl ⟨.inl (kG.of tI),?_⟩)⟩)))
   refine (kF rfl ⟨c,(kF rfl ⟨kG.of As,fun z hz=>?_⟩)⟩)
   have ec:za2 (cs.map V.int) (some ((((aT (fun number other=>(number+f*other) % p) cs ws).map V.int).length:Nat):Int)) none=(cs.drop ws.length).map V.int:=by
    rw [ab,lz,zgM (by rw [ab]; exact hle),fJ]
   rw [ec]
   have s8:=zc (o:=.lst ((cs.drop ws.length).map V.int)) hz
   refine (ex4 D z _ _ ⟨rfl,rfl,s8 _ _ tI,zb,by rw [ab,ab,lz,bS]; lia,fun l hl=>q l _ (((s7.trans s8).free hl)) ((s7.trans s8).trans (zc hl)) ?_⟩)
   rw [zb,zkO cs ws hle,aA]
theorem zaX:FnScope ["p","points","polynomial","vanishing","x","y"] ["p","points"] (zh zcA):=⟨rfl,rfl,rfl,by decide +kernel,rfl,by decide +kernel,by decide +kernel⟩
theorem zeH {fd:FuncData} (T:Txt K mg t) (F:Fun K "through" "through" zcA t.through fd):FnOk P w K mg base CX0 3 t.through fd ["p","points"] (zgE K):=by
 obtain⟨vy,ue,rA⟩:=T.f_bent
 have xh:=zlT (P:=P) (w:=w) (base:=base) T ue
 obtain⟨pN,nu,mo⟩:=T.f_times_root
 have qb:=zeT (P:=P) (w:=w) (base:=base) T nu
 refine F.ok zaX (fun vs H Q E h=>?_) (fun ly A outer s H vs Q E hr h=>?_)
 ·obtain⟨p,a,kH,rfl,_⟩:=h
  rfl
 ·obtain⟨p,a,kH,rfl,hP,kQ,mp,hp,D4,q⟩:=h
  refine⟨_,#[zd,#[zp,2,zaX.nd,(au rfl),#[zi,#[zg9],#[z9,#[za,#[zg],#[ze]]],#[zw,#[zr],T.len_,bM,#[za,#[pvx,1],#[ze]]]]],#[zd,#[zp,3,zaX.nd,(au rfl),#[z9,#[za,#[zg],#[ze]]]],#[zd,#[zam,aX,#[zT,#[pvx,1]],#[zav,#[zj,#[zf,4,zaX.nd,(au rfl)],#[zj,#[zf,5,zaX.nd,(au rfl)],#[zK]]]],#[zd,#[zp,2,zaX.nd,(au rfl),#[zt,xh,(hr.mono (by decide)),T.m_bent,ue.kp,rA,#[zO],#[za,#[pvx,0],by exact #[za,#[pvx,2],#[za,#[pvx,3],#[za,#[zaK,#[za,#[pvx,4],#[za,#[pvx,5],#[ze]]]],#[ze]]]]]]],#[zl,#[zp,3,zaX.nd,(au rfl),#[zt,qb,(hr.mono (by decide)),T.m_times_root,nu.kp,mo,#[zO],#[za,#[pvx,0],#[za,#[pvx,3],#[za,#[pvx,4],#[ze]]]]]]]]],#[zl,#[zE,#[zaO,#[zbf],T.tuple_,f',#[za,#[pvx,2],#[ze]]]]]]]],?_⟩
  have om:=a7
  have rp:=zo mp
  have p0:0 < p:=by lia
  obtain⟨bs,hS,qY,hb⟩:=id hP
  refine⟨by show 1≤sizeLine; lia,fun z hz=>(kF rfl ⟨a,(kF rfl ⟨.inl ((zc hz).seq hS),z,_,[.int 0],rfl,rfl,zb,by rw [ab]; lia,by rw [ab]; lia,by rw [ab]; show 1*_≤sizeLine; lia,fun c hc=>?_⟩)⟩)⟩
  have s0:=zc (o:=.lst [.int 0]) hz
  have hcH:H c=none:=s0.free hc
  refine⟨by show 1≤sizeLine; lia,fun v hv=>?_⟩
  have hcv:c≠v:=zJ zb hv
  rw [ab,zc1,qY,bH] at hv ⊢
  have s2:zu H (kL (kL (kL H z (.lst [.int 0])) c (.lst ((aj kH.length 0).map V.int))) v (.lst [.int 1])):=(s0.trans (zc hc)).trans (zc hv)
  refine⟨_,rfl,a,rfl,⟨_,s2.seq hS⟩,za1 (K:=K) (a:=a) (xs:=bs.map V.ref) (fun i σ H'=>∃ (c v:Addr) (s:List Int×List Int) (e4 e5:Option V),σ = [some (.int p),some (.ref a),some (.ref c),some (.ref v),e4,e5] ∧
   s=(kH.take i).foldl (zcj p) (aj kH.length 0,[1])∧Nw p kH.length ((kH.take i).map (md p)) s∧zu H H'∧H' c=some (.lst (s.1.map V.int))∧H' v=some (.lst (s.2.map V.int)))
   ⟨c,v,_,none,none,rfl,rfl,by rw [dz]; exact zgd mp _,s2,by rw [zq hcv]; exact zb,zb⟩ (fun i σ H' _ ⟨_,_,_,_,_,_,_,_,s3,_⟩=>s3.seq hS) ?_ ?_⟩
  ·rintro i y σ H1 hy ⟨c,v,s,e4,e5,rfl,hs,nw,s1,qc,D5⟩
   obtain⟨b,rfl,Au⟩:=zQ hy
   obtain⟨hi,_⟩:=ak.mp Au
   obtain⟨⟨x,y⟩,hq⟩:∃ q,kH[i]? = some q:=⟨kH[i]'(by lia),by simp⟩
   have hbq:=s1 _ _ (hb i b _ Au hq)
   have uC:=zel hq
   have qr:=hp
   rw [uC,aA,bd] at qr
   have Cb:=qr.apart
   obtain⟨x0,x1,m0,m1⟩:=hp.rg _ (aB.mpr ⟨_,ap hq,rfl⟩)
   obtain⟨y0,y1⟩:=D4 _ (ap hq)
   dsimp only [md] at x0 x1 m0 m1 y0 y1
   have vz:i < kH.length:=by lia
   have v3:(kH.take i).length=i:=by rw [aJ]; lia
   have D6:=zhY mp nw (q:=md p (x,y)) (by rw [ab,v3]; exact vz) x0 x1 m0 m1 Cb
   rw [zgD] at D6
   obtain⟨Cc,yf⟩:=zhX mp nw (q:=(x,y)) x0 x1 (fun a ha=>⟨(Cb a ha).1,(Cb a ha).2.1,(Cb a ha).2.2.1⟩)
   dsimp only at Cc yf
   have qU:zcj p s (x,y)=(ad p ((y - zn p x s.1)*inv p (zn p x s.2) % p) s.1 s.2,zci p x s.2):=rfl
   rw [qU] at D6
   have l1:=nw.lc
   have l2:=nw.lv
   rw [ab,v3] at l2
   refine⟨b,_,rfl,kP.of hbq,rfl,_,_,rfl,_,_,rfl,rfl,?_⟩
   refine (kF rfl (kF rfl (kF rfl (kF rfl (kF rfl ⟨by show 2≤sizeLine; lia,fun tt ht=>?_⟩)))))
   have t1:=zc (o:=.tup [.int x,.int y]) ht
   refine (ex8 p x y c v tt s.1 s.2 ⟨rfl,t1 _ _ qc,t1 _ _ D5,zb,mp,x0,x1,y0,y1,Cc,yf,by lia,by lia,fun l H3 hl s3 v5=>?_⟩)
   have s4:=t1.trans s3
   refine (kF rfl (kF rfl (kF rfl (ex4 p x v s.2 ⟨rfl,s4 _ _ D5,by lia,p0,x0,by lia,fun l2 H4 pJ s5 h4l=>?_⟩))))
   refine (ex5 l l2 (zcj p s (x,y)) _ _ ⟨rfl,?_,?_,(s1.trans s4).trans s5,?_,?_⟩)
   ·rw [take_snoc hq,List.foldl_append,← hs]
    rfl
   ·rw [take_snoc hq,qU,aA]
    exact D6
   ·rw [qU]
    exact s5 _ _ v5
   ·rw [qU]
    exact h4l
  ·rintro σ H1 ⟨c,v,s,e4,e5,rfl,hs,nw,s1,qc,D5⟩
   rw [ab,qY,aZ] at hs
   refine (kF rfl ⟨c,(kF rfl (.inl ⟨kG.of qc,fun l hl=>q l _ (s1.free hl) (s1.trans (zc hl)) ?_⟩))⟩)
   rw [zb,hs,znb]
   rfl
theorem zaV:FnScope ["code","row","p","k","places"] ["code","row"] (zh zaM):=⟨rfl,rfl,rfl,by decide +kernel,rfl,by decide +kernel,by decide +kernel⟩
theorem zb8 {fd:FuncData} (T:Txt K mg t) (F:Fun K "heard_points" "heard_points" zaM t.heard_points fd):FnOk P w K mg base CX0 1 t.heard_points fd ["code","row"] (zlI K):=by
 refine F.ok zaV (fun vs H Q E h=>?_) (fun ly A outer s H vs Q E hr h=>?_)
 ·obtain⟨c,tt,r,p,k,pl,rw,rfl,_⟩:=h
  rfl
 ·obtain⟨c,tt,r,p,k,pl,rw,rfl,hc,ou,hn,q⟩:=h
  refine⟨_,#[zd,#[zaG,#[pvx,0],#[zav,#[zj,#[zf,2,zaV.nd,(au rfl)],#[zj,#[zf,3,zaV.nd,(au rfl)],#[zj,#[zf,4,zaV.nd,(au rfl)],#[zK]]]]]],#[zl,#[zE,#[zad,(CompSc.of (N':=["place","entry"]) (ix:=[none,none]) (zh zaM) ["code","row","p","k","places"] rfl rfl (by decide +kernel)),#[zbw,#[zW,#[zW,#[za3]]]],(@zj9 _ _ _ _ _ _ _ _ _ rfl T.zip_ #[za,#[pvx,4],#[za,#[pvx,1],#[ze]]] (by rfl) (by rfl)),(fun _ _ _ _=>#[zaT,(K),2,#[zj,#[zf,0,(show (["place","entry"]:List Str).Nodup by decide +kernel),(au rfl)],#[zj,#[zf,1,(show (["place","entry"]:List Str).Nodup by decide +kernel),(au rfl)],#[zK]]]]),(fun _ _ _ _=>#[zcf,#[zy,#[zfo],#[pvx,1],#[zcb],(zL _)]]),(fun _ _ _ _=>#[zaK,#[za,#[pvx,0],#[za,#[pvx,1],#[ze]]]])]]]],?_⟩
  have om:=a7
  have hl:=ou.len
  refine⟨_,rfl,c,_,rfl,kP.of hc.1,rfl,_,_,rfl,_,_,rfl,_,_,rfl,rfl,?_⟩
  refine (kF rfl (kF rfl (ex4 tt r _ _ ⟨rfl,kP.of hc.2,ou.at',zY (n:=pl.length) (fun i ys H'=>zu H H'∧∃ us:List Addr,ys=us.map V.ref∧PtB H' us (lh (pl.take i) (rw.take i))) ⟨fun _ _ e=>e,[],rfl,.nil⟩ ?_ ?_ ?_ ?_⟩)))
  ·rintro i ys H3 hi ⟨s3,_⟩
   obtain⟨o,ho⟩:∃ o,rw[i]? = some o:=⟨rw[i]'(by lia),by simp⟩
   exact⟨_,_,.int pl[i],lL o,kP.of (s3 _ _ hc.2),s3.seq ou.at',by rw [ag,am hi]; rfl,by rw [ag,ho]; rfl⟩
  ·rintro ys H3 ⟨s3,_⟩
   exact⟨_,_,kP.of (s3 _ _ hc.2),s3.seq ou.at',.inl (by rw [ab])⟩
  ·rintro i xx ys H3 H4 hi ⟨s3,us,rfl,lG⟩ ⟨T,u,v,hT,rfl,rfl,hu,hv⟩
   obtain⟨x,rfl,hx⟩:=zae (hu _ (kP.of (s3 _ _ hc.2)))
   obtain⟨o,rfl,ho⟩:=zct (hv _ (s3.seq ou.at'))
   have v4:=zc (o:=.tup [.int x,lL o]) hT
   have s4:=s3.trans v4
   have hs:=zda hx ho
   have mY:=lG.length
   have hb:=zb1 (pl.take i) (rw.take i)
   rw [aJ] at hb
   refine⟨T,_,rfl,kP.of zb,rfl,_,_,rfl,_,_,rfl,rfl,?_⟩
   refine (kF rfl ⟨rfl,(kF rfl ?_)⟩)
   cases o with
   | none =>
    refine zdj ⟨s4,us,rfl,?_⟩
    rw [hs,bw]
    exact lG.same v4
   | some z =>
    refine zmJ (kF rfl (kF rfl ⟨by show 2≤sizeLine; lia,fun T2 se=>⟨by rw [ab]; lia,s4.trans (zc se),us++[T2],by rw [aA]; rfl,?_⟩⟩))
    rw [hs]
    exact bO (lG.same (v4.trans (zc se))) zb
  ·rintro ys H3 D ⟨s3,us,rfl,lG⟩ hD
   rw [aZ,aO (by lia)] at lG
   exact q D us _ (s3.free hD) (s3.trans (zc hD)) zb (lG.same (zc hD))
end
end My
end
section
namespace My
open PySem L2 PyProof.Rows
section
variable {P:Program} {w:World} {K:ah} {mg:Str→Option Value} {base:Heap} {t:Adr}
theorem zhz:FnScope ["p","vector","times","other"] ["p","vector","times","other"] (zh zbP):=⟨rfl,rfl,rfl,by decide +kernel,rfl,by decide +kernel,by decide +kernel⟩
theorem zhA {fd:FuncData} (T:Txt K mg t) (F:Fun K "without" "without" zbP t.without fd):FnOk P w K mg base CX0 1 t.without fd ["p","vector","times","other"] (zhu K):=by
 refine F.ok zhz (fun vs H Q E h=>?_) (fun ly A outer s H vs Q E hr h=>?_)
 ·obtain⟨p,tm,a,b,as,bs,rfl,_⟩:=h
  rfl
 ·obtain⟨p,tm,a,b,as,bs,rfl,ha,hb,hl,hn,p0,t0,t1,q⟩:=h
  refine⟨_,#[zl,#[zE,#[zad,(CompSc.of (N':=["number","less","times","p"]) (ix:=[none,none,some 2,some 0]) (zh zbP) ["p","vector","times","other"] rfl rfl (by decide +kernel)),#[zbw,#[zW,#[zW,#[za3]]]],#[zcY,T.zip_,#[za,#[pvx,1],#[za,#[pvx,3],#[ze]]]],(fun _ _ _ _=>#[zaT,(K),2,#[zj,#[zf,0,(show (["number","less","times","p"]:List Str).Nodup by decide +kernel),(au rfl)],#[zj,#[zf,1,(show (["number","less","times","p"]:List Str).Nodup by decide +kernel),(au rfl)],#[zK]]]]),(fun _ _ _ _=>#[zG]),(fun _ _ _ _=>#[zi,#[zH],#[zi,#[zba],#[pvx,0],#[zi,#[zU],#[pvx,2],#[pvx,1]]],#[pvx,3]])]]],?_⟩
  have om:=a7
  refine (kF rfl (kF rfl (ex4 a b _ _ ⟨rfl,kG.of ha,kG.of hb,zdm (n:=as.length) (f:=fun x y=>(x - tm*y) % p) ha hb (af _) (by lia) (.inl (af _)) (by lia) ?_ ?_⟩)))
  ·intro j u w H6 T R B hu hv s6 hT hR
   refine gY2 (kP.of zb) ?_
   exact (kF rfl (kF rfl (kF rfl (kN rfl rfl ⟨.inl ⟨by lia,by lia⟩,(kN rfl rfl (kF rfl (kN rfl rfl ⟨p0,hR⟩)))⟩))))
  ·intro D H6 s6 hD
   exact q D _ (s6.free hD) (s6.trans (zc hD)) zb
theorem zF:FnScope ["p","vectors","length","cleared","count","vector","whole","lead","other","leads","factor"] ["p","vectors"] (zh zal):=⟨rfl,rfl,rfl,by decide +kernel,rfl,by decide +kernel,by decide +kernel⟩
theorem zde {fd:FuncData} (T:Txt K mg t) (F:Fun K "first_relation" "first_relation" zal t.first_relation fd):FnOk P w K mg base CX0 2 t.first_relation fd ["p","vectors"] (zdb K):=by
 obtain⟨rB,pX,nP⟩:=T.f_without
 have sJ:=zhA (P:=P) (w:=w) (base:=base) T pX
 obtain⟨oP,l5,l6⟩:=T.f_inverse
 have nO:=zeG (P:=P) (w:=w) (base:=base) T l5
 refine F.ok zF (fun vs H Q E h=>?_) (fun ly A outer s H vs Q E hr h=>?_)
 ·obtain⟨p,a,ls,vv,L,rfl,_⟩:=h
  rfl
 ·obtain⟨p,a,ls,vv,L,rfl,ha,D7,lA,hN,hL,hvv,hp,qn,qs⟩:=h
  refine⟨_,#[zd,#[zp,2,zF.nd,(au rfl),#[zw,#[zr],T.len_,bM,#[za,#[zM,#[zC],#[pvx,1],#[zg]],#[ze]]]],#[zd,#[zp,3,zF.nd,(au rfl),#[z9,#[ze]]],#[zd,#[zam,aX,#[zcg,T.enumerate_,#[za,#[pvx,1],#[ze]]],#[zav,#[zj,#[zf,4,zF.nd,(au rfl)],#[zj,#[zf,5,zF.nd,(au rfl)],#[zK]]]],#[zd,#[zp,6,zF.nd,(cn rfl),#[zi,#[zcM],#[pvx,5],#[zi,#[zg9],#[z9,#[za,#[zg],#[ze]]],#[zw,#[zr],T.len_,bM,#[za,#[pvx,1],#[ze]]]]]],#[zd,#[zaG,#[zg],#[zcL,#[pvx,6],#[zi,#[zB],#[pvx,2],#[pvx,4]],set_list]],#[zd,#[zam,aX,#[zT,#[pvx,3]],#[zav,#[zj,#[zf,7,zF.nd,(au rfl)],#[zj,#[zf,8,zF.nd,(au rfl)],#[zK]]]],#[zl,#[zp,6,zF.nd,(cn rfl),#[zt,sJ,(hr.mono (by decide)),T.m_without,pX.kp,nP,#[zO],#[za,#[pvx,0],by exact #[za,#[pvx,6],#[za,#[zM,#[zC],#[pvx,6],#[pvx,7]],#[za,#[pvx,8],#[ze]]]]]]]]],#[zd,#[zaA,9,zF.nd,(au rfl),(CompSc.of (N':=["at","whole"]) (ix:=[none,some 6]) (zh zal) ["p","vectors","length","cleared","count","vector","whole","lead","other","leads","factor"] rfl rfl (by decide +kernel)),#[zai],#[zaF,T.range_,#[za,#[pvx,2],#[ze]]],(fun _ _ _ _=>#[zf,0,(show (["at","whole"]:List Str).Nodup by decide +kernel),(au rfl)]),(fun _ _ _ _=>#[zcf,#[zy,#[zdv],#[zM,#[zbM,(K)],#[pvx,1],#[pvx,0]],#[zg],(zL _)]]),(fun _ _ _ _=>#[pvx,0])],#[zd,#[zaJ,#[zd5,(@zjE _ _ _ #[pvx,9] (fun _=>rfl))],#[zl,#[zE,#[zbi,zcq,#[pvx,6],#[zbq,#[pvx,2]],#[zbq,#[zi,#[zB],#[zi,#[zB],#[pvx,2],#[pvx,4]],#[zg]]]]]],#[zZ]],#[zd,#[zp,10,zF.nd,(cn rfl),#[zt,nO,(hr.mono (by decide)),T.m_inverse,l5.kp,l6,#[zO],#[za,#[pvx,0],#[za,#[zM,#[zC],#[pvx,6],#[zM,#[zC],#[pvx,9],#[zg]]],#[ze]]]]],#[zl,#[zbS,#[zdx,bX,cg,ci,#[zbb],#[pvx,3],#[za,#[zaK,#[za,#[zM,#[zC],#[pvx,9],#[zg]],#[za,#[zad,(CompSc.of (N':=["number","factor","p"]) (ix:=[none,some 10,some 0]) (zh zal) ["p","vectors","length","cleared","count","vector","whole","lead","other","leads","factor"] rfl rfl (by decide +kernel)),#[zai],#[zT,#[pvx,6]],(fun _ _ _ _=>#[zf,0,(show (["number","factor","p"]:List Str).Nodup by decide +kernel),(au rfl)]),(fun _ _ _ _=>#[zG]),(fun _ _ _ _=>#[zi,#[zH],#[zi,#[zU],#[pvx,0],#[pvx,1]],#[pvx,2]])],#[ze]]]],#[ze]]]]]]]]]]]],#[zl,#[zE,#[zcb]]]]]],?_⟩
  have om:=a7
  have rp:=zo hp
  have p0:0 < p:=by lia
  have vw:=D7.length
  have hN0:0 < vv.length:=eX.mpr lA
  obtain⟨l0,hl0⟩:∃ l0,ls[0]? = some l0:=⟨ls[0]'(by lia),by simp⟩
  obtain⟨v0,D8,xi⟩:=Paired.get D7 hl0
  have D9:=(hvv v0 (ap D8)).1
  refine (kF rfl (ex4 a _ _ (.ref l0) ⟨rfl,rfl,kG.of ha,zag (j:=0) (by rw [ag,hl0]; rfl),l0,(kF rfl ⟨.inl (kG.of xi),?_⟩)⟩))
  rw [ab,D9]
  refine⟨by show 0≤sizeLine; lia,fun ca vA=>?_⟩
  have u1:=zc (o:=.lst []) vA
  refine⟨_,rfl,a,_,rfl,kG.of (u1 _ _ ha),zcN (n:=vv.length) (fun i σ H'=>∃ (cs:List Addr) (cl:List (Nat×List Int)) (e4 e5 e6 e7 e8 e9 mh:Option V),σ = [some (.int p),some (.ref a),some (.int (L:Int)),some (.ref ca),e4,e5,e6,e7,e8,e9,mh]∧zu H H'∧H' ca=some (.lst (cs.map V.ref))∧ClA ca H' cs cl∧Ech p L vv.length i vv cl)
   ⟨[],[],none,none,none,none,none,none,none,rfl,u1,zb,.nil,Ech.start p L vv.length vv⟩ ?_ ?_ ?_ ?_⟩
  ·rintro i σ H1 hi ⟨cs,cl,e4,e5,e6,e7,e8,e9,mh,rfl,s1,_⟩
   exact⟨_,.ref (ls[i]'(by lia)),kG.of (s1 _ _ ha),by rw [ag,am (by lia)]; rfl⟩
  ·rintro σ H1 ⟨cs,cl,e4,e5,e6,e7,e8,e9,mh,rfl,s1,_⟩
   exact⟨_,kG.of (s1 _ _ ha),by rw [ab]; lia⟩
  ·rintro i x σ H1 H2 hi ⟨cs,cl,e4,e5,e6,e7,e8,e9,mh,rfl,s1,qc,qW,E⟩ ⟨T,v,hT,rfl,rfl,hv⟩
   obtain⟨lv,rfl,hlv⟩:=zQ (hv _ (kG.of (s1 _ _ ha)))
   obtain⟨vec,Av,hva⟩:=Paired.get D7 hlv
   obtain⟨rY,hvr⟩:=hvv vec (ap Av)
   have t2:=zc (o:=.tup [.int (i:Int),.ref lv]) hT
   refine⟨T,_,rfl,kP.of zb,rfl,_,_,rfl,_,_,rfl,rfl,?_⟩
   have s2:=s1.trans t2
   have D':=t2 _ _ qc
   have Aw:=qW.same t2
   generalize kL H1 T (.tup [.int (i:Int),.ref lv])=H2 at t2 s2 D' Aw ⊢
   refine (kF rfl ⟨by show 1≤sizeLine; lia,fun z hz=>(kF rfl ⟨a,(kF rfl ⟨.inl (kG.of ((s2.trans (zc hz)) _ _ ha)),z,_,[.int 0],rfl,rfl,zb,by rw [ab]; lia,by rw [ab]; lia,by rw [ab]; show 1*_≤sizeLine; lia,fun y hy=>?_⟩)⟩)⟩)
   rw [ab,zc1,vw,bH]
   have t3:=(zc (o:=.lst [.int 0]) hz).trans (zc (o:=.lst ((aj vv.length (0:Int)).map V.int)) hy)
   have h3y:kL (kL H2 z (.lst [.int 0])) y (.lst ((aj vv.length (0:Int)).map V.int)) y=some (.lst ((aj vv.length (0:Int)).map V.int)):=zb
   generalize kL (kL H2 z (.lst [.int 0])) y (.lst ((aj vv.length (0:Int)).map V.int))=H3 at t3 h3y ⊢
   refine (ex4 lv y _ _ ⟨rfl,rfl,(s2.trans t3) _ _ hva,h3y,by rw [ab,ab,aL]; lia,fun wl sk=>?_⟩)
   rw [← aA]
   have t4:=zc (o:=.lst ((vec++aj vv.length (0:Int)).map V.int)) sk
   refine (kF rfl (kF rfl (kF rfl (kN rfl rfl (ex4 wl _ _ (L+i) ⟨rfl,rfl,zb,?_,?_⟩)))))
   ·rw [← dL]
    exact zbY (by rw [ab,ar,aL]; lia)
   have ew:((vec++aj vv.length (0:Int)).map V.int).set (L+i) (.int 1)=((vec++aj vv.length (0:Int)).set (L+i) 1).map V.int:=by rw [eM]
   rw [ew,zhG]
   have t4:=t3.trans (zc (o:=.lst (((vec++aj vv.length (0:Int)).set (L+i) 1).map V.int)) sk)
   have Ea:kL H3 wl (.lst (((vec++aj vv.length (0:Int)).set (L+i) 1).map V.int)) wl=some (.lst (((vec++aj vv.length (0:Int)).set (L+i) 1).map V.int)):=zb
   have W0:=zgB hp (N:=vv.length) hi Av rY hvr
   have hwc:wl≠ca:=fun e=>by
    have:=t3 _ _ D'
    rw [← e,sk] at this
    cases this
   generalize kL H3 wl (.lst (((vec++aj vv.length (0:Int)).set (L+i) 1).map V.int))=H4 at t4 Ea ⊢
   generalize (vec++aj vv.length (0:Int)).set (L+i) 1=w0 at W0 Ea ⊢
   have s4:=s2.trans t4
   have Cd:=t4 _ _ D'
   have xj:=Aw.same t4
   have Ax:=xj.length
   refine⟨_,rfl,ca,rfl,⟨_,kG.of Cd⟩,za1 (K:=K) (a:=ca) (xs:=cs.map V.ref) (fun j σ H'=>∃ (wa:Addr) (w:List Int) (e7 e8:Option V),σ = [some (.int p),some (.ref a),some (.int (L:Int)),some (.ref ca),some (.int (i:Int)),some (.ref lv),some (.ref wa),e7,e8,e9,mh]∧zu H4 H'∧H' wa=some (.lst (w.map V.int))∧wa≠ca∧Wh p L vv.length i vv (cl.take j) w)
    ⟨wl,w0,_,_,rfl,fun _ _ e=>e,Ea,hwc,W0⟩ (fun j σ H' _ ⟨_,_,_,_,_,s5,_⟩=>kG.of (s5 _ _ Cd)) ?_ ?_⟩
   ·rintro j y σ H5 hy ⟨wa,w,e7,e8,rfl,s5,Ay,hwa,W⟩
    obtain⟨b,rfl,hb⟩:=zQ hy
    obtain⟨aa,Az,oa,r9,tY,xZ⟩:=Paired.get xj hb
    obtain⟨o1,o2,o3,_⟩:=E.one j aa Az
    refine⟨b,_,rfl,kP.of (s5 _ _ r9),rfl,_,_,rfl,_,_,rfl,rfl,?_⟩
    have hg:=zb2 p0 W.rg aa.1
    refine (kF rfl (kF rfl (kF rfl (kF rfl (ex4 wa _ _ (.int (gl w aa.1)) ⟨rfl,rfl,kG.of Ay,zag (by rw [ag,zax (by rw [W.ln]; lia)]; rfl),(kF rfl (ex6 p (gl w aa.1) wa oa w aa.2 ⟨rfl,Ay,s5 _ _ tY,by rw [W.ln,o2],by rw [W.ln]; lia,p0,hg.1,by lia,fun l H6 hl s6 vB=>?_⟩))⟩)))))
    refine (ex4 l _ _ _ ⟨rfl,s5.trans s6,vB,fun e=>?_,ziq hp E hi Az W⟩)
    have:=s5 _ _ Cd
    rw [← e,hl] at this
    cases this
   ·rintro σ H5 ⟨wa,w,e7,e8,rfl,s5,Ay,hwa,W⟩
    rw [ab,Ax,aZ] at W
    have h5c:=s5 _ _ Cd
    have Eb:=xj.same s5
    have s15:=s4.trans s5
    refine (kF rfl (kF rfl ⟨by lia,by lia,?_⟩))
    rw [bH]
    refine zY (n:=L) (fun j ys H'=>H'=H5∧ys=(((aD j).filter fun m=>decide (gl w m≠0)).map fun m:Nat=>(m:Int)).map V.int) ⟨rfl,rfl⟩ (fun j ys H' hj _=>hj) (fun ys H' _=>af _) ?_ ?_
    ·rintro j xx ys H6 H7 hj ⟨rfl,rfl⟩ ⟨rfl,rfl⟩
     have hgj:(w.map V.int)[j]? = some (.int (gl w j)):=by rw [ag,zax (by rw [W.ln]; lia)]; rfl
     refine (kF rfl (kF rfl (ex4 wa _ _ (.int (gl w j)) ⟨rfl,rfl,kG.of Ay,by rw [cG]; exact zag hgj,rfl,(kF rfl ?_)⟩)))
     have v7:=dI (fun m=>decide (gl w m≠0)) (aD j)
     rw [aW] at v7
     rw [cB,dE,aA,aA]
     by_cases h0:gl w j=0
     ·refine zaf (fun h=>absurd h (by rw [h0]; simp)) (fun _=>⟨rfl,?_⟩)
      rw [ee (by simpa using h0),fc,cJ,cJ,bw]
     ·refine zaf (fun _=>(kF rfl ⟨zaB (by rw [ab,ab]; lia),rfl,?_⟩)) (fun h=>absurd (by simpa using h0) h)
      rw [ed (by simpa using h0),fc,cG]
      rfl
    ·rintro ys H6 D ⟨rfl,rfl⟩ hD
     have t7:=zc (o:=.lst ((((aD L).filter fun m=>decide (gl w m≠0)).map fun m:Nat=>(m:Int)).map V.int)) hD
     have tI:kL H6 D (.lst ((((aD L).filter fun m=>decide (gl w m≠0)).map fun m:Nat=>(m:Int)).map V.int)) D=_:=zb
     generalize kL H6 D (.lst ((((aD L).filter fun m=>decide (gl w m≠0)).map fun m:Nat=>(m:Int)).map V.int))=H7 at t7 tI ⊢
     have s7:=s15.trans t7
     have Ce:=t7 _ _ Ay
     have As:=t7 _ _ h5c
     have Ec:=Eb.same t7
     refine (kF rfl ⟨_,.inl ⟨_,kG.of tI,rfl⟩,?_⟩)
     cases xk:(aD L).filter fun m=>decide (gl w m≠0) with
     | nil =>
      refine zaf (fun _=>?_) (fun h=>absurd rfl h)
      have hz:∀ x,x < L→gl w x=0:=fun x hx=>by
       have:=fG.mp xk x (bm.mpr hx)
       simpa using this
      refine (kF rfl (kF rfl (kF rfl (kF rfl (kF rfl (kN rfl rfl (kN rfl rfl (kF rfl ⟨wa,(kF rfl ⟨kG.of Ce,fun l hl=>?_⟩)⟩))))))))
      have ec:za2 (w.map V.int) (some (L:Int)) (some ((L:Int)+(i:Int)+1))=((w.drop L).take (i+1)).map V.int:=by
       rw [show (L:Int)+(i:Int)+1=((L+i+1:Nat):Int) by lia,zlO (by rw [ab,W.ln]; lia),← fJ,← fI,show L+i+1 - L=i+1 by lia]
      rw [ec]
      obtain⟨d1,d2,d3⟩:=zkx W hi hz
      exact qs l _ i _ (s7.free hl) (s7.trans (zc hl)) zb d1 hi d2 d3
     | cons ld lds =>
      refine zaf (fun h=>absurd h (by simp)) (fun _=>?_)
      have hm:ld∈(aD L).filter fun m=>decide (gl w m≠0):=by rw [xk]; exact aF
      (obtain⟨rj,qA⟩:=bF.mp hm)
      have B':ld < L:=bm.mp rj
      have Cc:gl w ld≠0:=by simpa using qA
      obtain⟨g0,g1⟩:=zb2 p0 W.rg ld
      rw [xk] at tI
      have uf:atI ((((ld :: lds).map fun m:Nat=>(m:Int))).map V.int) 0=some (.int (ld:Int)):=zag (j:=0) rfl
      refine (kF rfl (kF rfl (kF rfl (ex4 D _ _ (.int (ld:Int)) ⟨rfl,rfl,kG.of tI,uf,wa,_,_,.int (gl w ld),rfl,rfl,kG.of Ce,zag (by rw [ag,zax (by rw [W.ln]; lia)]; rfl),p,gl w ld,rfl,hp,g0,g1,?_⟩))))
      refine (kF rfl ⟨.inl ⟨rfl,_,kG.of As⟩,(kF rfl (ex4 D _ _ (.int (ld:Int)) ⟨rfl,rfl,kG.of tI,uf,(kF rfl ⟨wa,rfl,⟨_,kG.of Ce⟩,zcs (fs:=(w.map fun x=>x*inv p (gl w ld) % p).map V.int) (kG.of Ce) (by rw [ab,ab,ab]) (by rw [ab,W.ln]; lia) ?_ ?_⟩)⟩))⟩)
      ·intro j x y R B hx hy hR
       obtain⟨n,rfl,hn⟩:=zae hx
       obtain⟨n',rfl,xM⟩:=zae hy
       rw [ag,hn] at xM
       cases xM
       have hnr:=W.rg n (ap hn)
       exact gY (kF rfl (kF rfl (kN rfl rfl ⟨.inl ⟨by lia,by lia⟩,(kF rfl (kN rfl rfl ⟨p0,hR⟩))⟩)))
      ·intro D2 wc
       have t8:=zc (o:=.lst ((w.map fun x=>x*inv p (gl w ld) % p).map V.int)) wc
       have h8D:kL H7 D2 (.lst ((w.map fun x=>x*inv p (gl w ld) % p).map V.int)) D2=some (.lst ((w.map fun x=>x*inv p (gl w ld) % p).map V.int)):=zb
       have hDc:D2≠ca:=fun e=>by rw [e,As] at wc; cases wc
       generalize kL H7 D2 (.lst ((w.map fun x=>x*inv p (gl w ld) % p).map V.int))=H8 at t8 h8D ⊢
       refine⟨by show 2≤sizeLine; lia,fun tb htb=>?_⟩
       have t9:=zc (o:=.tup [.int (ld:Int),.ref D2]) htb
       have Cf:kL H8 tb (.tup [.int (ld:Int),.ref D2]) tb=some (.tup [.int (ld:Int),.ref D2]):=zb
       have Ci:=t9 _ _ (t8 _ _ As)
       have s9:=(s7.trans t8).trans t9
       have AA:=(Ec.same t8).same t9
       have AB:=t9 _ _ h8D
       generalize kL H8 tb (.tup [.int (ld:Int),.ref D2])=H9 at t9 Cf Ci s9 AA AB ⊢
       have Al:=E.ln
       refine (ex3 ca _ _ ⟨rfl,rfl,Ci,by rw [ab,Ax,Al]; lia,cs++[tb],_,_,_,_,_,_,_,_,rfl,z0 s9 vA,by rw [zb,aA]; rfl,bO (AA.put Ci) ⟨D2,?_,?_,hDc⟩,zgC hp E hi W B' Cc⟩)
       ·rw [zq (fun e=>by rw [e,Ci] at Cf; cases Cf)]
        exact Cf
       ·rw [zq hDc]
        exact AB
  ·rintro σ H1 ⟨cs,cl,e4,e5,e6,e7,e8,e9,mh,rfl,s1,qc,qW,E⟩
   exact qn H1 s1 (zkw E)
theorem zdt:FnScope ["p","left","points"] ["p","left","points"] (zh zaE):=⟨rfl,rfl,rfl,by decide +kernel,rfl,by decide +kernel,by decide +kernel⟩
theorem zdu {fd:FuncData} (T:Txt K mg t) (F:Fun K "times_entries" "times_entries" zaE t.times_entries fd):FnOk P w K mg base CX0 4 t.times_entries fd ["p","left","points"] (zdr K):=by
 obtain⟨oQ,l7,l8⟩:=T.f_through
 have nQ:=zeH (P:=P) (w:=w) (base:=base) T l7
 obtain⟨mM,kX,k8⟩:=T.f_value_at
 have lD:=zco (P:=P) (w:=w) (base:=base) T kX
 refine F.ok zdt (fun vs H Q E h=>?_) (fun ly A outer s H vs Q E hr h=>?_)
 ·obtain⟨p,la,a,l,bs,kH,rfl,_⟩:=h
  rfl
 ·obtain⟨p,la,a,l,bs,kH,rfl,Ed,ha,hB,hn,hp,hP,q⟩:=h
  refine⟨_,#[zl,#[zE,#[zt,nQ,(hr.mono (by decide)),T.m_through,l7.kp,l8,#[zO],#[za,#[pvx,0],#[za,#[zad,(CompSc.of (N':=["x","y","p","left"]) (ix:=[none,none,some 0,some 1]) (zh zaE) ["p","left","points"] rfl rfl (by decide +kernel)),#[zbw,#[zW,#[zW,#[za3]]]],#[zT,#[pvx,2]],(fun _ _ _ _=>#[zaT,(K),2,#[zj,#[zf,0,(show (["x","y","p","left"]:List Str).Nodup by decide +kernel),(au rfl)],#[zj,#[zf,1,(show (["x","y","p","left"]:List Str).Nodup by decide +kernel),(au rfl)],#[zK]]]]),(fun _ _ _ _=>#[zG]),(fun _ _ _ _=>#[zaK,#[za,#[pvx,0],#[za,#[zi,#[zU],#[zt,lD,(hr.mono (by decide)),T.m_value_at,kX.kp,k8,#[zO],#[za,#[pvx,2],#[za,#[pvx,3],#[za,#[pvx,0],#[ze]]]]],#[pvx,1]],#[ze]]]])],#[ze]]]]]],?_⟩
  have om:=a7
  have rp:=zo hp
  have p0:0 < p:=by lia
  have qY:=hB.length
  refine (kF rfl (kF rfl ⟨a,rfl,⟨_,ha⟩,zY (n:=bs.length) (fun i ys H'=>zu H H'∧∃ us:List Addr,ys=us.map V.ref∧PtB H' us ((kH.take i).map fun a=>(a.1,zn p a.1 l*a.2))) ⟨fun _ _ e=>e,[],rfl,.nil⟩ ?_ ?_ ?_ ?_⟩))
  ·rintro i ys H1 hi ⟨s1,_⟩
   exact⟨_,.ref bs[i],s1.seq ha,by rw [ag,am hi]; rfl⟩
  ·rintro ys H1 ⟨s1,_⟩
   exact⟨_,s1.seq ha,by rw [ab]; exact af _⟩
  ·rintro i y ys H1 H2 hi ⟨s1,us,rfl,lG⟩ ⟨rfl,hy⟩
   obtain⟨b,rfl,hb⟩:=zQ (hy _ (s1.seq ha))
   obtain⟨pt,yj,lC⟩:=Paired.get hB hb
   obtain⟨x0,x1,y0,y1⟩:=hP.rg pt (ap yj)
   have mY:=lG.length
   rw [ab,aJ] at mY
   have v0:=zas (x:=pt.1) p0 l
   have v1:=zat (x:=pt.1) p0 l
   refine gY2 (kP.of (s1 _ _ lC)) ⟨_,rfl,_,rfl,_,rfl,_,rfl,p,pt.1,la,l,rfl,.inr (znc s1 Ed),p0,by lia,x0,x1,_,rfl,_,_,rfl,rfl,.inl ⟨by lia,by lia⟩,by show 2≤sizeLine; lia,fun z hz=>?_⟩
   refine⟨by rw [ab]; lia,s1.trans (zc hz),us++[z],by rw [aA]; rfl,?_⟩
   rw [take_snoc yj,aA]
   exact bO (lG.same (zc hz)) zb
  ·rintro ys H1 D ⟨s1,us,rfl,lG⟩ hD
   rw [qY,aZ] at lG
   have t2:=zc (o:=.lst (us.map V.ref)) hD
   have yk:kL H1 D (.lst (us.map V.ref)) D=some (.lst (us.map V.ref)):=zb
   have oR:=lG.same t2
   generalize kL H1 D (.lst (us.map V.ref))=H2 at t2 yk oR ⊢
   refine (ex3 p D _ ⟨rfl,oR.pts yk,by rw [ab]; lia,hp,by rw [zkF]; exact zcy p0 hP,fun q hq=>?_,fun z H3 hz s3 h3=>q z H3 ((s1.trans t2).free hz) ((s1.trans t2).trans s3) (by rw [zkF] at h3; exact h3)⟩)
   obtain⟨b,hb,rfl⟩:=aB.mp hq
   obtain⟨_,_,y0,y1⟩:=hP.rg b hb
   have v0:=zas (x:=b.1) p0 l
   have v1:=zat (x:=b.1) p0 l
   dsimp only
   have h1:zn p b.1 l*b.2≤97*97:=Int.mul_le_mul (by lia) (by lia) y0 (by lia)
   have h2:=ki v0 y0
   lia
theorem zjn:FnScope ["rights","many"] ["rights","many"] (zh s_beyond):=⟨rfl,rfl,rfl,by decide +kernel,rfl,by decide +kernel,by decide +kernel⟩
theorem zjo {fd:FuncData} (T:Txt K mg t) (F:Fun K "beyond" "beyond" s_beyond t.beyond fd):FnOk P w K mg base CX0 1 t.beyond fd ["rights","many"] (zjf K):=by
 refine F.ok zjn (fun vs H Q E h=>?_) (fun ly A outer s H vs Q E hr h=>?_)
 ·obtain⟨a,m,bs,rs,rfl,_⟩:=h
  rfl
 ·obtain⟨a,m,bs,rs,rfl,ha,hT,kQ,q⟩:=h
  refine⟨_,#[zl,#[zE,(@zlz _ _ _ _ _ _ _ _ _ _ _ _ _ _ _ _ _ _ _ _ _ (CompSc.of (N':=["right","number","many"]) (ix:=[none,none,some 1]) (zh s_beyond) ["rights","many"] rfl rfl (by decide +kernel)) rfl (zdN (js:=[0]) (i:=0) (by decide)) (zdN (js:=[1]) (i:=1) (by decide)) (by decide) (by decide) #[zT,#[pvx,0]] (fun _ _ _ _=>#[zf,0,(show (["right","number","many"]:List Str).Nodup by decide +kernel),(au rfl)]) (fun _ _ _ _=>#[zG]) (fun _ _ _ _=>(@zlK _ (K) _ _ _ rfl #[zbi,(zkD (K:=K) rfl),#[pvx,0],#[zbq,#[pvx,2]],#[zbU]])) (fun _ _ _ _=>#[zf,1,(show (["right","number","many"]:List Str).Nodup by decide +kernel),(au rfl)]) (fun _ _ _ _=>#[zG]) (fun _ _ _ _=>#[pvx,1]) (by intro _; rfl) (by intros; rfl))]],?_⟩
  have om:=a7
  have qY:=hT.length
  refine (kF rfl ⟨a,rfl,⟨_,ha⟩,zid (n:=bs.length) (fun i ys H'=>ys=(bey m (rs.take i)).map V.int∧zu H H') ⟨rfl,fun _ _ e=>e⟩ ?_ ?_ ?_ ?_⟩)
  ·rintro i ys H1 hi ⟨_,s1⟩
   exact⟨_,.ref bs[i],s1.seq ha,by rw [ag,am hi]; rfl⟩
  ·rintro ys H1 ⟨_,s1⟩
   exact⟨_,s1.seq ha,by rw [ab]; exact af _⟩
  ·rintro i y ys H1 H2 hi ⟨rfl,s1⟩ ⟨rfl,hy⟩
   obtain⟨b,rfl,hb⟩:=zQ (hy _ (s1.seq ha))
   obtain⟨r,ou,lC⟩:=Paired.get hT hb
   have AD:=kQ (i+1)
   rw [zgF m ou,ar] at AD
   refine gY (kF rfl (kF rfl (kF rfl ⟨b,(kF rfl ⟨kP.of (s1 _ _ lC),fun z H3 t2 xl=>?_⟩)⟩)))
   have ec:za2 (r.map V.int) (some (m:Int)) none=(r.drop m).map V.int:=by
    unfold za2
    rw [HT.sIx_nat,HT.sIx_none,ab,fJ,aO (by rw [bS,ab]; exact af _)]
    by_cases h:m≤r.length
    ·rw [db h]
    ·rw [show min m r.length=r.length by lia,eB (by rw [ab]; exact af _),eB (by rw [ab]; lia)]
   rw [ec] at xl
   refine⟨z,rfl,⟨_,xl⟩,zid (n:=(r.drop m).length) (fun j ys H'=>ys=(bey m (rs.take i)++(r.drop m).take j).map V.int∧H'=H3) ⟨by rw [dz,bw],rfl⟩ ?_ ?_ ?_ ?_⟩
   ·rintro j ys H4 hj ⟨_,rfl⟩
    exact⟨_,.int (r.drop m)[j],xl,by rw [ag,am hj]; rfl⟩
   ·rintro ys H4 ⟨_,rfl⟩
    exact⟨_,xl,by rw [ab]; exact af _⟩
   ·rintro j y ys H4 H5 hj ⟨rfl,rfl⟩ ⟨rfl,hy⟩
    obtain⟨n,rfl,hn⟩:=zae (hy _ (xl))
    refine gY (kF rfl ⟨?_,?_,rfl⟩)
    ·rw [ab,ar,aJ]
     lia
    ·rw [take_snoc hn,← aV,aA (l₂:=[n])]
     rfl
   ·rintro ys H4 ⟨rfl,rfl⟩
    exact⟨by rw [aZ,zgF m ou],s1.trans t2⟩
  ·rintro ys H1 ⟨rfl,s1⟩ D hD
   rw [qY,aZ] at *
   exact q D _ (s1.free hD) (s1.trans (zc hD)) zb
theorem zkP:FnScope ["polynomial","many"] ["polynomial","many"] (zh zdZ):=⟨rfl,rfl,rfl,by decide +kernel,rfl,by decide +kernel,by decide +kernel⟩
theorem zkQ {fd:FuncData} (T:Txt K mg t) (F:Fun K "sized" "sized" zdZ t.sized fd):FnOk P w K mg base CX0 1 t.sized fd ["polynomial","many"] (zkG K):=by
 refine F.ok zkP (fun vs H Q E h=>?_) (fun ly A outer s H vs Q E hr h=>?_)
 ·obtain⟨a,m,q,rfl,_⟩:=h
  rfl
 ·obtain⟨a,m,cs,rfl,ha,m1,kQ,q⟩:=h
  refine⟨_,#[zl,#[zE,#[zbi,zlM,#[zi,#[zit],#[pvx,0],#[zi,(@zlN _),#[zaK,#[za,#[zg],#[ze]]],#[pvx,1]]],#[zbU],#[zbq,#[pvx,1]]]]],?_⟩
  have om:=a7
  refine (kF rfl ⟨by show 1≤sizeLine; lia,fun t1 xf=>(kF rfl (ex3 t1 _ ([.int 0]) ⟨rfl,rfl,zb,by simp,by lia,by lia,by show 1*_≤sizeLine; lia,fun z H1 s1 h1z=>?_⟩))⟩)
  rw [bH,zc1] at h1z
  have s01:=(zc (o:=.tup [.int 0]) xf).trans s1
  refine (ex4 a z _ _ ⟨rfl,rfl,s01 _ _ ha,h1z,by rw [ab,ab,aL]; lia,fun e=>?_,fun y H2 s2 h2y=>?_⟩)
  ·have:=congrArg et e
   rw [ab,aL] at this
   exact absurd this (by show ¬ m=0; lia)
  rw [← aA] at h2y
  refine (kF rfl (kF rfl ⟨y,(kF rfl ⟨h2y,fun x H3 s3 h3x=>?_⟩)⟩))
  have ec:za2 ((cs++aj m 0).map V.int) none (some (m:Int))=(szd cs m).map V.int:=by
   unfold za2 szd
   rw [HT.sIx_nat,HT.sIx_none,dw,eL,ab,ar,aL,db (by lia),fI]
  rw [ec] at h3x
  exact q x H3 ((s01.trans s2).trans s3) h3x
theorem zD:FnScope ["code","rows","p","k","places","parts","e","needed","relation","power","left"] ["code","rows"] (zh z6):=⟨rfl,rfl,rfl,by decide +kernel,rfl,by decide +kernel,by decide +kernel⟩
theorem zbR {fd:FuncData} (T:Txt K mg t) (F:Fun K "joint_locator" "joint_locator" z6 t.joint_locator fd):FnOk P w K mg base CX0 5 t.joint_locator fd ["code","rows"] (zds K):=by
 obtain⟨mH,k9,lb⟩:=T.f_heard_points
 have lP:=zb8 (P:=P) (w:=w) (base:=base) T k9
 obtain⟨nR,lH,lr⟩:=T.f_times_entries
 have mI:=zdu (P:=P) (w:=w) (base:=base) T lH
 obtain⟨nv,l9,lE⟩:=T.f_first_relation
 have nS:=zde (P:=P) (w:=w) (base:=base) T l9
 obtain⟨sL,qE,oS⟩:=T.f_beyond
 have ug:=zjo (P:=P) (w:=w) (base:=base) T qE
 obtain⟨uh,qd,oH⟩:=T.f_sized
 have sf:=zkQ (P:=P) (w:=w) (base:=base) T qd
 refine F.ok zD (fun vs H Q E h=>?_) (fun ly A outer s H vs Q E hr h=>?_)
 ·obtain⟨c,tt,ra,p,k,pl,k7,rws,rfl,_⟩:=h
  rfl
 ·obtain⟨c,tt,ra,p,k,pl,k7,rws,rfl,hc,mf,qF,uJ,hn,hp,nN,lW,hok,k0,k1,q⟩:=h
  refine⟨_,#[zd,#[zaG,#[pvx,0],#[zav,#[zj,#[zf,2,zD.nd,(cn rfl)],#[zj,#[zf,3,zD.nd,(cn rfl)],#[zj,#[zf,4,zD.nd,(au rfl)],#[zK]]]]]],#[zd,#[zaA,5,zD.nd,(au rfl),(CompSc.of (N':=["row","code"]) (ix:=[none,some 0]) (zh z6) ["code","rows","p","k","places","parts","e","needed","relation","power","left"] rfl rfl (by decide +kernel)),#[zai],#[zT,#[pvx,1]],(fun _ _ _ _=>#[zf,0,(show (["row","code"]:List Str).Nodup by decide +kernel),(au rfl)]),(fun _ _ _ _=>#[zG]),(fun _ _ _ _=>#[zt,lP,(hr.mono (by decide)),T.m_heard_points,k9.kp,lb,#[zO],#[za,#[pvx,1],#[za,#[pvx,0],#[ze]]]])],#[zd,#[zp,6,zD.nd,(cn rfl),#[zma,zjB,#[zg]]],#[zd,#[zp,7,zD.nd,(au rfl),#[z9,#[ze]]],#[zd,#[zp,8,zD.nd,(au rfl),#[zcb]],#[zd,#[zd7,aX,#[zy,(@zmB _),#[pvx,8],#[zcb],(zL _)],#[zd,#[zjx,6,zD.nd,(cn rfl),#[zg],zk6],#[zd,(zey #[zp,9,zD.nd,(cn rfl),#[zi,(@zfi _ (K) rfl),#[zi,(@zlJ _),#[zaK,#[za,#[zg],#[ze]]],#[pvx,6]],#[zaK,#[za,#[zg],#[ze]]]]]),#[zd,#[zbS,#[zdx,bX,cg,ci,#[zbb],#[pvx,7],#[za,#[zad,(CompSc.of (N':=["points","p","power"]) (ix:=[none,some 2,some 9]) (zh z6) ["code","rows","p","k","places","parts","e","needed","relation","power","left"] rfl rfl (by decide +kernel)),#[zai],#[zT,#[pvx,5]],(fun _ _ _ _=>#[zf,0,(show (["points","p","power"]:List Str).Nodup by decide +kernel),(au rfl)]),(fun _ _ _ _=>#[zG]),(fun _ _ _ _=>#[zt,mI,(hr.mono (by decide)),T.m_times_entries,lH.kp,lr,#[zO],#[za,#[pvx,1],#[za,#[pvx,2],#[za,#[pvx,0],#[ze]]]]])],#[ze]]]],#[zl,#[zp,8,zD.nd,(au rfl),#[zt,nS,(hr.mono (by decide)),T.m_first_relation,l9.kp,lE,#[zO],#[za,#[pvx,2],#[za,#[zad,(CompSc.of (N':=["rights","k","e"]) (ix:=[none,some 3,some 6]) (zh z6) ["code","rows","p","k","places","parts","e","needed","relation","power","left"] rfl rfl (by decide +kernel)),#[zai],#[zT,#[pvx,7]],(fun _ _ _ _=>#[zf,0,(show (["rights","k","e"]:List Str).Nodup by decide +kernel),(au rfl)]),(fun _ _ _ _=>#[zG]),(fun _ _ _ _=>#[zt,ug,(hr.mono (by decide)),T.m_beyond,qE.kp,oS,#[zO],#[za,#[pvx,0],#[za,#[zi,#[zB],#[pvx,1],#[pvx,2]],#[ze]]]])],#[ze]]]]]]]]]],#[zd,#[zp,10,zD.nd,(cn rfl),#[zt,sf,(hr.mono (by decide)),T.m_sized,qd.kp,oH,#[zO],#[za,#[zaO,#[zbf],T.tuple_,f',#[za,#[pvx,8],#[ze]]],#[za,#[zi,#[zB],#[pvx,6],#[zg]],#[ze]]]]],#[zl,#[zE,#[zaK,#[za,#[pvx,6],#[za,#[pvx,10],#[za,#[zad,(CompSc.of (N':=["points","p","left","k","e"]) (ix:=[none,some 2,some 10,some 3,some 6]) (zh z6) ["code","rows","p","k","places","parts","e","needed","relation","power","left"] rfl rfl (by decide +kernel)),#[zai],#[zT,#[pvx,5]],(fun _ _ _ _=>#[zf,0,(show (["points","p","left","k","e"]:List Str).Nodup by decide +kernel),(au rfl)]),(fun _ _ _ _=>#[zG]),(fun _ _ _ _=>#[zt,sf,(hr.mono (by decide)),T.m_sized,qd.kp,oH,#[zO],#[za,#[zt,mI,(hr.mono (by decide)),T.m_times_entries,lH.kp,lr,#[zO],#[za,#[pvx,1],#[za,#[pvx,2],#[za,#[pvx,0],#[ze]]]]],#[za,#[zi,#[zB],#[pvx,3],#[pvx,4]],#[ze]]]])],#[ze]]]]]]]]]]]]]],?_⟩
  have om:=a7
  have rp:=zo hp
  have p0:0 < p:=by lia
  have nG:=qF.length
  obtain⟨kJ,qG⟩:∃ kJ,kJ=rws.map (lh pl):=⟨_,rfl⟩
  have hP:∀ kH∈kJ,Pts p kH:=fun kH h=>by
   rw [qG] at h
   obtain⟨rw,h1,rfl⟩:=aB.mp h
   exact zik nN lW (hok rw h1)
  have AE:∀ kH∈kJ,kH.length≤16:=fun kH h=>by
   rw [qG] at h
   obtain⟨rw,h1,rfl⟩:=aB.mp h
   exact be (zb1 pl rw) hn
  have yj:kJ.length=rws.length:=by rw [qG,ab]
  refine⟨_,rfl,c,_,rfl,kP.of hc.1,rfl,_,_,rfl,_,_,rfl,_,_,rfl,rfl,?_⟩
  refine (kF rfl ⟨ra,rfl,⟨_,mf⟩,zY (n:=k7.length) (fun i ys H'=>zu H H'∧∃ us:List Addr,ys=us.map V.ref∧zfP H' us (kJ.take i)) ⟨fun _ _ e=>e,[],rfl,.nil⟩ ?_ ?_ ?_ ?_⟩)
  ·rintro i ys H1 hi ⟨s1,_⟩
   exact⟨_,.ref k7[i],s1.seq mf,by rw [ag,am hi]; rfl⟩
  ·rintro ys H1 ⟨s1,_⟩
   exact⟨_,s1.seq mf,by rw [ab]; exact af _⟩
  ·rintro i y ys H1 H2 hi ⟨s1,us,rfl,lG⟩ ⟨rfl,hy⟩
   obtain⟨b,rfl,hb⟩:=zQ (hy _ (s1.seq mf))
   obtain⟨rw,Ee,lC,rC⟩:=Paired.get qF hb
   have mY:=lG.length
   rw [aJ] at mY
   refine gY (kF rfl (kF rfl (ex7 c tt b p k pl rw ⟨rfl,hc.same s1,⟨kG.of (s1 _ _ lC),rC⟩,by lia,fun l bs H3 yb s3 v5 hB=>?_⟩)))
   refine⟨by rw [ab]; lia,s1.trans s3,us++[l],by rw [aA]; rfl,?_⟩
   have hpi:kJ[i]? = some (lh pl rw):=by rw [qG,ag,Ee]; rfl
   rw [take_snoc hpi]
   exact bO (lG.same s3) ⟨bs,v5,hB⟩
  ·rintro ys H1 pa ⟨s1,us,rfl,lG⟩ hpa
   rw [nG,← yj,aZ] at lG
   have t2:=zc (o:=.lst (us.map V.ref)) hpa
   have AF:kL H1 pa (.lst (us.map V.ref)) pa=some (.lst (us.map V.ref)):=zb
   have oR:=lG.same t2
   have s2:=s1.trans t2
   generalize kL H1 pa (.lst (us.map V.ref))=H2 at t2 AF oR s2 ⊢
   have mY:=oR.length
   refine (kF rfl ⟨bb _,fun na y4=>?_⟩)
   have t3:=zc (o:=.lst []) y4
   refine⟨fun m σ H'=>∃ (n:Nat) (ns:List Addr) (ev:Int) (rel:V) (e9 mh:Option V),σ = [some (.ref c),some (.ref ra),some (.int p),some (.int (k:Int)),some (.ref tt),some (.ref pa),some (.int ev),some (.ref na),some rel,e9,mh]∧zu H2 H'∧H' na=some (.lst (ns.map V.ref))∧NdA p kJ na H' ns (aD n) ∧
    ((rel = .non∧ev=(n:Int) - 1∧m=20 - n∧n≤16∧∀ e',e' < n→Indep p (zcl k e' kJ) (za6 p k e' kJ))∨(∃ (rl:Addr) (cc:List Int) (mm e:Nat),rel = .ref rl∧ev=(e:Int)∧e≤16∧H' rl=some (.lst (cc.map V.int))∧IsP p (mm+1) cc∧mm < e+1∧gl cc mm=1∧Dep p (zcl k e kJ) (za6 p k e kJ) cc∧∀ e',e' < e→Indep p (zcl k e' kJ) (za6 p k e' kJ))),
    ⟨20,0,[],_,_,_,_,rfl,t3,zb,.nil,.inl ⟨rfl,rfl,rfl,by lia,fun _ h=>by lia⟩⟩,?_⟩
   rintro m σ H3 ⟨n,ns,ev,rel,e9,mh,rfl,s3,h3n,AG,qU⟩
   have AH:=AG.length
   rw [aW] at AH
   rcases qU with ⟨rfl,rfl,rfl,Ef,vC⟩ | ⟨rl,cc,mm,e,rfl,rfl,AI,pG,lV,vT,tH,Eg,vC⟩
   ·refine (kF rfl ⟨rfl,(kF rfl ?_)⟩)
    refine zaf (fun _=>?_) (fun h=>absurd rfl h)
    refine⟨fun σ' H'=>∃ m',m' < 20 - n∧∃ (n:Nat) (ns:List Addr) (ev:Int) (rel:V) (e9 mh:Option V),σ' = [some (.ref c),some (.ref ra),some (.int p),some (.int (k:Int)),some (.ref tt),some (.ref pa),some (.int ev),some (.ref na),some rel,e9,mh]∧zu H2 H'∧H' na=some (.lst (ns.map V.ref))∧NdA p kJ na H' ns (aD n) ∧
     ((rel = .non∧ev=(n:Int) - 1∧m'=20 - n∧n≤16∧∀ e',e' < n→Indep p (zcl k e' kJ) (za6 p k e' kJ))∨(∃ (rl:Addr) (cc:List Int) (mm e:Nat),rel = .ref rl∧ev=(e:Int)∧e≤16∧H' rl=some (.lst (cc.map V.int))∧IsP p (mm+1) cc∧mm < e+1∧gl cc mm=1∧Dep p (zcl k e kJ) (za6 p k e kJ) cc∧∀ e',e' < e→Indep p (zcl k e' kJ) (za6 p k e' kJ))),fun _ _ z=>z,?_⟩
    refine (kF rfl (kN rfl rfl ?_))
    have e1:(n:Int) - 1+1=(n:Int):=by lia
    refine⟨fun σ' H'=>∃ pw:Addr,σ' = [some (.ref c),some (.ref ra),some (.int p),some (.int (k:Int)),some (.ref tt),some (.ref pa),some (.int (n:Int)),some (.ref na),some .non,some (.ref pw),mh]∧zu H3 H'∧kP K H' pw ((unit n).map V.int),?_,?_⟩
    ·refine⟨by show 1≤sizeLine; lia,fun t1 xf=>(kF rfl (ex3 t1 _ ([.int 0]) ⟨rfl,rfl,kP.of zb,by simp,by lia,by lia,by show 1*_≤sizeLine; lia,fun z H4 s4 h4z=>?_⟩))⟩
     rw [e1,bH,zc1] at h4z
     have s34:=(zc (o:=.tup [.int 0]) xf).trans s4
     refine⟨by show 1≤sizeLine; lia,fun t2 vp=>(ex4 z t2 _ _ ⟨rfl,rfl,znc (zc vp) h4z,kP.of zb,by simp,by rw [ab,aL]; show n+1≤sizeLine; lia,fun e0=>?_,fun _ pw hpw=>?_⟩)⟩
     ·have hn0:n=0:=by
       have:=congrArg et e0
       rw [ab,aL] at this
       exact this
      subst hn0
      exact⟨t2,congrArg (fun v:Int=>[some (V.ref c),some (.ref ra),some (.int p),some (.int (k:Int)),some (.ref tt),some (.ref pa),some (.int v),some (.ref na),some .non,some (.ref t2),mh]) e1,s34.trans (zc vp),kP.of zb⟩
     ·refine⟨pw,congrArg (fun v:Int=>[some (V.ref c),some (.ref ra),some (.int p),some (.int (k:Int)),some (.ref tt),some (.ref pa),some (.int v),some (.ref na),some .non,some (.ref pw),mh]) e1,(s34.trans (zc vp)).trans (zc hpw),?_⟩
      have:(unit n).map V.int=(aj n (0:Int)).map V.int++[.int 1]:=by unfold unit; rw [aA]; rfl
      rw [this]
      exact kP.of zb
    ·rintro σ' H4 ⟨pw,rfl,s4,h4p⟩
     have Eh:=s3.trans s4
     have wd:=Eh _ _ AF
     have oT:=oR.same Eh
     have Ei:=s4 _ _ h3n
     have Ej:=AG.same s4
     refine (kF rfl ⟨.inl ⟨rfl,_,kG.of Ei⟩,(kF rfl ⟨pa,rfl,⟨_,kG.of wd⟩,zY (n:=us.length) (fun i ys H'=>zu H4 H'∧∃ ws:List Addr,ys=ws.map V.ref∧zbo H' ws ((kJ.take i).map fun kH=>Tp p kH n)) ⟨fun _ _ e=>e,[],rfl,.nil⟩ ?_ ?_ ?_ ?_⟩)⟩)
     ·rintro i ys H5 hi ⟨s5,_⟩
      exact⟨_,.ref us[i],kG.of (s5 _ _ wd),by rw [ag,am hi]; rfl⟩
     ·rintro ys H5 ⟨s5,_⟩
      exact⟨_,kG.of (s5 _ _ wd),by rw [ab]; exact af _⟩
     ·rintro i y ys H5 H6 hi ⟨s5,ws,rfl,qH⟩ ⟨rfl,hy⟩
      obtain⟨b,rfl,hb⟩:=zQ (hy _ (kG.of (s5 _ _ wd)))
      obtain⟨kH,lx,bs,lC,hB⟩:=Paired.get oT hb
      have sk:=qH.length
      rw [ab,aJ] at sk
      have hm:=ap lx
      refine gY (kF rfl (kF rfl (kF rfl (ex6 p pw b (unit n) bs kH ⟨rfl,znc s5 h4p,kG.of (s5 _ _ lC),hB.same s5,be (AE kH hm) (by decide),hp,hP kH hm,fun z H7 hz s7 h7z=>?_⟩))))
      refine⟨by rw [ab]; lia,s5.trans s7,ws++[z],by rw [aA]; rfl,?_⟩
      rw [take_snoc lx,aA]
      exact bO (qH.same s7) h7z
     ·rintro ys H5 D2 ⟨s5,ws,rfl,qH⟩ wc
      rw [mY,aZ] at qH
      have t6:=zc (o:=.lst (ws.map V.ref)) wc
      have h6D:kL H5 D2 (.lst (ws.map V.ref)) D2=some (.lst (ws.map V.ref)):=zb
      have hDn:D2≠na:=fun e=>by
       have:=s5 _ _ Ei
       rw [← e,wc] at this
       cases this
      have Cj:=s5.trans t6
      have AJ:=qH.same t6
      generalize kL H5 D2 (.lst (ws.map V.ref))=H6 at t6 h6D Cj AJ ⊢
      have Ek:=Cj _ _ Ei
      have Em:=Ej.same Cj
      refine (ex3 na _ _ ⟨rfl,rfl,Ek,by rw [ab]; lia,?_⟩)
      have AK:zu H2 (kL H6 na (.lst (ns.map V.ref++[.ref D2]))):=z0 (Eh.trans Cj) y4
      have xm:kL H6 na (.lst (ns.map V.ref++[.ref D2])) na=some (.lst ((ns++[D2]).map V.ref)):=by rw [zb,aA]; rfl
      have ui:NdA p kJ na (kL H6 na (.lst (ns.map V.ref++[.ref D2]))) (ns++[D2]) (aD (n+1)):=by
       rw [cB]
       exact bO (Em.put Ek) ⟨ws,by rw [zq hDn]; exact h6D,hDn,AJ.put Ek⟩
      generalize kL H6 na (.lst (ns.map V.ref++[.ref D2]))=H7 at AK xm ui ⊢
      have hn7:=ui.length
      rw [aW] at hn7
      refine (kF rfl (kF rfl ⟨na,rfl,⟨_,kG.of xm⟩,zY (n:=(ns++[D2]).length) (fun i ys H'=>zu H7 H'∧∃ vs:List Addr,ys=vs.map V.ref∧LsA H' vs ((za6 p k n kJ).take i)) ⟨fun _ _ e=>e,[],rfl,.nil⟩ ?_ ?_ ?_ ?_⟩))
      ·rintro i ys H8 hi ⟨s8,_⟩
       exact⟨_,.ref (ns++[D2])[i],kG.of (s8 _ _ xm),by rw [ag,am hi]; rfl⟩
      ·rintro ys H8 ⟨s8,_⟩
       exact⟨_,kG.of (s8 _ _ xm),by rw [ab]; exact af _⟩
      ·rintro i y ys H8 H9 hi ⟨s8,vs,rfl,uj⟩ ⟨rfl,hy⟩
       obtain⟨b,rfl,hb⟩:=zQ (hy _ (kG.of (s8 _ _ xm)))
       obtain⟨i',mW,us',lC,_,hT⟩:=Paired.get ui hb
       have oG:i < n+1:=by lia
       rw [bR oG] at mW
       cases mW
       have rY:=uj.length
       rw [aJ] at rY
       refine gY (kF rfl (kF rfl (kF rfl (kN rfl rfl ⟨b,k+n,us',_,(by show [V.ref b,V.int ((k:Int)+(n:Int))]=_; rw [dL]),kG.of (s8 _ _ lC),hT.same s8,fun j=>?_,fun z Ha hz sa haz=>?_⟩))))
       ·rw [← fI,zdY hp fun q hq=>hP q (dU hq)]
        refine be (zhv (b:=16) fun q hq=>?_) ?_
        ·have:=AE q (dU hq)
         lia
        ·rw [aJ]
         lia
       ·refine⟨by rw [ab]; lia,s8.trans sa,vs++[z],by rw [aA]; rfl,?_⟩
        have hvi:(za6 p k n kJ)[i]? = some (bey (k+n) (kJ.map fun kH=>Tp p kH i)):=by
         unfold za6
         rw [ag,bR oG]
         rfl
        rw [take_snoc hvi]
        exact bO (uj.same sa) haz
      ·rintro ys H8 D3 ⟨s8,vs,rfl,uj⟩ CV
       have En:(za6 p k n kJ).length=n+1:=by unfold za6; rw [ab,aW]
       rw [hn7,← En,aZ] at uj
       have t9:=zc (o:=.lst (vs.map V.ref)) CV
       have AB:kL H8 D3 (.lst (vs.map V.ref)) D3=some (.lst (vs.map V.ref)):=zb
       have AL:=uj.same t9
       have xn:=s8.trans t9
       generalize kL H8 D3 (.lst (vs.map V.ref))=H9 at t9 AB AL xn ⊢
       refine (ex5 p D3 vs (za6 p k n kJ) (zcl k n kJ) ⟨rfl,AB,AL,(fun e=>by (rw [e] at En; cases En)),by lia,?_,zlQ hp hP,hp,fun Ha sa hI=>?_,fun l cc mm Ha hl sa uR lV vT tH hD=>?_⟩)
       ·refine be (zhv (b:=16) fun q hq=>?_) (by lia)
        have:=AE q hq
        lia
       ·have lp:=zkM hp AE hI
        refine⟨20 - (n+1),by lia,n+1,ns++[D2],_,_,_,_,rfl,AK.trans (xn.trans sa),(xn.trans sa) _ _ xm,ui.same (xn.trans sa),.inl ⟨rfl,by lia,rfl,by lia,fun e' uG=>?_⟩⟩
        by_cases e:e'=n
        ·subst e; exact hI
        ·exact vC e' (by lia)
       ·exact⟨0,by lia,n+1,ns++[D2],_,_,_,_,rfl,AK.trans (xn.trans sa),(xn.trans sa) _ _ xm,ui.same (xn.trans sa),.inr (ex4 l cc mm n ⟨rfl,rfl,Ef,uR,lV,by lia,tH,hD,vC⟩)⟩
   ·refine (kF rfl ⟨rfl,(kF rfl ?_)⟩)
    refine zaf (fun h=>absurd h (by simp)) (fun _=>?_)
    have uS:=s3 _ _ AF
    have oU:=oR.same s3
    have qW:cc.length=mm+1:=lV.1
    refine (kF rfl ⟨rl,(kF rfl (.inl ⟨kG.of pG,fun tl v3=>?_⟩))⟩)
    have t4:=zc (o:=.tup (cc.map V.int)) v3
    have h4t:kL H3 tl (.tup (cc.map V.int)) tl=some (.tup (cc.map V.int)):=zb
    generalize kL H3 tl (.tup (cc.map V.int))=H4 at t4 h4t ⊢
    refine (kF rfl (kN rfl rfl (ex3 tl (e+1) cc ⟨rfl,h4t,by lia,by lia,fun lf H5 s5 Eo=>?_⟩)))
    have L:=znd hp (k:=k) hP lV vT tH Eg vC
    generalize szd cc (e+1)=left at Eo L ⊢
    have pO:=t4.trans s5
    have uT:=pO _ _ uS
    have sM:=oU.same pO
    refine (kF rfl (kF rfl (kF rfl ⟨pa,rfl,⟨_,kG.of uT⟩,zY (n:=us.length) (fun i ys H'=>zu H5 H'∧∃ ws:List Addr,ys=ws.map V.ref∧zbo H' ws ((kJ.take i).map fun kH=>szd (thr p (tmP p left kH)) (k+e))) ⟨fun _ _ e=>e,[],rfl,.nil⟩ ?_ ?_ ?_ ?_⟩)))
    ·rintro i ys H6 hi ⟨s6,_⟩
     exact⟨_,.ref us[i],kG.of (s6 _ _ uT),by rw [ag,am hi]; rfl⟩
    ·rintro ys H6 ⟨s6,_⟩
     exact⟨_,kG.of (s6 _ _ uT),by rw [ab]; exact af _⟩
    ·rintro i y ys H6 H7 hi ⟨s6,ws,rfl,qH⟩ ⟨rfl,hy⟩
     obtain⟨b,rfl,hb⟩:=zQ (hy _ (kG.of (s6 _ _ uT)))
     obtain⟨kH,lx,bs,lC,hB⟩:=Paired.get sM hb
     have sk:=qH.length
     rw [ab,aJ] at sk
     have hm:=ap lx
     have Ep:=AE kH hm
     refine gY (kF rfl (kF rfl (kF rfl (ex6 p lf b left bs kH ⟨rfl,kP.of (s6 _ _ Eo),kG.of (s6 _ _ lC),hB.same s6,be Ep (by decide),hp,hP kH hm,fun z H8 hz s8 h8z=>?_⟩))))
     refine (kF rfl (kF rfl (kN rfl rfl ⟨z,k+e,_,(by show [V.ref z,V.int ((k:Int)+(e:Int))]=_; rw [dL]),h8z,by lia,by rw [zcQ hp (hP kH hm)]; lia,fun x H9 s9 AM=>?_⟩)))
     refine⟨by rw [ab]; lia,s6.trans (s8.trans s9),ws++[x],by rw [aA]; rfl,?_⟩
     rw [take_snoc lx,aA]
     exact bO (qH.same (s8.trans s9)) AM
    ·rintro ys H6 D2 ⟨s6,ws,rfl,qH⟩ wc
     rw [mY,aZ] at qH
     have t7:=zc (o:=.lst (ws.map V.ref)) wc
     have tI:kL H6 D2 (.lst (ws.map V.ref)) D2=some (.lst (ws.map V.ref)):=zb
     have AN:=qH.same t7
     have Er:=s6.trans t7
     generalize kL H6 D2 (.lst (ws.map V.ref))=H7 at t7 tI AN Er ⊢
     refine⟨by show 3≤sizeLine; lia,fun z hz=>?_⟩
     have t8:=zc (o:=.tup [.int (e:Int),.ref lf,.ref D2]) hz
     have AK:=(s2.trans s3).trans (pO.trans Er)
     exact q z lf D2 ws e left _ _ (AK.trans t8) zb ((Er.trans t8) _ _ Eo) (t8 _ _ tI) (AN.same t8) AI (by rw [← qG]; exact L)
theorem zbh:FnScope ["code","row","e","left","rights"] ["code","row"] (zh zbs):=⟨rfl,rfl,rfl,by decide +kernel,rfl,by decide +kernel,by decide +kernel⟩
theorem zeU {fd:FuncData} (T:Txt K mg t) (F:Fun K "locator_of" "locator_of" zbs t.locator_of fd):FnOk P w K mg base CX0 6 t.locator_of fd ["code","row"] (zeS K):=by
 obtain⟨me,kY,kZ⟩:=T.f_joint_locator
 have lI:=zbR (P:=P) (w:=w) (base:=base) T kY
 refine F.ok zbh (fun vs H Q E h=>?_) (fun ly A outer s H vs Q E hr h=>?_)
 ·obtain⟨c,tt,r,p,k,pl,rw,rfl,_⟩:=h
  rfl
 ·obtain⟨c,tt,r,p,k,pl,rw,rfl,hc,mf,nG,hn,hp,nN,lW,nF,k0,k1,q⟩:=h
  refine⟨_,#[zd,#[zaG,#[zt,lI,(hr.mono (by decide)),T.m_joint_locator,kY.kp,kZ,#[zO],#[za,#[pvx,0],#[za,#[z9,#[za,#[pvx,1],#[ze]]],#[ze]]]],#[zav,#[zj,#[zf,2,zbh.nd,(au rfl)],#[zj,#[zf,3,zbh.nd,(au rfl)],#[zj,#[zf,4,zbh.nd,(au rfl)],#[zK]]]]]],#[zl,#[zE,#[zaK,#[za,#[pvx,2],#[za,#[pvx,3],#[za,#[zM,#[zC],#[pvx,4],#[zg]],#[ze]]]]]]]],?_⟩
  have om:=a7
  refine (kF rfl (kF rfl ⟨by show 1≤sizeLine; lia,fun ra hrA=>?_⟩))
  have t1:=zc (o:=.lst [.ref r]) hrA
  refine (ex8 c tt ra p k pl ([r]) ([rw]) ⟨rfl,hc.same t1,kG.of zb,.cons ⟨t1 _ _ mf,nG⟩ .nil,(by show 1≤10; decide),hn,hp,nN,lW,fun sj h=>?_,k0,k1,fun z la l3 us e left kW H2 s2 xl h2l Ck hT he L=>?_⟩)
  ·obtain rfl:sj=rw:=by simpa using h
   exact nF
  have hl:=hT.length
  have hr1:kW.length=1:=by rw [L.rt]; rfl
  obtain⟨u0,rfl⟩:∃ u0,us = [u0]:=iK.mp (by lia)
  obtain⟨right,rfl⟩:∃ r0,kW = [r0]:=iK.mp hr1
  obtain⟨r',ou,hu⟩:=Paired.get hT (i:=0) (a:=u0) rfl
  cases ou
  refine⟨z,_,rfl,kP.of xl,rfl,_,_,rfl,_,_,rfl,_,_,rfl,rfl,?_⟩
  refine (kF rfl (kF rfl (kF rfl (ex4 l3 _ _ _ ⟨rfl,rfl,kG.of Ck,rfl,by show 3≤sizeLine; lia,fun y hy=>?_⟩))))
  have s12:=t1.trans s2
  exact q y la u0 e left right _ (s12.trans (zc hy)) zb ((zc hy) _ _ h2l) ((zc hy) _ _ hu) he L
end
end My
end
section
namespace My
open PySem L2 PyProof.Rows
theorem zdf {l:List Nat} {d:Nat} (h:l.Nodup) (hl:∀ x∈l,x < d):l.length≤d:=by
 have h1:=zeA (S:=aD d) h
 rw [fG.mpr (fun x hx=>by have:=hl x hx; simpa using this),aW] at h1
 simpa using h1
theorem ziz {p:Int} (hp:p∈zm) {L N m:Nat} {vs:List (List Int)} {cl:List (Nat×List Int)} (E:Ech p L N m vs cl) (hm:m < N) {w0:List Int} (W0:Wh p L N m vs [] w0):∀ i,i≤cl.length→∃ w,Wh p L N m vs (cl.take i) w
 | 0,_=>⟨w0,by rw [dz]; exact W0⟩
 | i+1,hi=>by
  obtain⟨w,W⟩:=ziz hp E hm W0 i (by lia)
  exact⟨_,ziq hp E hm (am (by lia)) W⟩
theorem zkR {p:Int} (hp:p∈zm) {L:Nat} {vs:List (List Int)} (hv:∀ v∈vs,v.length=L∧∀ c∈v,0≤c∧c < p) (hI:Indep p L vs):∀ m,m≤vs.length→∃ cl,Ech p L vs.length m vs cl
 | 0,_=>⟨[],Ech.start p L vs.length vs⟩
 | m+1,hm=>by
  have rp:=zo hp
  obtain⟨cl,E⟩:=zkR hp hv hI m (by lia)
  have hvm:vs[m]? = some (vs[m]'(by lia)):=am (by lia)
  obtain⟨h1,h2⟩:=hv _ (ap hvm)
  obtain⟨w,W⟩:=ziz hp E (by lia) (zgB hp (N:=vs.length) (by lia) hvm h1 h2) cl.length (af _)
  rw [aZ] at W
  by_cases hz:∀ x,x < L→gl w x=0
  ·exfalso
   obtain⟨_,d2,d3⟩:=zkx W (by lia) hz
   have:=hI _ d3 m (by lia)
   rw [d2] at this
   have:=this.eq (by lia) (by lia) (bU _) (by lia)
   lia
  ·obtain⟨x,hx⟩:=Classical.not_forall.mp hz
   obtain⟨uM,sE⟩:=Classical.not_imp.mp hx
   exact⟨_,zgC hp E (by lia) W uM sE⟩
theorem zkS {p:Int} (hp:p∈zm) {L:Nat} {vs:List (List Int)} (hv:∀ v∈vs,v.length=L∧∀ c∈v,0≤c∧c < p) (hI:Indep p L vs):vs.length≤L:=by
 obtain⟨cl,E⟩:=zkR hp hv hI vs.length (af _)
 have hn:(cl.map (·.1)).Nodup:=by
  rw [eR,cr,dS]
  intro i j hi hj oE e
  have h1:=E.up i j _ _ (am hi) (am hj) oE
  have h2:=(E.one j _ (am hj)).2.2.2.2.1
  rw [e,h2] at h1
  cases h1
 have:=zdf hn fun x hx=>by
  obtain⟨a,ha,rfl⟩:=aB.mp hx
  obtain⟨j,hj⟩:=bx ha
  exact (E.one j a hj).1
 rw [ab,E.ln] at this
 exact this
def dot (n:Nat) (row:List Int) (v:Nat→Int):Int:=sm n fun j=>gl row j*v j
def Sol (p:Int) (n:Nat) (M:List (List Int)) (v:Nat→Int):Prop:=∀ (i:Nat) (row:List Int),M[i]? = some row→Cg p (dot n row v) 0
theorem zlU {n N:Nat} {row:List Int} {u:Nat→Int} {V:Nat→Nat→Int}:dot n row (fun j=>sm N fun t=>u t*V t j)=sm N fun t=>u t*dot n row (V t):=by
 unfold dot
 have e:(fun j=>gl row j*sm N fun t=>u t*V t j)=fun j=>sm N fun t=>u t*(gl row j*V t j):=by
  funext j
  rw [← za5]
  exact zR fun t _=>by grind
 rw [e,zdX]
 exact zR fun t _=>za5 _
structure RK (p:Int) (n:Nat) (M:List (List Int)) (pv:List Nat):Prop where
 nd:pv.Nodup
 lt:∀ c∈pv,c < n
 U:∀ v,Sol p n M v→(∀ j,j < n→j∉pv→Cg p (v j) 0)→∀ j,j < n→Cg p (v j) 0
 E:∀ w:Nat→Int,∃ v,Sol p n M v∧∀ j,j < n→j∉pv→v j=w j
structure Gs (p:Int) (n:Nat) (M:List (List Int)) (at':Nat) (pv:List Nat) (R:List (List Int)):Prop where
 ln:R.length=M.length
 rw:∀ row∈R,row.length=n∧∀ c∈row,0≤c∧c < p
 sol:∀ v,Sol p n R v↔Sol p n M v
 pvl:pv.length≤R.length
 piv:∀ (i c:Nat) (row:List Int),pv[i]? = some c→R[i]? = some row→c < at'∧gl row c≠0∧∀ j,j < c→gl row j=0
 low:∀ (i:Nat) (row:List Int),pv.length≤i→R[i]? = some row→∀ j,j < at'→gl row j=0
 nd:pv.Nodup
 plt:∀ c∈pv,c < at'
theorem zlV {p:Int} {n:Nat} {M:List (List Int)} {at':Nat} {pv:List Nat} {R:List (List Int)} (G:Gs p n M at' pv R) (h:∀ (i:Nat) (row:List Int),pv.length≤i→R[i]? = some row→gl row at'=0):Gs p n M (at'+1) pv R:=by
 refine⟨G.ln,G.rw,G.sol,G.pvl,fun i c row h1 h2=>?_,fun i row h1 h2 j hj=>?_,G.nd,fun c hc=>by have:=G.plt c hc; lia⟩
 ·obtain⟨a,b⟩:=G.piv i c row h1 h2
  exact⟨by lia,b⟩
 ·by_cases e:j=at'
  ·rw [e]; exact h i row h1 h2
  ·exact G.low i row h1 h2 j (by lia)
structure El (p:Int) (n:Nat) (M:List (List Int)) (at':Nat) (pv:List Nat) (first:List Int) (k:Nat) (R:List (List Int)):Prop where
 ln:R.length=M.length
 rw:∀ row∈R,row.length=n∧∀ c∈row,0≤c∧c < p
 sol:∀ v,Sol p n R v↔Sol p n M v
 fs:R[pv.length]? = some first
 f0:gl first at'≠0
 piv:∀ (i c:Nat) (row:List Int),pv[i]? = some c→R[i]? = some row→c < at'∧gl row c≠0∧∀ j,j < c→gl row j=0
 low:∀ (i:Nat) (row:List Int),pv.length≤i→R[i]? = some row→∀ j,j < at'→gl row j=0
 cl:∀ (i:Nat) (row:List Int),pv.length < i→i < k→R[i]? = some row→gl row at'=0
 nd:pv.Nodup
 plt:∀ c∈pv,c < at'
theorem zkT {p:Int} {n:Nat} {M:List (List Int)} {at':Nat} {pv:List Nat} {R:List (List Int)} (G:Gs p n M at' pv R) {k0:Nat} {first other:List Int} (hk:pv.length≤k0) (h1:R[k0]? = some first) (h2:R[pv.length]? = some other) (h0:gl first at'≠0) :
  El p n M at' pv first (pv.length+1) ((R.set k0 other).set pv.length first):=by
 have qC:=(ak.mp h1).1
 have hp0:=(ak.mp h2).1
 have hg:∀ i,((R.set k0 other).set pv.length first)[i]? = if i=pv.length then some first else if i=k0 then some other else R[i]?:=fun i=>by
  by_cases e:i=pv.length
  ·subst e
   rw [if_pos rfl,cp (by rw [ck]; exact hp0)]
  ·rw [if_neg e,bN (cR e)]
   by_cases e2:i=k0
   ·subst e2
    rw [if_pos rfl,cp qC]
   ·rw [if_neg e2,bN (cR e2)]
 have xo:∀ (i:Nat) (row:List Int),((R.set k0 other).set pv.length first)[i]? = some row→∃ j:Nat,R[j]? = some row∧(pv.length≤i→pv.length≤j):=fun i row h=>by
  rw [hg] at h
  by_cases e:i=pv.length
  ·rw [if_pos e] at h
   exact⟨k0,by rw [h1]; exact h,fun _=>hk⟩
  ·rw [if_neg e] at h
   by_cases e2:i=k0
   ·rw [if_pos e2] at h
    exact⟨pv.length,by rw [h2]; exact h,fun _=>af _⟩
   ·rw [if_neg e2] at h
    exact⟨i,h,id⟩
 refine⟨by rw [ck,ck]; exact G.ln,fun row hr=>?_,fun v=>?_,by rw [hg,if_pos rfl],h0,fun i c row hc hr=>?_,fun i row hi hr=>?_,fun i row hi hk hr=>by lia,G.nd,G.plt⟩
 ·obtain⟨i,hi⟩:=bx hr
  obtain⟨j,hj,_⟩:=xo i row hi
  exact G.rw row (ap hj)
 ·rw [← G.sol v]
  constructor
  ·intro h j row hj
   by_cases e:j=k0
   ·refine h pv.length row ?_
    rw [hg,if_pos rfl,← h1,← e]; exact hj
   ·by_cases e2:j=pv.length
    ·refine h k0 row ?_
     rw [hg,if_neg (fun e3=>e (by rw [e2,e3])),if_pos rfl,← h2,← e2]; exact hj
    ·refine h j row ?_
     rw [hg,if_neg e2,if_neg e]; exact hj
  ·intro h i row hi
   obtain⟨j,hj,_⟩:=xo i row hi
   exact h j row hj
 ·have vz:i < pv.length:=(ak.mp hc).1
  rw [hg,if_neg (by lia),if_neg (by lia)] at hr
  exact G.piv i c row hc hr
 ·obtain⟨j,hj,hle⟩:=xo i row hr
  exact G.low j row (hle hi) hj
theorem zlW {p:Int} {n:Nat} {M:List (List Int)} {at':Nat} {pv:List Nat} {first:List Int} {k:Nat} {R:List (List Int)} (L:El p n M at' pv first k R) {row:List Int} (hr:R[k]? = some row) (h0:gl row at'=0):El p n M at' pv first (k+1) R:=by
 refine⟨L.ln,L.rw,L.sol,L.fs,L.f0,L.piv,L.low,fun i nT h1 h2 h3=>?_,L.nd,L.plt⟩
 by_cases e:i=k
 ·subst e
  rw [hr] at h3
  cases h3
  exact h0
 ·exact L.cl i nT h1 (by lia) h3
theorem zlX {p:Int} (hp:p∈zm) {n:Nat} {M:List (List Int)} {at':Nat} {pv:List Nat} {first:List Int} {k:Nat} {R:List (List Int)} (L:El p n M at' pv first k R) (lC:at' < n) (hk:pv.length < k) {row:List Int} (hr:R[k]? = some row) :
  El p n M at' pv first (k+1) (R.set k (aT (fun one other=>(one*gl first at' - gl row at'*other) % p) row first)):=by
 have rp:=zo hp
 obtain⟨r1,r2⟩:=L.rw row (ap hr)
 obtain⟨f1,f2⟩:=L.rw first (ap L.fs)
 have hkl:=(ak.mp hr).1
 obtain⟨nw,Es⟩:∃ nw,nw=aT (fun one other=>(one*gl first at' - gl row at'*other) % p) row first:=⟨_,rfl⟩
 rw [← Es]
 have hg:∀ y,y < n→gl nw y=(gl row y*gl first at' - gl row at'*gl first y) % p:=fun y hy=>by rw [Es]; exact zkv (by lia) (by lia)
 have we:∀ i,(R.set k nw)[i]? = if i=k then some nw else R[i]?:=fun i=>by
  by_cases e:i=k
  ·subst e; rw [if_pos rfl,cp hkl]
  ·rw [if_neg e,bN (cR e)]
 have AO:∀ v,Cg p (dot n nw v) (gl first at'*dot n row v - gl row at'*dot n first v):=fun v=>by
  unfold dot
  have e:gl first at'*sm n (fun j=>gl row j*v j) - gl row at'*sm n (fun j=>gl first j*v j)=sm n (fun j=>(gl row j*gl first at' - gl row at'*gl first j)*v j):=by
   rw [show ∀ a b c:Int,a - b*c=a+(-b)*c by intros; grind,← za5,← za5,← zfL]
   exact zR fun j _=>by grind
  rw [e]
  exact zby fun j hj=>by
   rw [hg j hj]
   exact (Cg.emod _ _).mul (Cg.refl p _)
 refine⟨by rw [ck]; exact L.ln,fun nT h=>?_,fun v=>?_,by rw [we,if_neg (by lia)]; exact L.fs,L.f0,fun i c nT hc h=>?_,fun i nT hi h j hj=>?_,fun i nT hi hik h=>?_,L.nd,L.plt⟩
 ·rcases cV h with h | rfl
  ·exact L.rw nT h
  ·rw [Es]
   refine⟨by rw [d8]; lia,fun c hc=>?_⟩
   obtain⟨x,y,rfl⟩:=zcZ hc
   exact⟨aK _ (by lia),aC _ (by lia)⟩
 ·rw [← L.sol v]
  constructor
  ·intro h i nT hi
   by_cases e:i=k
   ·subst e
    rw [hr] at hi
    cases hi
    have h1:=h i nw (by rw [we,if_pos rfl])
    have h2:=h pv.length first (by rw [we,if_neg (by lia)]; exact L.fs)
    have h3:=((AO v).symm.trans h1).add ((Cg.refl p (gl row at')).mul h2)
    obtain⟨g0,g1⟩:=zb2 (show 0 < p by lia) f2 at'
    refine zcw hp (a:=gl first at') (by rw [bW g0 g1]; exact L.f0) ?_
    exact (Cg.of_eq (by lia)).trans (h3.trans (Cg.of_eq (by lia)))
   ·exact h i nT (by rw [we,if_neg e]; exact hi)
  ·intro h i nT hi
   rw [we] at hi
   by_cases e:i=k
   ·rw [if_pos e] at hi
    cases hi
    have h1:=h k row hr
    have h2:=h pv.length first L.fs
    exact (AO v).trans ((((Cg.refl p _).mul h1).sub ((Cg.refl p _).mul h2)).trans (Cg.of_eq (by lia)))
   ·rw [if_neg e] at hi
    exact h i nT hi
 ·have vz:i < pv.length:=(ak.mp hc).1
  rw [we,if_neg (by lia)] at h
  exact L.piv i c nT hc h
 ·rw [we] at h
  by_cases e:i=k
  ·rw [if_pos e] at h
   cases h
   rw [hg j (by lia),L.low k row (by lia) hr j hj,L.low pv.length first (af _) L.fs j hj,cf,bV]
   rfl
  ·rw [if_neg e] at h
   exact L.low i nT hi h j hj
 ·rw [we] at h
  by_cases e:i=k
  ·rw [if_pos e] at h
   cases h
   rw [hg at' lC,show gl row at'*gl first at' - gl row at'*gl first at'=0 by lia]
   rfl
  ·rw [if_neg e] at h
   exact L.cl i nT hi (by lia) h
theorem znf {p:Int} {n:Nat} {M:List (List Int)} {at':Nat} {pv:List Nat} {first:List Int} {k:Nat} {R:List (List Int)} (L:El p n M at' pv first k R) (hk:R.length≤k):Gs p n M (at'+1) (pv++[at']) R:=by
 have hf:=(ak.mp L.fs).1
 refine⟨L.ln,L.rw,L.sol,by rw [ar]; show pv.length+1≤_; lia,fun i c row hc hr=>?_,fun i row hi hr j hj=>?_,?_,fun c hc=>?_⟩
 ·by_cases hi:i < pv.length
  ·rw [bD hi] at hc
   obtain⟨a,b⟩:=L.piv i c row hc hr
   exact⟨by lia,b⟩
  ·have vz:=(ak.mp hc).1
   rw [ar] at vz
   have hip:i=pv.length:=by have:i < pv.length+1:=vz; lia
   subst hip
   rw [bu (af _),d6] at hc
   cases hc
   rw [L.fs] at hr
   cases hr
   exact⟨by lia,L.f0,L.low pv.length first (af _) L.fs⟩
 ·rw [ar] at hi
  have hi:pv.length+1≤i:=hi
  by_cases e:j=at'
  ·rw [e]
   exact L.cl i row (by lia) (by have:=(ak.mp hr).1; lia) hr
  ·exact L.low i row (by lia) hr j (by lia)
 ·rw [dk]
  exact⟨L.nd,by simp,fun a ha b hb e=>by
   have:=L.plt a ha
   have hb:b=at':=by simpa using hb
   lia⟩
 ·rcases aP.mp hc with h | h
  ·have:=L.plt c h
   lia
  ·have:c=at':=by simpa using h
   lia
theorem zgN {n c:Nat} {row:List Int} {v:Nat→Int} (hc:c≤n) (h:∀ j,j < c→gl row j=0):dot n row v=sm (n - c) fun j=>gl row (c+j)*v (c+j):=by
 unfold dot
 induction n with
 | zero=>rw [show 0 - c=0 by lia]; rfl
 | succ n ih =>
  by_cases e:c=n+1
  ·subst e
   rw [d6]
   exact zaC fun j hj=>by rw [h j hj,cf]
  ·rw [show n+1 - c=(n - c)+1 by lia]
   show sm n _+_=sm (n - c) _+_
   rw [ih (by lia)]
   dsimp only
   rw [show c+(n - c)=n by lia]
theorem znW {p:Int} (hp:p∈zm) {n:Nat} {M:List (List Int)} {pv:List Nat} {R:List (List Int)} (G:Gs p n M n pv R):RK p n M pv:=by
 have rp:=zo hp
 have ml:∀ i,i < pv.length→∃ row,R[i]? = some row:=fun i hi=>⟨R[i]'(by have:=G.pvl; lia),by simp⟩
 have nF:∀ (i:Nat) (row:List Int),R[i]? = some row→∀ y,0≤gl row y∧gl row y < p:=fun i row h y=>zb2 (show 0 < p by lia) (G.rw row (ap h)).2 y
 refine⟨G.nd,G.plt,fun v hv h0=>?_,fun w=>?_⟩
 ·have hv:=(G.sol v).mpr hv
  have key:∀ t,t≤n→∀ j,n - t≤j→j < n→Cg p (v j) 0:=by
   intro t
   induction t with
   | zero=>intro _ j h1 h2; lia
   | succ t ih =>
    intro ht j h1 h2
    have ih:=ih (by lia)
    by_cases e:n - t≤j
    ·exact ih j e h2
    ·have hj:j=n - (t+1):=by lia
     by_cases yl:j∈pv
     ·obtain⟨i,hi⟩:=bx yl
      obtain⟨row,hr⟩:=ml i (ak.mp hi).1
      obtain⟨_,g1,g2⟩:=G.piv i j row hi hr
      have hd:=hv i row hr
      rw [zgN (by lia) g2,show n - j=(n - j - 1)+1 by lia,zdW] at hd
      have hz:Cg p (sm (n - j - 1) fun i=>gl row (j+(i+1))*v (j+(i+1))) 0:=(zby (g:=fun _=>0) fun m hm=>((Cg.refl p _).mul (ih (j+(m+1)) (by lia) (by lia))).trans (Cg.of_eq (bV _))).trans (Cg.of_eq (zaC fun _ _=>rfl))
      obtain⟨q0,q1⟩:=nF i row hr j
      refine zcw hp (a:=gl row j) (by rw [bW q0 q1]; exact g1) ?_
      have:=hd.sub hz
      exact (Cg.of_eq (by rw [dY]; lia)).trans (this.trans (Cg.of_eq (by lia)))
     ·exact h0 j h2 yl
  exact fun j hj=>key n (af _) j (by lia) hj
 ·have key:∀ t,t≤n→∃ v:Nat→Int,(∀ j,n - t≤j→j < n→j∉pv→v j=w j)∧∀ (i c:Nat) (row:List Int),pv[i]? = some c→R[i]? = some row→n - t≤c→Cg p (dot n row v) 0:=by
   intro t
   induction t with
   | zero=>exact fun _=>⟨fun _=>0,fun j h1 h2=>by lia,fun i c row h1 _ h3=>by have:=G.plt c (ap h1); lia⟩
   | succ t ih =>
    intro ht
    obtain⟨v,hv1,hv2⟩:=ih (by lia)
    have wg:∀ (z:Int) (i c:Nat) (row:List Int),pv[i]? = some c→R[i]? = some row→n - t≤c→dot n row (fun j=>if j=n - (t+1) then z else v j)=dot n row v:=fun z i c row h1 h2 h3=>by
     unfold dot
     refine zR fun j _=>?_
     dsimp only
     by_cases e:j=n - (t+1)
     ·rw [(G.piv i c row h1 h2).2.2 j (by lia),cf,cf]
     ·rw [if_neg e]
    by_cases yl:n - (t+1)∈pv
    ·obtain⟨i0,yY⟩:=bx yl
     obtain⟨m8,Et⟩:=ml i0 (ak.mp yY).1
     obtain⟨_,g1,g2⟩:=G.piv i0 _ m8 yY Et
     obtain⟨q0,q1⟩:=nF i0 m8 Et (n - (t+1))
     obtain⟨rest,AQ⟩:∃ rest,rest=sm (n - (n - (t+1)) - 1) (fun i=>gl m8 (n - (t+1)+(i+1))*v (n - (t+1)+(i+1))):=⟨_,rfl⟩
     refine⟨fun j=>if j=n - (t+1) then -(inv p (gl m8 (n - (t+1)))*rest) else v j,fun j h1 h2 h3=>?_,fun i c row h1 h2 h3=>?_⟩
     ·dsimp only
      by_cases e:j=n - (t+1)
      ·exact absurd yl (e ▸ h3)
      ·rw [if_neg e]; exact hv1 j (by lia) h2 h3
     ·by_cases e:n - t≤c
      ·rw [wg _ i c row h1 h2 e]
       exact hv2 i c row h1 h2 e
      ·have hc:c=n - (t+1):=by lia
       subst hc
       have hii:i=i0:=(eD (ak.mp h1).1 G.nd).mp (h1.trans yY.symm)
       subst hii
       rw [Et] at h2
       cases h2
       rw [zgN (by lia) g2,show n - (n - (t+1))=(n - (n - (t+1)) - 1)+1 by lia,zdW]
       have e2:sm (n - (n - (t+1)) - 1) (fun i=>gl m8 (n - (t+1)+(i+1))*(if n - (t+1)+(i+1)=n - (t+1) then -(inv p (gl m8 (n - (t+1)))*rest) else v (n - (t+1)+(i+1))))=rest:=by
        rw [AQ]
        exact zR fun j _=>by rw [if_neg (by lia)]
       rw [e2,dY,if_pos rfl]
       have vq:=zef hp (h:=gl m8 (n - (t+1))) (by lia) q1
       have h4:Cg p (inv p (gl m8 (n - (t+1)))*gl m8 (n - (t+1))*rest) (1*rest):=vq.mul (Cg.refl p rest)
       have h5:=(Cg.refl p rest).sub h4
       exact (Cg.of_eq (by grind)).trans (h5.trans (Cg.of_eq (by lia)))
    ·refine⟨fun j=>if j=n - (t+1) then w (n - (t+1)) else v j,fun j h1 h2 h3=>?_,fun i c row h1 h2 h3=>?_⟩
     ·dsimp only
      by_cases e:j=n - (t+1)
      ·rw [if_pos e,e]
      ·rw [if_neg e]; exact hv1 j (by lia) h2 h3
     ·have lA:c≠n - (t+1):=fun e=>yl (e ▸ ap h1)
      rw [wg _ i c row h1 h2 (by lia)]
      exact hv2 i c row h1 h2 (by lia)
  obtain⟨v,h1,h2⟩:=key n (af _)
  refine⟨v,(G.sol v).mp fun i row hr=>?_,fun j hj hn=>h1 j (by lia) hj hn⟩
  by_cases hi:i < pv.length
  ·obtain⟨c,hc⟩:∃ c,pv[i]? = some c:=⟨pv[i],by simp⟩
   exact h2 i c row hc hr (by lia)
  ·refine Cg.of_eq ?_
   unfold dot
   exact zaC fun j hj=>by rw [G.low i row (by lia) hr j hj,cf]
theorem zlY {p a b:Int} (h1:Cg p (a+b) 0) (h2:Cg p a 0):Cg p b 0:=by
 have h3:=h1.sub h2
 exact (Cg.of_eq (by lia)).trans (h3.trans (Cg.of_eq (by lia)))
theorem zlZ {p:Int} (hp:p∈zm) {c d:Nat} {A:List (List Int)} {pa pb:List Nat} (RA:RK p (c+d) A pa) (RB:RK p d (A.map fun row=>row.drop c) pb) (hH:∀ v,Sol p (c+d) A v→∀ j,j < c→Cg p (v j) 0):pb.length+c≤pa.length:=by
 have rp:=zo hp
 obtain⟨fA,Eu⟩:∃ fA,fA=(aD (c+d)).filter fun i=>decide (i∉pa):=⟨_,rfl⟩
 obtain⟨fB,hfB⟩:∃ fB,fB=(aD d).filter fun i=>decide (i∉pb):=⟨_,rfl⟩
 have hA1:=zeA (S:=pa) (dv (n:=c+d))
 rw [aW,← Eu] at hA1
 have mB:∀ i,i∈fB↔i < d∧i∉pb:=fun i=>by rw [hfB,bF,bm]; simp
 have mA:∀ i,i∈fA↔i < c+d∧i∉pa:=fun i=>by rw [Eu,bF,bm]; simp
 have nA:fA.Nodup:=by rw [Eu]; exact dv.filter _
 have sG:(fB++pb).length≤d:=zdf (by
  rw [dk]
  exact⟨by rw [hfB]; exact dv.filter _,RB.nd,fun a ha b hb e=>((mB a).mp ha).2 (e ▸ hb)⟩) fun x hx=>by
  rcases aP.mp hx with h | h
  ·exact ((mB x).mp h).1
  ·exact RB.lt x h
 rw [ar] at sG
 have hV:∀ t:Nat,∃ v:Nat→Int,Sol p (c+d) A v∧∀ j,j < c+d→j∉pa→v j=if fA[t]? = some j then 1 else 0:=fun t=>RA.E _
 obtain⟨V,hV⟩:=ft hV
 obtain⟨vs,uj⟩:∃ vs,vs=(aD fA.length).map fun t=>fB.map fun s=>V t (c+s) % p:=⟨_,rfl⟩
 have rY:vs.length=fA.length:=by rw [uj,ab,aW]
 have hvx:∀ t x s,t < fA.length→fB[x]? = some s→vx vs t x=V t (c+s) % p:=fun t x s ht hs=>by
  unfold vx
  rw [uj,aN,ag,bR ht]
  exact za9 (by show (fB.map _)[x]? = _; rw [ag,hs]; rfl)
 have hI:Indep p fB.length vs:=fun u hu t ht=>by
  rw [rY] at hu ht
  have AR:Sol p (c+d) A (fun j=>sm fA.length fun t=>u t*V t j):=fun i row hr=>by
   rw [zlU]
   exact (zby (g:=fun _=>0) fun t _=>((Cg.refl p _).mul ((hV t).1 i row hr)).trans (Cg.of_eq (bV _))).trans (Cg.of_eq (zaC fun _ _=>rfl))
  have hL:=hH _ AR
  have hR:=RB.U (fun j=>sm fA.length fun t=>u t*V t (c+j)) (fun i row hr=>by
   rw [ag] at hr
   cases hA:A[i]? with
   | none=>rw [hA] at hr; cases hr
   | some m8 =>
    rw [hA] at hr
    cases hr
    have h1:=AR i m8 hA
    have h2:dot (c+d) m8 (fun j=>sm fA.length fun t=>u t*V t j)=sm c (fun j=>gl m8 j*sm fA.length fun t=>u t*V t j)+dot d (m8.drop c) (fun j=>sm fA.length fun t=>u t*V t (c+j)):=by
     unfold dot
     rw [zdc]
     congr 1
     exact zR fun j _=>by rw [ziw]
    rw [h2] at h1
    have h3:Cg p (sm c fun j=>gl m8 j*sm fA.length fun t=>u t*V t j) 0:=(zby (g:=fun _=>0) fun j hj=>((Cg.refl p _).mul (hL j hj)).trans (Cg.of_eq (bV _))).trans (Cg.of_eq (zaC fun _ _=>rfl))
    exact zlY h1 h3) (fun j hj hn=>by
   obtain⟨x,hx⟩:=bx ((mB j).mpr ⟨hj,hn⟩)
   have:=hu x (ak.mp hx).1
   refine Cg.trans (zby fun t ht=>?_) this
   rw [hvx t x j ht hx]
   exact (Cg.refl p _).mul (Cg.emod _ _).symm)
  obtain⟨jt,Ew⟩:∃ j,fA[t]? = some j:=⟨fA[t],by simp⟩
  obtain⟨j1,j2⟩:=(mA jt).mp (ap Ew)
  have mS:Cg p (sm fA.length fun s=>u s*V s jt) 0:=by
   by_cases hjc:jt < c
   ·exact hL jt hjc
   ·have:=hR (jt - c) (by lia)
    rw [show c+(jt - c)=jt by lia] at this
    exact this
  rw [zfM (j:=t) ht fun s hs lA=>by
   rw [(hV s).2 jt j1 j2,if_neg (fun e=>lA ((eD hs nA).mp (e.trans Ew.symm))),bV],(hV t).2 jt j1 j2,if_pos Ew,iC] at mS
  exact mS
 have hle:=zkS hp (fun v hv=>by
  rw [uj] at hv
  obtain⟨t,_,rfl⟩:=aB.mp hv
  refine⟨by rw [ab],fun x hx=>?_⟩
  obtain⟨s,_,rfl⟩:=aB.mp hx
  exact⟨aK _ (by lia),aC _ (by lia)⟩) hI
 rw [rY] at hle
 lia
end My
end
section
namespace My
open PySem L2 PyProof.Rows
section
variable {P:Program} {w:World} {K:ah} {mg:Str→Option Value} {base:Heap} {t:Adr}
def zbe (p x:Int) (m:Nat):List Int:=(aD m).map fun i=>x ^ i % p
theorem zfk (p x:Int) (m:Nat):zbe p x (m+1)=zbe p x m++[x ^ m % p]:=by
 unfold zbe
 rw [cB,aA]
 rfl
theorem zao (p x:Int) (m:Nat):(zbe p x m).length=m:=by unfold zbe; rw [ab,aW]
theorem zkU {p x:Int} {m i:Nat} (h:i < m):gl (zbe p x m) i=x ^ i % p:=za9 (by unfold zbe; rw [ag,bR h]; rfl)
theorem zl0 {xs:List V} {v:V}:atI (xs++[v]) (-1)=some v:=by
 unfold atI ixN
 rw [if_neg (by decide),if_pos (by rw [ar]; show -((xs.length+1:Nat):Int)≤-1; lia)]
 show (xs++[v])[(-1+((xs++[v]).length:Int)).toNat]? = some v
 rw [ar,show (-1+((xs.length + [v].length:Nat):Int)).toNat=xs.length by show (-1+((xs.length+1:Nat):Int)).toNat=_; lia,bu (af _),d6]
 rfl
def zgO (K:ah):Sp:=fun vs H Q _=>∃ (p x:Int) (m:Nat),vs = [.int p,.int x,.int (m:Int)]∧5≤p∧p≤97∧0≤x∧x < p∧1≤m∧m≤1000 ∧
 ∀ (l:Addr) (H':Hp),H l=none→zu H H'→H' l=some (.lst ((zbe p x m).map V.int))→Q (.ref l) H'
theorem zdG:FnScope ["p","x","many","found"] ["p","x","many"] (zh zb4):=⟨rfl,rfl,rfl,by decide +kernel,rfl,by decide +kernel,by decide +kernel⟩
theorem zgP {fd:FuncData} (T:Txt K mg t) (F:Fun K "_law_powers" "_law_powers" zb4 t.l_powers fd):FnOk P w K mg base CX0 1 t.l_powers fd ["p","x","many"] (zgO K):=by
 refine F.ok zdG (fun vs H Q E h=>?_) (fun ly A outer s H vs Q E hr h=>?_)
 ·obtain⟨p,x,m,rfl,_⟩:=h
  rfl
 ·obtain⟨p,x,m,rfl,p5,p97,x0,x1,m1,m2,q⟩:=h
  refine⟨_,#[zd,#[zp,3,zdG.nd,(au rfl),#[z9,#[za,#[zg],#[ze]]]],#[zd,#[zd7,aX,#[zy,#[zf1],#[zw,#[zr],T.len_,bM,#[za,#[pvx,3],#[ze]]],#[pvx,2],(zL _)],#[zl,#[zbS,#[zdx,bX,cg,ci,#[zbb],#[pvx,3],#[za,#[zi,#[zH],#[zi,#[zU],#[zM,#[zC],#[pvx,3],#[zma,zjB,#[zg]]],#[pvx,1]],#[pvx,0]],#[ze]]]]]],#[zl,#[zE,#[zbi,zcq,#[pvx,3],#[zbU],#[zbq,#[pvx,2]]]]]]],?_⟩
  have om:=a7
  refine⟨by show 1≤sizeLine; lia,fun l hl=>?_⟩
  have e1:(zbe p x 1).map V.int = [V.int 1]:=by
   show [V.int (x ^ 0 % p)] = [V.int 1]
   rw [jy,bW (by lia) (by lia)]
  refine⟨fun μ σ H'=>∃ n:Nat,μ=m - n∧1≤n∧n≤m∧σ = [some (.int p),some (.int x),some (.int (m:Int)),some (.ref l)]∧zu H H'∧H' l=some (.lst ((zbe p x n).map V.int)),⟨m - 1,1,rfl,af _,m1,rfl,zc hl,by rw [e1]; exact zb⟩,?_⟩
  rintro μ σ H1 ⟨n,rfl,n1,nm,rfl,s1,h1⟩
  refine (kF rfl ⟨l,(kF rfl ⟨.inl (kG.of h1),(kF rfl (kN rfl rfl (kF rfl ?_)))⟩)⟩)
  rw [ab,zao]
  refine zaf (fun lp=>?_) (fun oo=>?_)
  ·have lp:=of_decide_eq_true lp
   have lp:n < m:=by lia
   obtain⟨n',rfl⟩:∃ n',n=n'+1:=⟨n - 1,by lia⟩
   have g0:=aK (x ^ n') (show p≠0 by lia)
   have g1:=aC (x ^ n') (show 0 < p by lia)
   refine⟨fun σ' H'=>∃ m',m' < m - (n'+1)∧∃ n:Nat,m'=m - n∧1≤n∧n≤m∧σ' = [some (.int p),some (.int x),some (.int (m:Int)),some (.ref l)]∧zu H H'∧H' l=some (.lst ((zbe p x n).map V.int)),fun _ _ z=>z,?_⟩
   have lC:atI ((zbe p x (n'+1)).map V.int) (-1)=some (.int (x ^ n' % p)):=by
    rw [zfk,aA]
    exact zl0
   refine (kF rfl ⟨.inl ⟨rfl,_,kG.of h1⟩,(kF rfl (kF rfl (ex4 l _ _ (.int (x ^ n' % p)) ⟨rfl,rfl,kG.of h1,lC,(kF rfl (kN rfl rfl ⟨.inl ⟨by lia,by lia⟩,(kF rfl (kN rfl rfl ⟨by lia,l,(kN rfl rfl ⟨h1,by rw [ab,zao]; lia,?_⟩)⟩))⟩))⟩)))⟩)
   refine⟨m - (n'+2),by lia,n'+2,rfl,by lia,by lia,rfl,z0 s1 hl,?_⟩
   rw [zb,zfk p x (n'+1),aA]
   have:x ^ n' % p*x % p=x ^ (n'+1) % p:=by
    rw [f8]
    exact ((Cg.emod p _).mul (Cg.refl p x)).mod_eq
   show some (HO.lst (_++[V.int (x ^ n' % p*x % p)]))=_
   rw [this]
   rfl
  ·have oo:¬ ((n:Int) < (m:Int)):=fun h=>oo (decide_eq_true h)
   have hnm:n=m:=by lia
   subst hnm
   refine (kF rfl (kF rfl (kF rfl ⟨l,(kF rfl ⟨kG.of h1,fun z hz=>?_⟩)⟩)))
   have ec:za2 ((zbe p x n).map V.int) none (some (n:Int))=(zbe p x n).map V.int:=by
    unfold za2
    rw [HT.sIx_nat,HT.sIx_none,dw,eL,ab,zao,Nat.min_self,aO (by rw [ab,zao]; exact af _)]
   rw [ec]
   exact q z _ (s1.free hz) (s1.trans (zc hz)) zb
theorem zkV {p:Int} (p0:0 < p) {n:Nat} {M:List (List Int)} (hM:∀ row∈M,row.length=n):Gs p n M 0 [] (M.map fun row=>row.map fun c=>c % p):=by
 refine⟨by rw [ab],fun row hr=>?_,fun v=>?_,bb _,fun i c row h=>by simp at h,fun i row _ _ j hj=>by lia,gh,fun c hc=>by cases hc⟩
 ·obtain⟨r,ou,rfl⟩:=aB.mp hr
  refine⟨by rw [ab]; exact hM r ou,fun c hc=>?_⟩
  obtain⟨d,_,rfl⟩:=aB.mp hc
  exact⟨aK _ (by lia),aC _ p0⟩
 ·have hd:∀ row∈M,Cg p (dot n (row.map fun c=>c % p) v) (dot n row v):=fun row hr=>by
   unfold dot
   exact zby fun j hj=>by
    rw [zht (f:=fun c=>c % p) (by rw [hM row hr]; exact hj)]
    exact (Cg.emod _ _).mul (Cg.refl p _)
  constructor
  ·intro h i row hi
   exact (hd row (ap hi)).symm.trans (h i _ (by rw [ag,hi]; rfl))
  ·intro h i row hi
   rw [ag] at hi
   cases hA:M[i]? with
   | none=>rw [hA] at hi; cases hi
   | some r =>
    rw [hA] at hi
    cases hi
    exact (hd r (ap hA)).trans (h i r hA)
def LsN (ra:Addr) (H:Hp):List Addr→List (List Int)→Prop:=Paired fun b v=>H b=some (.lst (v.map V.int))∧b≠ra
theorem LsN.same {ra:Addr} {H H':Hp} (s:zu H H') {bs:List Addr} {vv:List (List Int)} (h:LsN ra H bs vv):LsN ra H' bs vv:=bq (fun _ _ ⟨z,z'⟩=>⟨s _ _ z,z'⟩) h
theorem LsN.put {ra:Addr} {H:Hp} {bs:List Addr} {vv:List (List Int)} {o:HO} (h:LsN ra H bs vv):LsN ra (kL H ra o) bs vv:=bq (fun _ _ ⟨z,z'⟩=>⟨by rw [zq z']; exact z,z'⟩) h
theorem LsN.set {ra:Addr} {H:Hp} {bs:List Addr} {vv:List (List Int)} (h:LsN ra H bs vv):∀ (i:Nat) {b:Addr} {v:List Int},H b=some (.lst (v.map V.int))→b≠ra→LsN ra H (bs.set i b) (vv.set i v):=by
 induction h with
 | nil=>intro i b v _ _; exact .nil
 | cons r t ih =>
  intro i b v h1 h2
  cases i with
  | zero=>exact .cons ⟨h1,h2⟩ t
  | succ i=>exact .cons r (ih i h1 h2)
def zjp (K:ah):Sp:=fun vs H Q _=>∃ (p:Int) (a:Addr) (bs:List Addr) (M:List (List Int)) (n:Nat),vs = [.int p,.ref a]∧H a=some (.lst (bs.map V.ref))∧LsA H bs M∧M≠[]∧M.length≤1000∧n≤1000∧(∀ row∈M,row.length=n)∧p∈zm ∧
 ∀ (pv:List Nat) (H':Hp),zu H H'→RK p n M pv→Q (.int (pv.length:Int)) H'
theorem zaP:FnScope ["p","rows","rank","at","some","first","k","by"] ["p","rows"] (zh zbm):=⟨rfl,rfl,rfl,by decide +kernel,rfl,by decide +kernel,by decide +kernel⟩
theorem zjq {fd:FuncData} (T:Txt K mg t) (F:Fun K "_law_rank" "_law_rank" zbm t.l_rank fd):FnOk P w K mg base CX0 1 t.l_rank fd ["p","rows"] (zjp K):=by
 refine F.ok zaP (fun vs H Q E h=>?_) (fun ly A outer s H vs Q E hr h=>?_)
 ·obtain⟨p,a,bs,M,n,rfl,_⟩:=h
  rfl
 ·obtain⟨p,a,bs,M,n,rfl,ha,hB,lA,hM,hn,ml,hp,q⟩:=h
  have hu:(A.deeper (envOfC (bP "_law_rank") (zh zbm) s.heap.objs.size t.l_rank ly)).units+20 < cLine:=by have:=hr.units; lia
  refine⟨_,#[zd,#[zp,1,zaP.nd,(cn rfl),#[zad,(CompSc.of (N':=["row","p"]) (ix:=[none,some 0]) (zh zbm) ["p","rows","rank","at","some","first","k","by"] rfl rfl (by decide +kernel)),#[zai],#[zT,#[pvx,1]],(fun _ _ _ _=>#[zf,0,(show (["row","p"]:List Str).Nodup by decide +kernel),(au rfl)]),(fun _ _ _ _=>#[zG]),(fun _ _ _ _=>#[zad,(CompSc.of (N':=["number","p"]) (ix:=[none,some 1]) ({ kind:=.function,names:=[(".0",.local),("row",.local),("p",.cell)],isGenerator:=false,isCoroutine:=false }) ["row","p"] (by with_unfolding_all rfl) rfl (by decide +kernel)),#[zai],(@zkE _ (K) _ _ _ rfl #[pvx,0]),(fun _ _ _ _=>#[zf,0,(show (["number","p"]:List Str).Nodup by decide +kernel),(au rfl)]),(fun _ _ _ _=>#[zG]),(fun _ _ _ _=>#[zi,#[zH],#[pvx,0],#[pvx,1]])])]],#[zd,#[zp,2,zaP.nd,(au rfl),#[zg]],#[zd,#[zam,aX,#[zaF,T.range_,#[za,#[zd6,#[zy,#[zfy,hu],#[pvx,1],#[z9,#[ze]],(zL _)],#[zw,#[zr],T.len_,bM,#[za,#[zM,#[zC],#[pvx,1],#[zg]],#[ze]]],#[zg]],#[ze]]],#[zf,3,zaP.nd,(cn rfl)],#[zd,#[zaA,4,zaP.nd,(au rfl),(CompSc.of (N':=["k","rows","at"]) (ix:=[none,some 1,some 3]) (zh zbm) ["p","rows","rank","at","some","first","k","by"] rfl rfl (by decide +kernel)),#[zai],#[zdg,T.range_,#[za,#[pvx,2],#[za,#[zw,#[zr],T.len_,bM,#[za,#[pvx,1],#[ze]]],#[ze]]]],(fun _ _ _ _=>#[zf,0,(show (["k","rows","at"]:List Str).Nodup by decide +kernel),(au rfl)]),(fun _ _ _ _=>#[zcf,#[zy,#[zdv],#[zM,#[zbM,(K)],#[zM,#[zbM,(K)],#[pvx,1],#[pvx,0]],#[pvx,2]],#[zg],(zL _)]]),(fun _ _ _ _=>#[pvx,0])],#[zl,#[zaJ,#[zy,#[zfy,hu],#[pvx,4],#[z9,#[ze]],(zL _)],#[zd,#[zp,5,zaP.nd,(cn rfl),#[zM,#[zC],#[pvx,1],#[zM,#[zC],#[pvx,4],#[zg]]]],#[zd,#[zaG,#[zM,#[zC],#[pvx,1],#[pvx,2]],#[zcL,#[pvx,1],#[zM,#[zC],#[pvx,4],#[zg]],set_list]],#[zd,#[zaG,#[pvx,5],#[zcL,#[pvx,1],#[pvx,2],set_list]],#[zd,#[zam,aX,#[zdg,T.range_,#[za,#[zi,#[zB],#[pvx,2],#[zg]],#[za,#[zw,#[zr],T.len_,bM,#[za,#[pvx,1],#[ze]]],#[ze]]]],#[zf,6,zaP.nd,(au rfl)],#[zd,#[zp,7,zaP.nd,(cn rfl),#[zM,#[zC],#[zM,#[zC],#[pvx,1],#[pvx,6]],#[pvx,3]]],#[zl,#[zaJ,#[zy,#[zdv],#[pvx,7],#[zg],(zL _)],#[zl,#[zaG,#[zad,(CompSc.of (N':=["one","other","first","at","by","p"]) (ix:=[none,none,some 5,some 3,some 7,some 0]) (zh zbm) ["p","rows","rank","at","some","first","k","by"] rfl rfl (by decide +kernel)),#[zbw,#[zW,#[zW,#[za3]]]],#[zcY,T.zip_,#[za,#[zM,#[zC],#[pvx,1],#[pvx,6]],#[za,#[pvx,5],#[ze]]]],(fun _ _ _ _=>#[zaT,(K),2,#[zj,#[zf,0,(show (["one","other","first","at","by","p"]:List Str).Nodup by decide +kernel),(au rfl)],#[zj,#[zf,1,(show (["one","other","first","at","by","p"]:List Str).Nodup by decide +kernel),(au rfl)],#[zK]]]]),(fun _ _ _ _=>#[zG]),(fun _ _ _ _=>#[zi,#[zH],#[zi,#[zba],#[zi,#[zU],#[pvx,0],#[zM,#[zbM,(K)],#[pvx,2],#[pvx,3]]],#[zi,#[zU],#[pvx,4],#[pvx,1]]],#[pvx,5]])],#[zcL,#[pvx,1],#[pvx,6],set_list]]],#[zZ]]]]],#[zl,#[zp,2,zaP.nd,(au rfl),#[zi,#[zB],#[pvx,2],#[zg]]]]]]]],#[zZ]]]]],#[zl,#[zE,#[pvx,2]]]]]],?_⟩
  have om:=a7
  have rp:=zo hp
  have p0:0 < p:=by lia
  have qY:=hB.length
  have hM0:=eX.mpr lA
  obtain⟨R0,Ex⟩:∃ R0,R0=M.map fun row=>row.map fun c=>c % p:=⟨_,rfl⟩
  refine (kF rfl ⟨a,rfl,⟨_,kG.of ha⟩,zY (n:=bs.length) (fun i ys H'=>zu H H'∧∃ us:List Addr,ys=us.map V.ref∧LsA H' us (R0.take i)) ⟨fun _ _ e=>e,[],rfl,.nil⟩ ?_ ?_ ?_ ?_⟩)
  ·rintro i ys H1 hi ⟨s1,_⟩
   exact⟨_,.ref bs[i],kG.of (s1 _ _ ha),by rw [ag,am hi]; rfl⟩
  ·rintro ys H1 ⟨s1,_⟩
   exact⟨_,kG.of (s1 _ _ ha),by rw [ab]; exact af _⟩
  ·rintro i y ys H1 H2 hi ⟨s1,us,rfl,lG⟩ ⟨rfl,hy⟩
   obtain⟨b,rfl,hb⟩:=zQ (hy _ (kG.of (s1 _ _ ha)))
   obtain⟨row,Cm,lC⟩:=Paired.get hB hb
   have uJ:=ml row (ap Cm)
   have mY:=lG.length
   rw [aJ] at mY
   have h1b:=s1 _ _ lC
   refine gY (kF rfl ⟨b,rfl,⟨_,kG.of h1b⟩,zcs (fs:=(row.map fun c=>c % p).map V.int) (kG.of h1b) (by rw [ab,ab,ab]) (by rw [ab]; lia) ?_ ?_⟩)
   ·intro j x y R B hx hy hR
    obtain⟨m,rfl,hm⟩:=zae hx
    obtain⟨m',rfl,xS⟩:=zae hy
    rw [ag,hm] at xS
    cases xS
    exact gY (kF rfl (kF rfl (kN rfl rfl ⟨p0,hR⟩)))
   ·intro D hD
    have Ey:R0[i]? = some (row.map fun c=>c % p):=by rw [Ex,ag,Cm]; rfl
    refine⟨by rw [ab]; lia,s1.trans (zc hD),us++[D],by rw [aA]; rfl,?_⟩
    rw [take_snoc Ey]
    exact bO (lG.same (zc hD)) zb
  rintro ys H1 ra ⟨s1,us,rfl,lG⟩ mf
  have Ez:R0.length=M.length:=by rw [Ex,ab]
  rw [qY,← Ez,aZ] at lG
  have G0:=zkV p0 ml
  rw [← Ex] at G0
  have EA:LsN ra H1 us R0:=bq (fun b v z=>⟨z,fun e=>by rw [e,mf] at z; cases z⟩) lG
  have Ck:kL H1 ra (.lst (us.map V.ref)) ra=some (.lst (us.map V.ref)):=zb
  have t2:=zc (o:=.lst (us.map V.ref)) mf
  have oR:LsN ra (kL H1 ra (.lst (us.map V.ref))) us R0:=EA.put
  have sN:H ra=none:=s1.free mf
  have s2:=s1.trans t2
  generalize kL H1 ra (.lst (us.map V.ref))=H2 at Ck t2 oR s2 ⊢
  have mY:=oR.length
  refine (kF rfl ⟨bb _,fun z hz=>?_⟩)
  have t3:=zc (o:=.lst []) hz
  have pG:=t3 _ _ Ck
  have oU:=oR.same t3
  have s3:=s2.trans t3
  refine (ex4 ra z _ _ ⟨rfl,rfl,.inl ⟨kG.of pG,kG.of zb⟩,.inl ⟨by rw [ab]; show us.length≠0; lia,fun j x y _ hy=>by simp at hy,?_⟩⟩)
  generalize kL H2 z (.lst [])=H3 at t3 pG oU s3 ⊢
  obtain⟨u0,hu0⟩:∃ u0,us[0]? = some u0:=⟨us[0]'(by lia),by simp⟩
  obtain⟨v0,D8,xi,_⟩:=Paired.get oU hu0
  have EB:v0.length=n:=(G0.rw v0 (ap D8)).1
  refine (kF rfl ?_)
  refine zaf (fun _=>?_) (fun h=>absurd rfl h)
  refine (kF rfl (ex4 ra _ _ (.ref u0) ⟨rfl,rfl,kG.of pG,zag (j:=0) (by rw [ag,hu0]; rfl),u0,(kF rfl ⟨.inl (kG.of xi),(kF rfl ⟨by rw [ab]; lia,by rw [ab]; lia,?_⟩)⟩)⟩))
  rw [ab,EB,bH]
  refine zaZ (lo:=0) (n:=n) (fun at' σ H'=>∃ (us:List Addr) (R:List (List Int)) (pv:List Nat) (e3 e4 e5 e6 e7:Option V),σ = [some (.int p),some (.ref ra),some (.int (pv.length:Int)),e3,e4,e5,e6,e7]∧zu H H'∧H' ra=some (.lst (us.map V.ref))∧LsN ra H' us R∧Gs p n M at' pv R) (ex8 us R0 ([]) none none none none none ⟨rfl,s3,pG,oU,G0⟩) ?_ ?_
  ·rintro at' σ H4 lC ⟨us,R,pv,e3,e4,e5,e6,e7,rfl,s4,Cn,oT,G⟩
   have mY:=oT.length
   have hRl:=G.ln
   have hpvl:=G.pvl
   refine (kF rfl (kF rfl ⟨ra,(kF rfl ⟨.inl (kG.of Cn),_,_,rfl,⟨by lia,by lia,by rw [ab]; lia,by rw [ab]; lia⟩,?_⟩)⟩))
   have en:(((us.map V.ref).length:Int) - (pv.length:Int)).toNat=R.length - pv.length:=by rw [ab]; lia
   rw [en]
   have xp:∀ i,i < R.length→∃ b row,us[i]? = some b∧R[i]? = some row∧H4 b=some (.lst (row.map V.int))∧b≠ra∧row.length=n∧∀ c∈row,0≤c∧c < p:=fun i hi=>by
    obtain⟨b,hb⟩:∃ b,us[i]? = some b:=⟨us[i]'(by lia),by simp⟩
    obtain⟨row,h1,h2,h3⟩:=Paired.get oT hb
    exact⟨b,row,hb,h1,h2,h3,G.rw row (ap h1)⟩
   have rY:∀ i row,R[i]? = some row→gl (R.getD i []) at'=gl row at':=fun i row h=>by rw [aN,h]; rfl
   refine zY (n:=R.length - pv.length) (fun j ys H'=>H'=H4∧ys=(((aD j).filter fun m=>decide (gl (R.getD (pv.length+m) []) at'≠0)).map fun m:Nat=>((pv.length+m:Nat):Int)).map V.int) ⟨rfl,rfl⟩ (fun j ys H' hj _=>hj) (fun ys H' _=>af _) ?_ ?_
   ·rintro j xx ys H5 H6 hj ⟨rfl,rfl⟩ ⟨rfl,rfl⟩
    obtain⟨b,row,hb,AS,AU,_,nG,xq⟩:=xp (pv.length+j) (by lia)
    have xX:atI (us.map V.ref) ((pv.length:Int)+(j:Int))=some (.ref b):=by
     rw [← dL]
     exact zag (by rw [ag,hb]; rfl)
    refine (kF rfl (kF rfl (ex4 ra _ _ (.ref b) ⟨rfl,rfl,kG.of Cn,xX,(kF rfl (ex4 b _ _ (.int (gl row at')) ⟨rfl,rfl,kG.of AU,by rw [cG]; exact zag (by rw [ag,zax (by lia)]; rfl),rfl,(kF rfl ?_)⟩))⟩)))
    have v7:=dI (fun m=>decide (gl (R.getD (pv.length+m) []) at'≠0)) (aD j)
    rw [aW] at v7
    rw [cB,dE,aA,aA]
    have hv:=rY _ _ AS
    by_cases h0:gl row at'=0
    ·refine zaf (fun h=>absurd h (by rw [h0]; simp)) (fun _=>⟨rfl,?_⟩)
     rw [ee (by rw [hv]; simpa using h0),fc,cJ,cJ,bw]
    ·refine zaf (fun _=>(kF rfl ⟨zaB (by rw [ab,ab]; lia),rfl,?_⟩)) (fun h=>absurd (by simpa using h0) h)
     rw [ed (by rw [hv]; simpa using h0),fc,← dL]
     rfl
   ·rintro ys H5 uU ⟨rfl,rfl⟩ wU
    have t6:=zc (o:=.lst ((((aD (R.length - pv.length)).filter fun m=>decide (gl (R.getD (pv.length+m) []) at'≠0)).map fun m:Nat=>((pv.length+m:Nat):Int)).map V.int)) wU
    have ym:kL H5 uU (.lst ((((aD (R.length - pv.length)).filter fun m=>decide (gl (R.getD (pv.length+m) []) at'≠0)).map fun m:Nat=>((pv.length+m:Nat):Int)).map V.int)) uU=_:=zb
    generalize kL H5 uU (.lst ((((aD (R.length - pv.length)).filter fun m=>decide (gl (R.getD (pv.length+m) []) at'≠0)).map fun m:Nat=>((pv.length+m:Nat):Int)).map V.int))=H6 at t6 ym ⊢
    have pH:=t6 _ _ Cn
    have AV:=oT.same t6
    have s6:=s4.trans t6
    refine (kF rfl ⟨bb _,fun z2 p7=>?_⟩)
    have t7:=zc (o:=.lst []) p7
    cases Co:(aD (R.length - pv.length)).filter fun m=>decide (gl (R.getD (pv.length+m) []) at'≠0) with
    | nil =>
     rw [Co] at ym
     refine (ex4 uU z2 _ _ ⟨rfl,rfl,.inl ⟨kG.of (t7 _ _ ym),kG.of zb⟩,.inr ⟨rfl,fun _=>true,fun j x y hx _=>by simp at hx,?_⟩⟩)
     refine (kF rfl ?_)
     refine zaf (fun h=>absurd h (by simp)) (fun _=>?_)
     refine (ex8 us R pv _ _ _ _ _ ⟨rfl,s6.trans t7,t7 _ _ pH,AV.same t7,zlV G fun i row h1 h2=>?_⟩)
     have hi:=(ak.mp h2).1
     have:=fG.mp Co (i - pv.length) (bm.mpr (by lia))
     rw [show pv.length+(i - pv.length)=i by lia,rY i row h2] at this
     simpa using this
    | cons m0 ms =>
     rw [Co] at ym
     have B5:m0∈(aD (R.length - pv.length)).filter fun m=>decide (gl (R.getD (pv.length+m) []) at'≠0):=by rw [Co]; exact aF
     obtain⟨rj,qA⟩:=bF.mp B5
     have rj:=bm.mp rj
     refine (ex4 uU z2 _ _ ⟨rfl,rfl,.inl ⟨kG.of (t7 _ _ ym),kG.of zb⟩,.inl ⟨by simp,fun j x y _ hy=>by simp at hy,?_⟩⟩)
     refine (kF rfl ?_)
     refine zaf (fun _=>?_) (fun h=>absurd rfl h)
     generalize kL H6 z2 (.lst [])=H7 at t7 ⊢
     have h7s:=t7 _ _ ym
     have EC:=t7 _ _ pH
     have ED:=AV.same t7
     have s7:=s6.trans t7
     obtain⟨k0,qC⟩:∃ k0,k0=pv.length+m0:=⟨_,rfl⟩
     have uf:atI ((((m0 :: ms).map fun m:Nat=>((pv.length+m:Nat):Int))).map V.int) 0=some (.int (k0:Int)):=by rw [qC]; exact zag (j:=0) rfl
     obtain⟨bf,first,hbf,hRf,AW,vD,v7,wG⟩:=xp k0 (by lia)
     obtain⟨bo,other,hbo,hRo,EE,AX,hol,hor⟩:=xp pv.length (by lia)
     have hf0:gl first at'≠0:=by
      rw [← qC,rY k0 first hRf] at qA
      simpa using qA
     refine (kF rfl (kF rfl (ex4 uU _ _ (.int (k0:Int)) ⟨rfl,rfl,kG.of h7s,uf,ra,_,_,.ref bf,rfl,rfl,kG.of EC,zag (by rw [ag,hbf]; rfl),?_⟩)))
     refine (kF rfl (kF rfl (ex4 ra _ _ (.ref bo) ⟨rfl,rfl,kG.of EC,zag (by rw [ag,hbo]; rfl),(kF rfl (kF rfl (ex4 uU _ _ (.int (k0:Int)) ⟨rfl,rfl,kG.of h7s,uf,ra,_,_,k0,rfl,rfl,EC,zbY (by rw [ab]; lia),?_⟩)))⟩)))
     refine (kF rfl (kF rfl (kF rfl (ex4 ra _ _ pv.length ⟨rfl,rfl,zb,zbY (by rw [ck,ab]; lia),?_⟩))))
     rw [zhG]
     have esw:((us.map V.ref).set k0 (.ref bo)).set pv.length (.ref bf)=((us.set k0 bo).set pv.length bf).map V.ref:=by rw [eM,eM]
     rw [esw]
     have L0:=zkT G (k0:=k0) (by lia) hRf hRo hf0
     have yn:kL H7 ra (.lst (((us.set k0 bo).set pv.length bf).map V.ref)) ra=some (.lst (((us.set k0 bo).set pv.length bf).map V.ref)):=zb
     have uk:LsN ra (kL H7 ra (.lst (((us.set k0 bo).set pv.length bf).map V.ref))) ((us.set k0 bo).set pv.length bf) ((R.set k0 other).set pv.length first):=LsN.set (LsN.set ED.put k0 (by rw [zq AX]; exact (t6.trans t7) _ _ EE) AX) pv.length (by rw [zq vD]; exact (t6.trans t7) _ _ AW) vD
     have h8f:kL H7 ra (.lst (((us.set k0 bo).set pv.length bf).map V.ref)) bf=some (.lst (first.map V.int)):=by rw [zq vD]; exact (t6.trans t7) _ _ AW
     have s8:zu H (kL H7 ra (.lst (((us.set k0 bo).set pv.length bf).map V.ref))):=z0 s7 sN
     generalize kL H7 ra (.lst (((us.set k0 bo).set pv.length bf).map V.ref))=H8 at yn uk h8f s8 ⊢
     generalize (us.set k0 bo).set pv.length bf=us8 at yn uk ⊢
     generalize (R.set k0 other).set pv.length first=R8 at L0 uk
     have hR8:=L0.ln
     have hu8:=uk.length
     refine (kF rfl (kN rfl rfl (kF rfl ⟨ra,(kF rfl ⟨.inl (kG.of yn),_,_,rfl,⟨by lia,by lia,by rw [ab]; lia,by rw [ab]; lia⟩,?_⟩)⟩)))
     have en2:(((us8.map V.ref).length:Int) - ((pv.length:Int)+1)).toNat=R8.length - (pv.length+1):=by rw [ab]; lia
     rw [en2]
     have pD:(pv.length:Int)+1=((pv.length+1:Nat):Int):=by lia
     refine zaZ (lo:=(pv.length:Int)+1) (n:=R8.length - (pv.length+1)) (fun m σ H'=>∃ (us:List Addr) (R:List (List Int)) (e6 e7:Option V),σ = [some (.int p),some (.ref ra),some (.int (pv.length:Int)),some (.int (0+(at':Int))),some (.ref uU),some (.ref bf),e6,e7]∧zu H H'∧H' ra=some (.lst (us.map V.ref))∧LsN ra H' us R∧H' bf=some (.lst (first.map V.int))∧El p n M at' pv first (pv.length+1+m) R) (ex4 us8 R8 _ _ ⟨rfl,s8,yn,uk,h8f,L0⟩) ?_ ?_
     ·rintro m σ H9 hm ⟨xr,R9,f6,f7,rfl,s9,uV,sO,yo,L⟩
      have hR9:=L.ln
      have hu9:=sO.length
      have hkl:pv.length+1+m < R9.length:=by lia
      obtain⟨b,hb⟩:∃ b,xr[pv.length+1+m]? = some b:=⟨xr[pv.length+1+m]'(by lia),by simp⟩
      obtain⟨row,xt,AU,hbn⟩:=Paired.get sO hb
      obtain⟨nG,xq⟩:=L.rw row (ap xt)
      have hkx:(pv.length:Int)+1+(m:Int)=((pv.length+1+m:Nat):Int):=by lia
      have xX:atI (xr.map V.ref) ((pv.length:Int)+1+(m:Int))=some (.ref b):=by
       rw [hkx]
       exact zag (by rw [ag,hb]; rfl)
      have yU:atI (row.map V.int) (0+(at':Int))=some (.int (gl row at')):=by
       rw [cG]
       exact zag (by rw [ag,zax (by lia)]; rfl)
      have hfx:atI (first.map V.int) (0+(at':Int))=some (.int (gl first at')):=by
       rw [cG]
       exact zag (by rw [ag,zax (by lia)]; rfl)
      refine (kF rfl (kF rfl (ex4 ra _ _ (.ref b) ⟨rfl,rfl,kG.of uV,xX,(kF rfl (ex4 b _ _ (.int (gl row at')) ⟨rfl,rfl,kG.of AU,yU,?_⟩))⟩)))
      refine (kF rfl ⟨rfl,(kF rfl ?_)⟩)
      obtain⟨q0,q1⟩:=zb2 p0 xq at'
      obtain⟨w0,w1⟩:=zb2 p0 wG at'
      by_cases h0:gl row at'=0
      ·refine zaf (fun h=>absurd h (by rw [h0]; simp)) (fun _=>?_)
       exact (ex4 xr R9 _ _ ⟨rfl,s9,uV,sO,yo,by rw [← gG]; exact zlW L xt h0⟩)
      ·refine zaf (fun _=>?_) (fun h=>absurd (by simpa using h0) h)
       refine (kF rfl (kF rfl (ex4 ra _ _ (.ref b) ⟨rfl,rfl,kG.of uV,xX,(kF rfl (ex4 b bf _ _ ⟨rfl,kG.of AU,kG.of yo,zdm (n:=n) (f:=fun one other=>(one*gl first at' - gl row at'*other) % p) AU yo (by lia) (by lia) (.inl (by lia)) (by lia) ?_ ?_⟩))⟩)))
       ·intro j u w Hx T R' B hu hv sx hT hR
        have hu2:=xq u (ap hu)
        have hfT:=sx.trans (zc (o:=.tup [.int u,.int w]) hT)
        refine gY2 (kP.of zb) ?_
        exact (kF rfl (kF rfl (kF rfl (ex4 bf _ _ (.int (gl first at')) ⟨rfl,rfl,kG.of (hfT _ _ yo),hfx,(kN rfl rfl ⟨.inl ⟨by lia,by lia⟩,(kF rfl (kF rfl (kN rfl rfl ⟨.inl ⟨by lia,by lia⟩,(kN rfl rfl (kF rfl (kN rfl rfl ⟨p0,hR⟩)))⟩)))⟩)⟩))))
       ·intro D Hx sx hD
        have tx:=sx.trans (zc (o:=.lst ((aT (fun one other=>(one*gl first at' - gl row at'*other) % p) row first).map V.int)) hD)
        have EF:kL Hx D (.lst ((aT (fun one other=>(one*gl first at' - gl row at'*other) % p) row first).map V.int)) D=some (.lst ((aT (fun one other=>(one*gl first at' - gl row at'*other) % p) row first).map V.int)):=zb
        have hDr:D≠ra:=fun e=>by
         have:=sx _ _ uV
         rw [← e,hD] at this
         cases this
        have L2:=zlX hp L lC (by lia) xt
        generalize kL Hx D (.lst ((aT (fun one other=>(one*gl first at' - gl row at'*other) % p) row first).map V.int))=Hy at tx EF ⊢
        generalize aT (fun one other=>(one*gl first at' - gl row at'*other) % p) row first=nw at L2 EF
        have D4:=tx _ _ uV
        refine (kF rfl (kF rfl (ex4 ra _ _ (pv.length+1+m) ⟨rfl,rfl,D4,by rw [hkx]; exact zbY (by rw [ab]; lia),?_⟩)))
        refine (ex4 (xr.set (pv.length+1+m) D) (R9.set (pv.length+1+m) nw) _ _ ⟨rfl,z0 (s9.trans tx) sN,by rw [zb,eM],LsN.set (sO.same tx).put _ (by rw [zq hDr]; exact EF) hDr,by rw [zq vD]; exact tx _ _ yo,by rw [← gG]; exact L2⟩)
     ·rintro σ H9 ⟨xr,R9,f6,f7,rfl,s9,uV,sO,yo,L⟩
      have hR9:=L.ln
      have hfl':=(ak.mp L.fs).1
      refine (kF rfl (kN rfl rfl ?_))
      have epv:(pv.length:Int)+1=((pv++[at']).length:Int):=by
       rw [ar]
       show _=((pv.length+1:Nat):Int)
       lia
      exact⟨xr,R9,pv++[at'],some (.int (0+(at':Int))),some (.ref uU),some (.ref bf),f6,f7,congrArg (fun v:Int=>[some (V.int p),some (.ref ra),some (.int v),some (.int (0+(at':Int))),some (.ref uU),some (.ref bf),f6,f7]) epv,s9,uV,sO,znf L (by lia)⟩
  ·rintro σ H4 ⟨us,R,pv,e3,e4,e5,e6,e7,rfl,s4,Cn,oT,G⟩
   exact (kF rfl (q pv H4 s4 (znW hp G)))
end
end My
end
section
namespace My
open PySem L2 PyProof.Rows
section
variable {P:Program} {w:World} {K:ah} {mg:Str→Option Value} {base:Heap} {t:Adr}
def blk (n j w:Nat) (pw:List Int):List Int:=(aD n).flatMap fun i=>if i=j then pw else aj w 0
theorem zeI (n j w:Nat) (pw:List Int):blk (n+1) j w pw=blk n j w pw++if n=j then pw else aj w 0:=by
 unfold blk
 rw [cB,dq,dP,fO,bw]
theorem zd0 {j w:Nat} {pw:List Int} (h:pw.length=w):∀ n,(blk n j w pw).length=n*w
 | 0=>by rw [Nat.zero_mul]; rfl
 | n+1=>by
  rw [zeI,ar,zd0 h n,fi]
  split
  ·rw [h]
  ·rw [aL]
theorem zkW (w y:Nat):gl (aj w 0) y=0:=by
 by_cases h:y < w
 ·exact za9 (by rw [cH,if_pos h])
 ·exact zaQ (by rw [aL]; lia)
theorem zkX {j w:Nat} {pw:List Int} (h:pw.length=w) (u:Nat→Int):∀ n,sm (n*w) (fun t=>gl (blk n j w pw) t*u t)=if j < n then sm w (fun i=>gl pw i*u (j*w+i)) else 0
 | 0=>by rw [Nat.zero_mul,if_neg (by lia)]; rfl
 | n+1=>by
  have hl:=zd0 (j:=j) h n
  rw [fi,zdc,zeI]
  have e1:sm (n*w) (fun t=>gl (blk n j w pw++if n=j then pw else aj w 0) t*u t)=sm (n*w) (fun t=>gl (blk n j w pw) t*u t):=zR fun i hi=>by rw [zcR,if_pos (by lia)]
  have e2:sm w (fun i=>gl (blk n j w pw++if n=j then pw else aj w 0) (n*w+i)*u (n*w+i))=sm w (fun i=>gl (if n=j then pw else aj w 0) i*u (n*w+i)):=zR fun i hi=>by rw [zcR,if_neg (by lia),hl,fw]
  rw [e1,e2,zkX h u n]
  by_cases hn:n=j
  ·subst hn
   rw [if_neg (bY _),if_pos (fL _),cG]
   simp only [if_pos]
  ·have e3:sm w (fun i=>gl (if n=j then pw else aj w 0) i*u (n*w+i))=0:=zaC fun i _=>by rw [if_neg hn,zkW,cf]
   rw [e3,Int.add_zero]
   by_cases hj:j < n
   ·rw [if_pos hj,if_pos (by lia)]
   ·rw [if_neg hj,if_neg (by lia)]
def zdM (p:Int) (k e n j:Nat) (a:Int×Int):List Int:=((zbe p a.1 (e+1)).map fun o=>0 - a.2*o)++blk n j (k+e) (zbe p a.1 (k+e))
theorem zeJ (p:Int) (k e n j:Nat) (a:Int×Int):(zdM p k e n j a).length=e+1+n*(k+e):=by
 unfold zdM
 rw [ar,ab,zao,zd0 (zao _ _ _)]
def asks (p:Int) (k e n:Nat) (kJ:List (List (Int×Int))) (m:Nat):List (List Int):=(aD m).flatMap fun j=>(kJ.getD j []).map (zdM p k e n j)
theorem zfl {p:Int} {k e n m:Nat} {kJ:List (List (Int×Int))} {kH:List (Int×Int)} (h:kJ[m]? = some kH):asks p k e n kJ (m+1)=asks p k e n kJ m++kH.map (zdM p k e n m):=by
 unfold asks
 rw [cB,dq,dP,fO,bw,aN,h]
 rfl
theorem zeK {p:Int} {k e n m:Nat} {kJ:List (List (Int×Int))} {row:List Int} (h:row∈asks p k e n kJ m):∃ j a,row=zdM p k e n j a:=by
 unfold asks at h
 obtain⟨j,_,hj⟩:=dB.mp h
 obtain⟨a,_,rfl⟩:=aB.mp hj
 exact⟨j,a,rfl⟩
theorem zgQ {p:Int} {k e n m j:Nat} {kJ:List (List (Int×Int))} {kH:List (Int×Int)} {a:Int×Int} (hj:j < m) (h:kJ[j]? = some kH) (ha:a∈kH):zdM p k e n j a∈asks p k e n kJ m:=by
 unfold asks
 refine dB.mpr ⟨j,bm.mpr hj,?_⟩
 rw [aN,h]
 exact aB.mpr ⟨a,ha,rfl⟩
theorem zl1 {p:Int} (hp:p∈zm) {k e:Nat} {kJ:List (List (Int×Int))} (xO:∀ l,IsP p (e+1) l→Good p k e kJ l→∀ i,gl l i=0) (v:Nat→Int) (hv:Sol p (e+1+kJ.length*(k+e)) (asks p k e kJ.length kJ kJ.length) v):∀ j,j < e+1→Cg p (v j) 0:=by
 have rp:=zo hp
 have p0:0 < p:=by lia
 have hm:∀ (f:Nat→Int) (m:Nat),IsP p m ((aD m).map fun i=>f i % p):=fun f m=>⟨by rw [ab,aW],fun c hc=>by
  obtain⟨i,_,rfl⟩:=aB.mp hc
  exact⟨aK _ (by lia),aC _ p0⟩⟩
 have hg:∀ (f:Nat→Int) (m i:Nat),i < m→gl ((aD m).map fun i=>f i % p) i=f i % p:=fun f m i hi=>za9 (by rw [ag,bR hi]; rfl)
 have vZ:∀ (f:Nat→Int) (m:Nat) (x:Int),Cg p (zn p x ((aD m).map fun i=>f i % p)) (sm m fun i=>x ^ i*f i):=fun f m x=>(zaR (by rw [(hm f m).1]; exact af _)).trans (zby fun i hi=>by
  rw [hg f m i hi]
  exact ((Cg.emod _ _).mul (Cg.refl p _)).trans (Cg.of_eq (df _ _)))
 have h:=xO _ (hm v (e+1)) (fun kH hq=>by
  obtain⟨j,hj⟩:=bx hq
  have tJ:j < kJ.length:=(ak.mp hj).1
  refine⟨_,hm (fun i=>v (e+1+(j*(k+e)+i))) (k+e),fun a ha=>?_⟩
  obtain⟨i,hi⟩:=bx (zgQ (p:=p) (k:=k) (e:=e) (n:=kJ.length) tJ hj ha)
  have h1:=hv i _ hi
  unfold dot at h1
  rw [zdc] at h1
  have h2:Cg p (sm (e+1) fun t=>gl (zdM p k e kJ.length j a) t*v t) (-(a.2*zn p a.1 ((aD (e+1)).map fun i=>v i % p))):=by
   refine Cg.trans (zby (g:=fun t=>(-a.2)*(a.1 ^ t*v t)) fun t ht=>?_) ?_
   ·unfold zdM
    rw [zcR,if_pos (by rw [ab,zao]; exact ht),zht (f:=fun o=>0 - a.2*o) (by rw [zao]; exact ht),zkU ht]
    refine (((Cg.refl p 0).sub ((Cg.refl p a.2).mul (Cg.emod p (a.1 ^ t)))).mul (Cg.refl p (v t))).trans (Cg.of_eq (by grind))
   ·rw [za5]
    exact ((Cg.refl p (-a.2)).mul (vZ v (e+1) a.1).symm).trans (Cg.of_eq (by grind))
  have h3:Cg p (sm (kJ.length*(k+e)) fun t=>gl (zdM p k e kJ.length j a) (e+1+t)*v (e+1+t)) (zn p a.1 ((aD (k+e)).map fun i=>v (e+1+(j*(k+e)+i)) % p)):=by
   have e1:(sm (kJ.length*(k+e)) fun t=>gl (zdM p k e kJ.length j a) (e+1+t)*v (e+1+t))=sm (kJ.length*(k+e)) fun t=>gl (blk kJ.length j (k+e) (zbe p a.1 (k+e))) t*v (e+1+t):=zR fun t ht=>by
    unfold zdM
    rw [zcR,if_neg (by rw [ab,zao]; lia),ab,zao,show e+1+t - (e+1)=t by lia]
   rw [e1,zkX (zao _ _ _) (fun t=>v (e+1+t)),if_pos tJ]
   refine Cg.trans (zby (g:=fun i=>a.1 ^ i*v (e+1+(j*(k+e)+i))) fun i hi=>?_) (vZ (fun i=>v (e+1+(j*(k+e)+i))) (k+e) a.1).symm
   rw [zkU hi]
   exact (Cg.emod _ _).mul (Cg.refl p _)
  refine Cg.eq ?_ (zas p0 _) (zat p0 _) (aK _ (by lia)) (aC _ p0)
  have h4:=(h2.add h3).symm.trans h1
  have h5:=h4.add (Cg.refl p (a.2*zn p a.1 ((aD (e+1)).map fun i=>v i % p)))
  exact (Cg.of_eq (by lia)).trans (h5.trans ((Cg.of_eq (by rw [cG,df])).trans (Cg.emod _ _).symm)))
 intro j hj
 have:=h j
 rw [hg v (e+1) j hj] at this
 exact (Cg.emod p (v j)).symm.trans (Cg.of_eq this)
theorem zgR {p:Int} {k e n:Nat} {pl:List Int} (rws:List (List (Option Int))) {b:Nat} (hb:pl.length≤b):∀ m,(asks p k e n (rws.map (lh pl)) m).length≤m*b
 | 0=>by unfold asks; simp
 | m+1=>by
  have ih:=zgR (p:=p) (k:=k) (e:=e) (n:=n) rws hb m
  cases h:(rws.map (lh pl))[m]? with
  | none =>
   unfold asks at ih ⊢
   rw [cB,dq,ar,dP,fO,bw,aN,h]
   simp only [g7,cJ,fX]
   rw [fi]
   lia
  | some kH =>
   rw [zfl h,ar,ab,fi]
   rw [ag] at h
   cases h2:rws[m]? with
   | none=>rw [h2] at h; cases h
   | some sj =>
    rw [h2] at h
    cases h
    have:=zb1 pl sj
    lia
def zkY (K:ah):Sp:=fun vs H Q _=>∃ (c tt rl:Addr) (p:Int) (k e:Nat) (pl:List Int) (k7:List Addr) (rws:List (List (Option Int))),vs = [.ref c,.ref rl,.int (e:Int)]∧za4 H c tt p k pl∧H rl=some (.lst (k7.map V.ref))∧zdJ pl.length H k7 rws∧rws.length≤4∧pl.length≤16∧p∈zm∧(∀ x∈pl,0≤x∧x < p)∧(∀ rw∈rws,∀ z,some z∈rw→0≤z∧z < p)∧1≤k∧k≤5∧e≤16 ∧
 (∀ l,IsP p (e+1) l→Good p k e (rws.map (lh pl)) l→∀ i,gl l i=0)∧∀ H',zu H H'→Q (.bl false) H'
theorem zac:FnScope ["code","rows","e","p","k","places","asked","which","row","number","entry","left","right","none","parts","part","many","right_alone"] ["code","rows","e"] (zh zbE):=⟨rfl,rfl,rfl,by decide +kernel,rfl,by decide +kernel,by decide +kernel⟩
theorem zkZ {fd:FuncData} (T:Txt K mg t) (F:Fun K "_law_can" "_law_can" zbE t.l_can fd):FnOk P w K mg base CX0 2 t.l_can fd ["code","rows","e"] (zkY K):=by
 obtain⟨qI,m9,mq⟩:=T.f_l_powers
 have oV:=zgP (P:=P) (w:=w) (base:=base) T m9
 obtain⟨sP,oW,nB⟩:=T.f_l_rank
 have qJ:=zjq (P:=P) (w:=w) (base:=base) T oW
 refine F.ok zac (fun vs H Q E h=>?_) (fun ly A outer s H vs Q E hr h=>?_)
 ·obtain⟨c,tt,rl,p,k,e,pl,k7,rws,rfl,_⟩:=h
  rfl
 ·obtain⟨c,tt,rl,p,k,e,pl,k7,rws,rfl,hc,nG,tK,hn4,hn,hp,lW,EG,k0,k1,e1,xO,q⟩:=h
  have hu:(A.deeper (envOfC (bP "_law_can") (zh zbE) s.heap.objs.size t.l_can ly)).units+20 < cLine:=by have:=hr.units; lia
  refine⟨_,#[zd,#[zaG,#[pvx,0],#[zav,#[zj,#[zf,3,zac.nd,(au rfl)],#[zj,#[zf,4,zac.nd,(au rfl)],#[zj,#[zf,5,zac.nd,(au rfl)],#[zK]]]]]],#[zd,#[zp,6,zac.nd,(au rfl),#[z9,#[ze]]],#[zd,#[zam,aX,#[zcg,T.enumerate_,#[za,#[pvx,1],#[ze]]],#[zav,#[zj,#[zf,7,zac.nd,(cn rfl)],#[zj,#[zf,8,zac.nd,(au rfl)],#[zK]]]],#[zl,#[zam,aX,#[zcg,T.enumerate_,#[za,#[pvx,8],#[ze]]],#[zav,#[zj,#[zf,9,zac.nd,(au rfl)],#[zj,#[zf,10,zac.nd,(cn rfl)],#[zK]]]],#[zl,#[zaJ,#[zy,#[zfo],#[pvx,10],#[zcb],(zL _)],#[zd,#[zaA,11,zac.nd,(au rfl),(CompSc.of (N':=["one","entry"]) (ix:=[none,some 10]) (zh zbE) ["code","rows","e","p","k","places","asked","which","row","number","entry","left","right","none","parts","part","many","right_alone"] rfl rfl (by decide +kernel)),#[zai],#[zT,#[zt,oV,(hr.mono (by decide)),T.m_l_powers,m9.kp,mq,#[zO],#[za,#[pvx,3],#[za,#[zM,#[zbv],#[pvx,5],#[pvx,9]],#[za,#[zi,#[zB],#[pvx,2],#[zg]],#[ze]]]]]],(fun _ _ _ _=>#[zf,0,(show (["one","entry"]:List Str).Nodup by decide +kernel),(au rfl)]),(fun _ _ _ _=>#[zG]),(fun _ _ _ _=>#[zi,#[zba],#[zg],#[zi,#[zU],#[pvx,1],#[pvx,0]]])],#[zd,#[zp,12,zac.nd,(cn rfl),#[zt,oV,(hr.mono (by decide)),T.m_l_powers,m9.kp,mq,#[zO],#[za,#[pvx,3],#[za,#[zM,#[zbv],#[pvx,5],#[pvx,9]],#[za,#[zi,#[zB],#[pvx,4],#[pvx,2]],#[ze]]]]]],#[zd,#[zp,13,zac.nd,(cn rfl),#[zi,#[zg9],#[z9,#[za,#[zg],#[ze]]],#[zi,#[zB],#[pvx,4],#[pvx,2]]]],#[zd,#[zaA,14,zac.nd,(au rfl),(CompSc.of (N':=["j","which","right","none"]) (ix:=[none,some 7,some 12,some 13]) (zh zbE) ["code","rows","e","p","k","places","asked","which","row","number","entry","left","right","none","parts","part","many","right_alone"] rfl rfl (by decide +kernel)),#[zai],#[zaF,T.range_,#[za,#[zw,#[zr],T.len_,bM,#[za,#[pvx,1],#[ze]]],#[ze]]],(fun _ _ _ _=>#[zf,0,(show (["j","which","right","none"]:List Str).Nodup by decide +kernel),(au rfl)]),(fun _ _ _ _=>#[zG]),(fun _ _ _ _=>#[zd6,#[zy,#[zce],#[pvx,0],#[pvx,1],(zL _)],#[pvx,2],#[pvx,3]])],#[zd,#[zam,aX,#[zT,#[pvx,14]],#[zf,15,zac.nd,(au rfl)],#[zl,#[zp,11,zac.nd,(au rfl),#[zi,#[zcM],#[pvx,11],#[pvx,15]]]]],#[zl,#[zbS,#[zdx,bX,cg,ci,#[zbb],#[pvx,6],#[za,#[pvx,11],#[ze]]]]]]]]]],#[zZ]]]]]],#[zd,#[zp,16,zac.nd,(au rfl),#[zi,#[zB],#[zi,#[zB],#[pvx,2],#[zg]],#[zi,#[zU],#[zw,#[zr],T.len_,bM,#[za,#[pvx,1],#[ze]]],#[zi,#[zB],#[pvx,4],#[pvx,2]]]]],#[zd,#[zaJ,#[zy,(@zmR _ hu),#[pvx,6],#[z9,#[ze]],(zL _)],#[zl,#[zE,#[zbB]]],#[zZ]],#[zd,#[zaA,17,zac.nd,(au rfl),(CompSc.of (N':=["line","e"]) (ix:=[none,some 2]) (zh zbE) ["code","rows","e","p","k","places","asked","which","row","number","entry","left","right","none","parts","part","many","right_alone"] rfl rfl (by decide +kernel)),#[zai],#[zT,#[pvx,6]],(fun _ _ _ _=>#[zf,0,(show (["line","e"]:List Str).Nodup by decide +kernel),(au rfl)]),(fun _ _ _ _=>#[zG]),(fun _ _ _ _=>#[zbi,(zjT (K:=K) rfl),#[pvx,0],#[zbq,#[zi,#[zB],#[pvx,1],#[zg]]],#[zbU]])],#[zl,#[zE,#[zhK,#[zf1],#[zi,#[zba],#[zt,qJ,(hr.mono (by decide)),T.m_l_rank,oW.kp,nB,#[zO],#[za,#[pvx,3],#[za,#[pvx,6],#[ze]]]],#[zt,qJ,(hr.mono (by decide)),T.m_l_rank,oW.kp,nB,#[zO],#[za,#[pvx,3],#[za,#[pvx,17],#[ze]]]]],#[zi,#[zB],#[pvx,2],#[zg]],(zL _)]]]]]]]]],?_⟩
  have om:=a7
  have rp:=zo hp
  have p0:0 < p:=by lia
  have qY:k7.length=rws.length:=tK.length
  have hlm:(rws.map (lh pl)).length=k7.length:=by rw [ab]; lia
  have uR:∀ m,m≤k7.length→(asks p k e k7.length (rws.map (lh pl)) m).length≤64:=fun m hm=>by
   have h1:=zgR (p:=p) (k:=k) (e:=e) (n:=k7.length) rws hn m
   have h2:m*16≤4*16:=Nat.mul_le_mul_right _ (by lia)
   lia
  have D0:k7.length*(k+e)≤4*21:=km (by lia) (by lia)
  refine⟨_,rfl,c,_,rfl,kP.of hc.1,rfl,_,_,rfl,_,_,rfl,_,_,rfl,rfl,?_⟩
  refine⟨bb _,fun aa Az=>?_⟩
  have t1:=zc (o:=.lst []) Az
  have h1a:kL H aa (.lst []) aa=some (.lst []):=zb
  generalize kL H aa (.lst [])=H1 at t1 h1a ⊢
  refine (kF rfl ⟨rl,(kF rfl ⟨kG.of (t1 _ _ nG),zcN (n:=k7.length) (fun m σ H'=>∃ (us:List Addr) (e7 e8 e9 mh oA nH nI rD um:Option V),σ = [some (.ref c),some (.ref rl),some (.int (e:Int)),some (.int p),some (.int (k:Int)),some (.ref tt),some (.ref aa),e7,e8,e9,mh,oA,nH,nI,rD,um,none,none]∧zu H H'∧H' aa=some (.lst (us.map V.ref))∧LsN aa H' us (asks p k e k7.length (rws.map (lh pl)) m)) (znF ([]) none none none none none none none none none ⟨rfl,t1,h1a,.nil⟩) ?_ ?_ ?_ ?_⟩)⟩)
  ·rintro m σ H2 hm ⟨us,e7,e8,e9,mh,oA,nH,nI,rD,um,rfl,s2,_⟩
   exact⟨_,.ref k7[m],kG.of (s2 _ _ nG),by rw [ag,am hm]; rfl⟩
  ·rintro σ H2 ⟨us,e7,e8,e9,mh,oA,nH,nI,rD,um,rfl,s2,_⟩
   exact⟨_,kG.of (s2 _ _ nG),by rw [ab]; exact af _⟩
  ·rintro m x σ H2 H3 hm ⟨us,e7,e8,e9,mh,oA,nH,nI,rD,um,rfl,s2,Cp,lG⟩ ⟨T,v,hT,rfl,rfl,hv⟩
   obtain⟨r,rfl,wj⟩:=zQ (hv _ (kG.of (s2 _ _ nG)))
   obtain⟨rw,qF,mf,rC⟩:=Paired.get tK wj
   have nF:=EG rw (ap qF)
   have hpm:(rws.map (lh pl))[m]? = some (lh pl rw):=by rw [ag,qF]; rfl
   have ham:=uR m (by lia)
   have t3:=zc (o:=.tup [.int (m:Int),.ref r]) hT
   refine⟨T,_,rfl,kP.of zb,rfl,_,_,rfl,_,_,rfl,rfl,?_⟩
   have s3:=s2.trans t3
   have uS:=t3 _ _ Cp
   have oU:=lG.same t3
   generalize kL H2 T (.tup [.int (m:Int),.ref r])=H3 at t3 s3 uS oU ⊢
   refine (kF rfl ⟨r,(kF rfl ⟨kG.of (s3 _ _ mf),zcN (n:=rw.length) (fun i σ H'=>∃ (us:List Addr) (e9 mh oA nH nI rD um:Option V),σ = [some (.ref c),some (.ref rl),some (.int (e:Int)),some (.int p),some (.int (k:Int)),some (.ref tt),some (.ref aa),some (.int (m:Int)),some (.ref r),e9,mh,oA,nH,nI,rD,um,none,none]∧zu H H'∧H' aa=some (.lst (us.map V.ref))∧LsN aa H' us (asks p k e k7.length (rws.map (lh pl)) m++(lh (pl.take i) (rw.take i)).map (zdM p k e k7.length m))) (ex8 us _ _ _ _ _ _ _ ⟨rfl,s3,uS,by simpa [lh] using oU⟩) ?_ ?_ ?_ ?_⟩)⟩)
   ·rintro i σ H4 hi ⟨us,e9,mh,oA,nH,nI,rD,um,rfl,s4,_⟩
    exact⟨_,lL rw[i],kG.of (s4 _ _ mf),by rw [ag,am hi]; rfl⟩
   ·rintro σ H4 ⟨us,e9,mh,oA,nH,nI,rD,um,rfl,s4,_⟩
    exact⟨_,kG.of (s4 _ _ mf),by rw [ab]; exact af _⟩
   ·rintro i x σ H4 H5 hi ⟨us,e9,mh,oA,nH,nI,rD,um,rfl,s4,wd,oT⟩ ⟨T2,v,se,rfl,rfl,hv⟩
    obtain⟨o,rfl,ho⟩:=zct (hv _ (kG.of (s4 _ _ mf)))
    have t5:=zc (o:=.tup [.int (i:Int),lL o]) se
    refine⟨T2,_,rfl,kP.of zb,rfl,_,_,rfl,_,_,rfl,rfl,?_⟩
    have s5:=s4.trans t5
    have uT:=t5 _ _ wd
    have sM:=oT.same t5
    generalize kL H4 T2 (.tup [.int (i:Int),lL o])=H5 at t5 s5 uT sM ⊢
    obtain⟨x,hx⟩:∃ x,pl[i]? = some x:=⟨pl[i]'(by lia),by simp⟩
    obtain⟨x0,x1⟩:=lW x (ap hx)
    have uI:=zda hx ho
    have mY:=sM.length
    have AY:=zb1 (pl.take i) (rw.take i)
    rw [aJ] at AY
    rw [ar,ab] at mY
    refine (kF rfl ⟨rfl,(kF rfl ?_)⟩)
    cases o with
    | none =>
     refine zaf (fun h=>absurd h (by simp [lL])) (fun _=>?_)
     exact (ex8 us _ _ _ _ _ _ _ ⟨rfl,s5,uT,by rw [uI]; simpa using sM⟩)
    | some y =>
     refine zaf (fun _=>?_) (fun h=>absurd (by simp [lL]) h)
     obtain⟨y0,y1⟩:=nF y (ap ho)
     have vE:=hc.same s5
     have AZ:atI (pl.map V.int) (i:Int)=some (.int x):=zag (by rw [ag,hx]; rfl)
     refine (kF rfl (kF rfl (kF rfl (ex4 tt _ _ (.int x) ⟨rfl,rfl,kP.of vE.2,AZ,(kF rfl (kN rfl rfl (ex3 p x (e+1) ⟨rfl,by lia,by lia,x0,x1,by lia,by lia,fun pw H6 hpw s6 h6p=>?_⟩)))⟩))))
     refine⟨pw,rfl,⟨_,kG.of h6p⟩,zcs (fs:=((zbe p x (e+1)).map fun o=>0 - y*o).map V.int) (kG.of h6p) (by rw [ab,ab,ab]) (by rw [ab,zao]; lia) ?_ ?_⟩
     ·intro j u w R B hu' hw' hR
      obtain⟨n1,rfl,uH⟩:=zae hu'
      obtain⟨n2,rfl,qV⟩:=zae hw'
      rw [ag,uH] at qV
      cases qV
      exact gY (kF rfl (kF rfl (kN rfl rfl ⟨.inl ⟨by lia,by lia⟩,(kN rfl rfl hR)⟩)))
     intro lf yi
     have t7:=s6.trans (zc (o:=.lst (((zbe p x (e+1)).map fun o=>0 - y*o).map V.int)) yi)
     have wm:kL H6 lf (.lst (((zbe p x (e+1)).map fun o=>0 - y*o).map V.int)) lf=some (.lst (((zbe p x (e+1)).map fun o=>0 - y*o).map V.int)):=zb
     generalize kL H6 lf (.lst (((zbe p x (e+1)).map fun o=>0 - y*o).map V.int))=H7 at t7 wm ⊢
     have hc7:=vE.same t7
     refine (kF rfl (kF rfl (kF rfl (ex4 tt _ _ (.int x) ⟨rfl,rfl,kP.of hc7.2,AZ,(kF rfl (kF rfl (kN rfl rfl ⟨p,x,k+e,(by show [V.int p,V.int x,V.int ((k:Int)+(e:Int))]=_; rw [dL]),by lia,by lia,x0,x1,by lia,by lia,fun rt H8 hrt s8 yn=>?_⟩)))⟩))))
     refine⟨by show 1≤sizeLine; lia,fun z hz=>(kF rfl (kF rfl (kN rfl rfl (ex3 z _ ([.int 0]) ⟨rfl,rfl,zb,by lia,by lia,by show 1*_≤sizeLine; lia,fun nn tE=>?_⟩))))⟩
     have t9:=(s8.trans (zc (o:=.lst [.int 0]) hz)).trans (zc (o:=(.lst (aj ((k:Int)+(e:Int)).toNat [V.int 0]).flatten)) tE)
     have uV:=((zc (o:=.lst [.int 0]) hz).trans (zc (o:=(.lst (aj ((k:Int)+(e:Int)).toNat [V.int 0]).flatten)) tE)) _ _ yn
     have wo:=t9 _ _ wm
     have Cq:kL (kL H8 z (.lst [.int 0])) nn (.lst (aj ((k:Int)+(e:Int)).toNat [V.int 0]).flatten) nn=some (.lst ((aj (k+e) 0).map V.int)):=by
      rw [zb,List.map_replicate,show ((k:Int)+(e:Int)).toNat=k+e by lia]
      congr 2
      exact List.flatten_replicate_singleton
     generalize kL (kL H8 z (.lst [.int 0])) nn (.lst (aj ((k:Int)+(e:Int)).toNat [V.int 0]).flatten)=H9 at t9 uV wo Cq ⊢
     have s9:=s5.trans (t7.trans t9)
     refine (kF rfl ⟨rl,(kF rfl ⟨.inl (kG.of (s9 _ _ nG)),(kF rfl ⟨(by rw [ab]; lia),(by rw [ab]; lia),zY (n:=k7.length) (fun i ys H'=>H'=H9∧ys=((aD i).map fun j=>if j=m then rt else nn).map V.ref) ⟨rfl,rfl⟩ (fun i ys H' hi _=>by show i < _; rw [ab]; lia) (fun ys H' _=>by show _≤_; rw [ab]; lia) ?_ ?_⟩)⟩)⟩)
     ·rintro i2 xx ys Ha Hb uQ ⟨rfl,rfl⟩ ⟨rfl,rfl⟩
      have eq1:decide (V.int (0+(i2:Int))=V.int (m:Int))=decide (i2=m):=by
       refine decide_eq_decide.mpr ⟨fun h=>?_,fun h=>by rw [h,cG]⟩
       injection h with h
       lia
      refine gY (kF rfl (kF rfl ⟨rfl,(kF rfl ?_)⟩))
      rw [eq1]
      refine zaf (fun h=>(kF rfl ⟨by rw [ab,ab,aW]; lia,rfl,?_⟩)) (fun h=>(kF rfl ⟨by rw [ab,ab,aW]; lia,rfl,?_⟩))
      ·rw [cB,aA,aA,bd,cJ,if_pos (of_decide_eq_true h)]
       rfl
      ·rw [cB,aA,aA,bd,cJ,if_neg (fun z=>h (decide_eq_true z))]
       rfl
     rintro ys Ha pt ⟨rfl,rfl⟩ yj
     have uW:=zc (o:=.lst (((aD k7.length).map fun j=>if j=m then rt else nn).map V.ref)) yj
     have xu:kL Ha pt (.lst (((aD k7.length).map fun j=>if j=m then rt else nn).map V.ref)) pt=some (.lst (((aD k7.length).map fun j=>if j=m then rt else nn).map V.ref)):=zb
     generalize kL Ha pt (.lst (((aD k7.length).map fun j=>if j=m then rt else nn).map V.ref))=Hb at uW xu ⊢
     have EH:=uW _ _ Cq
     have EI:=uW _ _ uV
     have EJ:=uW _ _ wo
     have s10:=s9.trans uW
     refine⟨_,rfl,pt,rfl,⟨_,kG.of xu⟩,za1 (K:=K) (a:=pt) (xs:=((aD k7.length).map fun j=>if j=m then rt else nn).map V.ref) (fun i2 σ H'=>∃ (lc:Addr) (EK:Option V),σ = [some (.ref c),some (.ref rl),some (.int (e:Int)),some (.int p),some (.int (k:Int)),some (.ref tt),some (.ref aa),some (.int (m:Int)),some (.ref r),some (.int (i:Int)),some (lL (some y)),some (.ref lc),some (.ref rt),some (.ref nn),some (.ref pt),EK,none,none]∧zu Hb H'∧H' lc=some (.lst ((((zbe p x (e+1)).map fun o=>0 - y*o)++blk i2 m (k+e) (zbe p x (k+e))).map V.int))∧Hb aa≠none∧lc≠aa)
      ⟨lf,_,rfl,fun _ _ e=>e,by rw [show blk 0 m (k+e) (zbe p x (k+e)) = [] from rfl,bw]; exact EJ,?_,?_⟩ (fun i2 σ H' _ ⟨_,_,_,s',_⟩=>kG.of (s' _ _ xu)) ?_ ?_⟩
     ·rw [(t7.trans (t9.trans uW)) _ _ uT]; simp
     ·intro e0
      have:=s6 _ _ uT
      rw [← e0,yi] at this
      cases this
     ·rintro i2 y2 σ Hc B7 ⟨lc,EK,rfl,sc,yM,xv,xw⟩
      obtain⟨b,rfl,hb⟩:=zQ B7
      have uQ:i2 < k7.length:=by
       have:=(ak.mp hb).1
       rw [ab,aW] at this
       exact this
      rw [ag,bR uQ] at hb
      have hb:(if i2=m then rt else nn)=b:=aR hb
      have EL:Hc b=some (.lst ((if i2=m then zbe p x (k+e) else aj (k+e) 0).map V.int)):=by
       rw [← hb]
       by_cases h:i2=m
       ·rw [if_pos h,if_pos h]
        exact sc _ _ EI
       ·rw [if_neg h,if_neg h]
        exact sc _ _ EH
      have hbw:i2*(k+e)≤4*21:=km (by lia) (by lia)
      have EM:(if i2=m then zbe p x (k+e) else aj (k+e) 0).length=k+e:=by
       split
       ·exact zao _ _ _
       ·exact aL
      refine (kF rfl (kF rfl (ex4 lc b _ _ ⟨rfl,rfl,yM,EL,by rw [ab,ab,ar,ab,zao,zd0 (zao _ _ _),EM]; lia,fun l2 pJ=>?_⟩)))
      refine⟨l2,(kF rfl ⟨sc.trans (zc pJ),?_,xv,?_⟩)⟩
      ·rw [zb,zeI,← aV,aA (l₁:=_++_)]
      ·intro e0
       cases BQ:Hb aa with
       | none=>exact xv BQ
       | some o2 =>
        have:=sc _ _ BQ
        rw [← e0,pJ] at this
        cases this
     ·rintro σ Hc ⟨lc,EK,rfl,sc,yM,xv,xw⟩
      rw [ab,ab,aW] at yM
      have vA:=sc _ _ ((t7.trans (t9.trans uW)) _ _ uT)
      have EN:=sM.same ((t7.trans (t9.trans uW)).trans sc)
      refine (kF rfl ⟨.inl ⟨rfl,_,kG.of vA⟩,(kF rfl (ex3 aa _ _ ⟨rfl,rfl,vA,by rw [ab]; lia,?_⟩))⟩)
      refine (ex8 (us++[lc]) _ _ _ _ _ _ _ ⟨rfl,z0 (s10.trans sc) Az,by rw [zb,aA]; rfl,?_⟩)
      rw [uI,aA,← aV]
      exact bO EN.put ⟨by rw [zq xw]; exact yM,xw⟩
   ·rintro σ H4 ⟨us,e9,mh,oA,nH,nI,rD,um,rfl,s4,wd,oT⟩
    refine (znF us _ _ _ _ _ _ _ _ _ ⟨rfl,s4,wd,?_⟩)
    rw [aZ,aO (by lia)] at oT
    rw [zfl hpm]
    exact oT
  ·rintro σ H2 ⟨us,e7,e8,e9,mh,oA,nH,nI,rD,um,rfl,s2,Cp,lG⟩
   have mY:=lG.length
   have ham:=uR k7.length (af _)
   have lA:asks p k e k7.length (rws.map (lh pl)) k7.length≠[]:=fun e0=>by
    have h1:=xO (unit e) ⟨by unfold unit; rw [ar,aL]; rfl,fun c' kR=>?_⟩ (fun kH lx=>?_) e
    ·rw [zfO,if_pos rfl] at h1
     cases h1
    ·unfold unit at kR
     rcases aP.mp kR with h | h
     ·rw [dg h]; lia
     ·have:c'=1:=by simpa using h
      lia
    ·obtain⟨j,hj⟩:=bx lx
     have tJ:=(ak.mp hj).1
     refine⟨aj (k+e) 0,⟨aL,fun c' kR=>by rw [dg kR]; lia⟩,fun a ha=>?_⟩
     have:=zgQ (p:=p) (k:=k) (e:=e) (n:=k7.length) (m:=k7.length) (by lia) hj ha
     rw [e0] at this
     cases this
   have hn0:=eX.mpr lA
   have EO:LsA H2 us (asks p k e k7.length (rws.map (lh pl)) k7.length):=bq (fun _ _ z=>z.1) lG
   refine (kF rfl (kN rfl rfl (kF rfl ⟨rl,(kF rfl ⟨.inl (kG.of (s2 _ _ nG)),(kF rfl (kF rfl (kN rfl rfl (kN rfl rfl ⟨.inl ⟨by rw [ab]; lia,by rw [ab]; lia⟩,(kN rfl rfl ?_)⟩))))⟩)⟩)))
   refine (kF rfl ⟨bb _,fun z hz=>?_⟩)
   have t3:=zc (o:=.lst []) hz
   refine (ex4 aa z _ _ ⟨rfl,rfl,.inl ⟨kG.of (t3 _ _ Cp),kG.of zb⟩,.inl ⟨by rw [ab]; show us.length≠0; lia,fun j x y _ hy=>by simp at hy,?_⟩⟩)
   generalize kL H2 z (.lst [])=H3 at t3 ⊢
   refine (kF rfl ?_)
   refine zaf (fun h=>absurd h (by simp)) (fun _=>?_)
   have uS:=t3 _ _ Cp
   have oU:=EO.same t3
   refine (kF rfl ⟨aa,rfl,⟨_,kG.of uS⟩,zY (n:=us.length) (fun m ys H'=>zu H3 H'∧∃ ws:List Addr,ys=ws.map V.ref∧LsA H' ws (((asks p k e k7.length (rws.map (lh pl)) k7.length).map fun row=>row.drop (e+1)).take m)) ⟨fun _ _ e=>e,[],rfl,.nil⟩ ?_ ?_ ?_ ?_⟩)
   ·rintro m ys H4 hm ⟨s4,_⟩
    exact⟨_,.ref us[m],kG.of (s4 _ _ uS),by rw [ag,am hm]; rfl⟩
   ·rintro ys H4 ⟨s4,_⟩
    exact⟨_,kG.of (s4 _ _ uS),by rw [ab]; exact af _⟩
   ·rintro m y ys H4 H5 hm ⟨s4,ws,rfl,qH⟩ ⟨rfl,hy⟩
    obtain⟨b,rfl,hb⟩:=zQ (hy _ (kG.of (s4 _ _ uS)))
    obtain⟨row,ml,lC⟩:=Paired.get oU hb
    have sk:=qH.length
    rw [aJ,ab] at sk
    have hrl':row.length=e+1+k7.length*(k+e):=by
     obtain⟨j,a,rfl⟩:=zeK (ap ml)
     exact zeJ p k e _ j a
    refine gY (kF rfl (kF rfl (kN rfl rfl (kF rfl ⟨b,(kF rfl ⟨kG.of (s4 _ _ lC),fun z2 p7=>?_⟩)⟩))))
    have ec:za2 (row.map V.int) (some ((e:Int)+1)) none=(row.drop (e+1)).map V.int:=by
     rw [show (e:Int)+1=((e+1:Nat):Int) by lia,zgM (by rw [ab]; lia),fJ]
    refine⟨by rw [ab]; lia,s4.trans (zc p7),ws++[z2],by rw [aA]; rfl,?_⟩
    have Cm:((asks p k e k7.length (rws.map (lh pl)) k7.length).map fun row=>row.drop (e+1))[m]? = some (row.drop (e+1)):=by rw [ag,ml]; rfl
    rw [take_snoc Cm]
    exact bO (qH.same (zc p7)) (by rw [zb,ec])
   ·rintro ys H4 Cr ⟨s4,ws,rfl,qH⟩ ER
    rw [aO (by rw [ab]; lia)] at qH
    have t5:=zc (o:=.lst (ws.map V.ref)) ER
    have h5r:kL H4 Cr (.lst (ws.map V.ref)) Cr=some (.lst (ws.map V.ref)):=zb
    have Ba:=qH.same t5
    have pO:=s4.trans t5
    generalize kL H4 Cr (.lst (ws.map V.ref))=H5 at t5 h5r Ba pO ⊢
    refine (kF rfl (kF rfl (ex5 p aa us _ (e+1+k7.length*(k+e)) ⟨rfl,pO _ _ uS,oU.same pO,lA,by lia,by lia,fun row ml=>?_,hp,fun pa H6 s6 RA=>?_⟩)))
    ·obtain⟨j,a,rfl⟩:=zeK ml
     exact zeJ p k e _ j a
    refine (kF rfl (kF rfl (ex5 p Cr ws _ (k7.length*(k+e)) ⟨rfl,s6 _ _ h5r,Ba.same s6,fun e0=>lA (List.map_eq_nil_iff.mp e0),by rw [ab]; lia,by lia,fun row ml=>?_,hp,fun pb H7 s7 RB=>?_⟩)))
    ·obtain⟨r',ou,rfl⟩:=aB.mp ml
     obtain⟨j,a,rfl⟩:=zeK ou
     rw [bS,zeJ]
     lia
    have hd:=zlZ hp RA RB (by rw [← hlm]; exact zl1 hp xO)
    refine (kN rfl rfl (kF rfl (kN rfl rfl (kN rfl rfl ?_))))
    have ef:decide ((pa.length:Int) - (pb.length:Int) < (e:Int)+1)=false:=decide_eq_false (by lia)
    show Q (.bl (decide ((pa.length:Int) - (pb.length:Int) < (e:Int)+1))) H7
    rw [ef]
    exact q H7 (((s2.trans t3).trans pO).trans (s6.trans s7))
end
end My
end
section
namespace My
open PySem L2 PyProof.Rows
section
variable {P:Program} {w:World} {K:ah} {mg:Str→Option Value} {base:Heap} {t:Adr}
theorem zb5:FnScope ["things","many","chosen","step"] ["things","many"] (zh zbt):=⟨rfl,rfl,rfl,by decide +kernel,rfl,by decide +kernel,by decide +kernel⟩
theorem zhB {fd:FuncData} (T:Txt K mg t) (F:Fun K "choices" "choices" zbt t.choices fd):FnOk P w K mg base CX0 1 t.choices fd ["things","many"] (zhq K):=by
 refine F.ok zb5 (fun vs H Q E h=>?_) (fun ly A outer s H vs Q E hr h=>?_)
 ·obtain⟨a,m,xs,rfl,_⟩:=h
  rfl
 ·obtain⟨a,m,xs,rfl,hS,hx,hm,q⟩:=h
  refine⟨_,#[zd,#[zp,2,zb5.nd,(au rfl),#[z9,#[za,#[zaK,#[za,#[zg],#[za,#[z9,#[ze]],#[ze]]]],#[ze]]]],#[zd,#[zam,aX,#[zaF,T.range_,#[za,#[pvx,1],#[ze]]],#[zf,3,zb5.nd,(au rfl)],#[zl,(@zhp _ _ _ _ _ _ _ _ _ _ _ _ _ _ _ _ _ _ _ _ _ (2) _ _ _ zb5.nd rfl (au rfl) (CompSc.of (N':=["start","picked","at","things"]) (ix:=[none,none,none,some 0]) (zh zbt) ["things","many","chosen","step"] rfl rfl (by decide +kernel)) rfl (zjO (js:=[0,1]) (zed (js:=[0,1]) (i:=0) (by decide) (zed (js:=[0,1]) (i:=1) (by decide) (zhP (js:=[0,1]))))) (zdN (js:=[2]) (i:=2) (by decide)) (by decide) (by decide) #[zT,#[pvx,2]] (fun _ _ _ _=>#[zaT,(K),2,#[zj,#[zf,0,(show (["start","picked","at","things"]:List Str).Nodup by decide +kernel),(au rfl)],#[zj,#[zf,1,(show (["start","picked","at","things"]:List Str).Nodup by decide +kernel),(au rfl)],#[zK]]]]) (fun _ _ _ _=>#[zG]) (fun _ _ _ _=>#[zdg,T.range_,#[za,#[pvx,0],#[za,#[zw,#[zbg,(K)],T.len_,bM,#[za,#[pvx,3],#[ze]]],#[ze]]]]) (fun _ _ _ _=>#[zf,2,(show (["start","picked","at","things"]:List Str).Nodup by decide +kernel),(au rfl)]) (fun _ _ _ _=>#[zG]) (fun _ _ _ _=>#[zaK,#[za,#[zi,#[zB],#[pvx,2],#[zg]],#[za,#[zi,#[zcM],#[pvx,1],#[z9,#[za,#[zM,#[zbM,(K)],#[pvx,3],#[pvx,2]],#[ze]]]],#[ze]]]]) (by rfl) (by intro _; rfl) (by intros; rfl) (by trivial))]],#[zl,#[zE,#[zad,(CompSc.of (N':=["start","picked"]) (ix:=[none,none]) (zh zbt) ["things","many","chosen","step"] rfl rfl (by decide +kernel)),#[zbw,#[zW,#[zW,#[za3]]]],#[zT,#[pvx,2]],(fun _ _ _ _=>#[zaT,(K),2,#[zj,#[zf,0,(show (["start","picked"]:List Str).Nodup by decide +kernel),(au rfl)],#[zj,#[zf,1,(show (["start","picked"]:List Str).Nodup by decide +kernel),(au rfl)],#[zK]]]]),(fun _ _ _ _=>#[zG]),(fun _ _ _ _=>#[pvx,1])]]]]],?_⟩
  have om:=a7
  refine⟨bb _,fun L0 hL0=>⟨by show 2≤sizeLine; lia,fun T0 hT0=>⟨by show 1≤sizeLine; lia,fun c hc=>?_⟩⟩⟩
  have u0:=zc (o:=.lst []) hL0
  have u1:=zc (o:=.tup [.int 0,.ref L0]) hT0
  have u2:=zc (o:=.lst [.ref T0]) hc
  have Bb:zeu (kL (kL (kL H L0 (.lst [])) T0 (.tup [.int 0,.ref L0])) c (.lst [.ref T0])) [T0] (chs xs 0):=.cons ⟨L0,u2 _ _ zb,(u1.trans u2) _ _ zb⟩ .nil
  have ua:kL (kL (kL H L0 (.lst [])) T0 (.tup [.int 0,.ref L0])) c (.lst [.ref T0]) c=some (.lst ([T0].map V.ref)):=zb
  have s0:=(u0.trans u1).trans u2
  generalize kL (kL (kL H L0 (.lst [])) T0 (.tup [.int 0,.ref L0])) c (.lst [.ref T0])=H0 at Bb ua s0 ⊢
  refine (kF rfl (kF rfl ⟨by lia,by lia,?_⟩))
  rw [bH]
  refine zaZ (lo:=0) (n:=m) (fun i σ H'=>∃ (c:Addr) (ts:List Addr) (e3:Option V),σ = [some (.ref a),some (.int m),some (.ref c),e3]∧zu H H'∧H' c=some (.lst (ts.map V.ref))∧zeu H' ts (chs xs i)) (ex3 c ([T0]) none ⟨rfl,s0,ua,Bb⟩) ?_ ?_
  ·rintro i σ H1 hi ⟨c,ts,e3,rfl,s1,qc,qT⟩
   have qW:=qT.length
   have wU:=zdp (xs:=xs) (i+1) hx
   have v7:((chs xs i).flatMap (nxt xs)).length≤65536:=wU
   refine (kF rfl ⟨c,rfl,⟨_,kG.of qc⟩,zid (n:=ts.length) (fun i' ys H'=>∃ us:List Addr,ys=us.map V.ref∧zu H1 H'∧zeu H' us (((chs xs i).take i').flatMap (nxt xs))) ⟨[],rfl,fun _ _ e=>e,.nil⟩ ?_ ?_ ?_ ?_⟩)
   ·rintro i' ys H2 mW ⟨us,_,s2,_⟩
    exact⟨_,.ref ts[i'],kG.of (s2 _ _ qc),by rw [ag,am mW]; rfl⟩
   ·rintro ys H2 ⟨us,_,s2,_⟩
    exact⟨_,kG.of (s2 _ _ qc),by rw [ab]; exact af _⟩
   ·rintro i' y ys H2 H3 mW ⟨us,rfl,s2,lG⟩ ⟨rfl,hy⟩
    obtain⟨tt,rfl,Aq⟩:=zQ (hy _ (kG.of (s2 _ _ qc)))
    obtain⟨cc,lV,lC⟩:=Paired.get qT Aq
    obtain⟨L,xU,xV⟩:=lC.same s2
    have hle:=zm9 (ap lV)
    have lW:=zgv (ap lV)
    obtain⟨st,pk⟩:=cc
    dsimp only at xU xV hle lW
    refine gY2 (kP.of xU) ?_
    refine (kF rfl (kF rfl ⟨a,xs,rfl,.inl ((s1.trans s2).seq hS),_,_,rfl,⟨by lia,by lia,by lia,by lia⟩,?_⟩))
    have en:((xs.length:Int) - (st:Int)).toNat=xs.length - st:=by lia
    rw [en]
    refine zid (n:=xs.length - st) (fun j ys H'=>∃ us:List Addr,ys=us.map V.ref∧zu H3 H'∧zeu H' us (((chs xs i).take i').flatMap (nxt xs)++(nxt xs (st,pk)).take j)) ⟨us,rfl,fun _ _ e=>e,by rw [dz,bw]; exact lG⟩ (fun j ys H' hj _=>hj) (fun ys H' _=>af _) ?_ ?_
    ·rintro j z ys H4 H5 hj ⟨us,rfl,s4,lG⟩ ⟨rfl,rfl⟩
     obtain⟨x,tL⟩:∃ x,xs[st+j]? = some x:=⟨xs[st+j]'(by lia),by simp⟩
     have lC:atI xs ((st:Int)+(j:Int))=some x:=by
      have e:((st+j:Nat):Int)=(st:Int)+j:=by lia
      rw [← e]
      exact zag tL
     have hng:=zlB (c:=(st,pk)) tL
     have mY:=lG.length
     have hpart:=zjc (f:=nxt xs) lV (show j < (nxt xs (st,pk)).length by rw [zfI]; exact hj)
     have AH:=zfI xs (st,pk)
     refine gY ?_
     refine (kF rfl (kN rfl rfl (kF rfl (kF rfl (kF rfl (ex4 a xs _ x ⟨rfl,rfl,((s1.trans s2).trans s4).seq hS,lC,by show 1≤sizeLine; lia,fun b hb=>?_⟩))))))
     have v1:=zc (o:=.lst [x]) hb
     refine (ex4 L b pk ([x]) ⟨rfl,rfl,(s4.trans v1) _ _ xV,zb,by show pk.length+1≤sizeLine; lia,fun L2 Bc=>⟨by show 2≤sizeLine; lia,fun T2 se=>⟨?_,us++[T2],by rw [aA]; rfl,?_,?_⟩⟩⟩)
     ·rw [ab,mY,ar,aJ]
      lia
     ·exact s4.trans (v1.trans ((zc Bc).trans (zc se)))
     ·rw [take_snoc hng,← aV]
      refine bO (lG.same (v1.trans ((zc Bc).trans (zc se)))) ⟨L2,?_,(zc se) _ _ zb⟩
      rw [zb]
      show some (HO.tup [.int ((st:Int)+(j:Int)+1),.ref L2])=some (HO.tup [.int ((st+j+1:Nat):Int),.ref L2])
      have e:((st+j+1:Nat):Int)=(st:Int)+j+1:=by lia
      rw [e]
    ·rintro ys H4 ⟨us,rfl,s4,lG⟩
     rw [aO (l:=nxt xs (st,pk)) (by rw [zfI]; exact af _)] at lG
     exact⟨us,rfl,s2.trans s4,by rw [zjd lV]; exact lG⟩
   ·rintro ys H2 ⟨us,rfl,s2,lG⟩ D hD
    rw [qW,aO (af _)] at lG
    exact (ex3 D us _ ⟨rfl,s1.trans (s2.trans (zc hD)),zb,lG.same (zc hD)⟩)
  ·rintro σ H1 ⟨c,ts,e3,rfl,s1,qc,qT⟩
   have qW:=qT.length
   have wU:=zdp (xs:=xs) m hx
   refine (kF rfl ⟨c,rfl,⟨_,kG.of qc⟩,zY (n:=ts.length) (fun i ys H'=>H'=H1∧∃ us:List Addr,ys=us.map V.ref∧zgw H1 us (((chs xs m).map (·.2)).take i)) ⟨rfl,[],rfl,.nil⟩ ?_ ?_ ?_ ?_⟩)
   ·rintro i ys H2 hi ⟨rfl,_⟩
    exact⟨_,.ref ts[i],kG.of qc,by rw [ag,am hi]; rfl⟩
   ·rintro ys H2 ⟨rfl,_⟩
    exact⟨_,kG.of qc,by rw [ab]; exact af _⟩
   ·rintro i y ys H2 H3 hi ⟨rfl,us,rfl,lG⟩ ⟨rfl,hy⟩
    obtain⟨tt,rfl,Aq⟩:=zQ (hy _ (kG.of qc))
    obtain⟨cc,lV,L,xU,xV⟩:=Paired.get qT Aq
    have mY:=lG.length
    refine gY2 (kP.of xU) ⟨_,rfl,?_,rfl,us++[L],by rw [aA]; rfl,?_⟩
    ·rw [ab,mY,aJ,ab]
     lia
    ·have ES:((chs xs m).map (·.2))[i]? = some cc.2:=by rw [ag,lV]; rfl
     rw [take_snoc ES]
     exact bO lG xV
   ·rintro ys H2 D ⟨rfl,us,rfl,lG⟩ hD
    rw [aO (by rw [ab,qW]; exact af _)] at lG
    exact q D us _ (s1.free hD) (s1.trans (zc hD)) zb (lG.same (zc hD))
theorem zd1:FnScope ["code","row","polynomial","p","k","places"] ["code","row","polynomial"] (zh zeE):=⟨rfl,rfl,rfl,by decide +kernel,rfl,by decide +kernel,by decide +kernel⟩
theorem ziA {fd:FuncData} (T:Txt K mg t) (F:Fun K "fits" "fits" zeE t.fits fd):FnOk P w K mg base CX0 2 t.fits fd ["code","row","polynomial"] (zll K):=by
 obtain⟨mM,kX,k8⟩:=T.f_value_at
 have lD:=zco (P:=P) (w:=w) (base:=base) T kX
 refine F.ok zd1 (fun vs H Q E h=>?_) (fun ly A outer s H vs Q E hr h=>?_)
 ·obtain⟨c,tt,ra,po,p,k,pl,lq,rw,rfl,_⟩:=h
  rfl
 ·obtain⟨c,tt,ra,po,p,k,pl,lq,rw,rfl,hc,mf,nG,Ar,p0,p1,lW,hn,q⟩:=h
  refine⟨_,#[zd,#[zaG,#[pvx,0],#[zav,#[zj,#[zf,3,zd1.nd,(cn rfl)],#[zj,#[zf,4,zd1.nd,(au rfl)],#[zj,#[zf,5,zd1.nd,(au rfl)],#[zK]]]]]],#[zl,#[zE,#[zad,(CompSc.of (N':=["at","place","entry","p","polynomial"]) (ix:=[none,none,none,some 3,some 2]) (zh zeE) ["code","row","polynomial","p","k","places"] rfl rfl (by decide +kernel)),#[zbw,#[zW,(@ziP _ _ _ #[zbw,#[zW,#[zW,#[za3]]]] #[za3] zhm)]],(@zhl _ _ _ _ _ _ _ _ _ _ _ rfl T.enumerate_ rfl T.zip_ #[za,#[pvx,5],#[za,#[pvx,1],#[ze]]] (by rfl) (by rfl) (by rfl)),(fun _ _ _ _=>#[zaT,(K),2,#[zj,#[zf,0,(show (["at","place","entry","p","polynomial"]:List Str).Nodup by decide +kernel),(au rfl)],#[zj,#[zaT,(K),2,#[zj,#[zf,1,(show (["at","place","entry","p","polynomial"]:List Str).Nodup by decide +kernel),(au rfl)],#[zj,#[zf,2,(show (["at","place","entry","p","polynomial"]:List Str).Nodup by decide +kernel),(au rfl)],#[zK]]]],#[zK]]]]),(fun _ _ _ _=>#[zcf,#[zy,#[zce],#[pvx,2],#[zt,lD,(hr.mono (by decide)),T.m_value_at,kX.kp,k8,#[zO],#[za,#[pvx,3],#[za,#[pvx,4],#[za,#[pvx,1],#[ze]]]]],(zL _)]]),(fun _ _ _ _=>#[pvx,0])]]]],?_⟩
  refine⟨_,rfl,c,_,rfl,kP.of hc.1,rfl,_,_,rfl,_,_,rfl,_,_,rfl,rfl,?_⟩
  refine (kF rfl (kF rfl (ex4 tt ra _ _ ⟨rfl,kP.of hc.2,kG.of mf,zY (n:=pl.length) (fun i ys H'=>ys=(zbn p pl rw lq i).map V.int∧zu H H') ⟨rfl,fun _ _ e=>e⟩ ?_ ?_ ?_ ?_⟩)))
  ·rintro i ys H3 hi ⟨_,s3⟩
   obtain⟨o,ho⟩:∃ o,rw[i]? = some o:=⟨rw[i]'(by lia),by simp⟩
   exact⟨_,_,.int pl[i],lL o,kP.of (s3 _ _ hc.2),kG.of (s3 _ _ mf),by rw [ag,am hi]; rfl,by rw [ag,ho]; rfl⟩
  ·rintro ys H3 ⟨_,s3⟩
   exact⟨_,_,kP.of (s3 _ _ hc.2),kG.of (s3 _ _ mf),by rw [ab]⟩
  ·rintro i xx ys H3 H4 hi ⟨rfl,s3⟩ ⟨T1,T2,u,v,hT1,se,lA,rfl,rfl,hu,hv⟩
   obtain⟨x,rfl,hx⟩:=zae (hu _ (kP.of (s3 _ _ hc.2)))
   obtain⟨o,rfl,ho⟩:=zct (hv _ (kG.of (s3 _ _ mf)))
   obtain⟨x0,x1⟩:=lW x (ap hx)
   have s4:zu H3 (kL (kL H3 T1 (.tup [.int x,lL o])) T2 (.tup [.int i,.ref T1])):=z0 (zc hT1) se
   refine⟨T2,_,rfl,kP.of zb,rfl,_,_,rfl,_,_,rfl,T1,_,rfl,kP.of (by rw [zq lA]; exact zb),rfl,_,_,rfl,_,_,rfl,rfl,rfl,?_⟩
   refine (kF rfl (kF rfl (kF rfl (kF rfl (ex4 p x po lq ⟨rfl,.inr (kP.of ((s3.trans s4) _ _ Ar)),p0,p1,x0,x1,zj5 o _,(kF rfl ?_)⟩)))))
   rw [zfe,zj6 hx ho,aA]
   have kQ:=zgj p pl rw lq i
   refine zaf (fun h1=>(kF rfl ⟨zaB (by rw [ab]; lia),?_,s3.trans s4⟩)) (fun h1=>⟨?_,s3.trans s4⟩)
   ·rw [if_pos h1]
    rfl
   ·rw [if_neg h1]
    simp
  ·rintro ys H3 D ⟨rfl,s3⟩ hD
   exact q D _ (s3.free hD) (s3.trans (zc hD)) zb
theorem zmm {p:Int} {kH:List (Int×Int)} (hP:Pts p kH):kH.map (md p)=kH:=by
 refine (cv fun q hq=>?_).trans (jP _)
 obtain⟨_,_,h1,h2⟩:=hP.rg q hq
 show (q.1,q.2 % p)=q
 rw [bW h1 h2]
theorem zay:FnScope ["code","points","p","k","places","found","picked"] ["code","points"] (zh zaS):=⟨rfl,rfl,rfl,by decide +kernel,rfl,by decide +kernel,by decide +kernel⟩
theorem zeL {fd:FuncData} (T:Txt K mg t) (F:Fun K "all_through" "all_through" zaS t.all_through fd):FnOk P w K mg base CX0 4 t.all_through fd ["code","points"] (zex K):=by
 obtain⟨rE,pY,nU⟩:=T.f_choices
 have sQ:=zhB (P:=P) (w:=w) (base:=base) T pY
 obtain⟨oQ,l7,l8⟩:=T.f_through
 have nQ:=zeH (P:=P) (w:=w) (base:=base) T l7
 refine F.ok zay (fun vs H Q E h=>?_) (fun ly A outer s H vs Q E hr h=>?_)
 ·obtain⟨c,tt,a,p,k,pl,bs,kH,rfl,_⟩:=h
  rfl
 ·obtain⟨c,tt,a,p,k,pl,bs,kH,rfl,hc,hS,hB,hn,hp,hP,k0,k1,q⟩:=h
  have hu:(A.deeper (envOfC (bP "all_through") (zh zaS) s.heap.objs.size t.all_through ly)).units+1 < cLine:=by have:=hr.units; lia
  refine⟨_,#[zd,#[zaG,#[pvx,0],#[zav,#[zj,#[zf,2,zay.nd,(au rfl)],#[zj,#[zf,3,zay.nd,(au rfl)],#[zj,#[zf,4,zay.nd,(au rfl)],#[zK]]]]]],#[zd,#[zp,5,zay.nd,(au rfl),(@zkd _ _)],#[zd,#[zam,aX,#[zT,#[zt,sQ,(hr.mono (by decide)),T.m_choices,pY.kp,nU,#[zO],#[za,#[pvx,1],#[za,#[pvx,3],#[ze]]]]],#[zf,6,zay.nd,(au rfl)],#[zl,(@zln _ _ _ _ _ _ _ _ _ hu #[pvx,5] #[zt,nQ,(hr.mono (by decide)),T.m_through,l7.kp,l8,#[zO],#[za,#[pvx,2],#[za,#[pvx,6],#[ze]]]] #[zbB] rfl)]],#[zl,#[zE,#[zw,(@zfH _ rfl),T.sorted_,boot_sorted,#[za,#[pvx,5],#[ze]]]]]]]],?_⟩
  have om:=a7
  have rp:=zo hp
  obtain⟨zs,rfl,rfl,hz⟩:=hB.zs
  rw [ab] at hn
  refine⟨_,rfl,c,_,rfl,kP.of hc.1,rfl,_,_,rfl,_,_,rfl,_,_,rfl,rfl,fun D hD=>?_⟩
  have s0:=zc (o:=.dT []) hD
  have ET:kL H D (.dT []) D=some (.dT []):=zb
  generalize kL H D (.dT [])=H0 at s0 ET ⊢
  refine (kF rfl (kF rfl (ex3 a k _ ⟨rfl,s0.seq hS,by rw [ab,ab]; lia,by lia,fun l ls H1 hl s1 uX Cs=>?_⟩)))
  have hlD:l≠D:=fun e=>by rw [e,ET] at hl; cases hl
  rw [bA,zfh (V.ref ∘ fun z:Addr×Int×Int=>z.1) zs k] at Cs
  have lW:=Cs.length
  rw [ab,ab] at lW
  have wU:=zdp (xs:=zs) k hn
  obtain⟨yp,vF⟩:∃ yp,(chs zs k).map (·.2)=yp:=⟨_,rfl⟩
  rw [vF] at Cs
  have hzl:ls.length=yp.length:=by rw [lW,← vF,ab]
  have Bd:H1 D=some (.dT []):=s1 _ _ ET
  have hid:=zgk H1 D
  refine⟨l,rfl,⟨_,kG.of uX⟩,za1 (K:=K) (a:=l) (xs:=ls.map V.ref) (fun i σ H'=>∃ (kO:List (List Key×V)) (mj:List (List Int)) (e6:Option V),σ = [some (.ref c),some (.ref a),some (.int p),some (.int k),some (.ref tt),some (.ref D),e6] ∧
   zu (hide H1 D) H'∧H' D=some (.dT kO)∧KeysAre kO mj∧mj.Nodup∧mj.length≤i∧∀ x,x∈mj↔∃ zk∈yp.take i,x=thr p (zk.map (·.2)))
   ⟨[],[],none,rfl,hid,Bd,rfl,by simp,af _,fun x=>by simp⟩ (fun i σ H' _ ⟨_,_,_,_,s3,_⟩=>kG.of (s3 _ _ (zaI uX hlD))) ?_ ?_⟩
  ·rintro i y σ H2 hy ⟨kO,mj,e6,rfl,s2,yk,xc,nN,EU,nM⟩
   obtain⟨b,rfl,Au⟩:=zQ hy
   obtain⟨hi,_⟩:=ak.mp Au
   obtain⟨vk,Be,r9⟩:=Paired.get Cs Au
   obtain⟨zk,hzk,rfl⟩:∃ zk,yp[i]? = some zk∧vk=zk.map (V.ref ∘ fun z:Addr×Int×Int=>z.1):=by
    rw [ag] at Be
    cases e:yp[i]? with
    | none=>rw [e] at Be; cases Be
    | some zk=>rw [e] at Be; exact⟨zk,rfl,(aR Be).symm⟩
   have hbD:b≠D:=fun e=>by rw [e,Bd] at r9; cases r9
   obtain⟨vh,kQ⟩:=zfJ.mp (by rw [vF]; exact ap hzk:zk∈(chs zs k).map (·.2))
   have Ct:Pts p (zk.map (·.2)):=hP.sub (vh.map _)
   have lx:zj0 K H2 b (zk.map (·.2)):=by
    refine⟨zk.map (·.1),?_,by rw [ab,ab],fun j b' q' h1 h2=>?_⟩
    ·have:=s2 _ _ (zaI r9 hbD)
     rw [bA]
     exact kG.of this
    ·rw [ag] at h1 h2
     cases e:zk[j]? with
     | none=>rw [e] at h1; cases h1
     | some z =>
      rw [e] at h1 h2
      cases h1
      cases h2
      have rf:=hz z (vh.subset (ap e))
      have hzD:z.1≠D:=zJ rf hD
      exact s2 _ _ (zaI ((s0.trans s1) _ _ rf) hzD)
   have hmf:kO.length=mj.length:=by
    have:=congrArg et xc
    rw [ab,ab] at this
    exact this
   refine (kF rfl (kF rfl (kF rfl (ex3 p b _ ⟨rfl,lx,by rw [ab]; lia,hp,(by rw [zmm Ct]; exact Ct),(fun q hq=>by have:=Ct.rg q hq; lia),fun tl H3 v3 s3 h3=>?_⟩))))
   rw [zmm Ct] at h3
   have h3D:=s3 _ _ yk
   refine⟨D,(kF rfl ⟨zkb.t (k:=(thr p (zk.map (·.2))).map dh) h3D (by rw [h3,bA]; rfl) (by lia),?_⟩)⟩
   obtain⟨sH,m1,m2,m3,m4⟩:=zkz xc nN (thr p (zk.map (·.2))) (.bl true)
   refine (ex3 _ sH _ ⟨rfl,?_,zb,m1,m2,by lia,fun x=>?_⟩)
   ·refine z0 (s2.trans s3) ?_
    unfold hide
    rw [if_pos rfl]
   ·rw [m4 x,nM x,take_snoc hzk]
    constructor
    ·rintro (⟨EV,h1,h2⟩ | e)
     ·exact⟨EV,aQ _ h1,h2⟩
     ·exact⟨zk,aH _ (aU.mpr rfl),e⟩
    ·rintro⟨EV,h1,h2⟩
     rcases (aP.mp h1) with h1 | h1
     ·exact .inl ⟨EV,h1,h2⟩
     ·rw [aU.mp h1] at h2
      exact .inr h2
  ·rintro σ H2 ⟨kO,mj,e6,rfl,s2,yk,xc,nN,EU,nM⟩
   rw [ab,hzl] at nM EU
   rw [aZ] at nM
   rw [← hzl,lW] at EU
   have mS:∀ x,x∈mj↔∃ pk∈(chs (zs.map (·.2)) k).map (·.2),x=thr p pk:=fun x=>by
    rw [nM x,zfh,vF]
    constructor
    ·rintro⟨zk,h1,h2⟩
     exact⟨_,eW h1,h2⟩
    ·rintro⟨pk,h1,h2⟩
     obtain⟨zk,h3,rfl⟩:=aB.mp h1
     exact⟨zk,h3,h2⟩
   have Bf:∀ x∈mj,IsP p k x:=fun x hx=>by
    obtain⟨pk,h1,rfl⟩:=(mS x).mp hx
    exact zij hp hP h1
   refine (kF rfl (ex5 D k p kO mj ⟨rfl,yk,xc,fun ms hm=>Bf ms hm,k0,by lia,fun r qu ou pW Bg hH=>?_⟩))
   have hHs:zu H H2:=fun x u e=>s2 _ _ (zaI ((s0.trans s1) _ _ e) (zJ e hD))
   have e1:qu.map (fun q=>V.ref q.1)=(qu.map (·.1)).map V.ref:=by rw [bA]; rfl
   rw [e1]
   refine q r (qu.map (·.1)) (qu.map (·.2)) _ (hHs.free ou) (hHs.trans (zc ou)) zb ((zbo.of hH).same (zc ou)) (by rw [pW.length_eq]; lia) (zlF (by lia) (fun x hx=>Bf x (pW.mem_iff.mp hx)) (pW.nodup_iff.mpr nN) ?_) fun x=>?_
   ·rw [cr]
    exact Bg
   ·rw [pW.mem_iff]
    exact mS x
def zfR (K:ah):Sp:=fun vs H Q _=>∃ (c tt r:Addr) (p:Int) (k:Nat) (T:Int) (pl:List Int) (rw:List (Option Int)),vs = [.ref c,.ref r,.int T]∧za4 H c tt p k pl∧H r=some (.lst (rw.map lL))∧rw.length=pl.length∧pl.length≤16∧p∈zm∧pl.Nodup∧(∀ x∈pl,0≤x∧x < p)∧(∀ z,some z∈rw→0≤z∧z < p)∧1≤k∧k≤100∧(k:Int)≤T ∧
 ∀ (l:Addr) (rs:List Addr) (qs:List (List Int)) (H':Hp),H l=none→zu H H'→H' l=some (.lst (rs.map V.ref))→zbo H' rs qs→zje p k qs→(∀ q,q∈qs↔IsP p k q∧T≤(hits p q (lh pl rw):Int))→Q (.ref l) H'
theorem zbG:FnScope ["code","row","t","k","points","first"] ["code","row","t"] (zh zbz):=⟨rfl,rfl,rfl,by decide +kernel,rfl,by decide +kernel,by decide +kernel⟩
theorem zgS {fd:FuncData} (T:Txt K mg t) (F:Fun K "all_near" "all_near" zbz t.all_near fd):FnOk P w K mg base CX0 5 t.all_near fd ["code","row","t"] (zfR K):=by
 obtain⟨mH,k9,lb⟩:=T.f_heard_points
 have lP:=zb8 (P:=P) (w:=w) (base:=base) T k9
 obtain⟨sg,oX,oY⟩:=T.f_fits
 have rF:=ziA (P:=P) (w:=w) (base:=base) T oX
 obtain⟨oZ,mZ,lX⟩:=T.f_all_through
 have pP:=zeL (P:=P) (w:=w) (base:=base) T mZ
 refine F.ok zbG (fun vs H Q E h=>?_) (fun ly A outer s H vs Q E hr h=>?_)
 ·obtain⟨c,tt,r,p,k,T',pl,rw,rfl,_⟩:=h
  rfl
 ·obtain⟨c,tt,r,p,k,T',pl,rw,rfl,hc,mf,nG,hn,hp,nN,lW,qF,k0,k1,h1,q⟩:=h
  refine⟨_,#[zd,#[zp,3,zbG.nd,(au rfl),#[zM,#[zbv],#[pvx,0],#[zg]]],#[zd,#[zaJ,#[zy,#[zf1],#[pvx,2],#[pvx,3],(zL _)],(@ziG _ _),#[zZ]],#[zd,#[zp,4,zbG.nd,(au rfl),#[zt,lP,(hr.mono (by decide)),T.m_heard_points,k9.kp,lb,#[zO],#[za,#[pvx,0],#[za,#[pvx,1],#[ze]]]]],#[zd,#[zaJ,#[zy,#[zf2],#[pvx,2],#[zw,#[zr],T.len_,bM,#[za,#[pvx,4],#[ze]]],(zL _)],#[zl,#[zE,#[z9,#[ze]]]],#[zZ]],#[zd,#[zp,5,zbG.nd,(au rfl),#[zbi,zcq,#[pvx,4],#[zbU],#[zbq,#[zi,#[zB],#[zi,#[zba],#[zw,#[zr],T.len_,bM,#[za,#[pvx,4],#[ze]]],#[pvx,2]],#[pvx,3]]]]],#[zl,#[zE,#[zad,(CompSc.of (N':=["polynomial","code","row","t"]) (ix:=[none,some 0,some 1,some 2]) (zh zbz) ["code","row","t","k","points","first"] rfl rfl (by decide +kernel)),#[zai],#[zT,#[zt,pP,(hr.mono (by decide)),T.m_all_through,mZ.kp,lX,#[zO],#[za,#[pvx,0],#[za,#[pvx,5],#[ze]]]]],(fun _ _ _ _=>#[zf,0,(show (["polynomial","code","row","t"]:List Str).Nodup by decide +kernel),(au rfl)]),(fun _ _ _ _=>#[zcf,#[zy,#[zmb],#[zw,#[zbg,(K)],T.len_,bM,#[za,#[zt,rF,(hr.mono (by decide)),T.m_fits,oX.kp,oY,#[zO],#[za,#[pvx,1],#[za,#[pvx,2],#[za,#[pvx,0],#[ze]]]]],#[ze]]],#[pvx,3],(zL _)]]),(fun _ _ _ _=>#[pvx,0])]]]]]]]],?_⟩
  have om:=a7
  have rp:=zo hp
  have hR:RowAt K H r pl.length rw:=⟨kG.of mf,nG⟩
  have hP:=zik nN lW qF
  have AY:=zb1 pl rw
  refine (kF rfl (ex4 c _ _ _ ⟨rfl,rfl,kP.of hc.1,rfl,?_⟩))
  refine (kF rfl (kF rfl (kN rfl rfl (kF rfl ?_))))
  ·refine zaf (fun h=>absurd (of_decide_eq_true h) (by lia)) (fun _=>?_)
   refine (kF rfl (kF rfl (ex7 c tt r p k pl rw ⟨rfl,hc,hR,by lia,fun l bs H1 vb s1 uX hB=>?_⟩)))
   have qY:bs.length=(lh pl rw).length:=hB.length
   refine (kF rfl (kF rfl ⟨l,(kF rfl ⟨.inl (kG.of uX),(kN rfl rfl (kF rfl ?_))⟩)⟩))
   rw [ab]
   refine zaf (fun lp=>?_) (fun oo=>?_)
   ·have lp:=of_decide_eq_true lp
    refine⟨bb _,fun z hz=>q z [] [] _ (s1.free hz) (s1.trans (zc hz)) zb .nil ⟨by simp,.nil⟩ fun x=>?_⟩
    have:=dI (hit p x) (lh pl rw)
    constructor
    ·intro h; cases h
    ·rintro⟨_,h⟩
     unfold hits at h
     lia
   ·have oo:¬ T' > (bs.length:Int):=fun h=>oo (decide_eq_true h)
    obtain⟨tn,rfl⟩:∃ tn:Nat,T'=tn:=⟨T'.toNat,by lia⟩
    refine (kF rfl (kF rfl ⟨l,(kF rfl ⟨.inl (kG.of uX),(kF rfl (kN rfl rfl (kF rfl (kN rfl rfl (kF rfl ⟨l,(kF rfl ⟨kG.of uX,fun z hz=>?_⟩)⟩)))))⟩)⟩))
    have EW:((bs.map V.ref).length:Int) - (tn:Int)+(k:Int)=((bs.length - tn+k:Nat):Int):=by rw [ab]; lia
    rw [EW,zkN,← fI]
    have v1:=zc (o:=.lst ((bs.take (bs.length - tn+k)).map V.ref)) hz
    have hzz:kL H1 z (.lst ((bs.take (bs.length - tn+k)).map V.ref)) z=some (.lst ((bs.take (bs.length - tn+k)).map V.ref)):=zb
    have s2:=s1.trans v1
    have oz:=(hB.same v1).take (bs.length - tn+k)
    generalize kL H1 z (.lst ((bs.take (bs.length - tn+k)).map V.ref))=H2 at v1 hzz s2 oz ⊢
    have hPt:Pts p ((lh pl rw).take (bs.length - tn+k)):=hP.sub (cq _ _)
    refine (kF rfl (kF rfl (ex8 c tt z p k pl _ _ ⟨rfl,hc.same s2,kG.of hzz,oz,by rw [aJ]; lia,hp,hPt,k0,k1,fun l2 rs qs H3 pJ s3 v5 hT hql Bh nM=>?_⟩)))
    have EX:=hT.length
    have Bi:=s2.trans s3
    refine⟨l2,rfl,⟨_,kG.of v5⟩,zY (n:=rs.length) (fun i ys H'=>zu H3 H'∧∃ us:List Addr,ys=us.map V.ref∧us.length≤i∧zbo H' us ((qs.take i).filter fun x=>decide ((tn:Int)≤(hits p x (lh pl rw):Int)))) ⟨fun _ _ e=>e,[],rfl,af _,.nil⟩ ?_ ?_ ?_ ?_⟩
    ·rintro i ys H4 hi ⟨s4,_⟩
     exact⟨_,.ref rs[i],kG.of (s4 _ _ v5),by rw [ag,am hi]; rfl⟩
    ·rintro ys H4 ⟨s4,_⟩
     exact⟨_,kG.of (s4 _ _ v5),by rw [ab]; exact af _⟩
    ·rintro i y ys H4 H5 hi ⟨s4,us,rfl,mY,lG⟩ ⟨rfl,hy⟩
     obtain⟨rb,rfl,wj⟩:=zQ (hy _ (kG.of (s4 _ _ v5)))
     obtain⟨qq,Bj,lC⟩:=Paired.get hT wj
     have Bk:=Bi.trans s4
     refine (kF rfl (kF rfl (kF rfl (ex9 c tt r rb p k pl qq rw ⟨rfl,hc.same Bk,Bk _ _ mf,nG,s4 _ _ lC,by lia,by lia,lW,by lia,fun fl H6 v7 s6 h6=>?_⟩))))
     refine⟨fl,(kF rfl ⟨.inl (kG.of h6),(kF rfl (kN rfl rfl (kF rfl ?_)))⟩)⟩
     have ef:((zbn p pl rw qq pl.length).map V.int).length=hits p qq (lh pl rw):=by rw [ab]; exact zil nG
     rw [ef]
     have uI:(qs.take (i+1)).filter (fun x=>decide ((tn:Int)≤(hits p x (lh pl rw):Int)))=(qs.take i).filter (fun x=>decide ((tn:Int)≤(hits p x (lh pl rw):Int)))++[qq].filter (fun x=>decide ((tn:Int)≤(hits p x (lh pl rw):Int))):=by rw [take_snoc Bj,dE]
     refine zaf (fun h=>(kF rfl ⟨?_,s4.trans s6,us++[rb],by rw [aA]; rfl,by rw [ar]; exact jR mY,?_⟩)) (fun h=>⟨s4.trans s6,us,rfl,by lia,?_⟩)
     ·rw [ab]; lia
     ·rw [uI,ed (p:=fun x=>decide ((tn:Int)≤(hits p x (lh pl rw):Int))) h]
      exact bO (lG.same s6) ((s4.trans s6) _ _ lC)
     ·rw [uI,ee (p:=fun x=>decide ((tn:Int)≤(hits p x (lh pl rw):Int))) h,fc,bw]
      exact lG.same s6
    ·rintro ys H4 D ⟨s4,us,rfl,mY,lG⟩ hD
     rw [EX,aZ] at lG
     have Bk:=Bi.trans s4
     refine q D us _ _ (Bk.free hD) (Bk.trans (zc hD)) zb (lG.same (zc hD)) (Bh.filter _) fun x=>?_
     rw [bF,nM x,decide_eq_true_iff]
     constructor
     ·rintro⟨⟨pk,h1,rfl⟩,h2⟩
      exact⟨zij hp hPt h1,h2⟩
     ·rintro⟨h1',h2⟩
      exact⟨zhs hp hP h1' (t:=tn) (by lia) (by lia) (by lia),h2⟩
end
end My
end
section
namespace My
open PySem L2 PyProof.Rows
def zaj (ms:List Int) (rw:List (Option Int)):List (Option Int):=(aD rw.length).map fun i:Nat=>if (i:Int)∈ms then rw.getD i none else none
theorem zcp (ms:List Int) (rw:List (Option Int)):(zaj ms rw).length=rw.length:=by unfold zaj; rw [ab,aW]
theorem zfS {ms:List Int} {rw:List (Option Int)} {i:Nat} {o:Option Int} (h:rw[i]? = some o):(zaj ms rw)[i]? = some (if (i:Int)∈ms then o else none):=by
 have hi:=(ak.mp h).1
 unfold zaj
 rw [ag,bR hi]
 show some (if (i:Int)∈ms then rw.getD i none else none)=_
 rw [aN,h]
 rfl
theorem zl2 {p:Int} {ms:List Int} {rw:List (Option Int)} (h:∀ z,some z∈rw→0≤z∧z < p):∀ z,some z∈zaj ms rw→0≤z∧z < p:=by
 intro z hz
 obtain⟨i,hi⟩:=bx hz
 cases ho:rw[i]? with
 | none =>
  have h1:=(ak.mp hi).1
  rw [zcp] at h1
  rw [am h1] at ho
  cases ho
 | some o =>
  rw [zfS ho] at hi
  have hi:=aR hi
  by_cases hm:(i:Int)∈ms
  ·rw [if_pos hm] at hi
   subst hi
   exact h z (ap ho)
  ·rw [if_neg hm] at hi
   cases hi
theorem zjr {p:Int} {pl:List Int} {ms:List Int} {rw:List (Option Int)} {q:List Int} (hl:rw.length=pl.length) (i:Nat):zbN p pl (zaj ms rw) q i=true↔(i:Int)∈ms∧zbN p pl rw q i=true:=by
 unfold zbN
 cases hp:pl[i]? with
 | none=>simp
 | some x =>
  have hi:=(ak.mp hp).1
  have ho:rw[i]? = some rw[i]:=am (by lia)
  rw [zfS ho,ho]
  by_cases hm:(i:Int)∈ms
  ·rw [if_pos hm]
   simp [hm]
  ·rw [if_neg hm]
   simp [hm]
theorem zgT {p:Int} {pl:List Int} {rw:List (Option Int)} {q:List Int} {n:Nat} {z:Int}:z∈zbn p pl rw q n↔∃ j:Nat,z=j∧j < n∧zbN p pl rw q j=true:=by
 unfold zbn
 constructor
 ·intro h
  obtain⟨j,hj,rfl⟩:=aB.mp h
  obtain⟨h1,h2⟩:=bF.mp hj
  exact⟨j,rfl,bm.mp h1,h2⟩
 ·rintro⟨j,rfl,h1,h2⟩
  exact aB.mpr ⟨j,bF.mpr ⟨bm.mpr h1,h2⟩,rfl⟩
theorem zhC {p:Int} {pl:List Int} {rw:List (Option Int)} {q:List Int} {n:Nat}:(zbn p pl rw q n).Nodup:=by
 unfold zbn
 exact jJ _ (fun a b rh e=>rh (by lia)) (dv.filter _)
theorem zfT:∀ {pl:List Int} {rw:List (Option Int)} {a:Int×Int},a∈lh pl rw→∃ i:Nat,pl[i]? = some a.1∧rw[i]? = some (some a.2)
 | [],_,a,h=>by simp [lh] at h
 | _ :: _,[],a,h=>by simp [lh] at h
 | x :: pl,none :: rw,a,h=>by
  obtain⟨i,h1,h2⟩:=zfT (pl:=pl) (rw:=rw) (a:=a) (by simpa [lh] using h)
  exact⟨i+1,h1,h2⟩
 | x :: pl,some y :: rw,a,h=>by
  have h:a=(x,y)∨a∈lh pl rw:=by simpa [lh] using h
  rcases h with rfl | h
  ·exact⟨0,rfl,rfl⟩
  ·obtain⟨i,h1,h2⟩:=zfT h
   exact⟨i+1,h1,h2⟩
structure JS (p:Int) (k:Nat) (pl:List Int) (T:Nat) (rows:List (List (Option Int))) (s:List (List Int)×List Int):Prop where
 len:s.1.length=rows.length
 isp:∀ q∈s.1,IsP p k q
 mem:∀ i:Nat,i < pl.length→((i:Int)∈s.2↔∀ (l:Nat) row q,rows[l]? = some row→s.1[l]? = some q→zbN p pl row q i=true)
 rg:∀ z∈s.2,∃ i:Nat,z=i∧i < pl.length
 nd:s.2.Nodup
 many:rows≠[]→T≤s.2.length
variable {p:Int} {k T:Nat} {pl:List Int} {rows:List (List (Option Int))}
theorem zl3:JS p k pl T [] ([],zaw 0 pl.length):=by
 have hm:∀ z,z∈zaw 0 pl.length↔∃ i:Nat,z=i∧i < pl.length:=fun z=>by
  unfold zaw
  constructor
  ·intro h
   (obtain⟨i,hi,rfl⟩:=aB.mp h)
   exact⟨i,by lia,bm.mp hi⟩
  ·rintro⟨i,rfl,hi⟩
   exact aB.mpr ⟨i,bm.mpr hi,by lia⟩
 refine⟨rfl,fun q h=>(by cases h),fun i hi=>⟨fun _ l row q h=>(by simp at h),fun _=>(hm _).mpr ⟨i,rfl,hi⟩⟩,fun z hz=>(hm z).mp hz,?_,fun h=>absurd rfl h⟩
 unfold zaw
 exact jJ _ (fun a b rh e=>rh (by lia)) dv
theorem zl4 {qs:List (List Int)} {ms q:List Int} {row:List (Option Int)} (J:JS p k pl T rows (qs,ms)) (hl:row.length=pl.length) (hq:IsP p k q) (ht:T≤hits p q (lh pl (zaj ms row))) :
  JS p k pl T (rows++[row]) (qs++[q],zbn p pl (zaj ms row) q pl.length):=by
 have kQ:qs.length=rows.length:=J.len
 refine⟨by show (qs++[q]).length=_; rw [ar,ar,kQ]; rfl,fun x hx=>?_,fun i hi=>?_,fun z hz=>?_,zhC,fun _=>?_⟩
 ·rcases aP.mp hx with h | h
  ·exact J.isp x h
  ·rw [aU.mp h]; exact hq
 ·have e:(i:Int)∈zbn p pl (zaj ms row) q pl.length↔(i:Int)∈ms∧zbN p pl row q i=true:=by
   rw [zgT,← zjr hl]
   constructor
   ·rintro⟨j,hj,_,h⟩
    have:i=j:=by lia
    subst this
    exact h
   ·exact fun h=>⟨i,rfl,hi,h⟩
  show (i:Int)∈zbn p pl (zaj ms row) q pl.length↔_
  rw [e,J.mem i hi]
  constructor
  ·rintro⟨h1,h2⟩ l r x hr hx
   rw [List.getElem?_append] at hr hx
   rw [kQ] at hx
   by_cases vw:l < rows.length
   ·rw [if_pos vw] at hr hx
    exact h1 l r x hr hx
   ·rw [if_neg vw] at hr hx
    cases hd:l - rows.length with
    | zero =>
     rw [hd] at hr hx
     cases hr
     cases hx
     exact h2
    | succ m =>
     rw [hd] at hr
     simp at hr
  ·intro h
   refine⟨fun l r x hr hx=>h l r x ?_ ?_,h rows.length row q ?_ ?_⟩
   ·rw [bD (ak.mp hr).1]; exact hr
   ·rw [bD (ak.mp hx).1]; exact hx
   ·rw [bu (af _),d6]; rfl
   ·rw [← kQ,bu (af _),d6]; rfl
 ·obtain⟨j,rfl,h,_⟩:=zgT.mp hz
  exact⟨j,rfl,h⟩
 ·show T≤(zbn p pl (zaj ms row) q pl.length).length
  rw [zil (by rw [zcp]; exact hl)]
  exact ht
theorem zhD {s:List (List Int)×List Int} (J:JS p k pl T rows s) {l i:Nat} {row:List (Option Int)} {q:List Int} (hr:rows[l]? = some row) (hq:s.1[l]? = some q) (hi:(i:Int)∈s.2):∃ x y,pl[i]? = some x∧row[i]? = some (some y)∧zn p x q=y:=by
 obtain⟨j,hj,tJ⟩:=J.rg _ hi
 have:i=j:=by lia
 subst this
 have h:=(J.mem i tJ).mp hi l row q hr hq
 unfold zbN at h
 split at h
 ·next x y h1 h2=>exact⟨x,y,h1,h2,(of_decide_eq_true h).symm⟩
 ·cases h
theorem znX (nN:pl.Nodup) {s:List (List Int)×List Int} (J:JS p k pl T rows s):(s.2.map fun z=>gl pl z.toNat).Nodup:=by
 have h:∀ a∈s.2,∀ b∈s.2,a≠b→gl pl a.toNat≠gl pl b.toNat:=fun a ha b hb rh e=>by
  obtain⟨i,rfl,hi⟩:=J.rg a ha
  obtain⟨j,rfl,hj⟩:=J.rg b hb
  simp only [bH] at e
  have h1:=zax hi
  have h2:=zax hj
  rw [e,← h2] at h1
  have:=(eD hi nN).mp h1
  exact rh (by rw [this])
 have nd:=J.nd
 generalize s.2=l at h nd
 induction l with
 | nil=>exact gh
 | cons a l ih =>
  obtain⟨h1,h2⟩:=cY.mp nd
  refine cY.mpr ⟨fun hm=>?_,ih (fun x hx y hy=>h x (aw _ hx) y (aw _ hy)) h2⟩
  (obtain⟨b,hb,e⟩:=aB.mp hm)
  exact h a aF b (aw _ hb) (fun z=>h1 (z ▸ hb)) e.symm
theorem zng (hp:p∈zm) (nN:pl.Nodup) (lW:∀ x∈pl,0≤x∧x < p) (hk:k≤T) (lA:rows≠[]) {s s':List (List Int)×List Int} (J:JS p k pl T rows s) (J':JS p k pl T rows s') (h:∀ i:Nat,i < pl.length→((i:Int)∈s.2↔(i:Int)∈s'.2)):s.1=s'.1:=by
 refine gQ fun l=>?_
 cases hr:rows[l]? with
 | none =>
  have hl:=gW.mp hr
  rw [dJ (by rw [J.len]; exact hl),dJ (by rw [J'.len]; exact hl)]
 | some row =>
  have hl:=(ak.mp hr).1
  have h1:s.1[l]? = some (s.1[l]'(by rw [J.len]; exact hl)):=am _
  have h2:s'.1[l]? = some (s'.1[l]'(by rw [J'.len]; exact hl)):=am _
  rw [h1,h2]
  congr 1
  generalize s.1[l]'(by rw [J.len]; exact hl)=q at h1
  generalize s'.1[l]'(by rw [J'.len]; exact hl)=q' at h2
  have i1:=J.isp q (ap h1)
  have i2:=J'.isp q' (ap h2)
  have hm:=J.many lA
  refine zdE hp (xs:=s.2.map fun z=>gl pl z.toNat) (by rw [i1.1,i2.1]) (by rw [i1.1,ab]; lia) (znX nN J) (fun x hx=>?_) i1.2 i2.2 (fun x hx=>?_)
  ·obtain⟨z,hz,rfl⟩:=aB.mp hx
   obtain⟨i,rfl,hi⟩:=J.rg z hz
   exact lW _ (ap (zax hi))
  ·obtain⟨z,hz,rfl⟩:=aB.mp hx
   obtain⟨i,rfl,hi⟩:=J.rg z hz
   obtain⟨x1,y1,a1,a2,a3⟩:=zhD J hr h1 hz
   obtain⟨x2,y2,b1,b2,b3⟩:=zhD J' hr h2 ((h i hi).mp hz)
   rw [a1] at b1
   cases b1
   rw [a2] at b2
   cases b2
   show zn p (gl pl i) q=zn p (gl pl i) q'
   rw [za9 a1,a3,b3]
def cod (ms:List Int):Nat→Nat
 | 0=>0
 | n+1=>cod ms n+if (n:Int)∈ms then 2 ^ n else 0
theorem zfU (ms:List Int):∀ n,cod ms n < 2 ^ n
 | 0=>by show 0 < 2 ^ 0; decide
 | n+1=>by
  have:=zfU ms n
  show cod ms n+(if (n:Int)∈ms then 2 ^ n else 0) < 2 ^ (n+1)
  rw [Nat.pow_succ]
  split <;> lia
theorem ziB {ms wq:List Int}:∀ n,cod ms n=cod wq n→∀ i,i < n→((i:Int)∈ms↔(i:Int)∈wq)
 | 0,_,i,hi=>by lia
 | n+1,h,i,hi=>by
  have h1:=zfU ms n
  have h2:=zfU wq n
  have h:cod ms n+(if (n:Int)∈ms then 2 ^ n else 0)=cod wq n+(if (n:Int)∈wq then 2 ^ n else 0):=h
  have key:((n:Int)∈ms↔(n:Int)∈wq)∧cod ms n=cod wq n:=by
   by_cases a:(n:Int)∈ms <;> by_cases b:(n:Int)∈wq
   ·rw [if_pos a,if_pos b] at h
    exact⟨⟨fun _=>b,fun _=>a⟩,by lia⟩
   ·rw [if_pos a,if_neg b] at h
    lia
   ·rw [if_neg a,if_pos b] at h
    lia
   ·rw [if_neg a,if_neg b] at h
    exact⟨⟨fun z=>absurd z a,fun z=>absurd z b⟩,by lia⟩
  by_cases oG:i=n
  ·subst oG
   exact key.1
  ·exact ziB n key.2 i (by lia)
theorem zgU (hp:p∈zm) (nN:pl.Nodup) (lW:∀ x∈pl,0≤x∧x < p) (hk:k≤T) (lA:rows≠[]) {out:List (List (List Int)×List Int)} (h:∀ s∈out,JS p k pl T rows s) (nd:(out.map (·.1)).Nodup):out.length≤2 ^ pl.length:=by
 have h1:(out.map fun s=>cod s.2 pl.length).Nodup:=by
  refine cr.mpr ?_
  refine dZ (fun ha hb rh e=>?_) (cr.mp nd)
  exact rh (zng hp nN lW hk lA (h _ ha) (h _ hb) (ziB _ e))
 have h2:=zdf h1 (d:=2 ^ pl.length) fun x hx=>by
  obtain⟨s,_,rfl⟩:=aB.mp hx
  exact zfU _ _
 rwa [ab] at h2
theorem zl5 {out:List (List (List Int)×List Int)} {done:List (List (List Int))} {qs:List (List Int)} {L:List (List Int)} (f:List Int→List Int) (nd:(out.map (·.1)).Nodup) (hd:∀ o∈out,o.1.dropLast∈done) (hq:qs∉done) (hL:L.Nodup) :
  ((out++L.map fun q=>(qs++[q],f q)).map (·.1)).Nodup∧∀ o∈out++L.map (fun q=>(qs++[q],f q)),o.1.dropLast∈done++[qs]:=by
 constructor
 ·rw [aA,bA]
  have h1:(L.map ((fun x:List (List Int)×List Int=>x.1) ∘ fun q=>(qs++[q],f q))).Nodup:=cr.mpr (List.Pairwise.imp (fun {a b} rh e=>rh (by
   have e:qs++[a]=qs++[b]:=e
   have:=List.append_cancel_left e
   injection this)) hL)
  refine dk.mpr ⟨nd,h1,fun a ha b hb e=>?_⟩
  ·obtain⟨o,ho,rfl⟩:=aB.mp ha
   obtain⟨q,tZ,rfl⟩:=aB.mp hb
   have h1:=hd o ho
   have e:o.1=qs++[q]:=e
   rw [e,i3] at h1
   exact hq h1
 ·intro o ho
  rcases aP.mp ho with h | h
  ·exact aP.mpr (.inl (hd o h))
  ·obtain⟨q,_,rfl⟩:=aB.mp h
   refine aP.mpr (.inr ?_)
   show (qs++[q]).dropLast∈[qs]
   rw [i3]
   exact aU.mpr rfl
theorem zk0 (hp:p∈zm) (nN:pl.Nodup) (lW:∀ x∈pl,0≤x∧x < p) (h1:1≤T) (lA:rows≠[]) {s:List (List Int)×List Int} (J:JS p k pl T rows s) {e:Nat} {left:List Int} {kW:List (List Int)} (L:LocOk p k (rows.map (lh pl)) e left kW):e+s.2.length≤pl.length:=by
 have rp:=zo hp
 have hm:=J.many lA
 have rz:((aD pl.length).filter fun i:Nat=>decide (¬ (i:Int)∈s.2)).length+s.2.length≤pl.length:=by
  have hn:(((aD pl.length).filter fun i:Nat=>decide (¬ (i:Int)∈s.2))++s.2.map Int.toNat).Nodup:=by
   refine dk.mpr ⟨dv.filter _,?_,fun a ha b hb e=>?_⟩
   ·refine cr.mpr (dZ (fun ha hb rh e=>rh ?_) J.nd)
    obtain⟨i,rfl,_⟩:=J.rg _ ha
    obtain⟨j,rfl,_⟩:=J.rg _ hb
    lia
   ·obtain⟨_,h2⟩:=bF.mp ha
    obtain⟨z,hz,rfl⟩:=aB.mp hb
    obtain⟨i,rfl,_⟩:=J.rg z hz
    have h2:=of_decide_eq_true h2
    subst e
    exact h2 hz
  have:=zdf hn (d:=pl.length) fun x hx=>by
   rcases aP.mp hx with h | h
   ·exact bm.mp (bF.mp h).1
   ·obtain⟨z,hz,rfl⟩:=aB.mp h
    obtain⟨i,rfl,hi⟩:=J.rg z hz
    exact hi
  rw [ar,ab] at this
  exact this
 have Ab:(((aD pl.length).filter fun i:Nat=>decide (¬ (i:Int)∈s.2)).map (gl pl)).length=((aD pl.length).filter fun i:Nat=>decide (¬ (i:Int)∈s.2)).length:=ab _
 have EY:∀ x,x∈((aD pl.length).filter fun i:Nat=>decide (¬ (i:Int)∈s.2)).map (gl pl)↔∃ i:Nat,i < pl.length∧¬ (i:Int)∈s.2∧x=gl pl i:=fun x=>by
  constructor
  ·intro h
   (obtain⟨i,hi,rfl⟩:=aB.mp h)
   obtain⟨h1,h2⟩:=bF.mp hi
   exact⟨i,bm.mp h1,of_decide_eq_true h2,rfl⟩
  ·rintro⟨i,hi,h2,rfl⟩
   exact aB.mpr ⟨i,bF.mpr ⟨bm.mpr hi,decide_eq_true h2⟩,rfl⟩
 generalize ((aD pl.length).filter fun i:Nat=>decide (¬ (i:Int)∈s.2)).map (gl pl)=xs at Ab EY
 refine Classical.byContradiction fun lp=>?_
 have hw:=zgL hp xs
 have hz:=L.mn xs.length (by lia) (zdF p xs) hw (fun kH lx=>by
  obtain⟨row,ml,rfl⟩:=aB.mp lx
  obtain⟨l,hl⟩:=bx ml
  have vw:=(ak.mp hl).1
  have hq:s.1[l]? = some (s.1[l]'(by rw [J.len]; exact vw)):=am _
  generalize s.1[l]'(by rw [J.len]; exact vw)=f at hq
  have hf:=J.isp f (ap hq)
  refine⟨(zgH f (zdF p xs) (k+xs.length) (xs.length+1)).map (· % p),⟨by rw [ab]; unfold zgH; rw [ab,aW],fun c hc=>?_⟩,fun a ha=>?_⟩
  ·obtain⟨d,_,rfl⟩:=aB.mp hc
   exact⟨aK _ (by lia),aC _ (by lia)⟩
  ·refine Cg.eq ?_ (zas (by lia) _) (zat (by lia) _) (aK _ (by lia)) (aC _ (by lia))
   refine (zfj _).trans ((zne (by rw [hf.1]; exact af _) (by rw [hw.1]; exact af _)).trans (Cg.trans ?_ (Cg.emod _ _).symm))
   obtain⟨i,vq,uQ⟩:=zfT ha
   have vz:=(ak.mp vq).1
   by_cases oG:(i:Int)∈s.2
   ·obtain⟨x,y,a1,a2,a3⟩:=zhD J hl hq oG
    rw [vq] at a1
    cases a1
    rw [uQ] at a2
    cases a2
    rw [a3]
    exact Cg.refl _ _
   ·have hz:Cg p (zn p a.1 (zdF p xs)) 0:=(zfQ _).trans (Cg.of_eq (zeC ((EY _).mpr ⟨i,vz,oG,(za9 vq).symm⟩)))
    exact (hz.mul (Cg.refl p _)).trans ((Cg.of_eq (by lia)).trans (hz.mul (Cg.refl p a.2)).symm))
 obtain⟨z,hzm⟩:=List.exists_mem_of_length_pos (show 0 < s.2.length by lia)
 obtain⟨i,rfl,hi⟩:=J.rg z hzm
 refine zgK hp (lW _ (ap (zax hi))) (xs:=xs) (fun x hx=>?_) ((zfQ xs).symm.trans (zgI fun c hc=>?_))
 ·obtain⟨j,hj,yX,rfl⟩:=(EY x).mp hx
  obtain⟨y0,y1⟩:=lW _ (ap (zax hj))
  refine⟨y0,y1,fun e=>?_⟩
  have h1:=zax hi
  have h2:=zax hj
  rw [e,← h1] at h2
  have:=(eD hj nN).mp h2
  rw [this] at yX
  exact yX hzm
 ·obtain⟨j,hj⟩:=bx hc
  have:=hz j
  rw [za9 hj] at this
  exact Cg.of_eq this
end My
end
section
namespace My
open PySem L2 PyProof.Rows
section
variable {P:Program} {w:World} {K:ah} {mg:Str→Option Value} {base:Heap} {t:Adr}
theorem zl6 (i:Int) (ms:List Int):inV (.int i) (ms.map V.int)=decide (i∈ms):=by
 rw [dG,decide_eq_true_iff]
 unfold inV
 rw [ij]
 constructor
 ·rintro⟨y,hy,e⟩
  obtain⟨m,hm,rfl⟩:=aB.mp hy
  have:m=i:=by simpa [eqV] using e
  rw [← this]
  exact hm
 ·intro h
  exact⟨.int i,aB.mpr ⟨i,h,rfl⟩,by simp [eqV]⟩
def zfV (K:ah):Sp:=fun vs H Q _=>∃ (r a:Addr) (rw:List (Option Int)) (ms:List Int),vs = [.ref r,.ref a]∧H r=some (.lst (rw.map lL))∧H a=some (.lst (ms.map V.int))∧rw.length≤1000 ∧
 ∀ (l:Addr) (H':Hp),H l=none→zu H H'→H' l=some (.lst ((zaj ms rw).map lL))→Q (.ref l) H'
theorem zjs {ms:List Int} {rw:List (Option Int)} {i:Nat} {o:Option Int} (h:rw[i]? = some o):(zaj ms rw).take (i+1)=(zaj ms rw).take i++[if (i:Int)∈ms then o else none]:=take_snoc (zfS h)
theorem zgV:FnScope ["row","numbers"] ["row","numbers"] (zh zbA):=⟨rfl,rfl,rfl,by decide +kernel,rfl,by decide +kernel,by decide +kernel⟩
theorem zgW {fd:FuncData} (T:Txt K mg t) (F:Fun K "heard_at" "heard_at" zbA t.heard_at fd):FnOk P w K mg base CX0 1 t.heard_at fd ["row","numbers"] (zfV K):=by
 refine F.ok zgV (fun vs H Q E h=>?_) (fun ly A outer s H vs Q E hr h=>?_)
 ·obtain⟨r,a,rw,ms,rfl,_⟩:=h
  rfl
 ·obtain⟨r,a,rw,ms,rfl,ou,ha,hn,q⟩:=h
  refine⟨_,#[zl,#[zE,#[zad,(CompSc.of (N':=["at","entry","numbers"]) (ix:=[none,none,some 1]) (zh zbA) ["row","numbers"] rfl rfl (by decide +kernel)),#[zbw,#[zW,#[zW,#[za3]]]],#[zcg,T.enumerate_,#[za,#[pvx,0],#[ze]]],(fun _ _ _ _=>#[zaT,(K),2,#[zj,#[zf,0,(show (["at","entry","numbers"]:List Str).Nodup by decide +kernel),(au rfl)],#[zj,#[zf,1,(show (["at","entry","numbers"]:List Str).Nodup by decide +kernel),(au rfl)],#[zK]]]]),(fun _ _ _ _=>#[zG]),(fun _ _ _ _=>#[zd6,#[zy,(@zhd _ (K) rfl),#[pvx,0],#[pvx,2],(by with_unfolding_all rfl)],#[pvx,1],#[zcb]])]]],?_⟩
  have om:=a7
  refine (kF rfl ⟨r,(kF rfl ⟨kG.of ou,zY (n:=rw.length) (fun i ys H'=>ys=((zaj ms rw).take i).map lL∧zu H H') ⟨rfl,fun _ _ e=>e⟩ ?_ ?_ ?_ ?_⟩)⟩)
  ·rintro i ys H3 hi ⟨_,s3⟩
   exact⟨_,lL rw[i],kG.of (s3 _ _ ou),by rw [ag,am hi]; rfl⟩
  ·rintro ys H3 ⟨_,s3⟩
   exact⟨_,kG.of (s3 _ _ ou),by rw [ab]; exact af _⟩
  ·rintro i xx ys H3 H4 hi ⟨rfl,s3⟩ ⟨T,u,hT,rfl,rfl,hu⟩
   obtain⟨o,rfl,ho⟩:=zct (hu _ (kG.of (s3 _ _ ou)))
   have s4:=s3.trans (zc (o:=.tup [.int i,lL o]) hT)
   have hl:(((zaj ms rw).take i).map lL).length < sizeLine:=by rw [ab,aJ]; lia
   refine gY2 (kP.of zb) ?_
   refine (kF rfl (kF rfl ⟨a,(kF rfl ⟨.inl (kG.of (s4 _ _ ha)),rfl,?_,(kF rfl ?_)⟩)⟩))
   ·rw [eP]
    intro y hy
    obtain⟨m,_,rfl⟩:=aB.mp hy
    rfl
   rw [zjs ho,aA,zl6]
   refine zaf (fun h=>(kF rfl ⟨hl,?_,s4⟩)) (fun h=>⟨hl,?_,s4⟩)
   ·rw [if_pos (of_decide_eq_true h)]; rfl
   ·rw [if_neg (fun z=>h (decide_eq_true z))]; rfl
  ·rintro ys H3 D ⟨rfl,s3⟩ hD
   rw [aO (by rw [zcp]; exact af _)]
   exact q D _ (s3.free hD) (s3.trans (zc hD)) zb
def SA0 (H:Hp):List Addr→List (List (List Int)×List Int)→Prop:=Paired fun b s=>∃ ka na rs,H b=some (.tup [.ref ka,.ref na])∧H ka=some (.tup (rs.map V.ref))∧zbo H rs s.1∧H na=some (.lst (s.2.map V.int))
theorem SA0.same {H H':Hp} (s:zu H H') {bs:List Addr} {ss:List (List (List Int)×List Int)} (h:SA0 H bs ss):SA0 H' bs ss:=bq (fun _ _ ⟨ka,na,rs,z1,z2,z3,z4⟩=>⟨ka,na,rs,s _ _ z1,s _ _ z2,z3.same s,s _ _ z4⟩) h
def SAt (lg:Addr) (H:Hp):List Addr→List (List (List Int)×List Int)→Prop:=Paired fun b s=>∃ ka na rs,H b=some (.tup [.ref ka,.ref na])∧H ka=some (.tup (rs.map V.ref))∧zbo H rs s.1∧H na=some (.lst (s.2.map V.int))∧na≠lg
theorem SAt.same {lg:Addr} {H H':Hp} (s:zu H H') {bs:List Addr} {ss:List (List (List Int)×List Int)} (h:SAt lg H bs ss):SAt lg H' bs ss:=bq (fun _ _ ⟨ka,na,rs,z1,z2,z3,z4,z5⟩=>⟨ka,na,rs,s _ _ z1,s _ _ z2,z3.same s,s _ _ z4,z5⟩) h
theorem SAt.zero {lg:Addr} {H:Hp} {bs:List Addr} {ss:List (List (List Int)×List Int)} (h:SAt lg H bs ss):SA0 H bs ss:=bq (fun _ _ ⟨ka,na,rs,z1,z2,z3,z4,_⟩=>⟨ka,na,rs,z1,z2,z3,z4⟩) h
theorem zbJ {H:Hp} {a lg:Addr} {xs ys:List V} (h:H a=some (.tup xs)) (hl:H lg=some (.lst ys)):a≠lg:=fun e=>by rw [e,hl] at h; cases h
theorem SAt.hide {lg:Addr} {H:Hp} {bs:List Addr} {ss:List (List (List Int)×List Int)} {xs:List V} (h:SAt lg H bs ss) (hl:H lg=some (.lst xs)):SAt lg (hide H lg) bs ss:=bq (fun _ _ ⟨ka,na,rs,z1,z2,z3,z4,z5⟩=>⟨ka,na,rs,zaI z1 (zbJ z1 hl),zaI z2 (zbJ z2 hl),bq (fun _ _ z=>zaI z (zbJ z hl)) z3,zaI z4 z5,z5⟩) h
theorem SAt.put {lg:Addr} {H:Hp} {bs:List Addr} {ss:List (List (List Int)×List Int)} {xs:List V} {o:HO} (h:SAt lg H bs ss) (hl:H lg=some (.lst xs)):SAt lg (kL H lg o) bs ss:=bq (fun _ _ ⟨ka,na,rs,z1,z2,z3,z4,z5⟩=>⟨ka,na,rs,by rw [zq (zbJ z1 hl)]; exact z1,by rw [zq (zbJ z2 hl)]; exact z2,z3.put hl,by rw [zq z5]; exact z4,z5⟩) h
def zeV (K:ah):Sp:=fun vs H Q _=>∃ (c tt ra:Addr) (p:Int) (k T:Nat) (pl:List Int) (k7:List Addr) (rws:List (List (Option Int))),vs = [.ref c,.ref ra,.int (T:Int)]∧za4 H c tt p k pl∧H ra=some (.lst (k7.map V.ref))∧zdJ pl.length H k7 rws∧rws.length≤10∧pl.length≤16∧p∈zm∧pl.Nodup∧(∀ x∈pl,0≤x∧x < p)∧(∀ rw∈rws,∀ z,some z∈rw→0≤z∧z < p)∧1≤k∧k≤100∧k≤T ∧
 ∀ (l:Addr) (us:List Addr) (ss:List (List (List Int)×List Int)) (H':Hp),zu H H'→H' l=some (.lst (us.map V.ref))→us.length=ss.length→(∀ s∈ss,JS p k pl T rws s)→Q (.ref l) H'
theorem zab:FnScope ["code","rows","t","starts","row","longer","known","numbers","heard","polynomial"] ["code","rows","t"] (zh za8):=⟨rfl,rfl,rfl,by decide +kernel,rfl,by decide +kernel,by decide +kernel⟩
theorem zeW {fd:FuncData} (T:Txt K mg t) (F:Fun K "joint_near" "joint_near" za8 t.joint_near fd):FnOk P w K mg base CX0 6 t.joint_near fd ["code","rows","t"] (zeV K):=by
 obtain⟨qK,o6,nc⟩:=T.f_heard_at
 have rG:=zgW (P:=P) (w:=w) (base:=base) T o6
 obtain⟨qL,o7,ng⟩:=T.f_all_near
 have rH:=zgS (P:=P) (w:=w) (base:=base) T o7
 obtain⟨sg,oX,oY⟩:=T.f_fits
 have rF:=ziA (P:=P) (w:=w) (base:=base) T oX
 refine F.ok zab (fun vs H Q E h=>?_) (fun ly A outer s H vs Q E hr h=>?_)
 ·obtain⟨c,tt,ra,p,k,T',pl,k7,rws,rfl,_⟩:=h
  rfl
 ·obtain⟨c,tt,ra,p,k,T',pl,k7,rws,rfl,hc,mf,tK,uJ,hn,hp,nN,lW,nF,k0,k1,kT,q⟩:=h
  refine⟨_,#[zd,#[zp,3,zab.nd,(au rfl),#[z9,#[za,#[zaK,#[za,#[zaK,#[ze]],#[za,#[zaO,#[zcJ],T.list_,jA,#[za,#[zaO,#[zdA],T.range_,iV,#[za,#[zw,#[zr],T.len_,bM,#[za,#[zM,#[zbv],#[pvx,0],#[zg]],#[ze]]],#[ze]]],#[ze]]],#[ze]]]],#[ze]]]],#[zd,#[zam,aX,#[zT,#[pvx,1]],#[zf,4,zab.nd,(au rfl)],#[zd,#[zp,5,zab.nd,(au rfl),#[z9,#[ze]]],#[zd,#[zam,aX,#[zT,#[pvx,3]],#[zav,#[zj,#[zf,6,zab.nd,(au rfl)],#[zj,#[zf,7,zab.nd,(au rfl)],#[zK]]]],#[zd,#[zp,8,zab.nd,(au rfl),#[zt,rG,(hr.mono (by decide)),T.m_heard_at,o6.kp,nc,#[zO],#[za,#[pvx,4],#[za,#[pvx,7],#[ze]]]]],#[zl,#[zam,aX,#[zT,#[zt,rH,(hr.mono (by decide)),T.m_all_near,o7.kp,ng,#[zO],#[za,#[pvx,0],#[za,#[pvx,8],#[za,#[pvx,2],#[ze]]]]]],#[zf,9,zab.nd,(au rfl)],#[zl,#[zbS,#[zdx,bX,cg,ci,#[zbb],#[pvx,5],#[za,#[zaK,#[za,#[zi,#[zit],#[pvx,6],#[zaK,#[za,#[pvx,9],#[ze]]]],#[za,#[zt,rF,(hr.mono (by decide)),T.m_fits,oX.kp,oY,#[zO],#[za,#[pvx,0],#[za,#[pvx,8],#[za,#[pvx,9],#[ze]]]]],#[ze]]]],#[ze]]]]]]]]],#[zl,#[zp,3,zab.nd,(au rfl),#[pvx,5]]]]]],#[zl,#[zE,#[zad,(CompSc.of (N':=["known","numbers"]) (ix:=[none,none]) (zh za8) ["code","rows","t","starts","row","longer","known","numbers","heard","polynomial"] rfl rfl (by decide +kernel)),#[zbw,#[zW,#[zW,#[za3]]]],#[zT,#[pvx,3]],(fun _ _ _ _=>#[zaT,(K),2,#[zj,#[zf,0,(show (["known","numbers"]:List Str).Nodup by decide +kernel),(au rfl)],#[zj,#[zf,1,(show (["known","numbers"]:List Str).Nodup by decide +kernel),(au rfl)],#[zK]]]]),(fun _ _ _ _=>#[zG]),(fun _ _ _ _=>#[pvx,0])]]]]],?_⟩
  have om:=a7
  have rp:=zo hp
  have qY:k7.length=rws.length:=tK.length
  have h2n:2 ^ pl.length≤65536:=iZ (by decide) hn
  refine⟨by show 0≤sizeLine; lia,fun ka hka=>?_⟩
  have u1:=zc (o:=.tup []) hka
  have f1:kL H ka (.tup []) ka=some (.tup []):=zb
  generalize kL H ka (.tup [])=H1 at u1 f1 ⊢
  have tH:=hc.same u1
  refine (kF rfl (ex4 c _ _ _ ⟨rfl,rfl,kP.of tH.1,rfl,tt,(kF rfl ⟨.inr (kP.of tH.2),(kF rfl (fun r yh=>⟨r,(kF rfl ⟨zb,by lia,by rw [ab]; lia,fun na y4=>?_⟩)⟩))⟩)⟩))
  have e0:(((pl.map V.int).length:Nat):Int).toNat=pl.length:=by rw [ab]; lia
  rw [e0]
  have u2:=(zc (o:=.rng 0 (((pl.map V.int).length:Nat):Int)) yh).trans (zc (o:=.lst ((zaw 0 pl.length).map V.int)) y4)
  have f2:kL (kL H1 r (.rng 0 (((pl.map V.int).length:Nat):Int))) na (.lst ((zaw 0 pl.length).map V.int)) na=some (.lst ((zaw 0 pl.length).map V.int)):=zb
  generalize kL (kL H1 r (.rng 0 (((pl.map V.int).length:Nat):Int))) na (.lst ((zaw 0 pl.length).map V.int))=H2 at u2 f2 ⊢
  refine⟨by show 2≤sizeLine; lia,fun b hb=>?_⟩
  have u3:=zc (o:=.tup [.ref ka,.ref na]) hb
  have f3:kL H2 b (.tup [.ref ka,.ref na]) b=some (.tup [.ref ka,.ref na]):=zb
  generalize kL H2 b (.tup [.ref ka,.ref na])=H3 at u3 f3 ⊢
  refine⟨by show 1≤sizeLine; lia,fun sa qz=>?_⟩
  have u4:=zc (o:=.lst [.ref b]) qz
  have f4:kL H3 sa (.lst [.ref b]) sa=some (.lst ([b].map V.ref)):=zb
  generalize kL H3 sa (.lst [.ref b])=H4 at u4 f4 ⊢
  have s4:=u1.trans (u2.trans (u3.trans u4))
  have hS4:SA0 H4 [b] [([],zaw 0 pl.length)]:=.cons ⟨ka,na,[],u4 _ _ f3,(u2.trans (u3.trans u4)) _ _ f1,.nil,(u3.trans u4) _ _ f2⟩ .nil
  refine⟨_,rfl,ra,rfl,⟨_,kG.of (s4 _ _ mf)⟩,za1 (K:=K) (a:=ra) (xs:=k7.map V.ref) (fun j σ H'=>∃ (sa:Addr) (bs:List Addr) (ss:List (List (List Int)×List Int)) (e4 e5 e6 e7 e8 e9:Option V),σ = [some (.ref c),some (.ref ra),some (.int (T':Int)),some (.ref sa),e4,e5,e6,e7,e8,e9]∧zu H H'∧H' sa=some (.lst (bs.map V.ref))∧SA0 H' bs ss∧(∀ s∈ss,JS p k pl T' (rws.take j) s)∧(ss.map (·.1)).Nodup∧ss.length≤65536)
   ⟨sa,[b],[([],zaw 0 pl.length)],none,none,none,none,none,none,rfl,s4,f4,hS4,fun s hs=>by rw [aU.mp hs]; exact zl3,by simp,by show 1≤65536; decide⟩ (fun j σ H' _ ⟨_,_,_,_,_,_,_,_,_,_,s',_⟩=>kG.of (s' _ _ mf)) ?_ ?_⟩
  ·rintro j x σ H5 hx ⟨sa,bs,ss,e4,e5,e6,e7,e8,e9,rfl,s5,xy,xA,hJ,hNd,EZ⟩
   obtain⟨rb,rfl,wj⟩:=zQ hx
   obtain⟨rw,qF,lC,nG⟩:=Paired.get tK wj
   have xB:=nF rw (ap qF)
   have BG:rws.take (j+1)=rws.take j++[rw]:=take_snoc qF
   have lA:rws.take j++[rw]≠[]:=by simp
   refine⟨by show 0≤sizeLine; lia,fun lg hlg=>?_⟩
   have E1:=hlg
   have u6:=zc (o:=.lst []) hlg
   have f6:kL H5 lg (.lst []) lg=some (.lst []):=zb
   generalize kL H5 lg (.lst [])=H6 at u6 f6 ⊢
   have E2:=xA.length
   refine⟨_,rfl,sa,rfl,⟨_,kG.of (u6 _ _ xy)⟩,za1 (K:=K) (a:=sa) (xs:=bs.map V.ref) (fun i σ H'=>∃ (us:List Addr) (out:List (List (List Int)×List Int)) (e6 e7 e8 e9:Option V),σ = [some (.ref c),some (.ref ra),some (.int (T':Int)),some (.ref sa),some (.ref rb),some (.ref lg),e6,e7,e8,e9]∧zu H5 H'∧H' lg=some (.lst (us.map V.ref))∧SAt lg H' us out∧(∀ s∈out,JS p k pl T' (rws.take j++[rw]) s)∧(out.map (·.1)).Nodup∧∀ o∈out,o.1.dropLast∈(ss.take i).map (·.1))
    ⟨[],[],e6,e7,e8,e9,rfl,u6,f6,.nil,fun s hs=>(by cases hs),gh,fun o ho=>(by cases ho)⟩ (fun i σ H' _ ⟨_,_,_,_,_,_,_,s',_⟩=>kG.of (s' _ _ xy)) ?_ ?_⟩
   ·rintro i x σ H7 hx ⟨us,out,e6,e7,e8,e9,rfl,s7,wm,Cu,Cv,Cw,hdo⟩
    obtain⟨sb,rfl,mi⟩:=zQ hx
    obtain⟨⟨qs,ms⟩,Bl,ka,na,rs,z1,z2,z3,z4⟩:=Paired.get (xA.same s7) mi
    have hJi:=hJ _ (ap Bl)
    refine⟨sb,_,rfl,kP.of z1,rfl,_,_,rfl,_,_,rfl,rfl,?_⟩
    refine (kF rfl (kF rfl (ex4 rb na rw ms ⟨rfl,(s5.trans s7) _ _ lC,z4,by lia,fun hd H8 hhd s8 h8=>?_⟩)))
    have s08:=(s5.trans s7).trans s8
    refine (kF rfl (kF rfl (kF rfl (ex8 c tt hd p k _ pl (zaj ms rw) ⟨rfl,hc.same s08,h8,by rw [zcp]; exact nG,hn,hp,nN,lW,zl2 xB,k0,k1,by lia,fun nl ns qN H9 AH s9 h9 hTN hRN hmN=>?_⟩))))
    have hqs:qs∉(ss.take i).map (·.1):=fun hm=>by
     have vz:=(ak.mp Bl).1
     obtain⟨s',mP,e⟩:=aB.mp hm
     obtain⟨i',mW⟩:=bx mP
     rw [List.getElem?_take] at mW
     split at mW
     ·next lp =>
      have h1:(ss.map (·.1))[i']? = some s'.1:=by rw [ag,mW]; rfl
      have h2:(ss.map (·.1))[i]? = some qs:=by rw [ag,Bl]; rfl
      have:=(eD (j:=i) (ak.mp h1).1 hNd).mp (by rw [h1,h2,e])
      lia
     ·cases mW
    have E3:qN.Nodup:=hRN.2.imp (fun {a b} h e=>by rw [e] at h; lia)
    have uo:∀ r,(∀ s∈out++(qN.take r).map (fun q=>(qs++[q],zbn p pl (zaj ms rw) q pl.length)),JS p k pl T' (rws.take j++[rw]) s)∧((out++(qN.take r).map (fun q=>(qs++[q],zbn p pl (zaj ms rw) q pl.length))).map (·.1)).Nodup∧∀ o∈out++(qN.take r).map (fun q=>(qs++[q],zbn p pl (zaj ms rw) q pl.length)),o.1.dropLast∈(ss.take i).map (·.1)++[qs]:=fun r=>by
     have h1:=zl5 (fun q=>zbn p pl (zaj ms rw) q pl.length) Cw hdo hqs (E3.sublist (cq r qN))
     refine⟨fun s hs=>?_,h1⟩
     rcases aP.mp hs with h | h
     ·exact Cv s h
     ·obtain⟨qq,hq,rfl⟩:=aB.mp h
      have hm:=(hmN qq).mp (dU hq)
      exact zl4 hJi nG hm.1 (by lia)
    have E4:∀ r,(out++(qN.take r).map (fun q=>(qs++[q],zbn p pl (zaj ms rw) q pl.length))).length≤65536:=fun r=>be (zgU hp nN lW kT lA (uo r).1 (uo r).2.1) h2n
    have wo:=s9 _ _ (s8 _ _ wm)
    have AY:hd≠lg:=fun e=>by rw [e,wm] at hhd; cases hhd
    have E5:nl≠lg:=fun e=>by rw [e,s8 _ _ wm] at AH; cases AH
    have s59:zu H5 (hide H9 lg):=fun a o e=>zaI ((s7.trans (s8.trans s9)) _ _ e) (fun z=>by rw [z,E1] at e; cases e)
    have s05:=s5.trans s59
    have hSo9:=(Cu.same (s8.trans s9)).hide wo
    have Cq:=zaI h9 E5
    have h9h:=zaI (s9 _ _ h8) AY
    have E6:zbo (hide H9 lg) ns qN:=bq (fun _ _ z=>zaI z (zbJ z wo)) hTN
    have z2':=zaI (s9 _ _ (s8 _ _ z2)) (zbJ (s9 _ _ (s8 _ _ z2)) wo)
    have z3':zbo (hide H9 lg) rs qs:=bq (fun _ _ z=>zaI z (zbJ z wo)) ((z3.same s8).same s9)
    have E7:=hTN.length
    refine⟨nl,rfl,⟨_,kG.of h9⟩,za1 (K:=K) (a:=nl) (xs:=ns.map V.ref) (fun r σ H'=>∃ (vs:List Addr) (e9:Option V),σ = [some (.ref c),some (.ref ra),some (.int (T':Int)),some (.ref sa),some (.ref rb),some (.ref lg),some (.ref ka),some (.ref na),some (.ref hd),e9]∧zu (hide H9 lg) H'∧H' lg=some (.lst (vs.map V.ref))∧SAt lg H' vs (out++(qN.take r).map (fun q=>(qs++[q],zbn p pl (zaj ms rw) q pl.length))))
     ⟨us,e9,rfl,zgk _ _,wo,by rw [dz,cJ,bw]; exact Cu.same (s8.trans s9)⟩ (fun r σ H' _ ⟨_,_,_,s',_⟩=>kG.of (s' _ _ Cq)) ?_ ?_⟩
    ·rintro r x σ Ha hx ⟨vs,e9',rfl,vG,uR,Bm⟩
     obtain⟨rq,rfl,EX⟩:=zQ hx
     obtain⟨qq,Bj,Bn⟩:=Paired.get E6 EX
     have rY:=Bm.length
     have hcr:=E4 r
     have E8:=z3'.length
     have tJ:qs.length=(rws.take j).length:=hJi.len
     rw [aJ] at tJ
     have hjlt:=(ak.mp wj).1
     refine (kF rfl ⟨.inl ⟨rfl,_,kG.of uR⟩,(kF rfl (kF rfl ⟨by show 1≤sizeLine; lia,fun x1 uM=>?_⟩))⟩)
     have w1:=zc (o:=.tup [.ref rq]) uM
     have g1:kL Ha x1 (.tup [.ref rq]) x1=some (.tup ([rq].map V.ref)):=zb
     generalize kL Ha x1 (.tup [.ref rq])=Hb at w1 g1 ⊢
     refine (ex4 ka x1 _ _ ⟨rfl,rfl,w1 _ _ (vG _ _ z2'),g1,by rw [ab,E8]; show _+1≤sizeLine; lia,by simp,fun x2 Hc w2 g2=>?_⟩)
     have Bo:=w1.trans w2
     have sHc:=s05.trans (vG.trans Bo)
     refine (kF rfl (kF rfl (kF rfl (ex9 c tt hd rq p k pl qq (zaj ms rw) ⟨rfl,hc.same sHc,(vG.trans Bo) _ _ h9h,by rw [zcp]; exact nG,(vG.trans Bo) _ _ Bn,by lia,by lia,lW,by lia,fun fl Hd v7 w3 g3=>?_⟩))))
     refine⟨by show 2≤sizeLine; lia,fun pr Ao=>?_⟩
     have w4:=zc (o:=.tup [.ref x2,.ref fl]) Ao
     have g4:kL Hd pr (.tup [.ref x2,.ref fl]) pr=some (.tup [.ref x2,.ref fl]):=zb
     generalize kL Hd pr (.tup [.ref x2,.ref fl])=He at w4 g4 ⊢
     have Bp:=Bo.trans (w3.trans w4)
     have Bq:=Bp _ _ uR
     refine (ex3 lg _ _ ⟨rfl,rfl,Bq,by rw [ab]; lia,?_⟩)
     have E9:hide H9 lg lg=none:=by unfold hide; rw [if_pos rfl]
     have Br:fl≠lg:=fun e=>by
      have:=Bo _ _ uR
      rw [← e,v7] at this
      cases this
     have hSe:=Bm.same Bp
     refine⟨vs++[pr],(kF rfl ⟨z0 (vG.trans Bp) E9,by rw [zb,aA]; rfl,?_⟩)⟩
     rw [take_snoc Bj,aA,← aV]
     refine bO (hSe.put Bq) ⟨x2,fl,rs++[rq],?_,?_,?_,?_,Br⟩
     ·rw [zq (zbJ g4 Bq)]; exact g4
     ·have sE:=(w3.trans w4) _ _ g2
      rw [zq (zbJ sE Bq),sE,aA]
     ·exact zbo.put (bO (z3'.same (vG.trans Bp)) ((vG.trans Bp) _ _ Bn)) Bq
     ·rw [zq Br]
      exact w4 _ _ g3
    ·rintro σ Ha ⟨vs,e9',rfl,vG,uR,Bm⟩
     rw [ab,E7,aZ] at Bm
     have h3:=uo qN.length
     rw [aZ] at h3
     refine (ex6 vs _ _ _ _ _ ⟨rfl,s59.trans vG,uR,Bm,h3.1,h3.2.1,?_⟩)
     rw [take_snoc Bl,aA]
     exact h3.2.2
   ·rintro σ H7 ⟨us,out,e6,e7,e8,e9,rfl,s7,wm,Cu,Cv,Cw,hdo⟩
    refine (kF rfl ?_)
    refine (ex9 lg us out _ _ _ _ _ _ ⟨rfl,s5.trans s7,wm,Cu.zero,by rw [BG]; exact Cv,Cw,be (zgU hp nN lW kT lA Cv Cw) h2n⟩)
  ·rintro σ H5 ⟨sa,bs,ss,e4,e5,e6,e7,e8,e9,rfl,s5,xy,xA,hJ,hNd,EZ⟩
   rw [ab,qY,aZ] at hJ
   have E2:=xA.length
   refine (kF rfl ⟨sa,rfl,⟨_,kG.of xy⟩,zY (n:=bs.length) (fun i ys H'=>H'=H5∧∃ us:List Addr,ys=us.map V.ref∧us.length=i) ⟨rfl,[],rfl,rfl⟩ ?_ ?_ ?_ ?_⟩)
   ·rintro i ys H6 hi ⟨rfl,_⟩
    exact⟨_,.ref bs[i],kG.of xy,by rw [ag,am hi]; rfl⟩
   ·rintro ys H6 ⟨rfl,_⟩
    exact⟨_,kG.of xy,by rw [ab]; exact af _⟩
   ·rintro i x ys H6 H7 hi ⟨rfl,us,rfl,mY⟩ ⟨rfl,hx⟩
    obtain⟨sb,rfl,mi⟩:=zQ (hx _ (kG.of xy))
    obtain⟨⟨qs,ms⟩,Bl,ka,na,rs,z1,z2,z3,z4⟩:=Paired.get xA mi
    refine gY2 (kP.of z1) ?_
    exact (kF rfl ⟨by rw [ab]; lia,rfl,us++[ka],by rw [aA]; rfl,by rw [ar,mY]; rfl⟩)
   ·rintro ys H6 D ⟨rfl,us,rfl,mY⟩ hD
    exact q D us ss _ (s5.trans (zc hD)) zb (by lia) hJ
end
end My
end
section
namespace My
open PySem L2 PyProof.Rows
section
variable {P:Program} {w:World} {K:ah} {mg:Str→Option Value} {base:Heap} {t:Adr}
def RwN (n:Nat) (rl:Addr) (H:Hp):List Addr→List (List (Option Int))→Prop:=Paired fun b rw=>(H b=some (.lst (rw.map lL))∧rw.length=n)∧b≠rl
theorem RwN.same {n:Nat} {rl:Addr} {H H':Hp} (s:zu H H') {bs:List Addr} {rws:List (List (Option Int))} (h:RwN n rl H bs rws):RwN n rl H' bs rws:=bq (fun _ _ ⟨⟨z,z1⟩,z2⟩=>⟨⟨s _ _ z,z1⟩,z2⟩) h
theorem RwN.put {n:Nat} {rl:Addr} {H:Hp} {bs:List Addr} {rws:List (List (Option Int))} {o:HO} (h:RwN n rl H bs rws):RwN n rl (kL H rl o) bs rws:=bq (fun _ _ ⟨⟨z,z1⟩,z2⟩=>⟨⟨by rw [zq z2]; exact z,z1⟩,z2⟩) h
theorem RwN.out {n:Nat} {rl:Addr} {H:Hp} {bs:List Addr} {rws:List (List (Option Int))} (h:RwN n rl H bs rws):zdJ n H bs rws:=bq (fun _ _ ⟨z,_⟩=>z) h
def zjt (K:ah):Sp:=fun vs H Q _=>∃ (a c tt:Addr) (ns:List Int) (at' p:Int) (k many:Nat) (pl:List Int),vs = [.ref a,.int at',.ref c,.int (many:Int)]∧kG K H a (ns.map V.int)∧ns.length≤63∧0≤at'∧at'≤900∧za4 H c tt p k pl∧p∈zm∧pl.length≤16∧(∀ x∈pl,0≤x∧x < p)∧many≤4 ∧
 ∀ (l:Addr) (k7:List Addr) (rws:List (List (Option Int))) (H':Hp),H l=none→zu H H'→H' l=some (.lst (k7.map V.ref))→zdJ pl.length H' k7 rws→rws.length=many→(∀ rw∈rws,∀ z,some z∈rw→0≤z∧z < p)→Q (.ref l) H'
structure RwI (p:Int) (n i:Nat) (rw:List (Option Int)):Prop where
 len:rw.length=n
 rg:∀ z,some z∈rw→0≤z∧z < p
 at':∀ j,i≤j→j < n→∃ y,rw[j]? = some (some y)
theorem RwI.set {p:Int} {n i:Nat} {rw:List (Option Int)} (h:RwI p n i rw) {o:Option Int} (ho:∀ z,o=some z→0≤z∧z < p):RwI p n (i+1) (rw.set i o):=by
 refine⟨by rw [ck]; exact h.len,fun z hz=>?_,fun j h1 h2=>?_⟩
 ·rcases cV hz with h1 | h1
  ·exact h.rg z h1
  ·exact ho z h1.symm
 ·rw [bN (by lia)]
  exact h.at' j (by lia) h2
theorem RwI.set' {p:Int} {n i:Nat} {rw:List (Option Int)} (h:RwI p n i rw) {y:Int} (ho:0≤y∧y < p):RwI p n i (rw.set i (some y)):=by
 refine⟨by rw [ck]; exact h.len,fun z hz=>?_,fun j h1 h2=>?_⟩
 ·rcases cV hz with h1 | h1
  ·exact h.rg z h1
  ·cases h1
   exact ho
 ·by_cases e:i=j
  ·subst e
   exact⟨y,cp (by rw [h.len]; exact h2)⟩
  ·rw [bN e]
   exact h.at' j h1 h2
theorem RwI.next {p:Int} {n i:Nat} {rw:List (Option Int)} (h:RwI p n i rw):RwI p n (i+1) rw:=⟨h.len,h.rg,fun j h1 h2=>h.at' j (by lia) h2⟩
theorem zaz:FnScope ["script","at","code","many","p","k","places","draws","rows","j","one","row","number","draw"] ["script","at","code","many"] (zh zcn):=⟨rfl,rfl,rfl,by decide +kernel,rfl,by decide +kernel,by decide +kernel⟩
theorem zju {fd:FuncData} (T:Txt K mg t) (F:Fun K "_law_rows" "_law_rows" zcn t.l_rows fd):FnOk P w K mg base CX0 3 t.l_rows fd ["script","at","code","many"] (zjt K):=by
 obtain⟨m7,lj,lu⟩:=T.f_l_draws
 have lM:=zcS (P:=P) (w:=w) (base:=base) T lj
 obtain⟨oB,mN,lQ⟩:=T.f_l_polynomial
 have o8:=zdL (P:=P) (w:=w) (base:=base) T mN
 obtain⟨o9,lN,lO⟩:=T.f_l_value
 have mQ:=zeF (P:=P) (w:=w) (base:=base) T lN
 refine F.ok zaz (fun vs H Q E h=>?_) (fun ly A outer s H vs Q E hr h=>?_)
 ·obtain⟨a,c,tt,ns,at',p,k,many,pl,rfl,_⟩:=h
  rfl
 ·obtain⟨a,c,tt,ns,at',p,k,many,pl,rfl,hS,kQ,a0,a1,hc,hp,hn,lW,hm4,q⟩:=h
  refine⟨_,#[zd,#[zaG,#[pvx,2],#[zav,#[zj,#[zf,4,zaz.nd,(cn rfl)],#[zj,#[zf,5,zaz.nd,(au rfl)],#[zj,#[zf,6,zaz.nd,(au rfl)],#[zK]]]]]],#[zd,#[zp,7,zaz.nd,(au rfl),#[zt,lM,(hr.mono (by decide)),T.m_l_draws,lj.kp,lu,#[zO],#[za,#[pvx,0],by exact #[za,#[pvx,1],#[za,#[zg],#[za,#[zg],#[ze]]]]]]],#[zd,#[zp,8,zaz.nd,(au rfl),#[z9,#[ze]]],#[zd,#[zam,aX,#[zaF,T.range_,#[za,#[pvx,3],#[ze]]],#[zf,9,zaz.nd,(au rfl)],#[zd,#[zp,10,zaz.nd,(cn rfl),#[zt,o8,(hr.mono (by decide)),T.m_l_polynomial,mN.kp,lQ,#[zO],#[za,#[zt,lM,(hr.mono (by decide)),T.m_l_draws,lj.kp,lu,#[zO],#[za,#[pvx,0],by exact #[za,#[zi,#[zB],#[zi,#[zB],#[pvx,1],#[zg]],#[pvx,9]],#[za,#[zg],#[za,#[zg],#[ze]]]]]],#[za,#[pvx,4],#[za,#[pvx,5],#[ze]]]]]],#[zd,#[zaA,11,zaz.nd,(au rfl),(CompSc.of (N':=["x","p","one"]) (ix:=[none,some 4,some 10]) (zh zcn) ["script","at","code","many","p","k","places","draws","rows","j","one","row","number","draw"] rfl rfl (by decide +kernel)),#[zai],#[zg3,#[pvx,6]],(fun _ _ _ _=>#[zf,0,(show (["x","p","one"]:List Str).Nodup by decide +kernel),(au rfl)]),(fun _ _ _ _=>#[zG]),(fun _ _ _ _=>#[zt,mQ,(hr.mono (by decide)),T.m_l_value,lN.kp,lO,#[zO],#[za,#[pvx,1],#[za,#[pvx,2],#[za,#[pvx,0],#[ze]]]]])],#[zd,#[zam,aX,#[zaF,T.range_,#[za,#[zw,#[zr],T.len_,bM,#[za,#[pvx,6],#[ze]]],#[ze]]],#[zf,12,zaz.nd,(au rfl)],#[zd,#[zp,13,zaz.nd,(au rfl),#[zi,#[zfn],#[zM,#[zC],#[pvx,7],#[pvx,12]],#[zg]]],#[zd,(zey #[zaJ,(@PW.pt _ _ _ #[zd3,#[zy,#[zce],#[zi,#[zH],#[zM,#[zC],#[pvx,7],#[pvx,12]],#[zg]],#[zg],(zL _)],#[zcU,#[zy,#[zf2],#[zi,#[zH],#[zM,#[zC],#[pvx,7],#[zg]],#[zg]],#[zg],(zL _)]]]),#[zl,#[zaG,#[zi,#[zH],#[zi,#[zB],#[zi,#[zB],#[zM,#[zC],#[pvx,11],#[pvx,12]],#[zg]],#[zi,#[zH],#[zi,#[zB],#[pvx,13],#[zi,#[zU],#[zg],#[pvx,9]]],#[zi,#[zba],#[pvx,4],#[zg]]]],#[pvx,4]],#[zcL,#[pvx,11],#[pvx,12],set_list]]],#[zZ]]),#[zd,(zey #[zaJ,(@PW.pt _ _ _ #[zd3,#[zy,#[zce],#[zi,#[zH],#[zM,#[zC],#[pvx,7],#[zi,#[zB],#[zg],#[pvx,12]]],#[zg]],#[pvx,9],(zL _)],#[zcU,#[zy,#[zce],#[zi,#[zH],#[zM,#[zC],#[pvx,7],#[zg]],#[zg]],#[zg],(zL _)]]]),#[zl,#[zaG,#[zcb],#[zcL,#[pvx,11],#[pvx,12],set_list]]],#[zZ]]),#[zl,#[zaJ,#[zy,#[zce],#[zi,#[zH],#[zi,#[zfn],#[zM,#[zC],#[pvx,7],#[zi,#[zB],#[zg],#[pvx,12]]],#[zg]],#[zg]],#[pvx,9],(zL _)],#[zl,#[zaG,#[zi,#[zH],#[pvx,13],#[pvx,4]],#[zcL,#[pvx,11],#[pvx,12],set_list]]],#[zZ]]]]]]],#[zl,#[zbS,#[zdx,bX,cg,ci,#[zbb],#[pvx,8],#[za,#[pvx,11],#[ze]]]]]]]]],#[zl,#[zE,#[pvx,8]]]]]]],?_⟩
  have om:=a7
  have rp:=zo hp
  refine⟨_,rfl,c,_,rfl,kP.of hc.1,rfl,_,_,rfl,_,_,rfl,_,_,rfl,rfl,?_⟩
  refine (kF rfl (kF rfl (ex5 a ns at' 40 27720 ⟨rfl,hS,kQ,a0,by lia,by decide,by decide,by decide,by decide,fun dl ds H1 An s1 hd uX=>?_⟩)))
  have dat:∀ m:Int,0≤m→m < 40→∃ c:Int,atI (ds.map V.int) m=some (.int c):=fun m h0 h1=>zc0 h0 (by have:ds.length=40:=hd.1; lia)
  obtain⟨d38,e38⟩:=dat 38 (by decide) (by decide)
  obtain⟨d39,e39⟩:=dat 39 (by decide) (by decide)
  refine⟨bb _,fun rl nG=>?_⟩
  have u2:=zc (o:=.lst []) nG
  refine⟨_,rfl,_,rfl,by lia,by lia,zaZ (lo:=0) (n:=((many:Nat):Int).toNat) (fun j σ H'=>∃ (us:List Addr) (rws:List (List (Option Int))) (e9 mh oA nH nI:Option V),σ = [some (.ref a),some (.int at'),some (.ref c),some (.int (many:Int)),some (.int p),some (.int (k:Int)),some (.ref tt),some (.ref dl),some (.ref rl),e9,mh,oA,nH,nI]∧zu H1 H'∧H' rl=some (.lst (us.map V.ref))∧RwN pl.length rl H' us rws∧rws.length=j∧∀ rw∈rws,∀ z,some z∈rw→0≤z∧z < p)
   ⟨[],[],none,none,none,none,none,rfl,u2,zb,.nil,rfl,fun rw h=>(by cases h)⟩ ?_ ?_⟩
  ·rintro j σ H3 hj ⟨us,rws,e9,mh,oA,nH,nI,rfl,s3,pG,uP,tJ,nF⟩
   have hj4:j < 4:=by lia
   have Bi:=s1.trans s3
   refine (kF rfl (kF rfl (kN rfl rfl (kF rfl (kN rfl rfl (ex5 a ns _ 6 27720 ⟨rfl,Bi.seq hS,kQ,by lia,by lia,by decide,by decide,by decide,by decide,fun l4 d4 H4 hl4 s4 hd4 h4=>?_⟩))))))
   have hd4l:d4.length=6:=hd4.1
   refine (kF rfl (kF rfl (ex4 l4 d4 p (k:Int) ⟨rfl,kG.of h4,by lia,by lia,fun po lq H5 Ar s5 Ao h5 hplen=>?_⟩)))
   have pO:=s4.trans s5
   have vE:=hc.same (Bi.trans pO)
   refine (kF rfl ⟨tt,rfl,⟨_,kP.of vE.2⟩,ziZ (K:=K) (xs:=pl.map V.int) (fs:=(pl.map fun x=>some (zn p x lq)).map lL) (kP.of vE.2) (by rw [ab,ab,ab]) (by rw [ab]; lia) ?_ ?_⟩)
   ·intro i2 x y R B hx hy hR
    obtain⟨v,rfl,hv⟩:=zae hx
    rw [ag,ag,hv] at hy
    obtain rfl:V.int (zn p v lq)=y:=aR hy
    obtain⟨x0,x1⟩:=lW v (ap hv)
    refine gY ?_
    exact (kF rfl (kF rfl (kF rfl (ex4 p v po lq ⟨rfl,.inr (kP.of h5),by lia,by lia,x0,x1,hR⟩))))
   intro ra mf
   have sN:=mf
   have Bs:ra≠rl:=fun e=>by rw [e,pO _ _ pG] at mf; cases mf
   have hI0:RwI p pl.length 0 (pl.map fun x=>some (zn p x lq)):=by
    refine⟨by rw [ab],fun z hz=>?_,fun i2 _ h2=>⟨zn p pl[i2] lq,by rw [ag,am h2]; rfl⟩⟩
    obtain⟨x,_,e⟩:=aB.mp hz
    cases e
    exact⟨zas (by lia) _,zat (by lia) _⟩
   refine (kF rfl ⟨tt,(kF rfl ⟨.inr (kP.of ((zc mf) _ _ vE.2)),(kF rfl ⟨by rw [ab]; lia,by rw [ab]; lia,?_⟩)⟩)⟩)
   rw [ab,bH]
   refine zaZ (lo:=0) (n:=pl.length) (fun i σ H'=>∃ (rw:List (Option Int)) (nH nI:Option V),σ = [some (.ref a),some (.int at'),some (.ref c),some (.int (many:Int)),some (.int p),some (.int (k:Int)),some (.ref tt),some (.ref dl),some (.ref rl),some (.int (0+(j:Int))),some (.ref po),some (.ref ra),nH,nI]∧zu H5 H'∧H' ra=some (.lst (rw.map lL))∧RwI p pl.length i rw)
    ⟨_,_,_,rfl,zc mf,zb,hI0⟩ ?_ ?_
   ·rintro i σ H6 hi ⟨rw,nH,nI,rfl,s6,pH,hI⟩
    have uY:=s6 _ _ (pO _ _ (s3 _ _ uX))
    obtain⟨di,ei⟩:=dat (0+(i:Int)) (by lia) (by lia)
    obtain⟨dj,ej⟩:=dat (16+(0+(i:Int))) (by lia) (by lia)
    refine (kF rfl (kF rfl (ex4 dl _ _ _ ⟨rfl,rfl,kG.of uY,ei,(kN rfl rfl ⟨⟨by decide,by decide⟩,?_⟩)⟩)))
    refine⟨fun σ H'=>∃ (rw:List (Option Int)),σ = [some (.ref a),some (.int at'),some (.ref c),some (.int (many:Int)),some (.int p),some (.int (k:Int)),some (.ref tt),some (.ref dl),some (.ref rl),some (.int (0+(j:Int))),some (.ref po),some (.ref ra),some (.int (0+(i:Int))),some (.int (di / 6))]∧zu H5 H'∧H' ra=some (.lst (rw.map lL))∧RwI p pl.length i rw,?_,?_⟩
    ·obtain⟨y,hy⟩:=hI.at' i (af _) hi
     have Fb:atI (rw.map lL) (0+(i:Int))=some (.int y):=by rw [cG]; exact zag (by rw [ag,hy]; rfl)
     have keep:(∃ (rw:List (Option Int)),([some (.ref a),some (.int at'),some (.ref c),some (.int (many:Int)),some (.int p),some (.int (k:Int)),some (.ref tt),some (.ref dl),some (.ref rl),some (.int (0+(j:Int))),some (.ref po),some (.ref ra),some (.int (0+(i:Int))),some (.int (di / 6))]:L2.St) = [some (.ref a),some (.int at'),some (.ref c),some (.int (many:Int)),some (.int p),some (.int (k:Int)),some (.ref tt),some (.ref dl),some (.ref rl),some (.int (0+(j:Int))),some (.ref po),some (.ref ra),some (.int (0+(i:Int))),some (.int (di / 6))]∧zu H5 H6∧H6 ra=some (.lst (rw.map lL))∧RwI p pl.length i rw):=⟨rw,rfl,s6,pH,hI⟩
     refine (kF rfl (kF rfl (ex4 dl _ _ _ ⟨rfl,rfl,kG.of uY,ei,(kN rfl rfl ⟨(by show (0:Int) < 3; decide),rfl,(kF rfl (zaf (fun _=>?_) (fun _=>zdj keep)))⟩)⟩)))
     refine (kF rfl (ex4 dl _ _ _ ⟨rfl,rfl,kG.of uY,e38,(kN rfl rfl ⟨(by show (0:Int) < 4; decide),(kN rfl rfl (kF rfl (zaf (fun _=>?_) (fun _=>keep))))⟩)⟩))
     refine (kF rfl (kF rfl (ex4 ra _ _ _ ⟨rfl,rfl,kG.of pH,Fb,(kN rfl rfl (kF rfl (kF rfl (kN rfl rfl ⟨.inl ⟨by decide,by decide⟩,(kN rfl rfl (kF rfl (kN rfl rfl (kN rfl rfl ⟨by lia,(kN rfl rfl (kF rfl (kN rfl rfl ⟨by lia,?_⟩)))⟩))))⟩))))⟩)))
     refine (kF rfl (kF rfl (ex4 ra _ _ i ⟨rfl,rfl,pH,by rw [cG]; exact zbY (by rw [ab,hI.len]; exact hi),?_⟩)))
     exact⟨rw.set i (some ((y+1+(di / 6+5*(0+(j:Int))) % (p - 1)) % p)),rfl,z0 s6 sN,by rw [zb,eM]; rfl,hI.set' ⟨aK _ (by lia),aC _ (by lia)⟩⟩
    ·clear hI pH uY s6
     rintro σ H6 ⟨rw,rfl,s6,pH,hI⟩
     have uY:=s6 _ _ (pO _ _ (s3 _ _ uX))
     refine⟨fun σ H'=>∃ (rw:List (Option Int)),σ = [some (.ref a),some (.int at'),some (.ref c),some (.int (many:Int)),some (.int p),some (.int (k:Int)),some (.ref tt),some (.ref dl),some (.ref rl),some (.int (0+(j:Int))),some (.ref po),some (.ref ra),some (.int (0+(i:Int))),some (.int (di / 6))]∧zu H5 H'∧H' ra=some (.lst (rw.map lL))∧RwI p pl.length (i+1) rw,?_,?_⟩
     ·have keep:(∃ (rw:List (Option Int)),([some (.ref a),some (.int at'),some (.ref c),some (.int (many:Int)),some (.int p),some (.int (k:Int)),some (.ref tt),some (.ref dl),some (.ref rl),some (.int (0+(j:Int))),some (.ref po),some (.ref ra),some (.int (0+(i:Int))),some (.int (di / 6))]:L2.St) = [some (.ref a),some (.int at'),some (.ref c),some (.int (many:Int)),some (.int p),some (.int (k:Int)),some (.ref tt),some (.ref dl),some (.ref rl),some (.int (0+(j:Int))),some (.ref po),some (.ref ra),some (.int (0+(i:Int))),some (.int (di / 6))]∧zu H5 H6∧H6 ra=some (.lst (rw.map lL))∧RwI p pl.length (i+1) rw):=⟨rw,rfl,s6,pH,hI.next⟩
      refine (kF rfl (kF rfl (kN rfl rfl (ex4 dl _ _ _ ⟨rfl,rfl,kG.of uY,ej,(kN rfl rfl ⟨(by show (0:Int) < 11; decide),(kF rfl ⟨rfl,(kF rfl (zaf (fun _=>?_) (fun _=>zdj keep)))⟩)⟩)⟩))))
      refine (kF rfl (ex4 dl _ _ _ ⟨rfl,rfl,kG.of uY,e39,(kN rfl rfl ⟨(by show (0:Int) < 2; decide),rfl,(kF rfl (zaf (fun _=>?_) (fun _=>keep)))⟩)⟩))
      refine (kF rfl (kF rfl (ex4 ra _ _ i ⟨rfl,rfl,pH,by rw [cG]; exact zbY (by rw [ab,hI.len]; exact hi),?_⟩)))
      exact⟨rw.set i none,rfl,z0 s6 sN,by rw [zb,eM]; rfl,hI.set fun z h=>(by cases h)⟩
     ·clear hI pH uY s6
      rintro σ H6 ⟨rw,rfl,s6,pH,hI⟩
      have uY:=s6 _ _ (pO _ _ (s3 _ _ uX))
      refine (kF rfl (kF rfl (kN rfl rfl (ex4 dl _ _ _ ⟨rfl,rfl,kG.of uY,ej,(kN rfl rfl ⟨⟨by decide,by decide⟩,(kN rfl rfl ⟨(by show (0:Int) < 9; decide),(kF rfl ⟨rfl,(kF rfl (zaf (fun _=>?_) (fun _=>(ex3 rw _ _ ⟨rfl,s6,pH,hI⟩))))⟩)⟩)⟩)⟩))))
      refine (kF rfl (kF rfl (kN rfl rfl ⟨by lia,(kF rfl (kF rfl (ex4 ra _ _ i ⟨rfl,rfl,pH,by rw [cG]; exact zbY (by rw [ab,hI.len]; exact hi),?_⟩)))⟩)))
      refine (ex3 (rw.set i (some (di / 6 % p))) _ _ ⟨rfl,z0 s6 sN,by rw [zb,eM]; rfl,by rw [ck]; exact hI.len,fun z hz=>?_,fun j2 h1 h2=>?_⟩)
      ·rcases cV hz with h1 | h1
       ·exact hI.rg z h1
       ·cases h1
        exact⟨aK _ (by lia),aC _ (by lia)⟩
      ·rw [bN (by lia)]
       exact hI.at' j2 h1 h2
   ·rintro σ H6 ⟨rw,e12',e13',rfl,s6,pH,hI⟩
    have vB:=s6 _ _ (pO _ _ pG)
    have mY:=uP.length
    refine (kF rfl ⟨.inl ⟨rfl,_,kG.of vB⟩,(kF rfl (ex3 rl _ _ ⟨rfl,rfl,vB,by rw [ab]; lia,?_⟩))⟩)
    refine (ex7 (us++[ra]) (rws++[rw]) _ _ _ _ _ ⟨rfl,z0 (s3.trans (pO.trans s6)) nG,by rw [zb,aA]; rfl,bO ((uP.same (pO.trans s6)).put) ⟨⟨by rw [zq Bs]; exact pH,hI.len⟩,Bs⟩,by rw [ar,tJ]; rfl,fun sj hw=>?_⟩)
    rcases aP.mp hw with h | h
    ·exact nF sj h
    ·rw [aU.mp h]
     exact hI.rg
  ·rintro σ H3 ⟨us,rws,e9,mh,oA,nH,nI,rfl,s3,pG,uP,tJ,nF⟩
   exact (kF rfl (q rl us rws H3 (s1.free nG) (s1.trans s3) pG uP.out (by lia) nF))
end
end My
end
section
namespace My
open PySem L2 PyProof.Rows
section
variable {P:Program} {w:World} {K:ah} {mg:Str→Option Value} {base:Heap} {t:Adr}
theorem zk1:∀ {pl:List Int} {rw:List (Option Int)} {i:Nat} {x y:Int},pl[i]? = some x→rw[i]? = some (some y)→(x,y)∈lh pl rw
 | [],_,_,_,_,h,_=>(by simp at h)
 | _ :: _,[],_,_,_,_,h=>(by simp at h)
 | a :: pl,o :: rw,0,x,y,h1,h2=>by
  simp only [fu,gS] at h1 h2
  subst h1 h2
  exact aF
 | a :: pl,o :: rw,i+1,x,y,h1,h2=>by
  rw [dn] at h1 h2
  have ih:=zk1 h1 h2
  cases o with
  | none=>exact ih
  | some z=>exact aw _ ih
def zhE (K:ah):Sp:=fun vs H Q _=>∃ (c tt ra la l3:Addr) (p e:Int) (k:Nat) (pl:List Int) (k7 us:List Addr) (rws:List (List (Option Int))) (left:List Int) (kW:List (List Int)),vs = [.ref c,.ref ra,.int e,.ref la,.ref l3]∧za4 H c tt p k pl∧H ra=some (.lst (k7.map V.ref))∧zdJ pl.length H k7 rws∧H la=some (.tup (left.map V.int))∧H l3=some (.lst (us.map V.ref))∧zbo H us kW∧kW.length=rws.length∧p∈zm∧(∀ x∈pl,0≤x∧x < p)∧(∀ rw∈rws,∀ z,some z∈rw→0≤z∧z < p) ∧
 (∀ (j:Nat) rw right,rws[j]? = some rw→kW[j]? = some right→∀ a∈lh pl rw,zn p a.1 right=zn p a.1 left*a.2 % p)∧∀ H',zu H H'→Q (.bl true) H'
theorem zaD:FnScope ["code","rows","e","left","rights","p","k","places","row","right","number","entry","one","other"] ["code","rows","e","left","rights"] (zh zcE):=⟨rfl,rfl,rfl,by decide +kernel,rfl,by decide +kernel,by decide +kernel⟩
theorem zhF {fd:FuncData} (T:Txt K mg t) (F:Fun K "_law_right" "_law_right" zcE t.l_right fd):FnOk P w K mg base CX0 2 t.l_right fd ["code","rows","e","left","rights"] (zhE K):=by
 obtain⟨o9,lN,lO⟩:=T.f_l_value
 have mQ:=zeF (P:=P) (w:=w) (base:=base) T lN
 refine F.ok zaD (fun vs H Q E h=>?_) (fun ly A outer s H vs Q E hr h=>?_)
 ·obtain⟨c,tt,ra,la,l3,p,e,k,pl,k7,us,rws,left,kW,rfl,_⟩:=h
  rfl
 ·obtain⟨c,tt,ra,la,l3,p,e,k,pl,k7,us,rws,left,kW,rfl,hc,mf,tK,Ed,yb,hT,xq,hp,lW,nF,vZ,q⟩:=h
  refine⟨_,#[zd,#[zaG,#[pvx,0],#[zav,#[zj,#[zf,5,zaD.nd,(au rfl)],#[zj,#[zf,6,zaD.nd,(au rfl)],#[zj,#[zf,7,zaD.nd,(au rfl)],#[zK]]]]]],#[zd,#[zam,aX,#[zcY,T.zip_,#[za,#[pvx,1],#[za,#[pvx,4],#[ze]]]],#[zav,#[zj,#[zf,8,zaD.nd,(au rfl)],#[zj,#[zf,9,zaD.nd,(au rfl)],#[zK]]]],#[zl,#[zam,aX,#[zcg,T.enumerate_,#[za,#[pvx,8],#[ze]]],#[zav,#[zj,#[zf,10,zaD.nd,(au rfl)],#[zj,#[zf,11,zaD.nd,(au rfl)],#[zK]]]],#[zd,(@zmv _ _ (12) (13) _ _ _ _ _ _ _ _ _ _ _ rfl zaD.nd rfl rfl (by decide) rfl rfl #[za,#[zt,mQ,(hr.mono (by decide)),T.m_l_value,lN.kp,lO,#[zO],#[za,#[pvx,5],#[za,#[pvx,3],#[za,#[zM,#[zbv],#[pvx,7],#[pvx,10]],#[ze]]]]],#[za,#[zt,mQ,(hr.mono (by decide)),T.m_l_value,lN.kp,lO,#[zO],#[za,#[pvx,5],#[za,#[pvx,9],#[za,#[zM,#[zbv],#[pvx,7],#[pvx,10]],#[ze]]]]],#[ze]]] (by with_unfolding_all rfl) (by rfl)),#[zl,#[zaJ,(@PW.pt _ _ _ #[zd3,#[zy,#[zfo],#[pvx,11],#[zcb],(zL _)],#[zcU,#[zy,#[zdv],#[zi,#[zH],#[zi,#[zU],#[pvx,12],#[pvx,11]],#[pvx,5]],#[pvx,13],(zL _)]]]),#[zl,#[zE,#[zbB]]],#[zZ]]]]]]],#[zl,#[zE,#[zbB]]]]],?_⟩
  have om:=a7
  have rp:=zo hp
  have p0:0 < p:=by lia
  have qY:k7.length=rws.length:=tK.length
  have mY:us.length=kW.length:=hT.length
  refine⟨_,rfl,c,_,rfl,kP.of hc.1,rfl,_,_,rfl,_,_,rfl,_,_,rfl,rfl,?_⟩
  refine (kF rfl (kF rfl (ex4 ra l3 _ _ ⟨rfl,kG.of mf,kG.of yb,zcN (n:=k7.length) (fun j σ H'=>∃ (e8 e9 mh oA nH nI:Option V),σ = [some (.ref c),some (.ref ra),some (.int e),some (.ref la),some (.ref l3),some (.int p),some (.int (k:Int)),some (.ref tt),e8,e9,mh,oA,nH,nI]∧zu H H') (ex6 none none none none none none ⟨rfl,fun _ _ e=>e⟩) ?_ ?_ ?_ ?_⟩)))
  ·rintro j σ H2 hj ⟨e8,e9,mh,oA,nH,nI,rfl,s2⟩
   exact⟨_,_,.ref k7[j],.ref (us[j]'(by lia)),kG.of (s2 _ _ mf),kG.of (s2 _ _ yb),by rw [ag,am hj]; rfl,by rw [ag,am (by lia)]; rfl⟩
  ·rintro σ H2 ⟨e8,e9,mh,oA,nH,nI,rfl,s2⟩
   exact⟨_,_,kG.of (s2 _ _ mf),kG.of (s2 _ _ yb),by rw [ab,ab]; exact .inl (af _)⟩
  ·rintro j x σ H2 H3 hj ⟨e8,e9,mh,oA,nH,nI,rfl,s2⟩ ⟨T,u,v,se,rfl,rfl,hu,hv⟩
   obtain⟨r,rfl,wj⟩:=zQ (hu _ (kG.of (s2 _ _ mf)))
   obtain⟨rt,rfl,hrt⟩:=zQ (hv _ (kG.of (s2 _ _ yb)))
   obtain⟨rw,qF,lC,rC⟩:=Paired.get tK wj
   obtain⟨right,rJ,Fc⟩:=Paired.get hT hrt
   have xB:=nF rw (ap qF)
   have Fd:=vZ j rw right qF rJ
   have t3:=zc (o:=.tup [.ref r,.ref rt]) se
   refine⟨T,_,rfl,kP.of zb,rfl,_,_,rfl,_,_,rfl,rfl,?_⟩
   have s3:=s2.trans t3
   generalize kL H2 T (.tup [.ref r,.ref rt])=H3 at t3 s3 ⊢
   have pG:=s3 _ _ lC
   refine (kF rfl ⟨r,(kF rfl ⟨kG.of pG,zcN (n:=rw.length) (fun m σ H'=>∃ (f10 f11 f12 qe:Option V),σ = [some (.ref c),some (.ref ra),some (.int e),some (.ref la),some (.ref l3),some (.int p),some (.int (k:Int)),some (.ref tt),some (.ref r),some (.ref rt),f10,f11,f12,qe]∧zu H3 H') (ex4 _ _ _ _ ⟨rfl,fun _ _ e=>e⟩) ?_ ?_ ?_ ?_⟩)⟩)
   ·rintro m σ H8 hm ⟨qe,qM,Fe,Ff,rfl,s8⟩
    exact⟨_,lL rw[m],kG.of (s8 _ _ pG),by rw [ag,am hm]; rfl⟩
   ·rintro σ H8 ⟨qe,qM,Fe,Ff,rfl,s8⟩
    exact⟨_,kG.of (s8 _ _ pG),by rw [ab]; exact af _⟩
   ·rintro m x σ H8 H9 hm ⟨qe,qM,Fe,Ff,rfl,s8⟩ ⟨T2,v,se,rfl,rfl,hv⟩
    obtain⟨o,rfl,ho⟩:=zct (hv _ (kG.of (s8 _ _ pG)))
    have t9:=zc (o:=.tup [.int (m:Int),lL o]) se
    refine⟨T2,_,rfl,kP.of zb,rfl,_,_,rfl,_,_,rfl,rfl,?_⟩
    have s9:=s8.trans t9
    generalize kL H8 T2 (.tup [.int (m:Int),lL o])=H9 at t9 s9 ⊢
    obtain⟨x,hx⟩:∃ x,pl[m]? = some x:=⟨pl[m]'(by lia),by simp⟩
    obtain⟨x0,x1⟩:=lW x (ap hx)
    have Fg:=s3.trans s9
    have hc9:=hc.same Fg
    have AZ:atI (pl.map V.int) (m:Int)=some (.int x):=zag (by rw [ag,hx]; rfl)
    have v0:=zas (x:=x) p0 left
    have v1:=zat (x:=x) p0 left
    refine (kF rfl (kF rfl (kF rfl (kF rfl (ex4 tt _ _ (.int x) ⟨rfl,rfl,kP.of hc9.2,AZ,p,x,la,left,rfl,.inr (kP.of (Fg _ _ Ed)),p0,by lia,x0,x1,(kF rfl (kF rfl (kF rfl (kF rfl (ex4 tt _ _ (.int x) ⟨rfl,rfl,kP.of hc9.2,AZ,p,x,rt,right,rfl,.inr (kP.of (Fg _ _ Fc)),p0,by lia,x0,x1,_,_,rfl,?_⟩)))))⟩)))))
    refine (kF rfl ⟨rfl,(kF rfl ?_)⟩)
    cases o with
    | none =>
     refine zaf (fun h=>absurd h (by simp [lL])) (fun _=>?_)
     exact zdj (ex4 _ _ _ _ ⟨rfl,s9⟩)
    | some y =>
     refine zaf (fun _=>?_) (fun h=>absurd (by simp [lL]) h)
     obtain⟨y0,y1⟩:=xB y (ap ho)
     have oG:=zk1 hx ho
     have hv:=Fd _ oG
     dsimp only at hv
     refine (kF rfl (kF rfl (kN rfl rfl ⟨.inl ⟨by lia,by lia⟩,(kF rfl (kN rfl rfl ⟨p0,(kF rfl ⟨rfl,(kF rfl ?_)⟩)⟩))⟩)))
     rw [hv]
     refine zaf (fun h=>absurd h (by simp)) (fun _=>?_)
     exact (ex4 _ _ _ _ ⟨rfl,s9⟩)
   ·rintro σ H8 ⟨qe,qM,Fe,Ff,rfl,s8⟩
    exact (ex6 _ _ _ _ _ _ ⟨rfl,s3.trans s8⟩)
  ·rintro σ H2 ⟨e8,e9,mh,oA,nH,nI,rfl,s2⟩
   exact q H2 s2
end
end My
end
section
namespace My
open PySem L2 PyProof.Rows
section
variable {P:Program} {w:World} {K:ah} {mg:Str→Option Value} {base:Heap} {t:Adr}
theorem zeX {X:Cx} (hK:X.K=K):zbC X (.type "list") (fun xs H Q=>∃ p ys,xs = [.ref p]∧(kG K H p ys∨kP K H p ys)∧∀ l,H l=none→Q (.ref l) (kL H l (.lst ys))):=by subst hK; exact zfr
theorem zl7 {H:Hp} {a b:Addr} {rw:List (Option Int)} (ha:H a=some (.lst (rw.map lL))) (hb:H b=some (.lst (rw.map lL))):EqD K H 8 (.ref a) (.ref b) true:=by
 by_cases rh:a=b
 ·subst rh
  exact .same
 ·have h:=EqD.lists (K:=K) (d:=7) (e:=fun _=>true) rh (kG.of ha) (kG.of hb) rfl fun j x y hx hy=>by
   rw [hx] at hy
   cases hy
   obtain⟨o,rfl,_⟩:=zct hx
   have h:EqD K H 7 (lL o) (lL o) (eqV (lL o) (lL o)):=EqD.flat (by cases o <;> rfl) (by cases o <;> rfl)
   have e:eqV (lL o) (lL o)=true:=by cases o <;> simp [lL,eqV]
   rw [e] at h
   exact h
  have e:(aD (rw.map lL).length).all (fun _=>true)=true:=by simp
  rw [e] at h
  exact h
theorem zjv {n:Nat} {H:Hp} {Q:VK} {a b:Addr} {as bs:List Addr} {rws:List (List (Option Int))} (ha:H a=some (.lst (as.map V.ref))) (hb:H b=some (.lst (bs.map V.ref))) (h1:zdJ n H as rws) (h2:zdJ n H bs rws) (q:Q (.bl false) H):zmQ K true (.ref a) (.ref b) H Q:=by
 have l1:=h1.length
 have l2:=h2.length
 refine⟨a,b,_,_,rfl,rfl,.inl ⟨kG.of ha,kG.of hb⟩,.inr ⟨by rw [ab,ab]; lia,fun _=>true,fun j x y e1 e2=>?_,?_⟩⟩
 ·obtain⟨x,rfl,hx⟩:=zQ e1
  obtain⟨y,rfl,hy⟩:=zQ e2
  obtain⟨r1,z1,z2,_⟩:=Paired.get h1 hx
  obtain⟨r2,w1,w2,_⟩:=Paired.get h2 hy
  rw [z1] at w1
  cases w1
  exact zl7 z2 w2
 ·have:(aD (as.map V.ref).length).all (fun _=>true)=true:=by simp
  rw [this]
  exact q
theorem zl8 {p:Int} {k:Nat} {kJ:List (List (Int×Int))} {e e':Nat} {l l':List Int} {r r':List (List Int)} (L:LocOk p k kJ e l r) (L':LocOk p k kJ e' l' r'):e=e':=by
 have h:∀ {e e':Nat} {l l':List Int} {r r':List (List Int)},LocOk p k kJ e l r→LocOk p k kJ e' l' r'→¬ e < e':=fun L L' lp=>by
  obtain⟨i,hi⟩:=L.nz
  exact hi (L'.mn _ lp _ L.lf (fun kH lx=>⟨_,L.ok kH lx⟩) i)
 have h1:=h L L'
 have h2:=h L' L
 lia
theorem zaY:FnScope ["script","at","code","p","k","places","plan","rows","handed","found","e","left","rights","one","slips"] ["script"] (zh zbQ):=⟨rfl,rfl,rfl,by decide +kernel,rfl,by decide +kernel,by decide +kernel⟩
theorem znh {fd:FuncData} (T:Txt K mg t) (F:Fun K "law" "law" zbQ t.law fd):FnOk P w K mg base CX0 7 t.law fd ["script"] (zfB K):=by
 obtain⟨sR,qO,pd⟩:=T.f_l_code
 have uq:=zjl (P:=P) (w:=w) (base:=base) T qO
 obtain⟨m7,lj,lu⟩:=T.f_l_draws
 have lM:=zcS (P:=P) (w:=w) (base:=base) T lj
 obtain⟨sS,qP,pf⟩:=T.f_l_rows
 have ur:=zju (P:=P) (w:=w) (base:=base) T qP
 obtain⟨me,kY,kZ⟩:=T.f_joint_locator
 have lI:=zbR (P:=P) (w:=w) (base:=base) T kY
 obtain⟨rK,nV,mR⟩:=T.f_l_whole
 have pZ:=zhy (P:=P) (w:=w) (base:=base) T nV
 obtain⟨uu,sh,qf⟩:=T.f_l_can
 have vH:=zkZ (P:=P) (w:=w) (base:=base) T sh
 obtain⟨rL,p4,nW⟩:=T.f_l_right
 have sT:=zhF (P:=P) (w:=w) (base:=base) T p4
 obtain⟨pQ,nC,mv⟩:=T.f_locator_of
 have qg:=zeU (P:=P) (w:=w) (base:=base) T nC
 obtain⟨pR,nD,mw⟩:=T.f_joint_near
 have qh:=zeW (P:=P) (w:=w) (base:=base) T nD
 refine F.ok zaY (fun vs H Q E h=>?_) (fun ly A outer s H vs Q E hr h=>?_)
 ·obtain⟨a,ns,rfl,_⟩:=h
  rfl
 ·obtain⟨a,ns,rfl,hS,kQ,q⟩:=h
  have hu:(A.deeper (envOfC (bP "law") (zh zbQ) s.heap.objs.size t.law ly)).units+20 < cLine:=by have:=hr.units; lia
  refine⟨_,#[zd,#[zam,aX,#[zaF,T.range_,#[za,#[zg],#[ze]]],#[zf,1,zaY.nd,(au rfl)],#[zd,#[zp,2,zaY.nd,(au rfl),#[zt,uq,(hr.mono (by decide)),T.m_l_code,qO.kp,pd,#[zO],#[za,#[pvx,0],by exact #[za,#[zi,#[zU],#[zg],#[pvx,1]],#[za,#[zg],#[za,#[zM,#[zC],#[z9,#[za,#[zg],#[za,#[zg],#[ze]]]],#[pvx,1]],#[ze]]]]]]],#[zd,#[zaG,#[pvx,2],#[zav,#[zj,#[zf,3,zaY.nd,(cn rfl)],#[zj,#[zf,4,zaY.nd,(cn rfl)],#[zj,#[zf,5,zaY.nd,(au rfl)],#[zK]]]]]],#[zd,#[zp,6,zaY.nd,(au rfl),#[zt,lM,(hr.mono (by decide)),T.m_l_draws,lj.kp,lu,#[zO],#[za,#[pvx,0],by exact #[za,#[zi,#[zB],#[zi,#[zU],#[zg],#[pvx,1]],#[zg]],#[za,#[zg],#[za,#[zg],#[ze]]]]]]],#[zd,#[zp,7,zaY.nd,(au rfl),#[zt,ur,(hr.mono (by decide)),T.m_l_rows,qP.kp,pf,#[zO],#[za,#[pvx,0],by exact #[za,#[zi,#[zB],#[zi,#[zU],#[zg],#[pvx,1]],#[zg]],#[za,#[pvx,2],#[za,#[zi,#[zB],#[zg],#[zi,#[zH],#[zM,#[zC],#[pvx,6],#[zg]],#[zg]]],#[ze]]]]]]],#[zd,#[zaA,8,zaY.nd,(au rfl),(CompSc.of (N':=["row"]) (ix:=[none]) (zh zbQ) ["script","at","code","p","k","places","plan","rows","handed","found","e","left","rights","one","slips"] rfl rfl (by decide +kernel)),#[zai],#[zT,#[pvx,7]],(fun _ _ _ _=>#[zf,0,(show (["row"]:List Str).Nodup by decide +kernel),(au rfl)]),(fun _ _ _ _=>#[zG]),(fun _ _ _ _=>#[zaO,(zeX (K:=K) rfl),T.list_,jA,#[za,#[pvx,0],#[ze]]])],#[zd,#[zp,9,zaY.nd,(au rfl),#[zt,lI,(hr.mono (by decide)),T.m_joint_locator,kY.kp,kZ,#[zO],#[za,#[pvx,2],#[za,#[pvx,8],#[ze]]]]],#[zd,#[zaJ,(@PW.pt _ _ _ #[zd4,#[zd5,#[zd2,#[zw,#[zbj],T.isinstance_,fb,#[za,#[pvx,9],#[za,#[zcT,(.ty "tuple"),T.tuple_,f'],#[ze]]]]]],#[zd4,#[zy,#[zdv],#[zw,#[zr],T.len_,bM,#[za,#[pvx,9],#[ze]]],#[zg],(zL _)],#[zd4,#[zd5,#[zd2,#[zt,pZ,(hr.mono (by decide)),T.m_l_whole,nV.kp,mR,#[zO],#[za,#[zM,#[zbv],#[pvx,9],#[zg]],#[ze]]]]],#[zgX,#[zy,#[zfy,hu],#[pvx,8],#[pvx,7],(zL _)]]]]]),#[zl,#[zE,#[zbB]]],#[zZ]],#[zd,#[zaG,#[pvx,9],#[zav,#[zj,#[zf,10,zaY.nd,(cn rfl)],#[zj,#[zf,11,zaY.nd,(au rfl)],#[zj,#[zf,12,zaY.nd,(au rfl)],#[zK]]]]]],#[zd,#[zaJ,(@PW.pt _ _ _ #[zd4,#[zd5,#[zd2,#[zw,#[zbj],T.isinstance_,fb,#[za,#[pvx,12],#[za,#[zcT,(.ty "list"),T.list_,jA],#[ze]]]]]],#[zd4,#[zy,#[zdv],#[zw,#[zr],T.len_,bM,#[za,#[pvx,12],#[ze]]],#[zw,#[zr],T.len_,bM,#[za,#[pvx,7],#[ze]]],(zL _)],#[zd4,#[zy,#[zdv],#[zw,#[zr],T.len_,bM,#[za,#[pvx,11],#[ze]]],#[zi,#[zB],#[pvx,10],#[zg]],(zL _)],#[zgX,#[zy,#[zce],#[zw,(@zji _ rfl),T.max_,boot_max,#[za,#[pvx,11],#[ze]]],#[zg],(zL _)]]]]]),#[zl,#[zE,#[zbB]]],#[zZ]],#[zd,#[zaJ,#[zy,#[zdi],#[zbB],#[zad,(CompSc.of (N':=["right","k","e"]) (ix:=[none,some 4,some 10]) (zh zbQ) ["script","at","code","p","k","places","plan","rows","handed","found","e","left","rights","one","slips"] rfl rfl (by decide +kernel)),#[zai],#[zT,#[pvx,12]],(fun _ _ _ _=>#[zf,0,(show (["right","k","e"]:List Str).Nodup by decide +kernel),(au rfl)]),(fun _ _ _ _=>#[zG]),(fun _ _ _ _=>#[zgZ,#[zw,(@zfz _ (K) rfl),T.isinstance_,fb,#[za,#[pvx,0],#[za,#[zcT,(.ty "tuple"),T.tuple_,f'],#[ze]]]],#[zgY,#[zhK,#[zce],#[zw,#[zbg,(K)],T.len_,bM,#[za,#[pvx,0],#[ze]]],#[zi,#[zB],#[pvx,1],#[pvx,2]],(zL _)]]])],(by with_unfolding_all rfl)],#[zl,#[zE,#[zbB]]],#[zZ]],#[zd,#[zam,aX,#[zT,#[zi,#[zcM],#[z9,#[za,#[pvx,11],#[ze]]],#[pvx,12]]],#[zf,13,zaY.nd,(au rfl)],#[zl,#[zaJ,#[zy,#[zdi],#[zbB],#[zad,(CompSc.of (N':=["number","p"]) (ix:=[none,some 3]) (zh zbQ) ["script","at","code","p","k","places","plan","rows","handed","found","e","left","rights","one","slips"] rfl rfl (by decide +kernel)),#[zai],#[zg3,#[pvx,13]],(fun _ _ _ _=>#[zf,0,(show (["number","p"]:List Str).Nodup by decide +kernel),(au rfl)]),(fun _ _ _ _=>#[zG]),(fun _ _ _ _=>#[zgZ,#[zt,pZ,(hr.mono (by decide)),T.m_l_whole,nV.kp,mR,#[zO],#[za,#[pvx,0],#[ze]]],#[zgY,(@zjD _ _ _ _ _ _ _ _ _ _ _ _ (@znv _) #[zf1] #[zg] #[pvx,0] #[pvx,1] (by with_unfolding_all rfl))]])],(by with_unfolding_all rfl)],#[zl,#[zE,#[zbB]]],#[zZ]]]],#[zd,(zey #[zaJ,(@PW.pt _ _ _ #[zd4,#[zd5,#[zd2,#[zt,sT,(hr.mono (by decide)),T.m_l_right,p4.kp,nW,#[zO],#[za,#[pvx,2],by exact #[za,#[pvx,7],by exact #[za,#[pvx,10],#[za,#[pvx,11],#[za,#[pvx,12],#[ze]]]]]]]]],#[zgX,(@PW.pt _ _ _ #[zd3,#[zy,#[zf2],#[pvx,10],#[zg],(zL _)],#[zcU,#[zd2,#[zt,vH,(hr.mono (by decide)),T.m_l_can,sh.kp,qf,#[zO],#[za,#[pvx,2],#[za,#[pvx,7],#[za,#[zi,#[zba],#[pvx,10],#[zg]],#[ze]]]]]]]])]]),#[zl,#[zE,#[zbB]]],#[zZ]]),#[zd,(zey #[zaJ,(@PW.pt _ _ _ #[zd3,#[zy,#[zce],#[zw,#[zr],T.len_,bM,#[za,#[pvx,7],#[ze]]],#[zg],(zL _)],#[zcU,#[zy,#[zdv],#[zM,#[zbv],#[zt,qg,(hr.mono (by decide)),T.m_locator_of,nC.kp,mv,#[zO],#[za,#[pvx,2],#[za,#[zM,#[zC],#[pvx,7],#[zg]],#[ze]]]],#[zg]],#[pvx,10],(zL _)]]]),#[zl,#[zE,#[zbB]]],#[zZ]]),#[zl,#[zam,aX,#[zaF,T.range_,#[za,#[zw,#[zdh],T.min_,boot_min,#[za,#[pvx,10],#[za,#[zi,#[zB],#[zi,#[zba],#[zw,#[zr],T.len_,bM,#[za,#[pvx,5],#[ze]]],#[pvx,4]],#[zg]],#[ze]]]],#[ze]]],#[zf,14,zaY.nd,(au rfl)],#[zl,#[zaJ,#[zy,#[zfy,hu],#[zt,qh,(hr.mono (by decide)),T.m_joint_near,nD.kp,mw,#[zO],#[za,#[pvx,2],#[za,#[pvx,7],#[za,#[zi,#[zba],#[zw,#[zr],T.len_,bM,#[za,#[pvx,5],#[ze]]],#[pvx,14]],#[ze]]]]],#[z9,#[ze]],(zL _)],#[zl,#[zE,#[zbB]]],#[zZ]]]]]]]]]]]]]]]]]]],#[zl,#[zE,#[zbB]]]],?_⟩
  have om:=a7
  refine⟨2,rfl,by decide,by decide,?_⟩
  refine zaZ (lo:=0) (n:=2) (fun i σ H'=>∃ (e1 e2 e3 e4 e5 e6 e7 e8 e9 mh oA nH nI rD:Option V),σ = [some (.ref a),e1,e2,e3,e4,e5,e6,e7,e8,e9,mh,oA,nH,nI,rD]∧zu H H') (zmK none none none none none none none none none none none none none none ⟨rfl,fun _ _ e=>e⟩) ?_ ?_
  ·rintro i σ H0 hi ⟨e1,e2,e3,e4,e5,e6,e7,e8,e9,mh,oA,nH,nI,rD,rfl,s0⟩
   obtain⟨mn,emn,hmn⟩:∃ mn:Int,atI [V.int 16,V.int 10] (0+(i:Int))=some (.int mn)∧5≤mn∧mn≤16:=by
    have:i=0∨i=1:=by lia
    rcases this with e | e <;> subst e
    ·exact⟨16,rfl,by decide,by decide⟩
    ·exact⟨10,rfl,by decide,by decide⟩
   refine (kF rfl (kF rfl (kN rfl rfl ⟨.inl ⟨by decide,by decide⟩,zaL,fun l2 pJ=>?_⟩)))
   have u0:=s0.trans (zc (o:=.lst [.int 16,.int 10]) pJ)
   refine (kF rfl (ex4 l2 _ _ _ ⟨rfl,rfl,kG.of zb,emn,a,ns,9*(0+(i:Int)),5,mn,rfl,u0.seq hS,kQ,by lia,by lia,by decide,by decide,hmn.1,hmn.2,fun c tt p kI pl H1 tH s1 co qc h1t=>?_⟩))
   have rp:=zo co.pr
   have k1:=co.k1
   have kk:=co.kk
   have kn:=co.kl
   have ln:=co.ln
   have p0:0 < p:=by lia
   have yg:pl.length≤16:=by lia
   obtain⟨k,rfl⟩:∃ k:Nat,kI=k:=⟨kI.toNat,by lia⟩
   have sA1:=u0.trans s1
   have Fh:za4 H1 c tt p k pl:=⟨qc,h1t⟩
   refine⟨_,rfl,c,_,rfl,kP.of qc,rfl,_,_,rfl,_,_,rfl,_,_,rfl,rfl,?_⟩
   refine (kF rfl (kF rfl (kN rfl rfl ⟨.inl ⟨by decide,by decide⟩,(kN rfl rfl (ex5 a ns (9*(0+(i:Int))+1) 4 27720 ⟨rfl,sA1.seq hS,kQ,by lia,by lia,by decide,by decide,by decide,by decide,fun pa ds H2 hpa s2 hd AF=>?_⟩))⟩)))
   obtain⟨d0,Ca⟩:=zc0 (ns:=ds) (k:=0) (by decide) (by have:ds.length=4:=hd.1; lia)
   have m0:=aK d0 (show (4:Int)≠0 by decide)
   have m1:=aC d0 (show (0:Int) < 4 by decide)
   obtain⟨many,Bt⟩:∃ many:Nat,1+d0 % 4=(many:Int):=⟨(1+d0 % 4).toNat,by lia⟩
   have sA2:=sA1.trans s2
   have uD:=Fh.same s2
   refine (kF rfl (kF rfl (kN rfl rfl ⟨.inl ⟨by decide,by decide⟩,(kN rfl rfl (kF rfl (kF rfl (ex4 pa _ _ _ ⟨rfl,rfl,kG.of AF,Ca,(kN rfl rfl ⟨(by show (0:Int) < 4; decide),(kN rfl rfl ⟨a,c,tt,ns,9*(0+(i:Int))+2,p,k,many,pl,?_,sA2.seq hS,kQ,by lia,by lia,uD,co.pr,yg,co.rg,by lia,fun ra k7 rws H3 mf s3 pG tK nG nF=>?_⟩)⟩)⟩))))⟩)))
   ·rw [← Bt]
    rfl
   have qY:k7.length=rws.length:=tK.length
   have lA:rws≠[]:=fun e0=>by rw [e0] at nG; simp at nG; lia
   have sA3:=sA2.trans s3
   have DS:=uD.same s3
   refine (kF rfl ⟨ra,rfl,⟨_,kG.of pG⟩,zY (n:=k7.length) (fun m ys H'=>zu H3 H'∧∃ us:List Addr,ys=us.map V.ref∧us.length=m∧zdJ pl.length H' us (rws.take m)) ⟨fun _ _ e=>e,[],rfl,rfl,.nil⟩ ?_ ?_ ?_ ?_⟩)
   ·rintro m ys H4 hm ⟨s4,_⟩
    exact⟨_,.ref k7[m],kG.of (s4 _ _ pG),by rw [ag,am hm]; rfl⟩
   ·rintro ys H4 ⟨s4,_⟩
    exact⟨_,kG.of (s4 _ _ pG),by rw [ab]; exact af _⟩
   ·rintro m y ys H4 H5 hm ⟨s4,us,rfl,mY,lG⟩ ⟨rfl,hy⟩
    obtain⟨b,rfl,hb⟩:=zQ (hy _ (kG.of (s4 _ _ pG)))
    obtain⟨rw,qF,lC,rC⟩:=Paired.get tK hb
    refine gY (kF rfl ⟨b,(kF rfl ⟨.inl (kG.of (s4 _ _ lC)),fun z2 p7=>?_⟩)⟩)
    refine⟨by rw [ab]; lia,s4.trans (zc p7),us++[z2],by rw [aA]; rfl,by rw [ar,mY]; rfl,?_⟩
    rw [take_snoc qF]
    exact bO (lG.same (zc p7)) ⟨zb,rC⟩
   rintro ys H4 hn ⟨s4,Bu,rfl,AY,hhs⟩ Dv
   rw [qY,aZ] at hhs
   have t5:=zc (o:=.lst (Bu.map V.ref)) Dv
   have Fi:kL H4 hn (.lst (Bu.map V.ref)) hn=some (.lst (Bu.map V.ref)):=zb
   have xC:=hhs.same t5
   have pO:=s4.trans t5
   generalize kL H4 hn (.lst (Bu.map V.ref))=H5 at t5 Fi xC pO ⊢
   have vE:=DS.same pO
   refine (kF rfl (kF rfl (ex8 c tt hn p k pl Bu rws ⟨rfl,vE,kG.of Fi,xC,by lia,yg,co.pr,co.nd,co.rg,nF,by lia,by lia,fun z la l3 us e left kW H6 s6 Cy vB wt hT AI L=>?_⟩)))
   have Fj:=pO.trans s6
   have Bv:=vE.same s6
   have pH:=Fj _ _ pG
   have vI:=tK.same Fj
   have xD:left.length=e+1:=L.lf.1
   have xq:kW.length=rws.length:=by rw [L.rt,ab,ab]
   have mY:us.length=kW.length:=hT.length
   refine (kF rfl (ex4 _ _ _ _ ⟨rfl,.tup Cy,rfl,true,rfl,zdj (kF rfl ⟨z,(kF rfl ⟨.inr (kP.of Cy),rfl,(kF rfl (zdj (kF rfl (ex4 z _ _ _ ⟨rfl,rfl,kP.of Cy,rfl,(e:Int),rfl,(kF rfl (zdj (kF rfl (kF rfl (zjv (s6 _ _ Fi) pH (xC.same s6) vI (kF rfl (zdj ?_)))))))⟩))))⟩)⟩)⟩))
   refine⟨_,rfl,z,_,rfl,kP.of Cy,rfl,_,_,rfl,_,_,rfl,_,_,rfl,rfl,?_⟩
   refine (kF rfl (ex4 _ _ _ _ ⟨rfl,.lst wt,rfl,true,rfl,zdj (kF rfl ⟨l3,(kF rfl ⟨.inl (kG.of wt),(kF rfl ⟨ra,(kF rfl ⟨.inl (kG.of pH),rfl,(kF rfl ?_)⟩)⟩)⟩)⟩)⟩))
   rw [ab,ab,mY,qY,xq]
   refine zaf (fun h=>absurd h (by simp)) (fun _=>?_)
   refine (kF rfl ⟨la,(kF rfl ⟨.inr (kP.of vB),(kF rfl (kN rfl rfl ⟨rfl,(kF rfl ?_)⟩))⟩)⟩)
   rw [ab,xD]
   refine zaf (fun h=>absurd h (by simp)) (fun _=>?_)
   refine (kF rfl ⟨la,left,rfl,kP.of vB,(fun e0=>by (rw [e0] at xD; cases xD)),fun M hM1 hM2=>?_⟩)
   have hM0:M≠0:=fun e0=>by
    obtain⟨j,hj⟩:=L.nz
    refine hj ?_
    by_cases tJ:j < left.length
    ·have hm:=ap (zax tJ)
     have:=hM2 _ hm
     have:=(L.lf.2 _ hm).1
     lia
    ·exact zaQ (by lia)
   refine⟨rfl,(kF rfl ?_)⟩
   refine zaf (fun hh=>absurd hh (by simpa using hM0)) (fun _=>?_)
   have Fk:∀ right∈kW,IsP p (k+e) right:=fun right ou=>by
    rw [L.rt] at ou
    obtain⟨kH,lx,rfl⟩:=aB.mp ou
    exact (L.ok kH lx).1
   refine (kF rfl ⟨l3,rfl,⟨_,kG.of wt⟩,zY (n:=us.length) (fun m ys H'=>H'=H6∧ys=aj m (V.bl true)) ⟨rfl,rfl⟩ ?_ ?_ ?_ ?_⟩)
   ·rintro m ys H' hm ⟨rfl,_⟩
    exact⟨_,.ref us[m],kG.of wt,by rw [ag,am hm]; rfl⟩
   ·rintro ys H' ⟨rfl,_⟩
    exact⟨_,kG.of wt,by rw [ab]; exact af _⟩
   ·rintro m y ys H' H7 hm ⟨rfl,rfl⟩ ⟨rfl,hy⟩
    obtain⟨b,rfl,hb⟩:=zQ (hy _ (kG.of wt))
    obtain⟨right,rJ,lC⟩:=Paired.get hT hb
    have Fl:=(Fk right (ap rJ)).1
    refine gY (kF rfl (ex4 _ _ _ _ ⟨rfl,.tup lC,rfl,(kF rfl ?_)⟩))
    refine zmJ ?_
    refine (kF rfl ⟨b,(kF rfl ⟨.inr (kP.of lC),(kF rfl (kF rfl (kN rfl rfl ⟨rfl,by rw [aL]; lia,rfl,?_⟩)))⟩)⟩)
    rw [i4,ab,Fl,dL]
    show _++[V.bl (decide (V.int ((k:Int)+(e:Int))=V.int ((k:Int)+(e:Int))))]=_
    rw [decide_eq_true rfl]
   rintro ys H6 gd ⟨rfl,rfl⟩ hgd
   have t7:=zc (o:=.lst (aj us.length (V.bl true))) hgd
   have h7g:kL H6 gd (.lst (aj us.length (V.bl true))) gd=some (.lst (aj us.length (V.bl true))):=zb
   generalize kL H6 gd (.lst (aj us.length (V.bl true)))=H7 at t7 h7g ⊢
   refine⟨gd,(kF rfl ⟨.inl (kG.of h7g),rfl,by simp [zb6],(kF rfl ?_)⟩)⟩
   refine zaf (fun hh=>absurd hh (by simp [inV,eqV])) (fun _=>?_)
   refine (kF rfl ⟨by show 1≤sizeLine; lia,fun x1 uM=>(kF rfl ?_)⟩)
   have t8:=t7.trans (zc (o:=.lst [.ref la]) uM)
   refine (ex4 x1 l3 ([.ref la]) (us.map V.ref) ⟨rfl,rfl,zb,t8 _ _ wt,by rw [ab]; show 1+_≤_; lia,fun x2 sE=>?_⟩)
   have t9:=t8.trans (zc (o:=.lst ([.ref la]++us.map V.ref)) sE)
   have AM:kL (kL H7 x1 (.lst [.ref la])) x2 (.lst ([.ref la]++us.map V.ref)) x2=some (.lst ((la :: us).map V.ref)):=zb
   generalize kL (kL H7 x1 (.lst [.ref la])) x2 (.lst ([.ref la]++us.map V.ref))=H9 at t9 AM ⊢
   have E6:zbo H9 (la :: us) (left :: kW):=.cons (t9 _ _ vB) (hT.same t9)
   have Fm:∀ q∈left :: kW,q.length≤1000∧∀ x∈q,0≤x∧x < p:=fun q hq=>by
    rcases (aE.mp hq) with rfl | hq
    ·exact⟨by lia,L.lf.2⟩
    ·exact⟨by rw [(Fk q hq).1]; lia,(Fk q hq).2⟩
   refine⟨x2,rfl,⟨_,kG.of AM⟩,za1 (K:=K) (a:=x2) (xs:=(la :: us).map V.ref) (fun j σ H'=>∃ (qe qM:Option V),σ = [some (.ref a),some (.int (0+(i:Int))),some (.ref c),some (.int p),some (.int (k:Int)),some (.ref tt),some (.ref pa),some (.ref ra),some (.ref hn),some (.ref z),some (.int (e:Int)),some (.ref la),some (.ref l3),qe,qM]∧zu H9 H') ⟨_,_,rfl,fun _ _ e=>e⟩ (fun j σ H' _ ⟨_,_,_,s'⟩=>kG.of (s' _ _ AM)) ?_ ?_⟩
   ·rintro j x σ Ha hx ⟨qe,qM,rfl,sa⟩
    obtain⟨b,rfl,hb⟩:=zQ hx
    obtain⟨qq,Bj,lC⟩:=Paired.get E6 hb
    obtain⟨hql,hqr⟩:=Fm qq (ap Bj)
    have vJ:=sa _ _ lC
    refine (kF rfl ⟨b,rfl,⟨_,kP.of vJ⟩,zY (n:=qq.length) (fun m ys H'=>H'=Ha∧ys=aj m (V.bl true)) ⟨rfl,rfl⟩ ?_ ?_ ?_ ?_⟩)
    ·rintro m ys H' hm ⟨rfl,_⟩
     exact⟨_,.int qq[m],kP.of vJ,by rw [ag,am hm]; rfl⟩
    ·rintro ys H' ⟨rfl,_⟩
     exact⟨_,kP.of vJ,by rw [ab]; exact af _⟩
    ·rintro m y ys H' H8 hm ⟨rfl,rfl⟩ ⟨rfl,hy⟩
     obtain⟨x,rfl,hx⟩:=zae (hy _ (kP.of vJ))
     obtain⟨x0,x1⟩:=hqr x (ap hx)
     refine gY (kF rfl ⟨x,rfl,(kF rfl ?_)⟩)
     refine zaf (fun _=>?_) (fun h=>absurd rfl h)
     refine (kF rfl (kN rfl rfl (kF rfl ?_)))
     refine zaf (fun _=>?_) (fun h=>absurd (decide_eq_true x0) h)
     refine (kF rfl (kN rfl rfl ⟨by rw [aL]; lia,rfl,?_⟩))
     rw [i4]
     show _++[V.bl (decide (x < p))]=_
     rw [decide_eq_true x1]
    rintro ys H' g2 ⟨rfl,rfl⟩ vi
    have uW:=zc (o:=.lst (aj qq.length (V.bl true))) vi
    refine⟨g2,(kF rfl ⟨.inl (kG.of zb),rfl,by simp [zb6],(kF rfl ?_)⟩)⟩
    refine zaf (fun hh=>absurd hh (by simp [inV,eqV])) (fun _=>?_)
    exact⟨_,_,rfl,sa.trans uW⟩
   rintro σ Ha ⟨qe,qM,rfl,sa⟩
   have wu:=t9.trans sa
   have vA:=Bv.same wu
   have xE:=vI.same wu
   have Fn:=wu _ _ pH
   refine⟨fun σ H'=>∃ (qe qM:Option V),σ = [some (.ref a),some (.int (0+(i:Int))),some (.ref c),some (.int p),some (.int (k:Int)),some (.ref tt),some (.ref pa),some (.ref ra),some (.ref hn),some (.ref z),some (.int (e:Int)),some (.ref la),some (.ref l3),qe,qM]∧zu H6 H',?_,?_⟩
   ·refine (kF rfl (kF rfl (kF rfl (kF rfl (kF rfl (zmK c tt ra la l3 p (e:Int) k pl k7 us rws left kW ⟨rfl,vA,Fn,xE,wu _ _ vB,wu _ _ wt,hT.same wu,xq,co.pr,co.rg,nF,fun j rw right h1 h2 a ha=>?_,fun Hb sb=>(kF rfl (zdj ?_))⟩))))))
    ·rw [L.rt,bA,ag,h1] at h2
     obtain rfl:szd (thr p (tmP p left (lh pl rw))) (k+e)=right:=aR h2
     exact (L.ok (lh pl rw) (aB.mpr ⟨rw,ap h1,rfl⟩)).2 a ha
    have s6b:=wu.trans sb
    refine (kF rfl (kN rfl rfl (kF rfl ?_)))
    by_cases Fo:e=0
    ·refine zaf (fun h=>absurd h (by rw [Fo]; simp)) (fun _=>?_)
     exact zdj ⟨_,_,rfl,s6b⟩
    ·refine zaf (fun _=>?_) (fun h=>absurd (by simp; lia) h)
     obtain⟨e',rfl⟩:∃ e',e=e'+1:=⟨e - 1,by lia⟩
     refine (kF rfl (kF rfl (kF rfl (kN rfl rfl ⟨c,tt,ra,p,k,e',pl,k7,rws,?_,vA.same sb,sb _ _ Fn,xE.same sb,by lia,yg,co.pr,co.rg,nF,by lia,by lia,by lia,L.mn e' (by lia),fun Hc sc=>?_⟩))))
     ·show [V.ref c,V.ref ra,V.int (((e'+1:Nat):Int) - 1)] = [V.ref c,V.ref ra,V.int (e':Int)]
      rw [show ((e'+1:Nat):Int) - 1=(e':Int) by lia]
     ·refine (kF rfl ?_)
      refine zaf (fun h=>absurd h (by simp)) (fun _=>?_)
      exact⟨_,_,rfl,s6b.trans sc⟩
   clear sa wu vA xE Fn
   rintro σ Hb ⟨qe,qM,rfl,sb⟩
   have Cz:=Bv.same sb
   have Bw:=vI.same sb
   have Fp:=sb _ _ pH
   refine⟨fun σ H'=>∃ (qe qM:Option V),σ = [some (.ref a),some (.int (0+(i:Int))),some (.ref c),some (.int p),some (.int (k:Int)),some (.ref tt),some (.ref pa),some (.ref ra),some (.ref hn),some (.ref z),some (.int (e:Int)),some (.ref la),some (.ref l3),qe,qM]∧zu H6 H',?_,?_⟩
   ·refine (kF rfl ⟨ra,(kF rfl ⟨.inl (kG.of Fp),rfl,(kF rfl ?_)⟩)⟩)
    rw [ab]
    by_cases h1:k7.length=1
    ·refine zaf (fun _=>?_) (fun h=>absurd (by rw [h1]; rfl) h)
     obtain⟨b,hb⟩:∃ b,k7 = [b]:=by
      match k7,h1 with
      | [b],_=>exact⟨b,rfl⟩
     obtain⟨rw,qF⟩:∃ rw,rws = [rw]:=by
      have:rws.length=1:=by lia
      match rws,this with
      | [rw],_=>exact⟨rw,rfl⟩
     subst hb qF
     obtain⟨lC,rC⟩:Hb b=some (.lst (rw.map lL))∧rw.length=pl.length:=by
      cases Bw with
      | cons h _=>exact h
     refine (kF rfl (kF rfl (ex4 ra _ _ _ ⟨rfl,rfl,kG.of Fp,rfl,c,tt,b,p,k,pl,rw,rfl,Cz,lC,rC,yg,co.pr,co.nd,co.rg,nF rw (by simp),by lia,by lia,fun z2 la2 rb2 e2 left2 Fq Hc sc p7 pJ yh BW L2=>?_⟩)))
     have hee:e2=e:=zl8 L2 L
     refine (ex4 z2 _ _ _ ⟨rfl,rfl,kP.of p7,rfl,(kF rfl ⟨rfl,(kF rfl ?_)⟩)⟩)
     rw [hee]
     refine zaf (fun h=>absurd h (by simp)) (fun _=>?_)
     exact⟨_,_,rfl,sb.trans sc⟩
    ·refine zaf (fun h=>?_) (fun _=>?_)
     ·have h:=of_decide_eq_true h
      injection h with h
      lia
     ·exact zdj ⟨_,_,rfl,sb⟩
   clear sb Cz Bw Fp
   rintro σ Hb ⟨qe,qM,rfl,sb⟩
   have Cz:=Bv.same sb
   refine (kF rfl (kF rfl ⟨tt,(kF rfl ⟨.inr (kP.of Cz.2),(kF rfl (kN rfl rfl (kN rfl rfl ⟨_,_,rfl,?_⟩)))⟩)⟩))
   rw [ab]
   generalize vT:(if (pl.length:Int) - (k:Int)+1 < (e:Int) then (pl.length:Int) - (k:Int)+1 else (e:Int))=mm
   have rj:mm≤(e:Int):=by rw [← vT]; split <;> lia
   have qA:mm≤(pl.length:Int) - (k:Int)+1:=by rw [← vT]; split <;> lia
   have B4:0≤mm:=by rw [← vT]; split <;> lia
   refine (kF rfl ⟨by lia,by lia,zaZ (lo:=0) (n:=mm.toNat) (fun j σ H'=>∃ (qe qM:Option V),σ = [some (.ref a),some (.int (0+(i:Int))),some (.ref c),some (.int p),some (.int (k:Int)),some (.ref tt),some (.ref pa),some (.ref ra),some (.ref hn),some (.ref z),some (.int (e:Int)),some (.ref la),some (.ref l3),qe,qM]∧zu H6 H') ⟨_,_,rfl,sb⟩ ?_ ?_⟩)
   ·rintro j σ Hc hj ⟨qe,qM,rfl,sc⟩
    have yX:j≤pl.length:=by lia
    refine (kF rfl (kF rfl (kF rfl ⟨tt,(kF rfl ⟨.inr (kP.of (Bv.same sc).2),(kF rfl (kN rfl rfl ⟨c,tt,ra,p,k,pl.length - j,pl,k7,rws,?_,Bv.same sc,sc _ _ pH,vI.same sc,by lia,yg,co.pr,co.nd,co.rg,nF,by lia,by lia,by lia,fun l vs ss Hd sd An rY hJ=>?_⟩))⟩)⟩)))
    ·show [V.ref c,V.ref ra,V.int ((((pl.map V.int).length:Nat):Int) - (0+(j:Int)))] = [V.ref c,V.ref ra,V.int ((pl.length - j:Nat):Int)]
     rw [ab,show (pl.length:Int) - (0+(j:Int))=((pl.length - j:Nat):Int) by lia]
    have xA:ss = []:=by
     cases ss with
     | nil=>rfl
     | cons s ss =>
      exfalso
      have J:=hJ s aF
      have h1:=zk0 co.pr co.nd co.rg (by lia) lA J L
      have h2:=J.many lA
      lia
    subst xA
    have uj:vs = []:=fv.mp rY
    subst uj
    refine⟨by show 0≤sizeLine; lia,fun e0 Fo=>?_⟩
    have td:=zc (o:=.lst []) Fo
    refine (ex4 l e0 ([]) ([]) ⟨rfl,rfl,.inl ⟨kG.of (td _ _ An),kG.of zb⟩,.inr ⟨rfl,fun _=>true,fun j x y h=>(by simp at h),(kF rfl (zdj ⟨_,_,rfl,sc.trans (sd.trans td)⟩))⟩⟩)
   ·rintro σ Hc ⟨qe,qM,rfl,sc⟩
    exact (zmK _ _ _ _ _ _ _ _ _ _ _ _ _ _ ⟨rfl,sA3.trans (Fj.trans sc)⟩)
  ·rintro σ H1 ⟨e1,e2,e3,e4,e5,e6,e7,e8,e9,mh,oA,nH,nI,rD,rfl,s1⟩
   exact q _
end
end My
end
section
namespace My
open PySem L2 PyProof.Rows
structure Dn (K:ah) (x:Str) (st:Stmt) (f:Addr) (fd:FuncData):Prop where
 a:bL K mainGlobals x=some (some (.ref f))
 f:Fun K x x st f fd
theorem zap {K:ah} {x:Str} {st:Stmt} {f:Addr} {od an:Option Addr} {sl:Array (Option Value)} {oc kV dc pm cd ct:Value} (a:bL K mainGlobals x=some (some (.ref f))) (l:K.lookup f=some ⟨oc,od,.func (cZ x x (zbD st) (zbr st) (zh st) .none kV dc pm an cd ct),sl⟩) (c:fm K cd x=true) (k:fk K (.ref f)=true):Dn K x st f (cZ x x (zbD st) (zbr st) (zh st) .none kV dc pm an cd ct):=⟨a,zjM l c k⟩
theorem el1 {us:List Value} (e:us.length=1):∃ a,us = [a]:=match us,e with | [a],_=>⟨a,rfl⟩
theorem el2 {us:List Value} (e:us.length=2):∃ a b,us = [a,b]:=match us,e with | [a,b],_=>⟨a,b,rfl⟩
theorem el3 {us:List Value} (e:us.length=3):∃ a b c,us = [a,b,c]:=match us,e with | [a,b,c],_=>⟨a,b,c,rfl⟩
theorem el4 {us:List Value} (e:us.length=4):∃ a b c d,us = [a,b,c,d]:=match us,e with | [a,b,c,d],_=>⟨a,b,c,d,rfl⟩
theorem el5 {us:List Value} (e:us.length=5):∃ a b c d i,us = [a,b,c,d,i]:=match us,e with | [a,b,c,d,i],_=>⟨a,b,c,d,i,rfl⟩
theorem zni {l:iw} {w:World} {K:ah} {h:Heap} {mg:Str→Option Value} {fa fl mO qQ:Addr} (X:K.In h) (G:h.Ns mainGlobals mg) (hfa:mg "law" = some (.ref fa))
  {od an:Option Addr} {sl:Array (Option Value)} {oc kV dc pm cd ct:Value} (qR:bL K mainGlobals "SlipError" = some (some (.ref mO))) (uv:bL K mainGlobals "TooFew" = some (some (.ref qQ))) (rM:∃ f fd,Dn K "value_at" zb3 f fd) (sU:∃ f fd,Dn K "inverse" zcz f fd) (qi:∃ f fd,Dn K "times_root" za7 f fd) (xF:∃ f fd,Dn K "bent" zeD f fd) (sV:∃ f fd,Dn K "through" zcA f fd) (ph:∃ f fd,Dn K "heard_points" zaM f fd) (xG:∃ f fd,Dn K "fits" zeE f fd) (sW:∃ f fd,Dn K "choices" zbt f fd) (pS:∃ f fd,Dn K "all_through" zaS f fd) (rN:∃ f fd,Dn K "all_near" zbz f fd) (sX:∃ f fd,Dn K "without" zbP f fd) (nX:∃ f fd,Dn K "first_relation" zal f fd) (rO:∃ f fd,Dn K "heard_at" zbA f fd) (qj:∃ f fd,Dn K "joint_near" za8 f fd) (oC:∃ f fd,Dn K "times_entries" zaE f fd) (uw:∃ f fd,Dn K "beyond" s_beyond f fd) (vK:∃ f fd,Dn K "sized" zdZ f fd) (oD:∃ f fd,Dn K "joint_locator" z6 f fd) (qk:∃ f fd,Dn K "locator_of" zbs f fd) (ux:∃ f fd,Dn K "_law_cell" zdd f fd) (sY:∃ f fd,Dn K "_law_draws" zcB f fd) (sZ:∃ f fd,Dn K "_law_whole" zcC f fd) (uy:∃ f fd,Dn K "_law_code" zcm f fd) (tf:∃ f fd,Dn K "_law_value" zcD f fd) (uz:∃ f fd,Dn K "_law_rank" zbm f fd) (rP:∃ f fd,Dn K "_law_powers" zb4 f fd) (vL:∃ f fd,Dn K "_law_can" zbE f fd) (uA:∃ f fd,Dn K "_law_rows" zcn f fd) (pj:∃ f fd,Dn K "_law_polynomial" zaN f fd) (tj:∃ f fd,Dn K "_law_right" zcE f fd)   (sb:i5 K mO (.type "BaseException")=some true)
  (al:bL K mainGlobals "law" = some (some (.ref fl))) (ll:K.lookup fl=some ⟨oc,od,.func (cZ "law" "law" (zbD zbQ) (zbr zbQ) (zh zbQ) .none kV dc pm an cd ct),sl⟩) (cl:fm K cd "law" = true) (kl:fk K (.ref fl)=true) (Bx:bL K mainGlobals "len" = some none) (vM:bL K mainGlobals "range" = some none) (xH:bL K mainGlobals "list" = some none) (vN:bL K mainGlobals "tuple" = some none) (By:bL K mainGlobals "min" = some none) (Bz:bL K mainGlobals "max" = some none) (ql:bL K mainGlobals "isinstance" = some none) (BA:bL K mainGlobals "int" = some none) (xI:bL K mainGlobals "bool" = some none) (BB:bL K mainGlobals "zip" = some none) (qS:bL K mainGlobals "enumerate" = some none) (rQ:bL K mainGlobals "reversed" = some none) (uB:bL K mainGlobals "sorted" = some none) (qm:bL K mainGlobals "ValueError" = some none) :
  ∃ fd:FuncData,(∀ (s:Shared) (v:Value),BindsTo s fd ⟨[v],[]⟩ [("script",v)])∧∀ base:Heap,K.In base→base.Ns mainGlobals mg→FnOk l.prog w K mg base CX0 7 fa fd ["script"] (zfB K):=by
 cases hfa.symm.trans (aS X G al)
 obtain⟨f_value_at,mM,nh⟩:=rM
 have k8:=nh.f.binds (ps:=["p","polynomial","x"]) fun _ _ _ _ _ _ _ h=>by obtain⟨_,_,_,rfl⟩:=el3 h; exact rfl
 obtain⟨f_inverse,oP,nY⟩:=sU
 have l6:=nY.f.binds (ps:=["p","number"]) fun _ _ _ _ _ _ _ h=>by obtain⟨_,_,rfl⟩:=el2 h; exact rfl
 obtain⟨f_times_root,pN,mC⟩:=qi
 have mo:=mC.f.binds (ps:=["p","polynomial","root"]) fun _ _ _ _ _ _ _ h=>by obtain⟨_,_,_,rfl⟩:=el3 h; exact rfl
 obtain⟨f_bent,vy,rR⟩:=xF
 have rA:=rR.f.binds (ps:=["p","polynomial","vanishing","point"]) fun _ _ _ _ _ _ _ h=>by obtain⟨_,_,_,_,rfl⟩:=el4 h; exact rfl
 obtain⟨f_through,oQ,nZ⟩:=sV
 have l8:=nZ.f.binds (ps:=["p","points"]) fun _ _ _ _ _ _ _ h=>by obtain⟨_,_,rfl⟩:=el2 h; exact rfl
 obtain⟨f_heard_points,mH,lR⟩:=ph
 have lb:=lR.f.binds (ps:=["code","row"]) fun _ _ _ _ _ _ _ h=>by obtain⟨_,_,rfl⟩:=el2 h; exact rfl
 obtain⟨f_fits,sg,rS⟩:=xG
 have oY:=rS.f.binds (ps:=["code","row","polynomial"]) fun _ _ _ _ _ _ _ h=>by obtain⟨_,_,_,rfl⟩:=el3 h; exact rfl
 obtain⟨f_choices,rE,n4⟩:=sW
 have nU:=n4.f.binds (ps:=["things","many"]) fun _ _ _ _ _ _ _ h=>by obtain⟨_,_,rfl⟩:=el2 h; exact rfl
 obtain⟨f_all_through,oZ,lY⟩:=pS
 have lX:=lY.f.binds (ps:=["code","points"]) fun _ _ _ _ _ _ _ h=>by obtain⟨_,_,rfl⟩:=el2 h; exact rfl
 obtain⟨f_all_near,qL,ni⟩:=rN
 have ng:=ni.f.binds (ps:=["code","row","t"]) fun _ _ _ _ _ _ _ h=>by obtain⟨_,_,_,rfl⟩:=el3 h; exact rfl
 obtain⟨f_without,rB,n5⟩:=sX
 have nP:=n5.f.binds (ps:=["p","vector","times","other"]) fun _ _ _ _ _ _ _ h=>by obtain⟨_,_,_,_,rfl⟩:=el4 h; exact rfl
 obtain⟨f_first_relation,nv,lF⟩:=nX
 have lE:=lF.f.binds (ps:=["p","vectors"]) fun _ _ _ _ _ _ _ h=>by obtain⟨_,_,rfl⟩:=el2 h; exact rfl
 obtain⟨f_heard_at,qK,nj⟩:=rO
 have nc:=nj.f.binds (ps:=["row","numbers"]) fun _ _ _ _ _ _ _ h=>by obtain⟨_,_,rfl⟩:=el2 h; exact rfl
 obtain⟨f_joint_near,pR,mE⟩:=qj
 have mw:=mE.f.binds (ps:=["code","rows","t"]) fun _ _ _ _ _ _ _ h=>by obtain⟨_,_,_,rfl⟩:=el3 h; exact rfl
 obtain⟨f_times_entries,nR,lJ⟩:=oC
 have lr:=lJ.f.binds (ps:=["p","left","points"]) fun _ _ _ _ _ _ _ h=>by obtain⟨_,_,_,rfl⟩:=el3 h; exact rfl
 obtain⟨f_beyond,sL,pq⟩:=uw
 have oS:=pq.f.binds (ps:=["rights","many"]) fun _ _ _ _ _ _ _ h=>by obtain⟨_,_,rfl⟩:=el2 h; exact rfl
 obtain⟨f_sized,uh,qo⟩:=vK
 have oH:=qo.f.binds (ps:=["polynomial","many"]) fun _ _ _ _ _ _ _ h=>by obtain⟨_,_,rfl⟩:=el2 h; exact rfl
 obtain⟨f_joint_locator,me,lK⟩:=oD
 have kZ:=lK.f.binds (ps:=["code","rows"]) fun _ _ _ _ _ _ _ h=>by obtain⟨_,_,rfl⟩:=el2 h; exact rfl
 obtain⟨f_locator_of,pQ,mF⟩:=qk
 have mv:=mF.f.binds (ps:=["code","row"]) fun _ _ _ _ _ _ _ h=>by obtain⟨_,_,rfl⟩:=el2 h; exact rfl
 obtain⟨f_l_cell,sI,pz⟩:=ux
 have oO:=pz.f.binds (ps:=["script","k"]) fun _ _ _ _ _ _ _ h=>by obtain⟨_,_,rfl⟩:=el2 h; exact rfl
 obtain⟨f_l_draws,m7,n6⟩:=sY
 have lu:=n6.f.binds (ps:=["script","k","many","base"]) fun _ _ _ _ _ _ _ h=>by obtain⟨_,_,_,_,rfl⟩:=el4 h; exact rfl
 obtain⟨f_l_whole,rK,n8⟩:=sZ
 have mR:=n8.f.binds (ps:=["found"]) fun _ _ _ _ _ _ _ h=>by obtain⟨_,rfl⟩:=el1 h; exact rfl
 obtain⟨f_l_code,sR,pA⟩:=uy
 have pd:=pA.f.binds (ps:=["script","at","most_k","most_n"]) fun _ _ _ _ _ _ _ h=>by obtain⟨_,_,_,_,rfl⟩:=el4 h; exact rfl
 obtain⟨f_l_value,o9,n9⟩:=tf
 have lO:=n9.f.binds (ps:=["p","polynomial","x"]) fun _ _ _ _ _ _ _ h=>by obtain⟨_,_,_,rfl⟩:=el3 h; exact rfl
 obtain⟨f_l_rank,sP,pB⟩:=uz
 have nB:=pB.f.binds (ps:=["p","rows"]) fun _ _ _ _ _ _ _ h=>by obtain⟨_,_,rfl⟩:=el2 h; exact rfl
 obtain⟨f_l_powers,qI,nk⟩:=rP
 have mq:=nk.f.binds (ps:=["p","x","many"]) fun _ _ _ _ _ _ _ h=>by obtain⟨_,_,_,rfl⟩:=el3 h; exact rfl
 obtain⟨f_l_can,uu,qp⟩:=vL
 have qf:=qp.f.binds (ps:=["code","rows","e"]) fun _ _ _ _ _ _ _ h=>by obtain⟨_,_,_,rfl⟩:=el3 h; exact rfl
 obtain⟨f_l_rows,sS,pC⟩:=uA
 have pf:=pC.f.binds (ps:=["script","at","code","many"]) fun _ _ _ _ _ _ _ h=>by obtain⟨_,_,_,_,rfl⟩:=el4 h; exact rfl
 obtain⟨f_l_polynomial,oB,lS⟩:=pj
 have lQ:=lS.f.binds (ps:=["draws","p","k"]) fun _ _ _ _ _ _ _ h=>by obtain⟨_,_,_,rfl⟩:=el3 h; exact rfl
 obtain⟨f_l_right,rL,og⟩:=tj
 have nW:=og.f.binds (ps:=["code","rows","e","left","rights"]) fun _ _ _ _ _ _ _ h=>by obtain⟨_,_,_,_,_,rfl⟩:=el5 h; exact rfl
 let t:Adr:=⟨mO,qQ,f_value_at,f_inverse,f_times_root,f_bent,f_through,f_heard_points,f_fits,f_choices,f_all_through,f_all_near,f_without,f_first_relation,f_heard_at,f_joint_near,f_times_entries,f_beyond,f_sized,f_joint_locator,f_locator_of,f_l_cell,f_l_draws,f_l_whole,f_l_code,f_l_value,f_l_rank,f_l_powers,f_l_can,f_l_rows,f_l_polynomial,f_l_right,fa⟩
 have T:Txt K mg t:=⟨bC X G Bx,bC X G vM,bC X G xH,bC X G vN,bC X G By,bC X G Bz,bC X G ql,bC X G BA,bC X G xI,bC X G BB,bC X G qS,bC X G rQ,bC X G uB,bC X G qm,aS X G qR,aS X G uv,sb,aS X G nh.a,aS X G nY.a,aS X G mC.a,aS X G rR.a,aS X G nZ.a,aS X G lR.a,aS X G rS.a,aS X G n4.a,aS X G lY.a,aS X G ni.a,aS X G n5.a,aS X G lF.a,aS X G nj.a,aS X G mE.a,aS X G lJ.a,aS X G pq.a,aS X G qo.a,aS X G lK.a,aS X G mF.a,aS X G pz.a,aS X G n6.a,aS X G n8.a,aS X G pA.a,aS X G n9.a,aS X G pB.a,aS X G nk.a,aS X G qp.a,aS X G pC.a,aS X G lS.a,aS X G og.a,⟨_,nh.f,k8⟩,⟨_,nY.f,l6⟩,⟨_,mC.f,mo⟩,⟨_,rR.f,rA⟩,⟨_,nZ.f,l8⟩,⟨_,lR.f,lb⟩,⟨_,rS.f,oY⟩,⟨_,n4.f,nU⟩,⟨_,lY.f,lX⟩,⟨_,ni.f,ng⟩,⟨_,n5.f,nP⟩,⟨_,lF.f,lE⟩,⟨_,nj.f,nc⟩,⟨_,mE.f,mw⟩,⟨_,lJ.f,lr⟩,⟨_,pq.f,oS⟩,⟨_,qo.f,oH⟩,⟨_,lK.f,kZ⟩,⟨_,mF.f,mv⟩,⟨_,pz.f,oO⟩,⟨_,n6.f,lu⟩,⟨_,n8.f,mR⟩,⟨_,pA.f,pd⟩,⟨_,n9.f,lO⟩,⟨_,pB.f,nB⟩,⟨_,nk.f,mq⟩,⟨_,qp.f,qf⟩,⟨_,pC.f,pf⟩,⟨_,lS.f,lQ⟩,⟨_,og.f,nW⟩⟩
 have FL:=zjM (st:=zbQ) ll cl kl
 exact⟨cZ "law" "law" (zbD zbQ) (zbr zbQ) (zh zbQ) .none kV dc pm an cd ct,fun s v=>.of_eq rfl,fun base _ _=>znh (t:=t) T FL⟩
theorem walk {l:iw} {q:Program} {loose:List Str} {XP:(Str→Option Value)→Heap→Prop} {YP:World→Heap→Prop} {d:DefRec} {K:Params→ah} (hn:l.most=some 63) (yB:d.params.defaults = []) (hY:∀ (w:World) (h:Heap),YP w h→(K w.params).In h)
  (F:∀ (w:World) (mg:Str→Option Value) (fa:Addr) (h:Heap),(K w.params).In h→h.Ns mainGlobals mg→mg d.name=some (.ref fa)→∃ fd:FuncData,(∀ (s:Shared) (u:Value),BindsTo s fd ⟨[u],[]⟩ [("script",u)])∧∀ base:Heap,(K w.params).In base→base.Ns mainGlobals mg→FnOk l.prog w (K w.params) mg base CX0 7 fa fd ["script"] (zfB (K w.params))):kr q loose XP YP l.row.toRowW d [] (fun f vs=>j8 f vs) :=
 L2.zld (n:=63) (k:=7) (x:="script") (CX:=fun _=>CX0) (sp:=fun w=>zfB (K w.params)) hn (by decide) yB ⟨rfl,by decide,by decide⟩ hY F (fun _ _ a ns hl _ hS=>⟨a,ns,rfl,hS,hl,fun _=>rfl⟩) fun _ _ _ _ _ z=>z
end My
namespace PySem.W.Fast
def tw7484980560595719267:Unit:=()
def tw4155934848066054306:Unit:=()
def tw6450836212480718622:Unit:=()
def tw8901248077633676064:Unit:=()
def tw10295620463386761700:Unit:=()
def tw18100663378262273157:Unit:=()
def tw14895131056639746030:Unit:=()
def tw15877035337865685313:Unit:=()
def tw2488161693699147130:Unit:=()
def tw7604804988168676540:Unit:=()
def tw9414785785607316000:Unit:=()
def tw7291388718922754734:Unit:=()
def tw8926703550288623914:Unit:=()
def tw15755044124552995631:Unit:=()
def tw6953335718315121107:Unit:=()
def tw9693537774784528060:Unit:=()
def tw3384358304666754289:Unit:=()
def tw7365117415936881132:Unit:=()
def tw13010619076943309671:Unit:=()
def tw4810453017852008392:Unit:=()
def tw2696746093097618179:Unit:=()
def tw16365886001866265876:Unit:=()
def tw760665411829538731:Unit:=()
def tw6661079364995967577:Unit:=()
def tw10219618547887961904:Unit:=()
def tw6821429404426943014:Unit:=()
def tw14010536693613710101:Unit:=()
def tw10147319672500421611:Unit:=()
def tw765414408701443109:Unit:=()
def tw16088620152186341574:Unit:=()
def tw12886678736175579910:Unit:=()
def tw12366426575860289632:Unit:=()
def tw3803741967217464492:Unit:=()
def tw12601853286361500078:Unit:=()
def tw16614234147582281730:Unit:=()
def tw10912229220659105195:Unit:=()
def tw850374524085225206:Unit:=()
def tw4540269923012245798:Unit:=()
def tw16124712655982119702:Unit:=()
def tw10905517154883539334:Unit:=()
def tw92681455303096045:Unit:=()
def tw8609013808515057664:Unit:=()
def tw13877811538662661138:Unit:=()
def tw6728593163598212221:Unit:=()
def tw13773249853409181504:Unit:=()
def tw17586297170452243244:Unit:=()
def tw16767709702817625455:Unit:=()
def tw13883911860878822751:Unit:=()
def tw373563204865899058:Unit:=()
def tw13496422266588238501:Unit:=()
def tw6872181674236889173:Unit:=()
def tw9539557661177608255:Unit:=()
def tw18260035754538850484:Unit:=()
def tw6521447706356884664:Unit:=()
def tw6275478304626910400:Unit:=()
def tw3175403664722807:Unit:=()
def tw4260014383431620822:Unit:=()
def tw8248008210694947156:Unit:=()
def tw10125496687978279533:Unit:=()
def tw10788287441031456193:Unit:=()
def tw9591191136741294646:Unit:=()
def tw7067847584939047497:Unit:=()
def tw16007339122776724966:Unit:=()
def tw7264966838786776579:Unit:=()
def tw13635022144940398908:Unit:=()
def tw13035145284463345850:Unit:=()
def tw4725160364886103615:Unit:=()
def tw11049934264887677726:Unit:=()
def tw5685592276974416850:Unit:=()
def tw2642410441020497649:Unit:=()
def tw14946200068031583051:Unit:=()
def tw12270452253356848647:Unit:=()
def tw9518256094859647966:Unit:=()
def tw10512919270795448485:Unit:=()
def tw6915695998650113880:Unit:=()
def tw1141196324816041533:Unit:=()
def tw3646057675554654797:Unit:=()
def tw16734624803307663712:Unit:=()
def tw135896512760395579:Unit:=()
def tw14598812095784772407:Unit:=()
def tw17748942016779558347:Unit:=()
def tw15856565122528635354:Unit:=()
def tw10694257482098740883:Unit:=()
def tw3191120372033895782:Unit:=()
def tw6565061917833760936:Unit:=()
def tw8007270637897968759:Unit:=()
def tw11619723246138144903:Unit:=()
def tw10333311671231950262:Unit:=()
def tw12020233733581323765:Unit:=()
def tw6007774999509877982:Unit:=()
end PySem.W.Fast
open PySem PySem.W
open PyProof.Rows
set_option maxHeartbeats 0 in
theorem PySem.Challenge.cw_slipcurve_k26_whole_locators_together_holds : PySem.Challenge.rw_slipcurve_k26_whole_locators_together.Holds := by
 w_on; o_law; k_head; (case hw=>w_witness2)
 k_fill
 refine My.walk (l:=PySem.Challenge.rw_slipcurve_k26_whole_locators_together) rfl rfl (fun w h Y=>PySem.W.kIn_of Y) ?F
 case F =>
  intro w mg fa h KX G hmg
  refine' My.zni KX G hmg ?a_SlipError ?a_TooFew ⟨_,_,My.zap ?da_value_at ?dl_value_at ?dc_value_at ?dk_value_at⟩ ⟨_,_,My.zap ?da_inverse ?dl_inverse ?dc_inverse ?dk_inverse⟩ ⟨_,_,My.zap ?da_times_root ?dl_times_root ?dc_times_root ?dk_times_root⟩ ⟨_,_,My.zap ?da_bent ?dl_bent ?dc_bent ?dk_bent⟩ ⟨_,_,My.zap ?da_through ?dl_through ?dc_through ?dk_through⟩ ⟨_,_,My.zap ?da_heard_points ?dl_heard_points ?dc_heard_points ?dk_heard_points⟩ ⟨_,_,My.zap ?da_fits ?dl_fits ?dc_fits ?dk_fits⟩ ⟨_,_,My.zap ?da_choices ?dl_choices ?dc_choices ?dk_choices⟩ ⟨_,_,My.zap ?da_all_through ?dl_all_through ?dc_all_through ?dk_all_through⟩ ⟨_,_,My.zap ?da_all_near ?dl_all_near ?dc_all_near ?dk_all_near⟩ ⟨_,_,My.zap ?da_without ?dl_without ?dc_without ?dk_without⟩ ⟨_,_,My.zap ?da_first_relation ?dl_first_relation ?dc_first_relation ?dk_first_relation⟩ ⟨_,_,My.zap ?da_heard_at ?dl_heard_at ?dc_heard_at ?dk_heard_at⟩ ⟨_,_,My.zap ?da_joint_near ?dl_joint_near ?dc_joint_near ?dk_joint_near⟩ ⟨_,_,My.zap ?da_times_entries ?dl_times_entries ?dc_times_entries ?dk_times_entries⟩ ⟨_,_,My.zap ?da_beyond ?dl_beyond ?dc_beyond ?dk_beyond⟩ ⟨_,_,My.zap ?da_sized ?dl_sized ?dc_sized ?dk_sized⟩ ⟨_,_,My.zap ?da_joint_locator ?dl_joint_locator ?dc_joint_locator ?dk_joint_locator⟩ ⟨_,_,My.zap ?da_locator_of ?dl_locator_of ?dc_locator_of ?dk_locator_of⟩ ⟨_,_,My.zap ?da_l_cell ?dl_l_cell ?dc_l_cell ?dk_l_cell⟩ ⟨_,_,My.zap ?da_l_draws ?dl_l_draws ?dc_l_draws ?dk_l_draws⟩ ⟨_,_,My.zap ?da_l_whole ?dl_l_whole ?dc_l_whole ?dk_l_whole⟩ ⟨_,_,My.zap ?da_l_code ?dl_l_code ?dc_l_code ?dk_l_code⟩ ⟨_,_,My.zap ?da_l_value ?dl_l_value ?dc_l_value ?dk_l_value⟩ ⟨_,_,My.zap ?da_l_rank ?dl_l_rank ?dc_l_rank ?dk_l_rank⟩ ⟨_,_,My.zap ?da_l_powers ?dl_l_powers ?dc_l_powers ?dk_l_powers⟩ ⟨_,_,My.zap ?da_l_can ?dl_l_can ?dc_l_can ?dk_l_can⟩ ⟨_,_,My.zap ?da_l_rows ?dl_l_rows ?dc_l_rows ?dk_l_rows⟩ ⟨_,_,My.zap ?da_l_polynomial ?dl_l_polynomial ?dc_l_polynomial ?dk_l_polynomial⟩ ⟨_,_,My.zap ?da_l_right ?dl_l_right ?dc_l_right ?dk_l_right⟩ ?sb ?al ?ll ?cl ?kl ?z_len ?z_range ?z_list ?z_tuple ?z_min ?z_max ?z_isinstance ?z_int ?z_bool ?z_zip ?z_enumerate ?z_reversed ?z_sorted ?z_ValueError
  (case a_SlipError=>k_is)
  (case a_TooFew=>k_is)
  (case da_value_at=>k_is)
  (case dl_value_at=>k_is)
  (case dc_value_at=>k_is)
  (case dk_value_at=>k_is)
  (case da_inverse=>k_is)
  (case dl_inverse=>k_is)
  (case dc_inverse=>k_is)
  (case dk_inverse=>k_is)
  (case da_times_root=>k_is)
  (case dl_times_root=>k_is)
  (case dc_times_root=>k_is)
  (case dk_times_root=>k_is)
  (case da_bent=>k_is)
  (case dl_bent=>k_is)
  (case dc_bent=>k_is)
  (case dk_bent=>k_is)
  (case da_through=>k_is)
  (case dl_through=>k_is)
  (case dc_through=>k_is)
  (case dk_through=>k_is)
  (case da_heard_points=>k_is)
  (case dl_heard_points=>k_is)
  (case dc_heard_points=>k_is)
  (case dk_heard_points=>k_is)
  (case da_fits=>k_is)
  (case dl_fits=>k_is)
  (case dc_fits=>k_is)
  (case dk_fits=>k_is)
  (case da_choices=>k_is)
  (case dl_choices=>k_is)
  (case dc_choices=>k_is)
  (case dk_choices=>k_is)
  (case da_all_through=>k_is)
  (case dl_all_through=>k_is)
  (case dc_all_through=>k_is)
  (case dk_all_through=>k_is)
  (case da_all_near=>k_is)
  (case dl_all_near=>k_is)
  (case dc_all_near=>k_is)
  (case dk_all_near=>k_is)
  (case da_without=>k_is)
  (case dl_without=>k_is)
  (case dc_without=>k_is)
  (case dk_without=>k_is)
  (case da_first_relation=>k_is)
  (case dl_first_relation=>k_is)
  (case dc_first_relation=>k_is)
  (case dk_first_relation=>k_is)
  (case da_heard_at=>k_is)
  (case dl_heard_at=>k_is)
  (case dc_heard_at=>k_is)
  (case dk_heard_at=>k_is)
  (case da_joint_near=>k_is)
  (case dl_joint_near=>k_is)
  (case dc_joint_near=>k_is)
  (case dk_joint_near=>k_is)
  (case da_times_entries=>k_is)
  (case dl_times_entries=>k_is)
  (case dc_times_entries=>k_is)
  (case dk_times_entries=>k_is)
  (case da_beyond=>k_is)
  (case dl_beyond=>k_is)
  (case dc_beyond=>k_is)
  (case dk_beyond=>k_is)
  (case da_sized=>k_is)
  (case dl_sized=>k_is)
  (case dc_sized=>k_is)
  (case dk_sized=>k_is)
  (case da_joint_locator=>k_is)
  (case dl_joint_locator=>k_is)
  (case dc_joint_locator=>k_is)
  (case dk_joint_locator=>k_is)
  (case da_locator_of=>k_is)
  (case dl_locator_of=>k_is)
  (case dc_locator_of=>k_is)
  (case dk_locator_of=>k_is)
  (case da_l_cell=>k_is)
  (case dl_l_cell=>k_is)
  (case dc_l_cell=>k_is)
  (case dk_l_cell=>k_is)
  (case da_l_draws=>k_is)
  (case dl_l_draws=>k_is)
  (case dc_l_draws=>k_is)
  (case dk_l_draws=>k_is)
  (case da_l_whole=>k_is)
  (case dl_l_whole=>k_is)
  (case dc_l_whole=>k_is)
  (case dk_l_whole=>k_is)
  (case da_l_code=>k_is)
  (case dl_l_code=>k_is)
  (case dc_l_code=>k_is)
  (case dk_l_code=>k_is)
  (case da_l_value=>k_is)
  (case dl_l_value=>k_is)
  (case dc_l_value=>k_is)
  (case dk_l_value=>k_is)
  (case da_l_rank=>k_is)
  (case dl_l_rank=>k_is)
  (case dc_l_rank=>k_is)
  (case dk_l_rank=>k_is)
  (case da_l_powers=>k_is)
  (case dl_l_powers=>k_is)
  (case dc_l_powers=>k_is)
  (case dk_l_powers=>k_is)
  (case da_l_can=>k_is)
  (case dl_l_can=>k_is)
  (case dc_l_can=>k_is)
  (case dk_l_can=>k_is)
  (case da_l_rows=>k_is)
  (case dl_l_rows=>k_is)
  (case dc_l_rows=>k_is)
  (case dk_l_rows=>k_is)
  (case da_l_polynomial=>k_is)
  (case dl_l_polynomial=>k_is)
  (case dc_l_polynomial=>k_is)
  (case dk_l_polynomial=>k_is)
  (case da_l_right=>k_is)
  (case dl_l_right=>k_is)
  (case dc_l_right=>k_is)
  (case dk_l_right=>k_is)
  (case sb=>k_is)
  (case al=>k_is)
  (case ll=>k_is)
  (case cl=>k_is)
  (case kl=>k_is)
  (case z_len=>k_is)
  (case z_range=>k_is)
  (case z_list=>k_is)
  (case z_tuple=>k_is)
  (case z_min=>k_is)
  (case z_max=>k_is)
  (case z_isinstance=>k_is)
  (case z_int=>k_is)
  (case z_bool=>k_is)
  (case z_zip=>k_is)
  (case z_enumerate=>k_is)
  (case z_reversed=>k_is)
  (case z_sorted=>k_is)
  (case z_ValueError=>k_is)
#print axioms PySem.Challenge.cw_slipcurve_k26_whole_locators_together_holds
end