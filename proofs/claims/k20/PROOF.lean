import PyProof.Rows.All
import Wide.All
import OpenK.AllK
import Wide.FinOn
import Lean
import PyProof.EqAt
import PyProof.EqKinds
import KE.KDictOf
import PyProof.AttrMissHeap
import PyProof.Rows.MinMaxN
import PyProof.ListMulRoad
import KE.KUnpackStar
import KE.KIntText
import PyProof.CallStr
import KE.KDictSum
import KE.KSortTup
import PyProof.Walk
import PyProof.Rows.SortRuns
import PyProof.Rows.ChunkEnd
import PyProof.Rows.Range3
import PyProof.Rows.SeqGen
import PyProof.ConsumeWalk
import PyProof.ListRange
import PyProof.NeKinds
import PyProof.TupleCall
import PySem.Challenge.RW_slipcurve_k20_whole_more_heard
set_option maxHeartbeats 3999000
open List renaming length_map→ab,getElem?_map→ah,size_toArray→aj,getElem?_eq_getElem→am,length_append→ao,replicate→ap,map_append→ar,mem_cons_of_mem→av,getElem?_eq_some_iff→az,length_take→aA,mem_of_getElem?→aB,mem_cons→aD,mem_map→aE,mem_cons_self→aF,mem_append_right→aG,take_of_length_le→aK,range→aL,getD_eq_getElem?_getD→aM,length_replicate→aQ,not_mem_nil→aR,mem_append_left→aS,length_range→aT,map_cons→aU,mem_append→aW,length_cons→aX,mem_singleton→a7,append_assoc→a8,lookup_cons→ba,zipWith→bf,take_length→bo,getElem?_append_left→bp,map_map→bv,mem_filter→bz,getElem?_take_of_lt→bD,mem_range→bF,length_drop→bK,append_nil→bO,getElem?_append_right→bR,filter_cons_of_pos→bS,filter_cons_of_neg→bT,take_sublist→bU,replicate_succ→bY,getElem?_range→bZ,getElem?_eq_none→b7,take_append_drop→b8,map_congr_left→cj,filter_append→cq,getElem?_cons_succ→cr,drop_eq_nil_of_le→cw,drop_eq_getElem_cons→cA,range_succ→cC,pairwise_iff_getElem→cD,mem_iff_getElem?→cF,getElem?_of_mem→cJ,getElem?_replicate→cK,flatMap_append→cP,filter_sublist→cQ,nodup_iff_pairwise_ne→cW,map_take→cX,sum_cons→cY,mem_flatMap→c6,length_filter_le→c9,drop_zero→da,concat_eq_append→db,extract_eq_take_drop→de,mem_of_mem_take→dt,pairwise_map→dz,take_zero→dC,zip_cons_cons→dJ,nodup_cons→dM,flatten_cons→dQ,getElem?_set_ne→dR,all_eq_true→d7,eq_of_mem_replicate→d9,length_zipWith→eg,getElem_of_mem→eh,forIn_cons→et,find?_cons→eA,getElem?_drop→eB,length→eC,drop_of_length_le→eD,ext_getElem?→eF,nodup_append→eG,eq_nil_or_concat→eU,filterMap_cons→ff,mem_map_of_mem→fg,length_set→fj,mem_or_eq_of_mem_set→fm,getElem?_zip_eq_some→fq,filter_nil→fu,map_nil→fC,getElem?_cons_zero→fN,flatMap_cons→fR,getElem?_set_self→fS,map_drop→fW,take_nil→fX,getElem_mem→f6,drop_length→f7,length_singleton→f8,of_mem_zip→ga,foldl→gb,mem_of_mem_drop→ge,length_take_le→gk,length_pos_iff→gm,forIn_nil→gr,any_cons→gP,take_add_one→gZ,nil_sublist→ip,sublist_nil→iq,length_eq_zero_iff→iC,foldl_cons→iH,nil_append→iI,length_nil→iL,lookup→iT,range_succ_eq_map→iU,filter_eq_nil_iff→iZ,length_eq_one_iff→i0,getElem?_zipWith→i4,drop_drop→i5,pairwise_append→jg,mem_filterMap→jx,filterMap_map→jA,forIn_toArray→jH,set_cons_succ→jM,getElem_take→jP,map_id→jY,nodup_range→j6,zipIdx_cons→j7,map_flatMap→ka,any_eq_true→kb,prefix_refl→kf,zipIdx_nil→ko,sum_append→kr,length_zip→kt,take_take→kz
open PySem renaming wpAny_bind→ae,wpAny_pure→ak,sizeLine_eq→aV,wpAny_callSpecial?_slot→bh,wpAny_field→br,wpAny_call_entry→bu,wpAny_setField_rec→bG,wpAny_newObj_type→bM,wpAny_holding→bQ,boot_len→b9,wpAny_rule→cg,wpAny_loadPart'→cB,builtinLookup_eq_fast→cE,wpAny_mono→cS,wpAny_attempt→cU,wpAny_seqItems→c8,wpAny_typeNameOfWhole_keyiter→dA,call_meets→dF,wpAny_of_eq→dG,wpAny_passesOwn→dL,typeLookup_type→dO,wpAny_setField→dX,mem_of_lookup→ee,wpAny_isInstance→eZ,wpAny_standAt→fc,wpAny_typeOf→fB,wpAny_pyIter_enum→fP,wpAny_pyIter_zip→fY,wpAny_execs_nil→f',wpAny_updateSeq_pair→gd,isSubtype_type→gn,isSubtype_stop→gp,wpAny_newTuple→gt,seqIndex_of→gw,wpAny_pyIter_tuple→gB,wpAny_Call_Name_kw→gC,tupleKind_room_in1→gF,wpAny_letOwnedTupleGo_enum→gM,wpAny_onRaise→gO,wpAny_pyIter_list→gS,wpAny_pyIter_slot→gW,wpAny_dictEntries→g7,typeIs_int→hU,wpAny_binaryOp_repeat_ref→hW,noFill_tuple_add→ie,wpAny_comprehension_free→ik,wpAny_specialOf→iK,wpAny_dictEpoch→iM,wpAny_ite_false→iN,wpAny_letGo→iV,wpAny_notOrdered_dict→i6,wpAny_isOneOf_keyiter→i8,wpAny_loadName_local→jb,wpAny_pyIter_revIter→je,wpAny_pyIter_keyiter→jh,seq_tuple_add→jj,wpAny_handled→jk,wpAny_loadName_cell→jo,codeAny_mono→jy,concat_meets→jz,seqIndex_neg→jC,callType_new→jG,list_append→jN,wpAny_throw→jV,seqSlot_of→kd,wpAny_Name→kg,call→kj
open Nat renaming le_refl→af,zero_le→aY,le_trans→aZ,lt_of_lt_of_le→bg,ne_of_lt→bt,min_eq_left→cp,lt_irrefl→cu,add_sub_cancel→cH,zero_add→dm,add_sub_cancel_left→dB,sub_zero→ed,lt_succ_of_lt→eE,mul_comm→eI,le_div_iff_mul_le→eW,succ_le_succ→eX,le_of_not_lt→eY,le_of_lt→fw,ne_of_gt→fz,add_zero→fE,sub_self→gh,le_succ→gz,lt_of_le_of_lt→gG,le_of_succ_le→gU,lt_succ_of_le→hJ,succ_ne_self→ij,le_add_right→im,add_le_add_left→ju,lt_succ_self→j3,div_le_self→ku,mul_le_mul→kC
open PySem.W renaming Frag→ag,mg_of→aP,mg_none_of→bC,nsIn→bE,fnOf→dh,keepIn→fJ,codeIn→fK,methodObj→gR,OpenLaw→iJ,cellsFrom_some→iQ,WalkO→kF,mroIn→kH
open PySem.Heap renaming get?_push_of_some→ai,get?_push_size→aI,lt_size→aJ,SameBut→bj,size_push→bL,get?_update_self→dN,get?_update_other→fU,ExtBut→jU
open Or renaming inl→aq,inr→bX
open PyProof.Rows renaming wpS_bind→au,wpS_pure→aw,callWith_type1→bq,wpS_forRange→bV,wpS_mono→cZ,slot_tuple_getitem→dg,zipApart_new→dk,wpS_modify→dH,wpS_get→eQ,boot_tuple→gi,wpS_lift→gu,pairsOf_size→io,subscriptTail_builtinR→iR,mirror_perm→iY,pairsOf_toList→i9,listUpdate_at→jn,entry_tuple_getitem→jp,getElem?_mirror_all→jt,args_tuple_getitem→jB,seqEpoch_at→jX,boot_zip→j4,boot_range→kh
open Int renaming emod_lt_of_pos→aC,emod_nonneg→aH,toNat_natCast→bm,le_refl→bH,le_trans→bW,emod_eq_of_lt→ck,mul_zero→cR,mul_le_mul_of_nonneg_right→dr,zero_add→dw,zero_mul→dI,mul_comm→d8,le_of_lt→eR,natCast_mul→fo,natCast_add→ft,pow_succ→fF,one_mul→gA,fdiv_eq_ediv_of_nonneg→gJ,natCast_ediv→iw,pow_zero→jI,sub_zero→jJ,natCast_nonneg→jK,lt_of_le_of_lt→jL,lt_trichotomy→jQ,mul_one→jT,natCast_sub→kw,mul_nonneg→kA
open Bool renaming false_ne_true→aN,false_eq_true→bn,eq_iff_iff→cm,and_eq_true→dY,and_false→i3,or_eq_true→km,and_true→kG
open Option.some renaming inj→aO,injEq→g8
open PySem.Value renaming ref→bb,none→dE,int→iF,type→ja,str→kD,isStrOf→kE
open PySem.Builtin.SmallTypes renaming nextOf→bd,ownedTupleIsFree→bP,ownedTupleHandOut→cG,newRecord→kx
open PySem.Paired renaming length→be,snoc→bI,mono→cI
open Array renaming getElem?_toList→bi,length_toList→bw,toList_append→bJ,getElem?_eq_some_iff→cV,toList_extract→dq,perm_iff_toList_perm→fe,toList_reverse→gf,toList_map→j9,size_map→kB,toList→kJ
open PySem.PassesOwn renaming never→bA
open PySem.Str renaming ofString→bN
open PySem.NameKind renaming free→cb,cell→cT
open PySem.Around renaming in1_units→ci,under_plainId→ji
open ForInStep renaming yield→cn,done→fL
open PySem.F renaming plainAttrs_list→cL,slot_zip_next→dn,slot_list_append→du,type_list_append→dv,slot_dict_keyiterator_next→dD,slot_tuple_iterator_next→dP,slot_enumerate_next→eK,args_tuple_add_2→fA,entry_tuple_add→fM,args_zip_next_1→fQ,slot_tuple_add→fT,entry_zip_next→fZ,slot_dict_get→f9,slot_int_rmul→gc,args_dict_keyiterator_next_1→gg,entry_dict_keyiterator_next→gj,args_tuple_iterator_next_1→gq,entry_tuple_iterator_next→gD,args_tuple_mul_2→gH,entry_tuple_mul→g9,slot_tuple_mul→iu,args_enumerate_next_1→iA,args_dict_get_3→iB,entry_enumerate_next→iW,entry_dict_get→iX,args_list_append_2→jd,args_object_init_2→jf,entry_list_append→jq,slot_list_append→jD,args_int_rmul_2→jO,entry_int_rmul→j2,slot_dict_iter→j8
open Sum renaming inl→cM,inr→ic
open PySem.Heap.SameBut renaming update→cN
open PySem.Obj renaming data_mapFields→c7,mapSeq→dj,isFreed_of_fields→eJ,mapFields→gN,cls_mapFields→gV
open Classical renaming byContradiction→df,axiomOfChoice→iz,propDecidable→iE,em→jE
open False renaming elim→dS
open PySem.Builtin.Slice renaming slicePlaces→dU,sliceAdjust→fh,sliceApplied→gK
open Ne renaming symm→dW
open PySem.Builtin.Tuple renaming tupleExact→dZ,tupleItemsOf→gL,tupleTooMany→gQ
open PySem.Builtin.List renaming listTooLong→d6
open PySem.Calls renaming spliced_cons→er,spliced_nil→fO,Name_function_global→gI,callWith_builtin→iS,evalArgs_plain→jc
open List.Pairwise renaming sublist→eS,imp_of_mem→fG,nil→gT,imp→jR
open PySem.Draws renaming list→fb
open List.Perm renaming trans→fk
open PySem.AutoSeq1 renaming sub_tuple_tuple→fH,idx_int→ir
open List.Sublist renaming nodup→fI
open Option renaming map_eq_some_iff→fV,getD_some→ig,toList→jl,isSome_some→jF,getD_none→j0,none→kL
open PySem.Builtin.Dict_items renaming ownsTuple→gv
open PySem.SeqAt.EqAt renaming of_refs→gE,int_str→jv,str_int→jw,same→ki
open PySem.SeqAt.RcAt renaming tuples→gX,lists_lengths→il,lists→j5
open True renaming intro→h9
open PySem.Builtin.Dict renaming updateFrom→iD,showsAll→i7
open PyProof.Rows.IsTup renaming new→iG
open Sum.inl renaming inj→iO
open PyProof renaming noPylong_small→iP
open List.cons renaming inj→jm
open PySem.SeqAt.RcNeAt renaming tuples→jr
open PySem.Data renaming fields→jS,seq→kK
open PySem.Shared renaming heap→jW
open Prod renaming ext→jZ
open PySem.IsL renaming update→j1
open PyProof.Rows.SortSt renaming mk'→kq
open PySem.W.KatTups renaming cons→kM
local macro_rules | `(tactic| trivial)=>`(tactic| first | exact .inl rfl | exact .inr rfl | assumption)
local macro_rules|`(#[$xs,*])=>do
 let a:=xs.getElems
 if h:a.size=0 then Lean.Macro.throwUnsupported else
 let s:=a[0].raw.getId.eraseMacroScopes.toString
 match [("_____ee","zd"),("________eee","za6 zj zgI"),("________eeee","zC"),("_","zfh zu ze zK zab zdE zO zZ zH zG znk zb8 zc2 zb2 zbB zaV zaE zB za1 zJ zfT zb9 zav zfQ znj"),("_e__f","pvx"),("_________ereeeddrr","zA zaD"),("_____eer","za zi"),("___e","zn zaH zbq"),("____e","zE zX zS zih zaX"),("_______eeeu","zM"),("____","zf zdD"),("__e____efeert","zo"),("_____e","zaG"),("______e","zcP"),("________________eefeeeneedrr","zr"),("________efeeei","za9"),("______feer","zai"),("__e_efet","zg"),("____er","zcw"),("____________eeeeeerrrrr","zfo"),("_f","zfi zdx"),("_____________efeeeeei","z0"),("__f","zap"),("_ef","zbr zbX"),("__________eeee","zax"),("______eerrr","za8"),("______ferr","zaU"),("_____________e___efeefeeeeerit","zaA"),("_______ee","zfO"),("___","zbJ"),("______eee","zed"),("__e______efeeet","zfP"),("___fe","zw"),("_________feerr","zdX"),("_e___e_fferr","zaq"),("_______eeei","zkc"),("_____________________efeeddeeeeeeeie","ziQ"),("______ee","zkf"),("__","zfd"),("_e","zhR")].find? fun q=>(q.2.splitOn " ").contains s with
 |none=>Lean.Macro.throwUnsupported
 |some (p,_)=>do
  let mut r:=#[]
  let mut i:=1
  for c in p.toList do
   if c=='e' then
    r:=r.push (a[i]!)
    i:=i+1
   else r:=r.push (←match c with|'_'=>`(_)|'r'=>`((by rfl))|'d'=>`((by decide))|'f'=>`(rfl)|'t'=>`((by trivial))|'i'=>`((by intro _; rfl))|'u'=>`((fun _ _=>rfl))|'n'=>`(.nil)|'l'=>`(Or.inl rfl)|'o'=>`(Or.inr rfl)|_=>`(nomark _))
  return Lean.Syntax.mkApp (←`(@$(⟨a[0].raw⟩):ident)) r
set_option Elab.async false
set_option linter.all false
set_option maxRecDepth 100000
namespace L2
open PySem PySem.Spec PyProof.Rows
abbrev Key:=Sum Int Str
def zfb:Key→Value→Bool
 | .inl k,v=>Value.isInt k v
 | .inr x,v=>kE x v
def zpc (w:World):Key→Int
 | .inl k=>hashInt k
 | .inr x=>hashStr w x
theorem zam:∀ {k:Key} {v:Value},zfb k v=true→(∃ i t,k=cM i∧v=iF i t)∨(∃ x t,k=ic x∧v=kD x t)
 | .inl i,v,h=>by
  obtain⟨t,e⟩:=Value.isInt_shape (k:=i) (v:=v) h
  exact .inl ⟨i,t,rfl,e⟩
 | .inr x,v,h=>by
  obtain⟨t,e⟩:=Value.isStrOf_shape (x:=x) (v:=v) h
  exact .inr ⟨x,t,rfl,e⟩
theorem zjj (i:Int) (t:Tok):zfb (.inl i) (.int i t)=true:=by simp [zfb,Value.isInt]
theorem zjk (x:Str) (t:Tok):zfb (.inr x) (.str x t)=true:=by simp [zfb,kE]
theorem znw (a b:Int):decide ((cM a:Key)=cM b)=(a == b):=by
 by_cases e:a=b
 ·subst e; simp
 ·have h:¬ (cM a:Key)=cM b:=fun q=>e (iO q)
  rw [decide_eq_false h]
  exact (beq_eq_false_iff_ne.mpr e).symm
theorem znx (a b:Str):decide ((ic a:Key)=ic b)=decide (a=b):=by
 by_cases e:a=b
 ·subst e; simp
 ·have h:¬ (ic a:Key)=ic b:=fun q=>e (Sum.inr.inj q)
  rw [decide_eq_false h,decide_eq_false e]
theorem zny (a:Int) (b:Str):decide ((cM a:Key)=ic b)=false:=decide_eq_false (fun q=>nomatch q)
theorem znz (a:Str) (b:Int):decide ((ic a:Key)=cM b)=false:=decide_eq_false (fun q=>nomatch q)
def zan (prog:Program) (w:World):PySem.KeyKind prog w Key where
 is:=zfb
 hash:=zpc w
 inj:=fun v a b ha hb=>by
  rcases zam ha with ⟨i,t,rfl,rfl⟩ | ⟨x,t,rfl,rfl⟩
  ·rcases zam hb with ⟨j,u,rfl,e⟩ | ⟨y,u,rfl,e⟩
   ·injection e with e1 _; rw [e1]
   ·exact nomatch e
  ·rcases zam hb with ⟨j,u,rfl,e⟩ | ⟨y,u,rfl,e⟩
   ·exact nomatch e
   ·injection e with e1 _; rw [e1]
 byValue:=fun k v h=>by
  rcases zam h with ⟨i,t,rfl,rfl⟩ | ⟨x,t,rfl,rfl⟩ <;> rfl
 pyHash:=fun hv h=>by
  rcases zam hv with ⟨i,t,rfl,rfl⟩ | ⟨x,t,rfl,rfl⟩
  ·exact wpAny_pyHash_int h
  ·exact wpAny_pyHash_str h
 eqBool:=fun hu hv h=>by
  rcases zam hu with ⟨i,t,rfl,rfl⟩ | ⟨x,t,rfl,rfl⟩
  ·rcases zam hv with ⟨j,u,rfl,rfl⟩ | ⟨y,u,rfl,rfl⟩
   ·rw [znw] at h; exact wpAny_eqBool_int h
   ·rw [zny] at h; exact jv i t y u _ _ _ _ h
  ·rcases zam hv with ⟨j,u,rfl,rfl⟩ | ⟨y,u,rfl,rfl⟩
   ·rw [znz] at h; exact jw x t j u _ _ _ _ h
   ·rw [znx] at h; exact wpAny_eqBool_str h
 «strs»:=fun k x t v h=>by
  rcases zam h with ⟨i,u,rfl,e⟩ | ⟨y,u,rfl,e⟩
  ·exact nomatch e
  ·injection e with e1 _
   subst e1
   cases v <;> rfl
theorem zgE (prog:Program) (w:World) (i:Int) (t:Tok):(zan prog w).is (.inl i) (.int i t)=true:=zjj i t
theorem zgF (prog:Program) (w:World) (x:Str) (t:Tok):(zan prog w).is (.inr x) (.str x t)=true:=zjk x t
inductive V where
 | non | bl (b:Bool) | int (i:Int) | str (x:Str) | byt (b:Array UInt8) | flt (b:UInt64) | ref (a:Addr) | ty (n:String)
 deriving DecidableEq
def RelV:V→Value→Prop
 | .non,u=>u=dE
 | .bl b,u=>u=Value.bool b
 | .int i,u=>∃ t,u=iF i t
 | .str x,u=>∃ t,u=kD x t
 | .byt b,u=>∃ t,u=Value.bytes b t
 | .flt b,u=>∃ t,u=Value.float b t
 | .ref a,u=>u=bb a
 | .ty n,u=>u=ja n
abbrev zL:List V→List Value→Prop:=Paired RelV
theorem zL.length {xs:List V} {us:List Value} (r:zL xs us):xs.length=us.length:=be r
theorem zL.get:∀ {xs:List V} {us:List Value} {i:Nat} {x:V},zL xs us→xs[i]? = some x→∃ u,us[i]? = some u∧RelV x u
 | _,_,_,_,.nil,e=>by simp at e
 | _,_,0,_,.cons r _,e=>by simp at e; subst e; exact⟨_,rfl,r⟩
 | _,_,i+1,x,.cons _ t,e=>by
  obtain⟨u,h1,h2⟩:=zL.get (i:=i) (x:=x) t (by simpa using e)
  exact⟨u,by simpa using h1,h2⟩
theorem zL.set {x:V} {u:Value} (r:RelV x u):∀ {xs:List V} {us:List Value} (i:Nat),zL xs us→zL (xs.set i x) (us.set i u)
 | _,_,_,.nil=>.nil
 | _,_,0,.cons _ t=>.cons r t
 | _,_,i+1,.cons q t=>.cons q (zL.set r i t)
theorem zL.append:∀ {xs ys:List V} {us ws:List Value},zL xs us→zL ys ws→zL (xs++ys) (us++ws)
 | _,_,_,_,.nil,s=>s
 | _,_,_,_,.cons r t,s=>.cons r (zL.append t s)
theorem zL.take:∀ {xs:List V} {us:List Value} (n:Nat),zL xs us→zL (xs.take n) (us.take n)
 | _,_,0,_=>.nil
 | _,_,_+1,.nil=>.nil
 | _,_,n+1,.cons r t=>.cons r (zL.take n t)
theorem zL.drop:∀ {xs:List V} {us:List Value} (n:Nat),zL xs us→zL (xs.drop n) (us.drop n)
 | _,_,0,r=>r
 | _,_,_+1,.nil=>.nil
 | _,_,n+1,.cons _ t=>zL.drop n t
def zgG:Option V→Option Value→Prop
 | some v,some u=>RelV v u
 | none,none=>True
 | _,_=>False
def KV {κ:Type}:List (κ×V)→List (κ×Value)→Prop:=Paired fun (p:κ×V) (q:κ×Value)=>p.1=q.1∧RelV p.2 q.2
def kV:Key→V
 | .inl i=>.int i
 | .inr x=>.str x
inductive HO where
 | lst (xs:List V)
 | tup (xs:List V)
 | dK (kvs:List (Key×V)) | dT (kvs:List (List Key×V))
 | set (S:Int→Bool) (n:Nat)
 | ins (C dx:Addr) (fs:List (Str×V))
 | own (x:Addr)
 | xd (fs:List (Str×V))
 | met (f x:Addr)
 | rng (lo hi:Int)
 | frz (o:Obj) (u:HO)
 | tbl (ps:Array Value)
 | ext (φ:Heap→Prop)
abbrev Hp:=Addr→Option HO
def upd (H:Hp) (a:Addr) (o:HO):Hp:=fun b=>if b=a then some o else H b
theorem zc {H:Hp} {a:Addr} {o:HO}:upd H a o a=some o:=by unfold upd; rw [if_pos rfl]
theorem zq {H:Hp} {a b:Addr} {o:HO} (h:b≠a):upd H a o b=H b:=by unfold upd; rw [if_neg h]
theorem zl1 {H:Hp} {a:Addr} {o u:HO}:upd (upd H a o) a u=upd H a u:=by
 funext b; unfold upd; split <;> rfl
theorem zni {H:Hp} {a b:Addr} {o u:HO} (h:H a=some o) (h':H b=some u) (d:o≠u):a≠b:=by
 intro e; subst e; rw [h] at h'; exact d (aO h')
theorem zy {H:Hp} {a b:Addr} {o:HO} (h:H a=some o) (h':H b=none):a≠b:=by
 intro e; subst e; rw [h] at h'; cases h'
section
variable (P:Program) (w:World)
def zao (H:Hp) (h:Heap) (a:Addr):HO→Prop
 | .lst xs=>xs.length≤sizeLine∧∃ (its:List Value) (n:Nat),zL xs its∧h.get? a=some { cls:=.type "list",data:=.seq its.toArray n }
 | .tup xs=>xs.length≤sizeLine∧∃ its:List Value,zL xs its∧IsTup h a its.toArray
 | .dK kvs=>kvs.length≤sizeLine∧(a == sysModules)=false∧∃ vs,KV kvs vs∧h.DictOf (zan P w) a vs
 | .dT kvs=>kvs.length≤sizeLine∧(a == sysModules)=false∧∃ xs:List (List Key×Addr×Value),
   Paired (fun (p:List Key×V) (q:List Key×Addr×Value)=>p.1=q.1∧H q.2.1=some (.tup (p.1.map kV))∧RelV p.2 q.2.2) kvs xs ∧
   ∃ o es ep,h.get? a=some o∧o.ExactDict∧o.data = .dict es ep∧es.toList=xs.map (entryOfKey (tupleKind (zan P w)))∧(xs.map (·.1)).Nodup
 | .set S n=>h.SetOf (intKind P w) a S n
 | .ins C dx fs=>H dx=some (.own a)∧fs.length≤1000∧dx≠a∧h.get? a=some (PySem.W.instObj C dx) ∧
   ∃ mA,h.Ns1 dx mA∧(∀ f,zgG (fs.lookup f) (mA f))∧PySem.Within mA (fs.map (·.1))
 | .own _=>∃ o,h.get? a=some o
 | .xd fs=>∃ mA,h.Ns1 a mA∧∀ f,zgG (fs.lookup f) (mA f)
 | .rng lo hi=>∃ t u v,h.get? a=some { cls:=.type "range",data:=.fields #[.int lo t,.int hi u,.int 1 v] }
 | .frz o u=>h.get? a=some o∧zao H h a u
 | .tbl ps=>h.get? a=some { cls:=.none,data:=.fields ps }
 | .met f x=>h.get? a=some (gR (.ref f) (.ref x))
 | .ext φ=>φ h∧(∃ o,h.get? a=some o)∧∀ h1 h2:Heap,φ h1→(∀ o,h1.get? a=some o→h2.get? a=some o)→φ h2
def HOk (H:Hp) (h:Heap):Prop:=∀ a o,H a=some o→zao P w H h a o
end
section
variable {P:Program} {w:World} {H H':Hp} {h h':Heap} {a:Addr} {o:HO}
theorem zao.lt (x:zao P w H h a o):a < h.objs.size:=by
 cases o with
 | lst xs=>obtain⟨_,_,_,_,e⟩:=x; exact aJ e
 | tup xs=>obtain⟨_,_,_,p⟩:=x; exact p.lt
 | dK kvs=>obtain⟨_,_,_,_,o,_,_,e,_⟩:=x; exact aJ e
 | dT kvs=>obtain⟨_,_,_,_,o,_,_,e,_⟩:=x; exact aJ e
 | set S n=>obtain⟨o,_,_,_,e,_⟩:=x; exact aJ e
 | ins C dx fs=>obtain⟨_,_,_,e,_⟩:=x; exact aJ e
 | own y=>obtain⟨_,e⟩:=x; exact aJ e
 | xd fs=>obtain⟨_,⟨_,_,_,e,_⟩,_⟩:=x; exact aJ e
 | rng lo hi=>obtain⟨_,_,_,e⟩:=x; exact aJ e
 | frz ob u=>obtain⟨e,_⟩:=x; exact aJ e
 | tbl ps=>exact aJ (show h.get? a=some _ from x)
 | met f y=>exact aJ (show h.get? a=some _ from x)
 | ext φ=>obtain⟨_,⟨_,e⟩,_⟩:=x; exact aJ e
theorem Paired.mapP {α β:Type} {F G:α→β→Prop}:∀ {l₁:List α} {l₂:List β},Paired F l₁ l₂→(∀ a b,F a b→G a b)→Paired G l₁ l₂
 | _,_,.nil,_=>.nil
 | _,_,.cons r t,f=>.cons (f _ _ r) (Paired.mapP t f)
theorem zao.stay (x:zao P w H h a o) (k:∀ b u,(b=a∨H b=some (.own a))→h.get? b=some u→h'.get? b=some u)
  (ho:∀ b,H b=some (.own a)→H' b=some (.own a)) (ht:∀ b xs,H b=some (.tup xs)→H' b=some (.tup xs)):zao P w H' h' a o:=by
 induction o with
 | lst xs=>obtain⟨z,its,n,r,e⟩:=x; exact⟨z,its,n,r,k _ _ (.inl rfl) e⟩
 | tup xs=>obtain⟨z,its,r,ob,e,c⟩:=x; exact⟨z,its,r,ob,k _ _ (.inl rfl) e,c⟩
 | dK kvs=>obtain⟨z,y,vs,r,ob,es,ep,e,c⟩:=x; exact⟨z,y,vs,r,ob,es,ep,k _ _ (.inl rfl) e,c⟩
 | dT kvs =>
  obtain⟨z,y,xs,r,ob,es,ep,e,c⟩:=x
  exact⟨z,y,xs,Paired.mapP r fun p q z=>⟨z.1,ht _ _ z.2.1,z.2.2⟩,ob,es,ep,k _ _ (.inl rfl) e,c⟩
 | set S n=>obtain⟨ob,es,ep,t,e,c⟩:=x; exact⟨ob,es,ep,t,k _ _ (.inl rfl) e,c⟩
 | ins C dx fs =>
  obtain⟨d,z,ne,e,mA,⟨od,es,ep,e2,c⟩,r⟩:=x
  exact⟨ho _ d,z,ne,k _ _ (.inl rfl) e,mA,⟨od,es,ep,k _ _ (.inr d) e2,c⟩,r⟩
 | own y=>obtain⟨ob,e⟩:=x; exact⟨ob,k _ _ (.inl rfl) e⟩
 | xd fs=>obtain⟨mA,⟨od,es,ep,e,c⟩,r⟩:=x; exact⟨mA,⟨od,es,ep,k _ _ (.inl rfl) e,c⟩,r⟩
 | rng lo hi=>obtain⟨t,u,v,e⟩:=x; exact⟨t,u,v,k _ _ (.inl rfl) e⟩
 | frz ob u ih=>obtain⟨e,q⟩:=x; exact⟨k _ _ (.inl rfl) e,ih q⟩
 | tbl ps =>
  have e:h.get? a=some { cls:=.none,data:=.fields ps }:=x
  show h'.get? a=some { cls:=.none,data:=.fields ps }
  exact k a _ (.inl rfl) e
 | met f y =>
  have e:h.get? a=some (gR (.ref f) (.ref y)):=x
  show h'.get? a=some (gR (.ref f) (.ref y))
  exact k a _ (.inl rfl) e
 | ext φ=>obtain⟨p,⟨o,e⟩,st⟩:=x; exact⟨st _ _ p fun o q=>k _ _ (.inl rfl) q,⟨o,k _ _ (.inl rfl) e⟩,st⟩
theorem HOk.lt (x:HOk P w H h) (e:H a=some o):a < h.objs.size:=(x a o e).lt
theorem HOk.fresh (x:HOk P w H h) (e:h.objs.size≤a):H a=none:=by
 cases q:H a with
 | none=>rfl
 | some u=>exact absurd (bg (x.lt q) e) (cu _)
theorem HOk.kept (x:HOk P w H h) (k:∀ b u,h.get? b=some u→h'.get? b=some u):HOk P w H h':=fun a o e =>
 (x a o e).stay (fun b u _ q=>k b u q) (fun _ q=>q) fun _ _ q=>q
theorem HOk.laid (x:HOk P w H h) (k:∀ b u,h.get? b=some u→h'.get? b=some u) (hp:h.objs.size≤a) (new:zao P w (upd H a o) h' a o):HOk P w (upd H a o) h':=fun b u e=>by
 have hn:=x.fresh hp
 by_cases hb:b=a
 ·subst hb; rw [zc] at e; cases e; exact new
 ·rw [zq hb] at e
  exact (x b u e).stay (fun c v _ q=>k c v q) (fun c q=>by rw [zq (zy q hn)]; exact q) fun c xs q=>by rw [zq (zy q hn)]; exact q
end
def Rd (H:Hp) (a:Addr) (u:HO):Prop:=H a=some u∨∃ o,H a=some (.frz o u)
theorem Rd.ok {P:Program} {w:World} {H:Hp} {h:Heap} {a:Addr} {u:HO} (r:Rd H a u) (x:HOk P w H h):zao P w H h a u:=by
 rcases r with r | ⟨o,r⟩
 ·exact x a u r
 ·obtain⟨_,q⟩:=x a _ r
  exact q
def Mut:Option HO→Prop
 | some (.lst _)=>True
 | some (.dK _)=>True
 | some (.dT _)=>True
 | some (.set _ _)=>True
 | some (.ins _ _ _)=>True
 | some (.ext _)=>True
 | _=>False
section
variable {P:Program} {w:World} {H:Hp} {h h':Heap} {x e:Addr} {o':HO}
theorem HOk.write (ok:HOk P w H h) (mu:Mut (H x)) (he:e=x∨H e=some (.own x)) (k:∀ b u,b≠e→h.get? b=some u→h'.get? b=some u) (heo:∃ u,h'.get? e=some u)
  (new:zao P w (upd H x o') h' x o'):HOk P w (upd H x o') h':=fun b u q=>by
 have nown:∀ c y,H c=some (.own y)→c≠x:=fun c y r z=>by subst z; rw [r] at mu; exact mu
 have ntup:∀ c xs,H c=some (.tup xs)→c≠x:=fun c xs r z=>by subst z; rw [r] at mu; exact mu
 by_cases hb:b=x
 ·subst hb; rw [zc] at q; cases q; exact new
 ·rw [zq hb] at q
  by_cases hbe:b=e
  ·have q':H b=some (.own x):=by
    rcases he with z | z
    ·exact absurd (hbe.trans z) hb
    ·rw [hbe]; exact z
   rw [q] at q'; cases q'
   obtain⟨v,hv⟩:=heo
   exact⟨v,by rw [hbe]; exact hv⟩
  ·refine (ok b u q).stay (fun c v hc r=>k c v ?_ r) (fun c r=>by rw [zq (nown c b r)]; exact r) fun c xs r=>by rw [zq (ntup c xs r)]; exact r
   rcases hc with rfl | hc
   ·exact hbe
   ·rintro rfl
    rcases he with z | z
    ·exact nown c b hc z
    ·rw [hc] at z; cases z; exact hb rfl
end
structure Un (fs ex:List Addr) (H H':Hp) (h h':Heap):Prop where
 keep:∀ b o,h.get? b=some o→H b=none→b∉fs→b∉ex→h'.get? b=some o
 slot:∀ b o,h.get? b=some o→H b=none→b∈fs→b∉ex→∃ sl,h'.get? b=some { o with slots:=sl }
 free:∀ b o,h.get? b=some o→H b=none→b∉ex→H' b=none
 there:∀ b o,h.get? b=some o→b∉ex→∃ o',h'.get? b=some o'
 tups:∀ b xs,H b=some (.tup xs)→H' b=some (.tup xs)
 frzs:∀ b o u,H b=some (.frz o u)→H' b=some (.frz o u)
 tbls:∀ b ps,H b=some (.tbl ps)→∃ more,H' b=some (.tbl (ps++more))
section
variable {fs fs' ex ex':List Addr} {H H1 H2:Hp} {h h1 h2 h':Heap} {a x e:Addr} {o:HO}
theorem Un.any (u:Un fs ex H H1 h h1) {b:Addr} {ob:Obj} (q:h.get? b=some ob) (n:H b=none) (hx:b∉ex):∃ sl,h1.get? b=some { ob with slots:=sl }:=by
 by_cases hb:b∈fs
 ·exact u.slot b ob q n hb hx
 ·exact⟨ob.slots,u.keep b ob q n hb hx⟩
theorem Un.kept (k:∀ b u,h.get? b=some u→h'.get? b=some u):Un fs ex H H h h' :=
 ⟨fun b ob q _ _ _=>k b ob q,fun b ob q _ _ _=>⟨ob.slots,k b ob q⟩,fun _ _ _ n _=>n,fun b ob q _=>⟨ob,k b ob q⟩,fun _ _ q=>q,fun _ _ _ q=>q,fun _ ps q=>⟨#[],by rw [q]; simp⟩⟩
theorem Un.refl:Un fs ex H H h h:=Un.kept fun _ _ q=>q
theorem Un.laid (k:∀ b u,h.get? b=some u→h'.get? b=some u) (hp:h.objs.size≤a) (hn:H a=none):Un fs ex H (upd H a o) h h' where
 keep:=fun b u q _ _ _=>k b u q
 slot:=fun b u q _ _ _=>⟨u.slots,k b u q⟩
 free:=fun b u q n _=>by rw [zq (bt (bg (aJ q) hp))]; exact n
 there:=fun b u q _=>⟨u,k b u q⟩
 tups:=fun b xs q=>by rw [zq (zy q hn)]; exact q
 frzs:=fun b u xs q=>by rw [zq (zy q hn)]; exact q
 tbls:=fun b ps q=>⟨#[],by rw [zq (zy q hn),q]; simp⟩
theorem Un.write (mu:Mut (H x)) (he:e=x∨H e=some (.own x)) (k:∀ b u,b≠e→h.get? b=some u→h'.get? b=some u) (heo:∃ u,h'.get? e=some u):Un fs ex H (upd H x o) h h':=by
 have hx:∀ b,H b=none→b≠x:=fun b n z=>by subst z; rw [n] at mu; exact mu
 have hb:∀ b,H b=none→b≠e:=fun b n z=>by
  subst z
  rcases he with r | r
  ·exact hx b n r
  ·rw [n] at r; cases r
 have hm:∀ b u,H b=some u→¬ Mut (some u)→b≠x:=fun b u q nm z=>by subst z; rw [q] at mu; exact nm mu
 refine⟨fun b u q n _ _=>k b u (hb b n) q,fun b u q n _ _=>⟨u.slots,k b u (hb b n) q⟩,fun b u q n _=>by rw [zq (hx b n)]; exact n,fun b u q _=>?_,
  fun b xs q=>by rw [zq (hm b _ q fun z=>z)]; exact q,fun b u xs q=>by rw [zq (hm b _ q fun z=>z)]; exact q,fun b ps q=>⟨#[],by rw [zq (hm b _ q fun z=>z),q]; simp⟩⟩
 by_cases hbe:b=e
 ·subst hbe; exact heo
 ·exact⟨u,k b u hbe q⟩
end
def trk (h:Heap) (H:Hp):List Addr:=(aL h.objs.size).filter fun a=>(H a).isSome
def zfN (h:Heap) (H:Hp):Heap:=PySem.W.hideAll h (trk h H)
theorem zjl (h:Heap) (H:Hp):(zfN h H).objs.size=h.objs.size:=PySem.W.hideAll_size _ _
theorem zkb {h:Heap} {H:Hp} {b:Addr} {o:Obj} (e:h.get? b=some o) (n:H b=none):(zfN h H).get? b=some o :=
 PySem.W.hideAll_get _ e fun hm=>by
  have q:(H b).isSome=true:=(bz.mp hm).2
  rw [n] at q; simp at q
theorem zl2 {h:Heap} {H:Hp} {b:Addr} {o:Obj} (e:(zfN h H).get? b=some o):h.get? b=some o∧H b=none:=by
 have e':h.get? b=some o:=PySem.W.of_hideAll (trk h H) e
 refine⟨e',?_⟩
 cases q:H b with
 | none=>rfl
 | some x =>
  have hm:b∈trk h H:=bz.mpr ⟨bF.mpr (aJ e'),by simp [q]⟩
  have z:(zfN h H).get? b=none:=PySem.W.hideAll_none (trk h H) hm
  rw [z] at e; cases e
structure Mod (K:ag) (mg:Str→Option Value) (base:Heap):Prop where
 kin:K.In base
 glob:base.Ns mainGlobals mg
 blt:∃ mb,base.Ns builtinsNs mb∧∀ x:Str,x≠"__name__"→mb x=bootBuiltins x
 nolimit:base.NoLimit
structure Cx where
 prog:Program
 w:World
 K:ag
 mg:Str→Option Value
 base:Heap
 A:Around
 N:List Str
 s₀:Shared
 H₀:Hp
 env:Env
 outer:List Env
 stack:List Env
 ex:List Addr
 fn:Str→Bool
 calm:Bool
 pn:List (Addr×Obj)
 xe:Value→Shared→Prop
def frs (l:List Env):List Addr:=l.filterMap (·.frame)
abbrev Cx.fs (X:Cx):List Addr:=frs X.outer
def Vis (sc:Scope) (x:Str):Prop:=sc.names.lookup x=some .local∨sc.names.lookup x=some .cell∨sc.names.lookup x=some .free
def Loc (sc:Scope) (x:Str):Prop:=sc.names.lookup x=some .local∨sc.names.lookup x=some .cell
def Look (env:Env) (h:Heap) (m:Str→Option Value) (x:Str) (u:Value):Prop :=
 (env.kindOf x=some .local∧m x=some u)∨((env.kindOf x=some .cell∨env.kindOf x=some .free)∧∃ c,env.cells.lookup x=some c∧h.IsCell c (some u))
structure Cx.Ok (X:Cx):Prop where
 mod:Mod X.K X.mg X.base
 kind:X.env.scope.kind = .function
 glob:X.env.globals=mainGlobals
 blt:X.env.builtins=builtinsNs
 above:X.s₀.heap.objs.size≤X.env.locals
 inj:∀ x y c,X.env.cells.lookup x=some c→X.env.cells.lookup y=some c→x=y
 has:∀ x,(X.env.kindOf x=some .cell∨X.env.kindOf x=some .free)→∃ c,X.env.cells.lookup x=some c
 cab:∀ x c,X.fn x=true→X.env.cells.lookup x=some c→X.s₀.heap.objs.size≤c
 hd:X.calm=true→X.A.handled=none
 frames:X.A.frames=some X.stack
 stk:X.stack=X.outer∨(X.stack=X.env :: X.outer∧X.env.frame=some X.env.locals)
 exf:∀ b∈X.ex,b≠X.env.locals∧∀ x c,X.env.cells.lookup x=some c→c≠b
 bs:∀ b o,X.base.get? b=some o→X.s₀.heap.get? b=some o∧X.H₀ b=none
 bsz:X.base.objs.size≤X.s₀.heap.objs.size
 noex:∀ b o,X.base.get? b=some o→b∉X.ex
 exfs:∀ b∈X.ex,b∉X.fs
 funs:X.s₀.heap.FunFrames X.base X.outer
 frf:∀ b∈X.fs,X.H₀ b=none
structure Inv (X:Cx) (pins:List (Addr×Obj)) (σ:List (Option V)) (H:Hp) (s:Shared):Prop where
 ok:X.Ok
 os:s.os=X.s₀.os
 bare:AllBare s.gens
 base:Un X.fs X.ex X.H₀ H X.s₀.heap s.heap
 loc:∃ m,s.heap.Ns X.env.locals m∧∀ (i:Nat) (x:Str) (v:V),X.N[i]? = some x→σ[i]? = some (some v)→Vis X.env.scope x→∃ u,RelV v u∧Look X.env s.heap m x u
 cell:∀ x c,X.env.cells.lookup x=some c→∃ v,s.heap.IsCell c v
 free:H X.env.locals=none
 freeC:∀ x c,X.env.cells.lookup x=some c→H c=none
 pin:∀ p∈X.pn++pins,s.heap.get? p.1=some p.2∧H p.1=none∧p.1≠X.env.locals∧p.1∉X.fs∧∀ v,p.2.data≠.cell v
 hok:HOk X.prog X.w H s.heap
 len:σ.length=X.N.length
section
variable {X:Cx} {pins:List (Addr×Obj)} {σ:List (Option V)} {H H':Hp} {s:Shared} {h':Heap}
theorem Cx.Ok.nofr (ok:X.Ok) {b:Addr} {o:Obj} (e:X.base.get? b=some o):b∉X.fs:=fun hb=>by
 have:=(ok.funs.mem hb).1
 rw [e] at this; cases this
theorem Inv.bs (I:Inv X pins σ H s):∀ b o,X.base.get? b=some o→s.heap.get? b=some o∧H b=none:=fun b o e =>
 ⟨I.base.keep b o (I.ok.bs b o e).1 (I.ok.bs b o e).2 (I.ok.nofr e) (I.ok.noex b o e),I.base.free b o (I.ok.bs b o e).1 (I.ok.bs b o e).2 (I.ok.noex b o e)⟩
theorem Inv.bk (I:Inv X pins σ H s):∀ b o,X.base.get? b=some o→s.heap.get? b=some o:=fun b o e=>(I.bs b o e).1
theorem Inv.mod (I:Inv X pins σ H s):Mod X.K X.mg X.base:=I.ok.mod
theorem Inv.kIn (I:Inv X pins σ H s):X.K.In s.heap:=I.ok.mod.kin.keeps I.bk
theorem Inv.lt (I:Inv X pins σ H s):X.env.locals < s.heap.objs.size:=let ⟨_,hn,_⟩:=I.loc; hn.lt
theorem Inv.sz (I:Inv X pins σ H s):X.s₀.heap.objs.size≤s.heap.objs.size:=aZ I.ok.above (fw I.lt)
theorem Inv.nofs (I:Inv X pins σ H s) {a:Addr} (h:s.heap.objs.size≤a):a∉X.fs:=fun hb=>by
 obtain⟨_,o,ho,_⟩:=I.ok.funs.mem hb
 exact absurd (bg (aJ ho) (aZ I.sz h)) (cu _)
theorem Inv.cne (I:Inv X pins σ H s):∀ x c,X.env.cells.lookup x=some c→c≠X.env.locals:=fun x c e z=>by
 obtain⟨v,o,ho,hd⟩:=I.cell x c e
 obtain⟨m,⟨o',es,ep,ho',hd',_⟩,_⟩:=I.loc
 rw [z,ho'] at ho; cases ho; rw [hd'] at hd; cases hd
theorem Inv.funs (I:Inv X pins σ H s):s.heap.FunFrames X.base X.outer:=by
 have all:∀ (l:List Env),(∀ b∈frs l,b∈X.fs)→X.s₀.heap.FunFrames X.base l→s.heap.FunFrames X.base l:=by
  intro l
  induction l with
  | nil=>intro _ _; trivial
  | cons env r ih =>
   intro hs hl
   obtain⟨hk,⟨L,o,hf,hn,ho,hd⟩,hr⟩:=hl
   have hL:L∈X.fs:=hs L (by unfold frs; rw [ff,hf]; exact aF)
   obtain⟨sl,e⟩:=I.base.slot L o ho (I.ok.frf L hL) hL fun z=>I.ok.exfs L z hL
   exact⟨hk,⟨L,_,hf,hn,e,hd⟩,ih (fun b hb=>hs b (by unfold frs; rw [ff,hf]; exact av _ hb)) hr⟩
 exact all X.outer (fun _ hb=>hb) I.ok.funs
theorem Inv.stack (I:Inv X pins σ H s):s.heap.FunFrames X.base X.stack:=by
 rcases I.ok.stk with e | ⟨e,hf⟩
 ·rw [e]; exact I.funs
 ·rw [e]
  obtain⟨m,hn,_⟩:=I.loc
  refine .cons (by rw [I.ok.kind]; decide) hf hn ?_ I.funs
  exact Heap.get?_none_of_le (aZ I.ok.bsz I.ok.above)
theorem Inv.stkSub (I:Inv X pins σ H s):∀ b∈frs X.stack,b∈X.env.locals :: X.fs:=fun b hb=>by
 rcases I.ok.stk with e | ⟨e,hf⟩
 ·rw [e] at hb; exact av _ hb
 ·rw [e] at hb
  unfold frs at hb
  rw [ff,hf] at hb
  exact hb
theorem Inv.stkFree (I:Inv X pins σ H s):∀ b∈frs X.stack,H b=none:=fun b hb=>by
 rcases aD.mp (I.stkSub b hb) with e | hb
 ·rw [e]; exact I.free
 ·obtain⟨_,o,ho,_⟩:=I.ok.funs.mem hb
  exact I.base.free b o ho (I.ok.frf b hb) fun z=>I.ok.exfs b z hb
theorem Inv.step {g':Array GenState} {t':Nat} {d':Drawn} {ch:List Addr} (I:Inv X pins σ H s)
  (hch:∀ b∈ch,(b∈X.ex∨X.s₀.heap.objs.size≤b)∧b≠X.env.locals∧(∀ x c,X.env.cells.lookup x=some c→c≠b)∧∀ p∈X.pn++pins,p.1≠b)
  (keep:∀ b o,b≠X.env.locals→b∉X.fs→b∉ch→s.heap.get? b=some o→H b=none→h'.get? b=some o)
  (slot:∀ b o,b≠X.env.locals→b∈X.fs→b∉ch→s.heap.get? b=some o→H b=none→∃ sl,h'.get? b=some { o with slots:=sl }) (free:∀ b o,b∉ch→s.heap.get? b=some o→H b=none→H' b=none)
  (there:∀ b o,b∉ch→s.heap.get? b=some o→∃ o',h'.get? b=some o')
  (tups:∀ b xs,H b=some (.tup xs)→H' b=some (.tup xs)) (frzs:∀ b o u,H b=some (.frz o u)→H' b=some (.frz o u)) (tbls:∀ b ps,H b=some (.tbl ps)→∃ more,H' b=some (.tbl (ps++more)))
  (ns:∀ m,s.heap.Ns X.env.locals m→h'.Ns X.env.locals m) (hok:HOk X.prog X.w H' h') (hg:AllBare g') :
  Inv X pins σ H' { s with heap:=h',gens:=g',drawn:=d',toks:=t' }:=by
 have neL:∀ b o,X.s₀.heap.get? b=some o→b≠X.env.locals:=fun b o e=>bt (bg (aJ e) I.ok.above)
 have neC:∀ b o,X.s₀.heap.get? b=some o→b∉X.ex→b∉ch:=fun b o e hx hb=>by
  rcases (hch b hb).1 with z | z
  ·exact hx z
  ·exact absurd (bg (aJ e) z) (cu _)
 have cellK:∀ x c,X.env.cells.lookup x=some c→∀ v,s.heap.IsCell c v→h'.IsCell c v:=fun x c e v ⟨o,ho,hd⟩=>by
  have nch:c∉ch:=fun z=>(hch c z).2.2.1 x c e rfl
  by_cases hc:c∈X.fs
  ·obtain⟨sl,q⟩:=slot c o (I.cne x c e) hc nch ho (I.freeC x c e)
   exact⟨_,q,hd⟩
  ·exact⟨o,keep c o (I.cne x c e) hc nch ho (I.freeC x c e),hd⟩
 refine⟨I.ok,I.os,hg,⟨fun b o e n hb hx=>?_,fun b o e n hb hx=>?_,fun b o e n hx=>?_,fun b o e hx=>?_,fun b xs e=>tups b xs (I.base.tups b xs e),fun b o xs e=>frzs b o xs (I.base.frzs b o xs e),fun b ps e=>?_⟩,?_,fun x c e=>?_,?_,fun x c e=>?_,fun p hp=>?_,hok,I.len⟩
 ·exact keep b o (neL b o e) hb (neC b o e hx) (I.base.keep b o e n hb hx) (I.base.free b o e n hx)
 ·obtain⟨sl,e1⟩:=I.base.slot b o e n hb hx
  obtain⟨sl',e2⟩:=slot b _ (neL b o e) hb (neC b o e hx) e1 (I.base.free b o e n hx)
  exact⟨sl',e2⟩
 ·obtain⟨o',e1⟩:=I.base.there b o e hx
  exact free b o' (neC b o e hx) e1 (I.base.free b o e n hx)
 ·obtain⟨o',e1⟩:=I.base.there b o e hx
  exact there b o' (neC b o e hx) e1
 ·obtain⟨m1,e1⟩:=I.base.tbls b ps e
  obtain⟨m2,e2⟩:=tbls b _ e1
  exact⟨m1++m2,by rw [e2,Array.append_assoc]⟩
 ·obtain⟨m,hn,hl⟩:=I.loc
  refine⟨m,ns m hn,fun i x v e1 e2 e3=>?_⟩
  obtain⟨u,r,l⟩:=hl i x v e1 e2 e3
  refine⟨u,r,?_⟩
  rcases l with l | ⟨k,c,e,z⟩
  ·exact .inl l
  ·exact .inr ⟨k,c,e,cellK x c e _ z⟩
 ·obtain⟨v,z⟩:=I.cell x c e
  exact⟨v,cellK x c e v z⟩
 ·obtain⟨m,⟨o,_,_,ho,_⟩,_⟩:=I.loc
  exact free _ o (fun z=>(hch _ z).2.1 rfl) ho I.free
 ·obtain⟨v,o,ho,hd⟩:=I.cell x c e
  exact free c o (fun z=>(hch c z).2.2.1 x c e rfl) ho (I.freeC x c e)
 ·obtain⟨e,n,ne,nf,d⟩:=I.pin p hp
  have nch:p.1∉ch:=fun z=>(hch p.1 z).2.2.2 p hp rfl
  exact⟨keep p.1 p.2 ne nf nch e n,free p.1 p.2 nch e n,ne,nf,d⟩
theorem Inv.un {t':Nat} (I:Inv X pins σ H s) (u:Un X.fs [] H H' s.heap h') (hok:HOk X.prog X.w H' h'):Inv X pins σ H' { s with heap:=h',toks:=t' }:=by
 obtain⟨m,⟨o,es,ep,ho,r⟩,_⟩:=id I.loc
 obtain⟨sl,hL⟩:=u.any ho I.free (by simp)
 exact I.step (g':=s.gens) (d':=s.drawn) (ch:=[]) (fun _ z=>nomatch z) (fun b o _ hb _ e n=>u.keep b o e n hb (by simp)) (fun b o _ hb _ e n=>u.slot b o e n hb (by simp)) (fun b o _ e n=>u.free b o e n (by simp)) (fun b o _ e=>u.there b o e (by simp)) u.tups u.frzs u.tbls (fun m' hm=>by
  obtain⟨o',es',ep',ho',r'⟩:=hm
  rw [ho] at ho'; cases ho'
  exact⟨_,es',ep',hL,r'⟩) hok I.bare
theorem Inv.call {g':Array GenState} {t':Nat} {d':Drawn} {ch:List Addr} (I:Inv X pins σ H s) (u:Un (frs X.stack) ch H H' s.heap h') (hok:HOk X.prog X.w H' h') (hg:AllBare g')
  (hch:∀ b∈ch,(b∈X.ex∨X.s₀.heap.objs.size≤b)∧b≠X.env.locals∧(∀ x c,X.env.cells.lookup x=some c→c≠b)∧∀ p∈X.pn++pins,p.1≠b) :
  Inv X pins σ H' { s with heap:=h',gens:=g',drawn:=d',toks:=t' }:=by
 obtain⟨m,⟨o,es,ep,ho,r⟩,_⟩:=id I.loc
 obtain⟨sl,hL⟩:=u.any ho I.free fun z=>(hch _ z).2.1 rfl
 exact I.step (ch:=ch) hch (fun b o hL hb hc e n=>u.keep b o e n (fun z=>(aD.mp (I.stkSub b z)).elim hL hb) hc) (fun b o _ _ hc e n=>u.any e n hc) (fun b o hc e n=>u.free b o e n hc) (fun b o hc e=>u.there b o e hc) u.tups u.frzs u.tbls (fun m' hm=>by
  obtain⟨o',es',ep',ho',r'⟩:=hm
  rw [ho] at ho'; cases ho'
  exact⟨_,es',ep',hL,r'⟩) hok hg
theorem Inv.turned {t':Nat} {it:Addr} (I:Inv X pins σ H s) (k:∀ b o,b≠it→s.heap.get? b=some o→h'.get? b=some o) (hn:H it=none) (hL:it≠X.env.locals)
  (h1:it∈X.ex∨X.s₀.heap.objs.size≤it) (h2:∀ x c,X.env.cells.lookup x=some c→c≠it) (h3:∀ p∈X.pn++pins,p.1≠it):Inv X pins σ H { s with heap:=h',toks:=t' }:=by
 have nit:∀ b u,H b=some u→b≠it:=fun b u e z=>by rw [z,hn] at e; cases e
 refine I.step (g':=s.gens) (d':=s.drawn) (ch:=[it]) (fun b hb=>?_) (fun b o _ _ hc e _=>k b o (fun z=>hc (by simp [z])) e) (fun b o _ _ hc e _=>⟨o.slots,k b o (fun z=>hc (by simp [z])) e⟩) (fun _ _ _ _ n=>n)
  (fun b o hc e=>⟨o,k b o (fun z=>hc (by simp [z])) e⟩) (fun _ _ e=>e) (fun _ _ _ e=>e) (fun b ps e=>⟨#[],by rw [e]; simp⟩) (fun m hm=>?_) (fun b u e=>?_) I.bare
 ·have e:b=it:=by simpa using hb
  subst e
  exact⟨h1,hL,h2,h3⟩
 ·obtain⟨o,es,ep,ho,r⟩:=hm
  exact⟨o,es,ep,k _ o (dW hL) ho,r⟩
 ·refine (I.hok b u e).stay (fun c v hc q=>k c v ?_ q) (fun _ q=>q) fun _ _ q=>q
  rcases hc with z | z
  ·rw [z]; exact nit b u e
  ·exact nit c _ z
theorem Inv.tok (I:Inv X pins σ H s) (t:Nat):Inv X pins σ H { s with toks:=t }:=I.un (h':=s.heap) (t':=t) Un.refl I.hok
theorem Inv.kept {t':Nat} (I:Inv X pins σ H s) (k:∀ b u,s.heap.get? b=some u→h'.get? b=some u):Inv X pins σ H { s with heap:=h',toks:=t' }:=I.un (Un.kept k) (I.hok.kept k)
theorem Inv.laid {a:Addr} {o:HO} {t':Nat} (I:Inv X pins σ H s) (k:∀ b u,s.heap.get? b=some u→h'.get? b=some u) (hp:s.heap.objs.size≤a) (new:zao X.prog X.w (upd H a o) h' a o) :
  Inv X pins σ (upd H a o) { s with heap:=h',toks:=t' }:=I.un (Un.laid k hp (I.hok.fresh hp)) (I.hok.laid k hp new)
theorem Inv.write {x e:Addr} {o:HO} {t':Nat} (I:Inv X pins σ H s) (mu:Mut (H x)) (he:e=x∨H e=some (.own x)) (k:∀ b u,b≠e→s.heap.get? b=some u→h'.get? b=some u) (heo:∃ u,h'.get? e=some u)
  (new:zao X.prog X.w (upd H x o) h' x o):Inv X pins σ (upd H x o) { s with heap:=h',toks:=t' }:=I.un (Un.write mu he k heo) (I.hok.write mu he k heo new)
theorem Inv.weak {σ':List (Option V)} (I:Inv X pins σ H s) (hl:σ'.length=σ.length) (w:∀ (i:Nat) v,σ'[i]? = some (some v)→σ[i]? = some (some v)):Inv X pins σ' H s :=
 ⟨I.ok,I.os,I.bare,I.base,let ⟨m,hn,hl'⟩:=I.loc; ⟨m,hn,fun i x v e1 e2 e3=>hl' i x v e1 (w i v e2) e3⟩,I.cell,I.free,I.freeC,I.pin,I.hok,hl.trans I.len⟩
theorem Inv.pins_of {pins':List (Addr×Obj)} (I:Inv X pins σ H s) (h:∀ p∈pins',s.heap.get? p.1=some p.2∧H p.1=none∧p.1≠X.env.locals∧p.1∉X.fs∧∀ v,p.2.data≠.cell v):Inv X pins' σ H s :=
 ⟨I.ok,I.os,I.bare,I.base,I.loc,I.cell,I.free,I.freeC,fun p hp=>(aW.mp hp).elim (fun z=>I.pin p (aS _ z)) (h p),I.hok,I.len⟩
theorem zgH {N:List Str} (hN:N.Nodup) {i j:Nat} {x:Str} (a:N[i]? = some x) (b:N[j]? = some x):i=j:=by
 obtain⟨h1,e1⟩:=az.mp a
 obtain⟨h2,e2⟩:=az.mp b
 exact (List.getElem_inj hN).mp (e1.trans e2.symm)
theorem zfc {M:Model} {A:Around} {E:Value→Shared→Prop} {i:Nat} {x:Str} {v:V} {u:Value} {Q:Unit→Shared→Prop} (I:Inv X pins σ H s) (hN:X.N.Nodup) (hi:X.N[i]? = some x) (hx:Loc X.env.scope x) (r:RelV v u)
  (h:∀ s',Inv X pins (σ.set i (some v)) H s'→(∃ a,bj a s.heap s'.heap∧(a=X.env.locals∨X.env.cells.lookup x=some a))→Q () s') (hf:X.fn x=true∨X.env.scope.names.lookup x=some .local:=by first | exact .inl rfl | exact .inr rfl | assumption):wpAny M A (storeName X.env x u) Q E s:=by
 obtain⟨m,hn,hl⟩:=id I.loc
 have hcls:(X.env.scope.kind == .class || (X.env.scope.kind == .module && X.env.locals != X.env.globals))=false:=by rw [I.ok.kind]; rfl
 have hiσ:i < σ.length:=by rw [I.len]; exact (az.mp hi).1
 have cne:=I.cne
 have tracked:∀ {a:Addr} {h':Heap},(∃ o,s.heap.get? a=some o∧H a=none)→bj a s.heap h'→HOk X.prog X.w H h':=fun {a h'} ha hs b ob e=>by
  obtain⟨_,_,hfree⟩:=ha
  refine (I.hok b ob e).stay (fun c w' hc q=>(hs.2 c ?_).trans q) (fun _ q=>q) fun _ _ q=>q
  rintro rfl
  rcases hc with rfl | hc
  ·rw [hfree] at e; cases e
  ·rw [hfree] at hc; cases hc
 rcases hx with hk | hk
 ·refine wpAny_storeName_local hk hn (fun h' hn' hs=>?_) hcls
  obtain⟨oL,_,_,hoL,_⟩:=id hn
  refine h _ ⟨I.ok,I.os,I.bare,⟨fun b o e n hb hx=>?_,fun b o e n hb hx=>?_,I.base.free,fun b o e hx=>?_,I.base.tups,I.base.frzs,I.base.tbls⟩,⟨_,hn',fun j y v' e1 e2 e3=>?_⟩,fun y c e=>?_,I.free,I.freeC,fun p hp=>?_,tracked ⟨oL,hoL,I.free⟩ hs,by simpa using I.len⟩ ⟨_,hs,.inl rfl⟩
  ·exact (hs.2 b (bt (bg (aJ e) I.ok.above))).trans (I.base.keep b o e n hb hx)
  ·obtain⟨sl,e1⟩:=I.base.slot b o e n hb hx
   exact⟨sl,(hs.2 b (bt (bg (aJ e) I.ok.above))).trans e1⟩
  ·obtain⟨o',e1⟩:=I.base.there b o e hx
   exact⟨o',(hs.2 b (bt (bg (aJ e) I.ok.above))).trans e1⟩
  ·by_cases hj:j=i
   ·subst hj
    rw [hi] at e1; cases e1
    rw [fS hiσ] at e2
    cases e2
    exact⟨u,r,.inl ⟨hk,by simp⟩⟩
   ·rw [dR (dW hj)] at e2
    obtain⟨u',r',q⟩:=hl j y v' e1 e2 e3
    refine⟨u',r',?_⟩
    rcases q with ⟨k,e⟩ | ⟨k,c,e,z⟩
    ·refine .inl ⟨k,?_⟩
     have:y≠x:=fun e=>hj (zgH hN e1 (e ▸ hi))
     simp [this,e]
    ·exact .inr ⟨k,c,e,z.sameBut hs (cne y c e)⟩
  ·obtain⟨w',z⟩:=I.cell y c e
   exact⟨w',z.sameBut hs (cne y c e)⟩
  ·obtain⟨e,n,ne,nf,d⟩:=I.pin p hp
   exact⟨(hs.2 p.1 ne).trans e,n,ne,nf,d⟩
 ·have hfn:X.fn x=true:=by
   rcases hf with z | z
   ·exact z
   ·rw [z] at hk; cases hk
  obtain⟨c,hc⟩:=I.ok.has x (.inl hk)
  obtain⟨w',z⟩:=I.cell x c hc
  refine wpAny_storeName_cell I.ok.kind hk hc z (fun h' hc' hs=>?_)
  obtain⟨oc,hoc,hocd⟩:=id z
  refine h { s with heap:=h' } ⟨I.ok,I.os,I.bare,⟨fun b o e n hb hx=>?_,fun b o e n hb hx=>?_,I.base.free,fun b o e hx=>?_,I.base.tups,I.base.frzs,I.base.tbls⟩,⟨m,hn.sameBut hs (dW (cne x c hc)),fun j y v' e1 e2 e3=>?_⟩,fun y c' e=>?_,I.free,I.freeC,fun p hp=>?_,tracked ⟨oc,hoc,I.freeC x c hc⟩ hs,by simpa using I.len⟩ ⟨c,hs,.inr hc⟩
  ·exact (hs.2 b (bt (bg (aJ e) (I.ok.cab x c hfn hc)))).trans (I.base.keep b o e n hb hx)
  ·obtain⟨sl,e1⟩:=I.base.slot b o e n hb hx
   exact⟨sl,(hs.2 b (bt (bg (aJ e) (I.ok.cab x c hfn hc)))).trans e1⟩
  ·obtain⟨o',e1⟩:=I.base.there b o e hx
   exact⟨o',(hs.2 b (bt (bg (aJ e) (I.ok.cab x c hfn hc)))).trans e1⟩
  ·by_cases hj:j=i
   ·subst hj
    rw [hi] at e1; cases e1
    rw [fS hiσ] at e2
    cases e2
    exact⟨u,r,.inr ⟨.inl hk,c,hc,hc'⟩⟩
   ·rw [dR (dW hj)] at e2
    obtain⟨u',r',q⟩:=hl j y v' e1 e2 e3
    refine⟨u',r',?_⟩
    rcases q with q | ⟨k,c',e,z'⟩
    ·exact .inl q
    ·refine .inr ⟨k,c',e,z'.sameBut hs ?_⟩
     rintro rfl
     exact hj (zgH hN e1 (I.ok.inj _ _ _ e hc ▸ hi))
  ·by_cases hcc:c'=c
   ·subst hcc; exact⟨_,hc'⟩
   ·obtain⟨w2,z2⟩:=I.cell y c' e
    exact⟨w2,z2.sameBut hs hcc⟩
  ·obtain⟨e,n,ne,nf,d⟩:=I.pin p hp
   refine⟨(hs.2 p.1 ?_).trans e,n,ne,nf,d⟩
   intro q
   rw [q,hoc] at e
   have q':oc=p.2:=aO e
   exact d w' (by rw [← q']; exact hocd)
theorem zec {M:Model} {A:Around} {E:Value→Shared→Prop} {i:Nat} {x:Str} {v:V} {u:Value} {Q:Unit→Shared→Prop} (I:Inv X pins σ H s) (hN:X.N.Nodup) (hi:X.N[i]? = some x) (hx:Loc X.env.scope x) (r:RelV v u)
  (h:∀ s',Inv X pins (σ.set i (some v)) H s'→Q () s') (hf:X.fn x=true∨X.env.scope.names.lookup x=some .local:=by first | exact .inl rfl | exact .inr rfl | assumption):wpAny M A (storeName X.env x u) Q E s :=
 zfc I hN hi hx r (fun s' I' _=>h s' I') hf
theorem Inv.call' {s':Shared} {ch:List Addr} (I:Inv X pins σ H s) (ho:s'.os=s.os) (u:Un (frs X.stack) ch H H' s.heap s'.heap) (hok:HOk X.prog X.w H' s'.heap) (hg:AllBare s'.gens)
  (hch:∀ b∈ch,(b∈X.ex∨X.s₀.heap.objs.size≤b)∧b≠X.env.locals∧(∀ x c,X.env.cells.lookup x=some c→c≠b)∧∀ p∈X.pn++pins,p.1≠b):Inv X pins σ H' s':=by
 obtain⟨h',g',d',t',o'⟩:=s'
 have e:o'=s.os:=ho
 subst e
 exact I.call (g':=g') (t':=t') (d':=d') u hok hg hch
end
abbrev XK:=Value→Option Addr→Hp→Prop
abbrev St:=List (Option V)
abbrev VK:=V→Hp→Prop
abbrev TE:=St→Hp→VK→Prop
abbrev TT:=St→Hp→(Bool→Hp→Prop)→Prop
abbrev TA:=St→Hp→(List V→Hp→Prop)→Prop
structure Ends where
 nx:St→Hp→Prop
 rt:VK
 bk:St→Hp→Prop:=fun _ _=>False
 ct:St→Hp→Prop:=fun _ _=>False
abbrev TS:=Ends→St→Hp→Prop
def EP (X:Cx) (pins:List (Addr×Obj)) (σ:St) (Q:VK) (u:Value) (s':Shared):Prop:=∃ v H',Inv X pins σ H' s'∧RelV v u∧Q v H'
def TP (X:Cx) (pins:List (Addr×Obj)) (σ:St) (Q:Bool→Hp→Prop) (b:Bool) (s':Shared):Prop:=∃ H',Inv X pins σ H' s'∧Q b H'
def AP (X:Cx) (pins:List (Addr×Obj)) (σ:St) (Q:List V→Hp→Prop) (us:List Value) (s':Shared):Prop:=∃ vs H',Inv X pins σ H' s'∧zL vs us∧Q vs H'
def SP (X:Cx) (pins:List (Addr×Obj)) (D:Ends) (f:Flow) (s':Shared):Prop :=
 match f with
 | .next=>∃ σ' H',Inv X pins σ' H' s'∧D.nx σ' H'
 | .brk=>∃ σ' H',Inv X pins σ' H' s'∧D.bk σ' H'
 | .cont=>∃ σ' H',Inv X pins σ' H' s'∧D.ct σ' H'
 | .ret u=>∃ v σ' H',Inv X pins σ' H' s'∧RelV v u∧D.rt v H'
def PE (X:Cx) (e:Expr) (t:TE):Prop :=
 ∀ (pins:List (Addr×Obj)) (s:Shared) (σ:St) (H:Hp) (Q:VK),Inv X pins σ H s→t σ H Q→wpAny (model X.prog X.w) X.A (eval e X.env) (EP X pins σ Q) X.xe s
def PT (X:Cx) (e:Expr) (t:TT):Prop :=
 ∀ (pins:List (Addr×Obj)) (s:Shared) (σ:St) (H:Hp) (Q:Bool→Hp→Prop),Inv X pins σ H s→t σ H Q→wpAny (model X.prog X.w) X.A (isTrue e X.env (eval e X.env)) (TP X pins σ Q) X.xe s
def PW (X:Cx) (e:Expr) (t:TT):Prop :=
 ∀ (whole:Sem Value) (pins:List (Addr×Obj)) (s:Shared) (σ:St) (H:Hp) (Q:Bool→Hp→Prop),Inv X pins σ H s→t σ H Q→wpAny (model X.prog X.w) X.A (isTrue e X.env whole) (TP X pins σ Q) X.xe s
theorem PW.pt {X:Cx} {e:Expr} {t:TT} (h:PW X e t):PT X e t:=h _
def PA (X:Cx) (es:List Expr) (t:TA):Prop :=
 ∀ (pos:Pos) (pins:List (Addr×Obj)) (s:Shared) (σ:St) (H:Hp) (Q:List V→Hp→Prop),Inv X pins σ H s→t σ H Q→wpAny (model X.prog X.w) X.A (spliced (backTo pos (starEach es X.env))) (AP X pins σ Q) X.xe s
def PS (X:Cx) (st:Stmt) (t:TS):Prop :=
 ∀ (pins:List (Addr×Obj)) (s:Shared) (σ:St) (H:Hp) (D:Ends),Inv X pins σ H s→t D σ H→wpAny (model X.prog X.w) X.A (exec st X.env) (SP X pins D) X.xe s
def PSs (X:Cx) (st:List Stmt) (t:TS):Prop :=
 ∀ (pins:List (Addr×Obj)) (s:Shared) (σ:St) (H:Hp) (D:Ends),Inv X pins σ H s→t D σ H→wpAny (model X.prog X.w) X.A (execs st X.env) (SP X pins D) X.xe s
theorem thn {α:Type} {t:Sem α} {Q Q':α→Shared→Prop} {M:Model} {A:Around} {E:Value→Shared→Prop} {s:Shared} (h:wpAny M A t Q E s) (hQ:∀ a s,Q a s→Q' a s):wpAny M A t Q' E s:=cS h hQ fun _ _ x=>x
section
variable {X:Cx}
def zoz (i:Nat):TE:=fun σ H Q=>∃ v,σ[i]? = some (some v)∧Q v H
def tC (v:V):TE:=fun _ H Q=>Q v H
theorem znA {i:Nat} {x:Str} {pos:Pos} (hN:X.N[i]? = some x) (hv:Vis X.env.scope x) (hd:(x == ("__debug__" : Str))=false:=by decide) (hcd:(x == ("__classdict__" : Str))=false:=by decide):PE X (.Name x pos) (zoz i):=by
 intro pins s σ H Q I h
 obtain⟨v,e,h⟩:=h
 obtain⟨m,hn,hl⟩:=I.loc
 obtain⟨u,r,l⟩:=hl i x v hN e hv
 have fin:EP X pins σ Q u s:=⟨v,H,I,r,h⟩
 rcases l with ⟨hk,hm⟩ | ⟨hk,c,hc,hcell⟩
 ·exact kg (jb I.ok.kind hk hn hm fin) hd
 ·rcases hk with hk | hk
  ·exact kg (jo I.ok.kind hk hc hcell fin) hd
  ·exact kg (wpAny_loadName_free I.ok.kind hk hc hcell fin hcd) hd
theorem zf {i j pos}:PE X (.Constant (.int i) j pos) (tC (.int i)):=fun _ _ _ H _ I h=>wpAny_Constant_int ⟨.int i,H,I.tok _,⟨_,rfl⟩,h⟩
theorem zdD {b j pos}:PE X (.Constant (.bool b) j pos) (tC (.bl b)):=fun _ _ _ H _ I h=>Constant_bool ⟨.bl b,H,I,rfl,h⟩
theorem zbJ {j pos}:PE X (.Constant .none j pos) (tC .non):=fun _ _ _ H _ I h=>Constant_none ⟨.non,H,I,rfl,h⟩
def Gl (X:Cx) (x:Str):Prop:=X.env.kindOf x=some .globalImplicit
theorem zl3 {E:Value→Shared→Prop} {pins:List (Addr×Obj)} {s:Shared} {σ:St} {H:Hp} {x:Str} {u:Value} {pos:Pos} {Q:Value→Shared→Prop} (I:Inv X pins σ H s) (hg:Gl X x) (hm:X.mg x=some u) (h:Q u s)
  (hd:(x == ("__debug__" : Str))=false:=by decide):wpAny (model X.prog X.w) X.A (eval (.Name x pos) X.env) Q E s :=
 gI I.ok.kind hg (Calls.loadGlobal_global (by rw [I.ok.glob]; exact I.mod.glob.keeps I.bk) hm h) hd
theorem zbx {E:Value→Shared→Prop} {pins:List (Addr×Obj)} {s:Shared} {σ:St} {H:Hp} {x:Str} {u:Value} {pos:Pos} {Q:Value→Shared→Prop} (I:Inv X pins σ H s) (hg:Gl X x) (hm:X.mg x=none) (hv:bootBuiltins x=some u) (h:Q u s)
  (hn:x≠"__name__":=by decide) (hd:(x == ("__debug__" : Str))=false:=by decide):wpAny (model X.prog X.w) X.A (eval (.Name x pos) X.env) Q E s:=by
 obtain⟨mb,h1,h2⟩:=I.mod.blt
 exact gI I.ok.kind hg (Calls.loadGlobal_builtin (by rw [I.ok.glob]; exact I.mod.glob.keeps I.bk) hm (by rw [I.ok.blt]; exact h1.keeps I.bk) ((h2 x hn).trans hv) h) hd
variable {a b:Expr} {ta tb:TE} {pos:Pos}
variable {tA tB':TT} {rest:List Expr}
def zpd (t u:TT):TT:=fun σ H Q=>t σ H fun c H1=>if c=true then u σ H1 Q else Q false H1
def zpe (t:TT):TT:=fun σ H Q=>t σ H fun c H1=>Q (!c) H1
theorem zih (ha:PT X a tA):PW X (.BoolOp .And [a] pos) tA:=by
 intro wh pins s σ H Q I h
 refine isTrue_and (thn (ha pins s σ H Q I h) fun c s1 e=>?_)
 cases c with
 | true=>exact isTrue_and_nil e
 | false=>exact e
theorem zfO (ha:PT X a tA) (hb:PW X (.BoolOp .And (b :: rest) pos) tB'):PW X (.BoolOp .And (a :: b :: rest) pos) (zpd tA tB'):=by
 intro wh pins s σ H Q I h
 refine isTrue_and (thn (ha pins s σ H _ I h) fun c s1 ⟨H1,I1,q1⟩=>?_)
 cases c with
 | true=>exact hb wh pins s1 σ H1 Q I1 q1
 | false=>exact⟨H1,I1,q1⟩
theorem znB (ha:PT X a tA):PT X (.UnaryOp .Not a pos) (zpe tA):=by
 intro pins s σ H Q I h
 exact isTrue_not (ha pins s σ H (fun c H1=>Q (!c) H1) I h)
def tIf (t:TT) (ta tb:TE):TE:=fun σ H Q=>t σ H fun c H1=>if c=true then ta σ H1 Q else tb σ H1 Q
theorem zgI {c:Expr} (hc:PT X c tA) (ha:PE X a ta) (hb:PE X b tb):PE X (.IfExp c a b pos) (tIf tA ta tb):=by
 intro pins s σ H Q I h
 refine wpAny_IfExp (thn (hc pins s σ H _ I h) fun d s1 ⟨H1,I1,q1⟩=>?_)
 cases d with
 | true=>exact ha pins s1 σ H1 Q I1 q1
 | false=>exact hb pins s1 σ H1 Q I1 q1
end
def SqL (K:ag) (H:Hp) (a:Addr) (xs:List V):Prop :=
 Rd H a (.lst xs) ∨
  ∃ (o:Obj) (its:Array Value) (n:Nat),K.lookup a=some o∧o.cls = .type "list"∧o.dict=none∧o.data = .seq its n∧its.size≤sizeLine∧zL xs its.toList
def SqT (K:ag) (H:Hp) (a:Addr) (xs:List V):Prop :=
 Rd H a (.tup xs) ∨
  ∃ (o:Obj) (its:Array Value) (n:Nat),K.lookup a=some o∧o.cls = .type "tuple"∧o.data = .seq its n∧its.size≤sizeLine∧zL xs its.toList
def zpf:Value→Option V
 | .none=>some .non
 | .bool b=>some (.bl b)
 | .int i _=>some (.int i)
 | .str x _=>some (.str x)
 | .bytes b _=>some (.byt b)
 | .float b _=>some (.flt b)
 | .ref a=>some (.ref a)
 | .type n=>some (.ty n)
 | _=>none
theorem RelV.abs {x:V} {u:Value} (r:RelV x u):zpf u=some x:=by
 cases x with
 | non=>cases r; rfl
 | bl _=>cases r; rfl
 | int _=>obtain⟨t,rfl⟩:=r; rfl
 | str _=>obtain⟨t,rfl⟩:=r; rfl
 | byt _=>obtain⟨t,rfl⟩:=r; rfl
 | flt _=>obtain⟨t,rfl⟩:=r; rfl
 | ref _=>cases r; rfl
 | ty _=>cases r; rfl
theorem RelV.inj {x y:V} {u:Value} (r:RelV x u) (q:RelV y u):x=y:=aO (r.abs.symm.trans q.abs)
theorem zL.inj:∀ {xs ys:List V} {us:List Value},zL xs us→zL ys us→xs=ys
 | _,_,_,.nil,.nil=>rfl
 | _,_,_,.cons r t,.cons r' t'=>by rw [r.inj r',zL.inj t t']
section
variable {X:Cx} {pins:List (Addr×Obj)} {σ:St} {H:Hp} {s:Shared} {a:Addr} {xs ys:List V}
theorem SqL.of {K:ag} (h:H a=some (.lst xs)):SqL K H a xs:=.inl (.inl h)
theorem SqT.of {K:ag} (h:H a=some (.tup xs)):SqT K H a xs:=.inl (.inl h)
theorem Inv.list (I:Inv X pins σ H s) (h:SqL X.K H a xs):∃ its:List Value,zL xs its∧PlainL s.heap a its.toArray∧xs.length≤sizeLine:=by
 rcases h with h | ⟨o,its,n,hk,hc,hd,hs,hz,r⟩
 ·obtain⟨z,its,n,r,e⟩:=h.ok I.hok
  exact⟨its,r,⟨_,n,e,rfl,rfl,rfl⟩,z⟩
 ·refine⟨its.toList,r,⟨o,n,I.kIn a o hk,hc,hd,by simpa using hs⟩,?_⟩
  have e:=r.length
  simp only [bw] at e
  lia
theorem Inv.tuple (I:Inv X pins σ H s) (h:SqT X.K H a xs):∃ its:List Value,zL xs its∧IsTup s.heap a its.toArray∧xs.length≤sizeLine:=by
 rcases h with h | ⟨o,its,n,hk,hc,hs,hz,r⟩
 ·obtain⟨z,its,r,p⟩:=h.ok I.hok
  exact⟨its,r,p,z⟩
 ·refine⟨its.toList,r,⟨o,I.kIn a o hk,hc,n,by simpa using hs⟩,?_⟩
  have e:=r.length
  simp only [bw] at e
  lia
theorem Inv.list_inj (I:Inv X pins σ H s) (h:SqL X.K H a xs) (h':SqL X.K H a ys):xs=ys:=by
 obtain⟨its,r,⟨o,n,e,_,_,d⟩,_⟩:=I.list h
 obtain⟨its',r',⟨o',n',e',_,_,d'⟩,_⟩:=I.list h'
 rw [e] at e'; cases e'
 rw [d] at d'
 injection d' with d1 _
 have:its=its':=by simpa using congrArg kJ d1
 subst this
 exact r.inj r'
theorem Inv.tuple_inj (I:Inv X pins σ H s) (h:SqT X.K H a xs) (h':SqT X.K H a ys):xs=ys:=by
 obtain⟨its,r,⟨o,e,_,n,d⟩,_⟩:=I.tuple h
 obtain⟨its',r',⟨o',e',_,n',d'⟩,_⟩:=I.tuple h'
 rw [e] at e'; cases e'
 rw [d] at d'
 injection d' with d1 _
 have:its=its':=by simpa using congrArg kJ d1
 subst this
 exact r.inj r'
end
abbrev Cx.wish (X:Cx) (E:Value→Shared→Prop):Cx:={ X with xe:=E }
abbrev Cx.nox (X:Cx):Cx:=X.wish fun _ _=>False
theorem Cx.Ok.wish {X:Cx} (ok:X.Ok) (E:Value→Shared→Prop):(X.wish E).Ok :=
 ⟨ok.mod,ok.kind,ok.glob,ok.blt,ok.above,ok.inj,ok.has,ok.cab,ok.hd,ok.frames,ok.stk,ok.exf,ok.bs,ok.bsz,ok.noex,ok.exfs,ok.funs,ok.frf⟩
theorem Cx.Ok.unwish {X:Cx} {E:Value→Shared→Prop} (ok:(X.wish E).Ok):X.Ok :=
 ⟨ok.mod,ok.kind,ok.glob,ok.blt,ok.above,ok.inj,ok.has,ok.cab,ok.hd,ok.frames,ok.stk,ok.exf,ok.bs,ok.bsz,ok.noex,ok.exfs,ok.funs,ok.frf⟩
section
variable {X:Cx} {pins:List (Addr×Obj)} {σ:St} {H:Hp} {s:Shared} {E:Value→Shared→Prop}
theorem Inv.wish (I:Inv X pins σ H s) (E:Value→Shared→Prop):Inv (X.wish E) pins σ H s:=⟨I.ok.wish E,I.os,I.bare,I.base,I.loc,I.cell,I.free,I.freeC,I.pin,I.hok,I.len⟩
theorem Inv.unwish (I:Inv (X.wish E) pins σ H s):Inv X pins σ H s:=⟨I.ok.unwish,I.os,I.bare,I.base,I.loc,I.cell,I.free,I.freeC,I.pin,I.hok,I.len⟩
theorem SP.unwish {D:Ends} {f:Flow} {s':Shared} (h:SP (X.wish E) pins D f s'):SP X pins D f s':=by
 cases f with
 | next=>obtain⟨σ',H',I,q⟩:=h; exact⟨σ',H',I.unwish,q⟩
 | brk=>obtain⟨σ',H',I,q⟩:=h; exact⟨σ',H',I.unwish,q⟩
 | cont=>obtain⟨σ',H',I,q⟩:=h; exact⟨σ',H',I.unwish,q⟩
 | ret u=>obtain⟨v,σ',H',I,r,q⟩:=h; exact⟨v,σ',H',I.unwish,r,q⟩
theorem PSs.nox {st:List Stmt} {t:TS} (h:PSs X.nox st t):PSs X st t:=fun pins s σ H D I hw =>
 cS (h pins s σ H D (I.wish _) hw) (fun _ _ q=>q.unwish) fun _ _ z=>dS z
end
section
variable {X:Cx} {st:Stmt} {rest:List Stmt} {t u:TS} {e:Expr} {te:TE} {pos:Pos}
def zoA:TS:=fun D σ H=>D.nx σ H
def zoB (t u:TS):TS:=fun D σ H=>t { D with nx:=u D } σ H
theorem zab:PSs X [] zoA:=fun _ _ σ H _ I h=>f' ⟨σ,H,I,h⟩
theorem zd (h1:PS X st t) (h2:PSs X rest u):PSs X (st :: rest) (zoB t u):=by
 intro pins s σ H D I h
 refine wpAny_execs_cons (thn (h1 pins s σ H { D with nx:=u D } I h) fun f s1 q=>?_)
 cases f with
 | next =>
  obtain⟨σ',H',I',q⟩:=q
  exact h2 pins s1 σ' H' D I' q
 | ret v=>exact q
 | brk=>exact q
 | cont=>exact q
theorem zn (h1:PS X st t):PSs X [st] t:=by
 intro pins s σ H D I h
 refine wpAny_execs_cons (thn (h1 pins s σ H D I h) fun f s1 q=>?_)
 cases f with
 | next=>exact f' q
 | ret v=>exact q
 | brk=>exact q
 | cont=>exact q
theorem Inv.quiet {pins:List (Addr×Obj)} {σ:St} {H:Hp} {s:Shared} (I:Inv X pins σ H s):interactive X.env=false:=by simp [interactive,I.ok.kind]
def zoC (te:TE):TS:=fun D σ H=>te σ H fun _ H1=>D.nx σ H1
theorem zcw (he:PE X e te) (hs:swapsWith e none pos.line X.env=pure false:=by rfl):PS X (.Expr e pos) (zoC te):=by
 intro pins s σ H D I h
 exact wpAny_Expr_any (thn (he pins s σ H _ I h) fun v s1 ⟨x,H1,I1,r1,q1⟩=>⟨σ,H1,I1,q1⟩) I.quiet hs
def zpg (te:TE):TS:=fun D σ H=>te σ H D.rt
theorem zE (he:PE X e te):PS X (.Return (some e) pos) (zpg te):=by
 intro pins s σ H D I h
 exact wpAny_Return_some (thn (he pins s σ H _ I h) fun v s1 ⟨x,H1,I1,r1,q1⟩=>⟨x,σ,H1,I1,r1,q1⟩)
def zph (c:TT) (t u:TS):TS:=fun D σ H=>c σ H fun b H1=>if b=true then t D σ H1 else u D σ H1
theorem za6 {c:Expr} {a b:List Stmt} {tc:TT} (hc:PT X c tc) (ha:PSs X a t) (hb:PSs X b u):PS X (.If c a b pos) (zph tc t u):=by
 intro pins s σ H D I h
 refine wpAny_If (thn (hc pins s σ H _ I h) fun d s1 ⟨H1,I1,q1⟩=>?_)
 cases d with
 | true=>exact ha pins s1 σ H1 D I1 q1
 | false=>exact hb pins s1 σ H1 D I1 q1
def znC:TS:=fun _ _ _=>False
theorem zfd {sts:List Stmt}:PSs X sts znC:=fun _ _ _ _ _ _ h=>h.elim
end
abbrev TG:=V→St→Hp→(St→Hp→Prop)→Prop
abbrev TGs:=List V→St→Hp→(St→Hp→Prop)→Prop
def PG (X:Cx) (target:Expr) (t:TG):Prop :=
 ∀ (pins:List (Addr×Obj)) (s:Shared) (σ:St) (H:Hp) (v:V) (u:Value) (Q:St→Hp→Prop),Inv X pins σ H s→RelV v u→t v σ H Q →
  wpAny (model X.prog X.w) X.A (assign target X.env u) (fun _ s'=>∃ σ' H',Inv X pins σ' H' s'∧Q σ' H') X.xe s
def PGs (X:Cx) (ts:List Expr) (t:TGs):Prop :=
 ∀ (pins:List (Addr×Obj)) (s:Shared) (σ:St) (H:Hp) (vs:List V) (us:List Value) (Q:St→Hp→Prop),Inv X pins σ H s→zL vs us→t vs σ H Q →
  wpAny (model X.prog X.w) X.A (assignInOrder ((assignEach ts X.env).map (·.2)) us) (fun _ s'=>∃ σ' H',Inv X pins σ' H' s'∧Q σ' H') X.xe s
abbrev znD:=V→V→V→Hp→(Hp→Prop)→Prop
def zoD (X:Cx) (t:znD):Prop :=
 ∀ (pins:List (Addr×Obj)) (s:Shared) (σ:St) (H:Hp) (o i v:V) (ov iv u:Value) (Q:Hp→Prop),Inv X pins σ H s→RelV o ov→RelV i iv→RelV v u→t o i v H Q →
  wpAny (model X.prog X.w) X.A (setItem ov iv u) (fun _ s'=>∃ H',Inv X pins σ H' s'∧Q H') X.xe s
abbrev TIp:=V→V→Hp→VK→Prop
def PIp (X:Cx) (op:Operator) (t:TIp):Prop :=
 ∀ (pins:List (Addr×Obj)) (s:Shared) (σ:St) (H:Hp) (x y:V) (v u:Value) (Q:VK),Inv X pins σ H s→RelV x v→RelV y u→t x y H Q →
  wpAny (model X.prog X.w) X.A (inplaceOp op v u) (EP X pins σ Q) X.xe s
section
variable {X:Cx} {pos:Pos}
def zaT (i:Nat):TG:=fun v σ H Q=>Q (σ.set i (some v)) H
theorem zg {i:Nat} {x:Str} (hN:X.N.Nodup) (hi:X.N[i]? = some x) (hx:Loc X.env.scope x) (hf:X.fn x=true∨X.env.scope.names.lookup x=some .local:=by first | exact .inl rfl | exact .inr rfl | assumption):PG X (.Name x pos) (zaT i):=by
 intro pins s σ H v u Q I r h
 exact wpAny_assign_Name (zec I hN hi hx r (fun s' I'=>⟨_,H,I',h⟩) hf)
def zhE:TGs:=fun vs σ H Q=>vs = []∧Q σ H
def zb0 (t:TG) (u:TGs):TGs:=fun vs σ H Q=>∃ v r,vs=v :: r∧t v σ H fun σ' H'=>u r σ' H' Q
theorem zJ:PGs X [] zhE:=by
 intro pins s σ H vs us Q I r h
 obtain⟨e,h⟩:=h
 subst e
 cases r
 exact assignInOrder_nil ⟨σ,H,I,h⟩
theorem zi {e:Expr} {es:List Expr} {t:TG} {u:TGs} (h1:PG X e t) (h2:PGs X es u)
  (hs:(assignEach (e :: es) X.env).map (·.2)=assign e X.env :: (assignEach es X.env).map (·.2):=by rfl):PGs X (e :: es) (zb0 t u):=by
 intro pins s σ H vs us Q I r h
 obtain⟨v,vr,e1,h⟩:=h
 subst e1
 cases r with
 | cons r rr =>
  rw [hs]
  refine assignInOrder_cons (thn (h1 pins s σ H _ _ _ I r h) fun _ s1 ⟨σ1,H1,I1,q1⟩=>?_)
  exact h2 pins s1 σ1 H1 _ _ Q I1 rr q1
def zgJ (K:ag) (n:Nat) (t:TGs):TG:=fun v σ H Q=>∃ a xs,v = .ref a∧SqT K H a xs∧xs.length=n∧t xs σ H Q
theorem zaU {es:List Expr} {k:Nat} {t:TGs} {n:Nat} (hc:X.calm=true) (h:PGs X es t)
  (hn:(assignEach es X.env).length=n:=by rfl) (hst:(assignEach es X.env).findIdx? (·.1)=none:=by rfl):PG X (.Tuple es k pos) (zgJ X.K n t):=by
 intro pins s σ H v u Q I r hw
 obtain⟨a,xs,e1,hq,hl,hw⟩:=hw
 subst e1
 cases r
 obtain⟨its,rv,ht,hz⟩:=I.tuple hq
 refine assign_Tuple_tuple (I.ok.hd hc) ht (by simp [hn,← hl,rv.length]) hst fun h' hx=>?_
 have I1:Inv X pins σ H { s with heap:=h' }:=I.kept (t':=s.toks) fun b o e=>hx b o (bt (aJ e)) e
 exact h pins _ σ H xs _ Q I1 (by simpa using rv) hw
def zpi (to ti:TE) (t:znD):TG:=fun v σ H Q=>to σ H fun o H1=>ti σ H1 fun i H2=>t o i v H2 fun H3=>Q σ H3
theorem zkc {o i:Expr} {to ti:TE} {t:znD} (ho:PE X o to) (hi:PE X i ti) (hs:zoD X t)
  (ha:∀ v,assign (.Subscript o i pos) X.env v=(do
   let ov ← holding [v] (eval o X.env)
   let iv ← holding [v,ov] (eval i X.env)
   standAt pos
   holding [v,ov,iv] (setItem ov iv v)
   release [v,ov,iv] []):=by intro _; rfl):PG X (.Subscript o i pos) (zpi to ti t):=by
 intro pins s σ H v u Q I r h
 rw [ha]
 refine ae (bQ (thn (ho pins s σ H _ I h) fun ov s1 ⟨x,H1,I1,r1,q1⟩=>?_))
 refine ae (bQ (thn (hi pins s1 σ H1 _ I1 q1) fun iv s2 ⟨y,H2,I2,r2,q2⟩=>?_))
 refine ae (fc (ae (bQ (thn (hs pins s2 σ H2 x y v ov iv u _ I2 r1 r2 r q2) fun _ s3 ⟨H3,I3,q3⟩=>?_))))
 exact wpAny_release ⟨σ,H3,I3,q3⟩
def zhF (te:TE) (g:TG):TS:=fun D σ H=>te σ H fun x H1=>g x σ H1 D.nx
theorem za8 {tg e:Expr} {te:TE} {g:TG} (he:PE X e te) (hg:PG X tg g) (hs:swapsWithSole [tg] e pos.line X.env=pure false:=by rfl) (hw:swappedStores [tg] e X.env=pure none:=by rfl)
  (h1:(assignEach [tg] X.env).map (·.2) = [assign tg X.env]:=by rfl):PS X (.Assign [tg] e pos) (zhF te g):=by
 intro pins s σ H D I h
 refine wpAny_Assign_stores (thn (he pins s σ H _ I h) fun v s1 ⟨x,H1,I1,r1,q1⟩=>?_) hs hw
 rw [h1]
 exact thn (hg pins s1 σ H1 x v _ I1 r1 q1) fun _ s2 q=>q
theorem zo {i:Nat} {x:Str} {e:Expr} {te:TE} {pos':Pos} (hN:X.N.Nodup) (hi:X.N[i]? = some x) (hx:Loc X.env.scope x) (he:PE X e te) (hs:swapsWith e (some (.Name x pos')) pos.line X.env=pure false:=by rfl) (hf:X.fn x=true∨X.env.scope.names.lookup x=some .local:=by first | exact .inl rfl | exact .inr rfl | assumption) :
  PS X (.Assign [.Name x pos'] e pos) (zhF te (zaT i)):=by
 intro pins s σ H D I h
 refine wpAny_Assign_Name (thn (he pins s σ H _ I h) fun v s1 ⟨y,H1,I1,r1,q1⟩=>?_) hs
 exact zec I1 hN hi hx r1 (fun s2 I2=>⟨_,H1,I2,q1⟩) hf
def zpj (i:Nat) (te:TE) (ti:TIp):TS:=fun D σ H=>∃ x,σ[i]? = some (some x)∧te σ H fun y H1=>ti x y H1 fun z H2=>D.nx (σ.set i (some z)) H2
theorem zfP {i:Nat} {x:Str} {e:Expr} {te:TE} {op:Operator} {ti:TIp} {pos':Pos} (hN:X.N.Nodup) (hi:X.N[i]? = some x) (hx:Loc X.env.scope x) (he:PE X e te) (ho:PIp X op ti) (hf:X.fn x=true∨X.env.scope.names.lookup x=some .local:=by first | exact .inl rfl | exact .inr rfl | assumption) :
  PS X (.AugAssign (.Name x pos') op e pos) (zpj i te ti):=by
 intro pins s σ H D I h
 obtain⟨v,e1,h⟩:=h
 obtain⟨m,hn,hl⟩:=I.loc
 have vis:Vis X.env.scope x:=by rcases hx with k | k; exact .inl k; exact .inr (.inl k)
 obtain⟨u,r,l⟩:=hl i x v hi e1 vis
 refine wpAny_AugAssign_Name ?_
 have go:wpAny (model X.prog X.w) X.A (eval e X.env) (fun w s₂=>wpAny (model X.prog X.w) X.A (inplaceOp op u w) (fun r s₃=>wpAny (model X.prog X.w) X.A (storeName X.env x r) (fun _=>SP X pins D .next) X.xe s₃) X.xe s₂) X.xe s:=by
  refine thn (he pins s σ H _ I h) fun w s1 ⟨y,H1,I1,r1,q1⟩=>?_
  refine thn (ho pins s1 σ H1 v y u w _ I1 r r1 q1) fun z s2 ⟨zv,H2,I2,r2,q2⟩=>?_
  exact zec I2 hN hi hx r2 (fun s3 I3=>⟨_,H2,I3,q2⟩) hf
 rcases l with ⟨hk,hm⟩ | ⟨hk,c,hc,hcell⟩
 ·exact jb I.ok.kind hk hn hm go
 ·rcases hk with hk | hk
  ·exact jo I.ok.kind hk hc hcell go
  ·rcases hx with k | k
   ·have:X.env.scope.names.lookup x=some .free:=hk
    rw [k] at this; cases this
   ·have:X.env.scope.names.lookup x=some .free:=hk
    rw [k] at this; cases this
def zkd (c:TT) (tb:TS):TS:=fun D σ H=>∃ W:Nat→St→Hp→Prop,(∃ m,W m σ H)∧∀ m σ H,W m σ H →
 c σ H fun b H1=>if b=true then ∃ N:St→Hp→Prop,(∀ σ' H',N σ' H'→∃ m',m' < m∧W m' σ' H')∧tb { D with nx:=N,ct:=N,bk:=D.nx } σ H1 else D.nx σ H1
theorem zed {c:Expr} {body:List Stmt} {tc:TT} {tb:TS} (hp:PassesOwn (model X.prog X.w) X.A X.env X.xe) (hc:PT X c tc) (hb:PSs X body tb):PS X (.While c body [] pos) (zkd tc tb):=by
 intro pins s σ H D I h
 obtain⟨W,⟨m0,w0⟩,turn⟩:=h
 refine wpAny_While (codeAny_whileLoop (fun n s'=>∃ σ' H',Inv X pins σ' H' s'∧W n σ' H') ?_ m0 ⟨σ,H,I,w0⟩)
 rintro n s1 ⟨σ1,H1,I1,w1⟩
 refine dL hp (thn (hc pins s1 σ1 H1 _ I1 (turn n σ1 H1 w1)) fun b s2 ⟨H2,I2,q2⟩=>?_)
 cases b with
 | true =>
  obtain⟨N,hN,q2⟩:=q2
  rw [if_pos rfl]
  refine dL hp (thn (hb pins s2 σ1 H2 _ I2 q2) fun f s3 q3=>?_)
  cases f with
  | next =>
   obtain⟨σ3,H3,I3,n3⟩:=q3
   obtain⟨m',hm,w3⟩:=hN σ3 H3 n3
   exact⟨m',hm,σ3,H3,I3,w3⟩
  | cont =>
   obtain⟨σ3,H3,I3,n3⟩:=q3
   obtain⟨m',hm,w3⟩:=hN σ3 H3 n3
   exact⟨m',hm,σ3,H3,I3,w3⟩
  | brk=>exact q3
  | ret v=>exact q3
 | false =>
  rw [if_neg aN]
  exact f' ⟨σ1,H2,I2,q2⟩
end
structure It where
 go:Nat→Hp→Prop
 yld:Nat→Hp→V→Hp→Prop
 stop:Nat→Hp→Prop
def zbU (X:Cx) (pins:List (Addr×Obj)) (H:Hp) (b:Addr):Prop :=
 H b=none∧b≠X.env.locals∧b∉X.fs∧(b∈X.ex∨X.s₀.heap.objs.size≤b)∧(∀ x c,X.env.cells.lookup x=some c→c≠b)∧∀ p∈X.pn++pins,p.1≠b
theorem Inv.fpOk {X:Cx} {pins:List (Addr×Obj)} {σ:St} {H H':Hp} {s:Shared} {b:Addr} (I:Inv X pins σ H s) (hb:s.heap.objs.size≤b) (hn:H' b=none):zbU X pins H' b:=by
 refine⟨hn,fz (bg I.lt hb),I.nofs hb,.inr (aZ I.sz hb),fun x c e z=>?_,fun p hp z=>?_⟩
 ·obtain⟨v,q⟩:=I.cell x c e
  exact absurd (bg q.lt (by rw [z]; exact hb)) (cu _)
 ·exact absurd (bg (aJ (I.pin p hp).1) (by rw [z]; exact hb)) (cu _)
structure Turn (P:Program) (w:World) (K:ag) (tg:Expr) (J:It) (fp:List Addr) (it:Addr) (tn:Nat→Heap→Prop):Prop where
 mem:it∈fp
 obj:∀ i h,tn i h→∀ b∈fp,∃ o,h.get? b=some o∧∀ v,o.data≠.cell v
 keep:∀ i h h',tn i h→(∀ b∈fp,∀ o,h.get? b=some o→h'.get? b=some o)→tn i h'
 item:∀ (X:Cx),X.prog=P→X.w=w→X.K=K→X.calm=true→∀ (i:Nat) (pins:List (Addr×Obj)) (s:Shared) (σ:St) (H:Hp) (E:Value→Shared→Prop),Inv X pins σ H s→(∀ b∈fp,zbU X pins H b)→tn i s.heap→J.go i H →
  wpAny (model P w) X.A (pyNext (.ref it)) (fun r s1=>∃ u,r=some u ∧
   wpAny (model P w) X.A (letOwnedTupleGo tg (.ref it) u) (fun _ s2=>∃ x H',Inv X pins σ H' s2∧RelV x u∧J.yld i H x H'∧tn (i+1) s2.heap∧∀ b∈fp,H' b=none) E s1) E s
 done:∀ (X:Cx),X.prog=P→X.w=w→X.K=K→X.calm=true→∀ (i:Nat) (pins:List (Addr×Obj)) (s:Shared) (σ:St) (H:Hp) (E:Value→Shared→Prop),Inv X pins σ H s→(∀ b∈fp,zbU X pins H b)→tn i s.heap→J.stop i H →
  wpAny (model P w) X.A (pyNext (.ref it)) (fun r s1=>r=none∧Inv X pins σ H s1) E s
 self:∀ (A:Around) (i:Nat) (s:Shared) (Q:Value→Shared→Prop) (E:Value→Shared→Prop),tn i s.heap→Q (.ref it) s→wpAny (model P w) A (pyIter (.ref it)) Q E s
abbrev TI:=St→Hp→(It→Hp→Prop)→Prop
def PIE (X:Cx) (pins:List (Addr×Obj)) (σ:St) (tg:Expr) (R:It→Hp→Prop) (itv:Value) (s2:Shared):Prop :=
 ∃ (it:Addr) (fp:List Addr) (tn:Nat→Heap→Prop) (J:It) (H':Hp),itv = .ref it∧Inv X pins σ H' s2∧Turn X.prog X.w X.K tg J fp it tn∧tn 0 s2.heap∧(∀ b∈fp,zbU X pins H' b)∧R J H'
def PI (X:Cx) (tg iter:Expr) (wi:TI):Prop :=
 ∀ (pins:List (Addr×Obj)) (s:Shared) (σ:St) (H:Hp) (R:It→Hp→Prop),Inv X pins σ H s→wi σ H R →
  wpAny (model X.prog X.w) X.A (eval iter X.env) (fun v s1=>wpAny (model X.prog X.w) X.A (pyIter v) (PIE X pins σ tg R) X.xe s1) X.xe s
theorem zfe {M:Model} {A:Around} {E:Value→Shared→Prop} {s:Shared} {tg:Expr} {it:Addr} {u:Value} {o:Obj} {n:String} {vs:Array Value} {Q:Unit→Shared→Prop} (ho:s.heap.get? it=some o) (hc:o.cls = .type n) (hd:o.data = .fields vs)
  (hn:["enumerate","zip","dict_itemiterator","dict_reverseitemiterator","odict_iterator","itertools.zip_longest","itertools.pairwise"].contains n=false) (hQ:Q () s):wpAny M A (letOwnedTupleGo tg (.ref it) u) Q E s:=by
 unfold letOwnedTupleGo
 cases tg <;> first
  | exact ak hQ
  | (cases u <;> first
    | exact ak hQ
    | (refine ae (wpAny_load ho ?_)
       rw [hc,hd]
       show wpAny M A (if (["enumerate","zip","dict_itemiterator","dict_reverseitemiterator","odict_iterator","itertools.zip_longest","itertools.pairwise"].contains n && vs[0]? == some (rawInt _))=true then _ else _) Q E s
       rw [if_neg (by intro h; rw [hn,Bool.false_and] at h; cases h)]
       exact ak hQ))
def Itl (K:ag) (a:Addr):It :=
 ⟨fun i H=>∃ xs x,SqL K H a xs∧xs[i]? = some x,fun i H x H'=>H'=H∧∀ xs,SqL K H a xs→xs[i]? = some x,fun i H=>∃ xs,SqL K H a xs∧xs.length≤i⟩
def Itt (K:ag) (a:Addr):It :=
 ⟨fun i H=>∃ xs x,SqT K H a xs∧xs[i]? = some x,fun i H x H'=>H'=H∧∀ xs,SqT K H a xs→xs[i]? = some x,fun i H=>∃ xs,SqT K H a xs∧xs.length≤i⟩
def Itr (lo:Int) (n:Nat):It:=⟨fun i _=>i < n,fun i H x H'=>H'=H∧x = .int (lo+i),fun i _=>n≤i⟩
theorem zff {P:Program} {w:World} {K:ag} {tg:Expr} (a it:Addr):Turn P w K tg (Itl K a) [it] it (fun i h=>h.IsListIter it a i) where
 mem:=by simp
 obj:=fun i h st b hb=>by
  have e:b=it:=by simpa using hb
  subst e
  obtain⟨o,e,c,d⟩:=st
  exact⟨o,e,fun v z=>by rw [d] at z; cases z⟩
 keep:=fun i h h' st k=>st.at fun o e=>k it (by simp) o e
 item:=by
  intro X hP hw hK hc i pins s σ H E I hf st hg
  subst hP hw hK
  obtain⟨xs,x,hq,hx⟩:=hg
  obtain⟨its,rv,p,hz⟩:=I.list hq
  obtain⟨u,hu,ru⟩:=rv.get hx
  obtain⟨f0,f1,f2,f3,f4,f5⟩:=hf it (by simp)
  refine wpAny_pyNext_list_item st p.isList (x:=u) (by simpa using hu) fun h' st' sb=>?_
  have I1:Inv X pins σ H { s with heap:=h' }:=I.turned (t':=s.toks) (fun b o hb e=>(sb.2 b hb).trans e) f0 f1 f3 f4 f5
  obtain⟨o,e,c,d⟩:=id st'
  exact⟨u,rfl,zfe (s:={ s with heap:=h' }) e c d (by decide) ⟨x,H,I1,ru,⟨rfl,fun ys hy=>by rw [I.list_inj hy hq]; exact hx⟩,st',fun b hb=>(hf b hb).1⟩⟩
 done:=by
  intro X hP hw hK hc i pins s σ H E I hf st hg
  subst hP hw hK
  obtain⟨xs,hq,hx⟩:=hg
  obtain⟨its,rv,p,hz⟩:=I.list hq
  obtain⟨f0,f1,f2,f3,f4,f5⟩:=hf it (by simp)
  have hl:=rv.length
  exact wpAny_pyNext_list_end (I.ok.hd hc) st p.isList (by simp; lia) fun h' eb=>⟨rfl,I.turned (t':=s.toks) (fun b o hb e=>eb b o hb e) f0 f1 f3 f4 f5⟩
 self:=fun _ _ _ _ _ st h=>wpAny_pyIter_listiter st h
theorem zee {P:Program} {w:World} {K:ag} {tg:Expr} (a it:Addr):Turn P w K tg (Itt K a) [it] it (fun i h=>h.IsTupleIter it a i) where
 mem:=by simp
 obj:=fun i h st b hb=>by
  have e:b=it:=by simpa using hb
  subst e
  obtain⟨o,e,c,d⟩:=st
  exact⟨o,e,fun v z=>by rw [d] at z; cases z⟩
 keep:=fun i h h' st k=>st.at fun o e=>k it (by simp) o e
 item:=by
  intro X hP hw hK hc i pins s σ H E I hf st hg
  subst hP hw hK
  obtain⟨xs,x,hq,hx⟩:=hg
  obtain⟨its,rv,p,hz⟩:=I.tuple hq
  obtain⟨u,hu,ru⟩:=rv.get hx
  obtain⟨f0,f1,f2,f3,f4,f5⟩:=hf it (by simp)
  refine wpAny_pyNext_tuple_item st (show s.heap.IsTuple a its.toArray from p) (x:=u) (by simpa using hu) fun h' st' sb=>?_
  have I1:Inv X pins σ H { s with heap:=h' }:=I.turned (t':=s.toks) (fun b o hb e=>(sb.2 b hb).trans e) f0 f1 f3 f4 f5
  obtain⟨o,e,c,d⟩:=id st'
  exact⟨u,rfl,zfe (s:={ s with heap:=h' }) e c d (by decide) ⟨x,H,I1,ru,⟨rfl,fun ys hy=>by rw [I.tuple_inj hy hq]; exact hx⟩,st',fun b hb=>(hf b hb).1⟩⟩
 done:=by
  intro X hP hw hK hc i pins s σ H E I hf st hg
  subst hP hw hK
  obtain⟨xs,hq,hx⟩:=hg
  obtain⟨its,rv,p,hz⟩:=I.tuple hq
  obtain⟨f0,f1,f2,f3,f4,f5⟩:=hf it (by simp)
  have hl:=rv.length
  exact wpAny_pyNext_tuple_end (I.ok.hd hc) st (show s.heap.IsTuple a its.toArray from p) (by simp; lia) fun h' eb=>⟨rfl,I.turned (t':=s.toks) (fun b o hb e=>eb b o hb e) f0 f1 f3 f4 f5⟩
 self:=fun _ _ _ _ _ st h=>wpAny_pyIter_tupleiter st h
theorem zhG {P:Program} {w:World} {K:ag} {tg:Expr} (it:Addr) (lo:Int) (n:Nat):Turn P w K tg (Itr lo n) [it] it (fun i h=>IsRangeIter h it (lo+(i:Nat)*1) ((n:Int) - (i:Nat)) 1) where
 mem:=by simp
 obj:=fun i h st b hb=>by
  have e:b=it:=by simpa using hb
  subst e
  exact⟨_,st,fun v z=>by
   have z':jS _=Data.cell v:=z
   cases z'⟩
 keep:=fun i h h' st k=>k it (by simp) _ st
 item:=by
  intro X hP hw hK hc i pins s σ H E I hf st hg
  subst hP hw hK
  obtain⟨f0,f1,f2,f3,f4,f5⟩:=hf it (by simp)
  have W:=Walks.range (prog:=X.prog) (w:=X.w) (I.ok.hd hc) it lo 1 n
  refine W.item i s _ _ hg st fun v h' tk hv st' kk=>?_
  obtain⟨t,rfl⟩:=hv
  have I1:Inv X pins σ H { s with heap:=h',toks:=tk }:=I.turned (fun b o hb e=>kk b o (by simpa using hb) e) f0 f1 f3 f4 f5
  refine⟨_,rfl,zfe (s:={ s with heap:=h',toks:=tk }) (n:="range_iterator") st' rfl rfl (by decide) ⟨.int (lo+i),H,I1,⟨t,?_⟩,⟨rfl,rfl⟩,st',fun b hb=>(hf b hb).1⟩⟩
  rw [jT]
 done:=by
  intro X hP hw hK hc i pins s σ H E I hf st hg
  subst hP hw hK
  obtain⟨f0,f1,f2,f3,f4,f5⟩:=hf it (by simp)
  exact wpAny_pyNext_range_end (I.ok.hd hc) st (by have:n≤i:=hg; lia) fun h' eb=>⟨rfl,I.turned (t':=s.toks) (fun b o hb e=>eb b o hb e) f0 f1 f3 f4 f5⟩
 self:=fun _ _ _ _ _ st h=>wpAny_pyIter_rangeiter st h
section
variable {X:Cx} {tg:Expr}
def zoE (K:ag) (tl:TE):TI:=fun σ H R=>tl σ H fun x H1=>∃ a,x = .ref a∧(∃ xs,SqL K H1 a xs)∧R (Itl K a) H1
def zoF (K:ag) (tl:TE):TI:=fun σ H R=>tl σ H fun x H1=>∃ a,x = .ref a∧(∃ xs,SqT K H1 a xs)∧R (Itt K a) H1
theorem zS {l:Expr} {tl:TE} (hl:PE X l tl):PI X tg l (zoE X.K tl):=by
 intro pins s σ H R I h
 refine thn (hl pins s σ H _ I h) fun v s1 ⟨x,H1,I1,r1,q1⟩=>?_
 obtain⟨a,e,⟨xs,hq⟩,q⟩:=q1
 subst e
 cases r1
 obtain⟨its,rv,p,hz⟩:=I1.list hq
 refine gS p.isList ?_
 refine⟨s1.heap.objs.size,[s1.heap.objs.size],_,_,H1,rfl,I1.kept (t':=s1.toks) fun b o e=>ai _ e,zff a _,⟨_,aI _ rfl,rfl,rfl⟩,fun b hb=>?_,q⟩
 have e:b=s1.heap.objs.size:=by simpa using hb
 subst e
 exact I1.fpOk (af _) (I1.hok.fresh (af _))
theorem znE {l:Expr} {tl:TE} (hl:PE X l tl):PI X tg l (zoF X.K tl):=by
 intro pins s σ H R I h
 refine thn (hl pins s σ H _ I h) fun v s1 ⟨x,H1,I1,r1,q1⟩=>?_
 obtain⟨a,e,⟨xs,hq⟩,q⟩:=q1
 subst e
 cases r1
 obtain⟨its,rv,p,hz⟩:=I1.tuple hq
 refine gB (show s1.heap.IsTuple a its.toArray from p) ?_
 refine⟨s1.heap.objs.size,[s1.heap.objs.size],_,_,H1,rfl,I1.kept (t':=s1.toks) fun b o e=>ai _ e,zee a _,⟨_,aI _ rfl,rfl,rfl⟩,fun b hb=>?_,q⟩
 have e:b=s1.heap.objs.size:=by simpa using hb
 subst e
 exact I1.fpOk (af _) (I1.hok.fresh (af _))
theorem zgK {pins:List (Addr×Obj)} {σ:St} {H:Hp} {s:Shared} {R:It→Hp→Prop} {E:Value→Shared→Prop} {lo hi:Int} {t u v:Tok} {tk:Nat} (I:Inv X pins σ H s) (h1:-(2 ^ 62)≤lo) (h2:lo < 2 ^ 62) (h3:-(2 ^ 62)≤hi) (h4:hi < 2 ^ 62)
  (q:R (Itr lo (hi - lo).toNat) H):wpAny (model X.prog X.w) X.A (pyIter (.ref s.heap.objs.size)) (PIE X pins σ tg R) E { s with heap:=s.heap.push { cls:=.type "range",data:=.fields #[.int lo t,.int hi u,.int 1 v] },toks:=tk }:=by
 refine wpAny_pyIter_range (IsRange.new ..) (small_one h1 h2 h3 h4) ?_
 have I1:Inv X pins σ H { s with heap:=s.heap.push { cls:=.type "range",data:=.fields #[.int lo t,.int hi u,.int 1 v] },toks:=tk }:=I.kept fun b o e=>ai _ e
 refine⟨(s.heap.push { cls:=.type "range",data:=.fields #[.int lo t,.int hi u,.int 1 v] }).objs.size,[(s.heap.push { cls:=.type "range",data:=.fields #[.int lo t,.int hi u,.int 1 v] }).objs.size],_,_,H,rfl,
  I1.kept (t':=tk) fun b o e=>ai _ e,zhG _ lo (hi - lo).toNat,?_,fun b hb=>?_,q⟩
 ·have e1:lo+((0:Nat):Int)*1=lo:=by simp
  have e2:(((hi - lo).toNat:Nat):Int) - ((0:Nat):Int)=Builtin.Range.rangeSize lo hi 1:=by rw [rangeSize_one]; split <;> lia
  show IsRangeIter _ _ (lo+((0:Nat):Int)*1) ((((hi - lo).toNat:Nat):Int) - ((0:Nat):Int)) 1
  rw [e1,e2]
  exact aI _ rfl
 ·have e:b=(s.heap.push { cls:=.type "range",data:=.fields #[.int lo t,.int hi u,.int 1 v] }).objs.size:=by simpa using hb
  subst e
  exact I1.fpOk (af _) (I1.hok.fresh (af _))
def zoG (ta:TA):TI:=fun σ H R=>ta σ H fun vs H1=>∃ j:Int,vs = [.int j]∧-(2 ^ 62)≤j∧j < 2 ^ 62∧R (Itr 0 j.toNat) H1
def zoH (ta:TA):TI:=fun σ H R=>ta σ H fun vs H1=>∃ i j:Int,vs = [.int i,.int j]∧(-(2 ^ 62)≤i∧i < 2 ^ 62∧-(2 ^ 62)≤j∧j < 2 ^ 62)∧R (Itr i (j - i).toNat) H1
theorem zai {a:Expr} {ta:TA} {p pos:Pos} (hg:Gl X "range") (hm:X.mg "range" = none) (ha:PA X [a] ta) (hs:starEach [a] X.env = [(false,eval a X.env)]:=by rfl):PI X tg (.Call (.Name "range" p) [a] [] pos) (zoG ta):=by
 intro pins s σ H R I h
 refine Call_ (zbx I hg hm kh (bq (thn (ha pos pins s σ H _ I h) fun us s1 ⟨vs,H1,I1,r1,q1⟩=>?_) hs rfl))
 obtain⟨j,e,q1,q2,q⟩:=q1
 subst e
 cases r1 with
 | cons r rr =>
  cases rr
  obtain⟨t,rfl⟩:=r
  exact call_range_1 (zgK I1 (by lia) (by lia) q1 q2 (by simpa using q))
theorem zjm {a b:Expr} {ta:TA} {p pos:Pos} (hg:Gl X "range") (hm:X.mg "range" = none) (ha:PA X [a,b] ta) (hs:starEach [a,b] X.env = [(false,eval a X.env),(false,eval b X.env)]:=by rfl) (hs2:starEach [b] X.env = [(false,eval b X.env)]:=by rfl) :
  PI X tg (.Call (.Name "range" p) [a,b] [] pos) (zoH ta):=by
 intro pins s σ H R I h
 refine Call_ (zbx I hg hm kh (bq (thn (ha pos pins s σ H _ I h) fun us s1 ⟨vs,H1,I1,r1,q1⟩=>?_) (by rw [hs,hs2]) (by rw [hs2]; rfl)))
 obtain⟨i,j,e,⟨q1,q2,q3,q4⟩,q⟩:=q1
 subst e
 cases r1 with
 | cons r rr =>
  cases rr with
  | cons r' rr =>
   cases rr
   obtain⟨t,rfl⟩:=r
   obtain⟨t',rfl⟩:=r'
   exact call_range_2 (zgK I1 q1 q2 q3 q4 q)
def zpk (wi:TI) (g:TG) (tb:TS):TS:=fun D σ H=>wi σ H fun J H1=>∃ W:Nat→Nat→St→Hp→Prop,(∃ m,W 0 m σ H1)∧∀ i m σ H,W i m σ H →
 (J.stop i H∧D.nx σ H)∨(J.go i H∧∃ N:St→Hp→Prop,(∀ σ' H',N σ' H'→∃ m',m' < m∧W (i+1) m' σ' H')∧∀ x H',J.yld i H x H'→g x σ H' fun σ2 H2=>tb { D with nx:=N,ct:=N,bk:=D.nx } σ2 H2)
def zcn (fp:List Addr) (h:Heap):List (Addr×Obj):=fp.filterMap fun b=>(h.get? b).map fun o=>(b,o)
theorem zb7 {fp:List Addr} {h:Heap} {b:Addr} {o:Obj} (hb:b∈fp) (e:h.get? b=some o):(b,o)∈zcn fp h:=jx.mpr ⟨b,hb,by rw [e]; rfl⟩
theorem zfg {fp:List Addr} {h:Heap} {p:Addr×Obj} (hp:p∈zcn fp h):p.1∈fp∧h.get? p.1=some p.2:=by
 obtain⟨b,hb,e⟩:=jx.mp hp
 cases q:h.get? b with
 | none=>rw [q] at e; cases e
 | some o =>
  rw [q] at e
  have e':(b,o)=p:=aO e
  subst e'
  exact⟨hb,q⟩
theorem Inv.pinned {pins:List (Addr×Obj)} {σ:St} {H:Hp} {s:Shared} {fp:List Addr} (I:Inv X pins σ H s) (hf:∀ b∈fp,zbU X pins H b) (ho:∀ b∈fp,∃ o,s.heap.get? b=some o∧∀ v,o.data≠.cell v):Inv X (pins++zcn fp s.heap) σ H s :=
 I.pins_of fun p hp=>(aW.mp hp).elim (fun z=>I.pin p (aG _ z)) fun z=>by
  obtain⟨hb,e⟩:=zfg z
  obtain⟨f0,f1,f2,_⟩:=hf p.1 hb
  obtain⟨o,e',d⟩:=ho p.1 hb
  rw [e] at e'; cases e'
  exact⟨e,f0,f1,f2,d⟩
theorem Inv.unpinned {pins pl:List (Addr×Obj)} {σ:St} {H:Hp} {s:Shared} (I:Inv X (pins++pl) σ H s):Inv X pins σ H s:=I.pins_of fun p hp=>I.pin p (aG _ (aS _ hp))
theorem za9 {iter:Expr} {body:List Stmt} {wi:TI} {g:TG} {tb:TS} {pos:Pos} (hp:PassesOwn (model X.prog X.w) X.A X.env X.xe) (hc:X.calm=true) (hi:PI X tg iter wi) (hg:PG X tg g) (hb:PSs X body tb)
  (hs:∀ x,foldedSetIterable iter X.env x=pure x:=by intro _; rfl):PS X (.For tg iter body [] pos) (zpk wi g tb):=by
 intro pins s σ H D I h
 refine wpAny_For (thn (hi pins s σ H _ I h) fun v s1 h1=>thn h1 fun itv s2 h2=>?_) hs
 obtain⟨it,fp,tn,J,H2,e,I2,T,st2,f2,W,⟨m0,w0⟩,turn⟩:=h2
 subst e
 have stat:∀ {H':Hp},(∀ b∈fp,H' b=none)→∀ b∈fp,zbU X pins H' b:=fun hn b hb=>⟨hn b hb,(f2 b hb).2⟩
 refine codeAny_forLoop_any (fun n s'=>∃ i σ' H',Inv X pins σ' H' s'∧tn i s'.heap∧(∀ b∈fp,H' b=none)∧W i n σ' H') ?_ m0 ⟨0,σ,H2,I2,st2,fun b hb=>(f2 b hb).1,w0⟩
 rintro n s3 ⟨i,σ3,H3,I3,st3,fr3,w3⟩
 rcases turn i n σ3 H3 w3 with ⟨stop,qn⟩ | ⟨go,N,hN,step⟩
 ·refine dL hp (thn (T.done X rfl rfl rfl hc i pins s3 σ3 H3 X.xe I3 (stat fr3) st3 stop) fun r s4 ⟨hr,I4⟩=>?_)
  subst hr
  exact f' ⟨σ3,H3,I4,qn⟩
 ·refine dL hp (thn (T.item X rfl rfl rfl hc i pins s3 σ3 H3 X.xe I3 (stat fr3) st3 go) fun r s4 ⟨u,hr,h4⟩=>?_)
  subst hr
  refine dL hp (thn h4 fun _ s5 ⟨x,H5,I5,r5,y5,st5,fr5⟩=>?_)
  have I5':=I5.pinned (stat fr5) (T.obj _ _ st5)
  refine dL hp (thn (hg _ s5 σ3 H5 x u _ I5' r5 (step x H5 y5)) fun _ s6 ⟨σ6,H6,I6,q6⟩=>?_)
  refine dL hp (thn (hb _ s6 σ6 H6 _ I6 q6) fun f s7 q7=>?_)
  have again:∀ {σ7:St} {H7:Hp},Inv X (pins++zcn fp s5.heap) σ7 H7 s7→N σ7 H7→∃ m,m < n∧∃ i σ' H',Inv X pins σ' H' s7∧tn i s7.heap∧(∀ b∈fp,H' b=none)∧W i m σ' H':=fun {σ7 H7} I7 n7=>by
   obtain⟨m',hm,w7⟩:=hN σ7 H7 n7
   refine⟨m',hm,i+1,σ7,H7,I7.unpinned,T.keep _ _ _ st5 fun b hb o e=>(I7.pin (b,o) (aG _ (aG _ (zb7 hb e)))).1,fun b hb=>?_,w7⟩
   obtain⟨o,e,d⟩:=T.obj _ _ st5 b hb
   exact (I7.pin (b,o) (aG _ (aG _ (zb7 hb e)))).2.1
  cases f with
  | next=>obtain⟨σ7,H7,I7,n7⟩:=q7; exact again I7 n7
  | cont=>obtain⟨σ7,H7,I7,n7⟩:=q7; exact again I7 n7
  | brk=>obtain⟨σ7,H7,I7,q7⟩:=q7; exact⟨σ7,H7,I7.unpinned,q7⟩
  | ret v=>obtain⟨x7,σ7,H7,I7,r7,q7⟩:=q7; exact⟨x7,σ7,H7,I7.unpinned,r7,q7⟩
end
theorem zbp {K:ag} {a:Addr} {xs:List V} {g:TG} {tb:TS} {D:Ends} {σ:St} {H:Hp} (Pv:Nat→St→Hp→Prop) (h0:Pv 0 σ H) (hl:∀ i σ H,i≤xs.length→Pv i σ H→SqL K H a xs)
  (hs:∀ i x σ H,xs[i]? = some x→Pv i σ H→g x σ H fun σ2 H2=>tb { D with nx:=Pv (i+1),ct:=Pv (i+1),bk:=D.nx } σ2 H2) (hd:∀ σ H,Pv xs.length σ H→D.nx σ H) :
  ∃ W:Nat→Nat→St→Hp→Prop,(∃ m,W 0 m σ H)∧∀ i m σ H,W i m σ H →
   ((Itl K a).stop i H∧D.nx σ H)∨((Itl K a).go i H∧∃ N:St→Hp→Prop,(∀ σ' H',N σ' H'→∃ m',m' < m∧W (i+1) m' σ' H')∧∀ x H',(Itl K a).yld i H x H'→g x σ H' fun σ2 H2=>tb { D with nx:=N,ct:=N,bk:=D.nx } σ2 H2):=by
 refine⟨fun i m σ H=>m=xs.length - i∧i≤xs.length∧Pv i σ H,⟨xs.length,by simp,aY _,h0⟩,?_⟩
 rintro i m σ H ⟨rfl,hi,p⟩
 have q:=hl i σ H hi p
 by_cases hlt:i < xs.length
 ·refine .inr ⟨⟨xs,xs[i],q,by simp [hlt]⟩,Pv (i+1),fun σ' H' p'=>⟨xs.length - (i+1),by lia,rfl,hlt,p'⟩,fun x H' y=>?_⟩
  obtain⟨e,y⟩:=y
  subst e
  exact hs i x σ _ (y xs q) p
 ·have e:i=xs.length:=by lia
  subst e
  exact .inl ⟨⟨xs,q,af _⟩,hd σ H p⟩
theorem zl4 {K:ag} {a:Addr} {xs:List V} {g:TG} {tb:TS} {D:Ends} {σ:St} {H:Hp} (Pv:Nat→St→Hp→Prop) (h0:Pv 0 σ H) (hl:∀ i σ H,i≤xs.length→Pv i σ H→SqT K H a xs)
  (hs:∀ i x σ H,xs[i]? = some x→Pv i σ H→g x σ H fun σ2 H2=>tb { D with nx:=Pv (i+1),ct:=Pv (i+1),bk:=D.nx } σ2 H2) (hd:∀ σ H,Pv xs.length σ H→D.nx σ H) :
  ∃ W:Nat→Nat→St→Hp→Prop,(∃ m,W 0 m σ H)∧∀ i m σ H,W i m σ H →
   ((Itt K a).stop i H∧D.nx σ H)∨((Itt K a).go i H∧∃ N:St→Hp→Prop,(∀ σ' H',N σ' H'→∃ m',m' < m∧W (i+1) m' σ' H')∧∀ x H',(Itt K a).yld i H x H'→g x σ H' fun σ2 H2=>tb { D with nx:=N,ct:=N,bk:=D.nx } σ2 H2):=by
 refine⟨fun i m σ H=>m=xs.length - i∧i≤xs.length∧Pv i σ H,⟨xs.length,by simp,aY _,h0⟩,?_⟩
 rintro i m σ H ⟨rfl,hi,p⟩
 have q:=hl i σ H hi p
 by_cases hlt:i < xs.length
 ·refine .inr ⟨⟨xs,xs[i],q,by simp [hlt]⟩,Pv (i+1),fun σ' H' p'=>⟨xs.length - (i+1),by lia,rfl,hlt,p'⟩,fun x H' y=>?_⟩
  obtain⟨e,y⟩:=y
  subst e
  exact hs i x σ _ (y xs q) p
 ·have e:i=xs.length:=by lia
  subst e
  exact .inl ⟨⟨xs,q,af _⟩,hd σ H p⟩
theorem zcx {lo:Int} {n:Nat} {g:TG} {tb:TS} {D:Ends} {σ:St} {H:Hp} (Pv:Nat→St→Hp→Prop) (h0:Pv 0 σ H)
  (hs:∀ i σ H,i < n→Pv i σ H→g (.int (lo+i)) σ H fun σ2 H2=>tb { D with nx:=Pv (i+1),ct:=Pv (i+1),bk:=D.nx } σ2 H2) (hd:∀ σ H,Pv n σ H→D.nx σ H) :
  ∃ W:Nat→Nat→St→Hp→Prop,(∃ m,W 0 m σ H)∧∀ i m σ H,W i m σ H →
   ((Itr lo n).stop i H∧D.nx σ H)∨((Itr lo n).go i H∧∃ N:St→Hp→Prop,(∀ σ' H',N σ' H'→∃ m',m' < m∧W (i+1) m' σ' H')∧∀ x H',(Itr lo n).yld i H x H'→g x σ H' fun σ2 H2=>tb { D with nx:=N,ct:=N,bk:=D.nx } σ2 H2):=by
 refine⟨fun i m σ H=>m=n - i∧i≤n∧Pv i σ H,⟨n,by simp,aY _,h0⟩,?_⟩
 rintro i m σ H ⟨rfl,hi,p⟩
 by_cases hlt:i < n
 ·refine .inr ⟨hlt,Pv (i+1),fun σ' H' p'=>⟨n - (i+1),by lia,rfl,hlt,p'⟩,fun x H' y=>?_⟩
  obtain⟨e,y⟩:=y
  subst e y
  exact hs i σ _ hlt p
 ·have e:i=n:=by lia
  subst e
  exact .inl ⟨af _,hd σ H p⟩
theorem zke {c:TT} {tb:TS} {D:Ends} {σ:St} {H:Hp} (Pv:St→Hp→Prop) (μ:St→Hp→Nat) (h0:Pv σ H)
  (hs:∀ σ H,Pv σ H→c σ H fun b H1=>if b=true then tb { D with nx:=fun σ' H'=>Pv σ' H'∧μ σ' H' < μ σ H,ct:=fun σ' H'=>Pv σ' H'∧μ σ' H' < μ σ H,bk:=D.nx } σ H1 else D.nx σ H1)
  (mono:∀ σ H Q Q',(∀ b H1,Q b H1→Q' b H1)→c σ H Q→c σ H Q'):zkd c tb D σ H:=by
 refine⟨fun m σ H=>m=μ σ H∧Pv σ H,⟨_,rfl,h0⟩,?_⟩
 rintro m σ H ⟨rfl,p⟩
 refine mono σ H _ _ (fun b H1 q=>?_) (hs σ H p)
 cases b with
 | true=>exact⟨_,fun σ' H' ⟨p',l⟩=>⟨_,l,rfl,p'⟩,q⟩
 | false=>exact q
abbrev R2:=V→V→Hp→VK→Prop
def OpR (X:Cx) (f:Value→Value→Sem Value) (r:R2):Prop :=
 ∀ (pins:List (Addr×Obj)) (s:Shared) (σ:St) (H:Hp) (x y:V) (v u:Value) (Q:VK),Inv X pins σ H s→RelV x v→RelV y u→r x y H Q →
  wpAny (model X.prog X.w) X.A (f v u) (EP X pins σ Q) X.xe s
def UnR (X:Cx) (f:Value→Sem Value) (r:V→Hp→VK→Prop):Prop :=
 ∀ (pins:List (Addr×Obj)) (s:Shared) (σ:St) (H:Hp) (x:V) (v:Value) (Q:VK),Inv X pins σ H s→RelV x v→r x H Q →
  wpAny (model X.prog X.w) X.A (f v) (EP X pins σ Q) X.xe s
def zbM (X:Cx) (f:Value) (r:List V→Hp→VK→Prop):Prop :=
 ∀ (pins:List (Addr×Obj)) (s:Shared) (σ:St) (H:Hp) (xs:List V) (us:List Value) (Q:VK),Inv X pins σ H s→zL xs us→r xs H Q →
  wpAny (model X.prog X.w) X.A (call f us) (EP X pins σ Q) X.xe s
def zpl (X:Cx) (r:V→Hp→(Bool→Hp→Prop)→Prop):Prop :=
 ∀ (pins:List (Addr×Obj)) (s:Shared) (σ:St) (H:Hp) (x:V) (v:Value) (Q:Bool→Hp→Prop),Inv X pins σ H s→RelV x v→r x H Q →
  wpAny (model X.prog X.w) X.A (truthy v) (TP X pins σ Q) X.xe s
def tOp (r:R2) (ta tb:TE):TE:=fun σ H Q=>ta σ H fun x H1=>tb σ H1 fun y H2=>r x y H2 Q
def tUn (r:V→Hp→VK→Prop) (ta:TE):TE:=fun σ H Q=>ta σ H fun x H1=>r x H1 Q
def rI (C:Int→Int→Prop) (g:Int→Int→V):R2:=fun x y H Q=>∃ i j,x = .int i∧y = .int j∧C i j∧Q (g i j) H
def rI0 (g:Int→Int→V):R2:=fun x y H Q=>∃ i j,x = .int i∧y = .int j∧Q (g i j) H
def rU (g:Int→V):V→Hp→VK→Prop:=fun x H Q=>∃ i,x = .int i∧Q (g i) H
section
variable {X:Cx} {a b c:Expr} {ta tb tc:TE} {pos:Pos}
theorem znF (ha:PE X a ta) (hb:PE X b tb) {pins:List (Addr×Obj)} {s:Shared} {σ:St} {H:Hp} {R:V→V→Hp→Prop} (I:Inv X pins σ H s)
  (h:ta σ H fun x H1=>tb σ H1 fun y H2=>R x y H2) {Q:Value→Shared→Prop} {f:Value→Value→Sem Value}
  (hf:∀ v u s2 x y H2,Inv X pins σ H2 s2→RelV x v→RelV y u→R x y H2→wpAny (model X.prog X.w) X.A (f v u) Q X.xe s2) :
  wpAny (model X.prog X.w) X.A (eval a X.env) (fun v s₁=>wpAny (model X.prog X.w) X.A (eval b X.env) (fun u s₂=>wpAny (model X.prog X.w) X.A (f v u) Q X.xe s₂) X.xe s₁) X.xe s:=by
 refine thn (ha pins s σ H _ I h) fun v s1 ⟨x,H1,I1,r1,q1⟩=>?_
 refine thn (hb pins s1 σ H1 _ I1 q1) fun u s2 ⟨y,H2,I2,r2,q2⟩=>?_
 exact hf v u s2 x y H2 I2 r1 r2 q2
theorem zj {op:Operator} {r:R2} (ho:OpR X (binaryOp op) r) (ha:PE X a ta) (hb:PE X b tb):PE X (.BinOp a op b pos) (tOp r ta tb):=by
 intro pins s σ H Q I h
 exact wpAny_BinOp (znF ha hb I h fun v u s2 x y H2 I2 rx ry q=>ho pins s2 σ H2 x y v u Q I2 rx ry q)
theorem zkf {op:UnaryOp} {r:V→Hp→VK→Prop} (ho:UnR X (unaryOp op) r) (ha:PE X a ta):PE X (.UnaryOp op a pos) (tUn r ta):=by
 intro pins s σ H Q I h
 exact UnaryOp_ (thn (ha pins s σ H _ I h) fun v s1 ⟨x,H1,I1,r1,q1⟩=>ho pins s1 σ H1 x v Q I1 r1 q1)
theorem opI {f:Value→Value→Sem Value} {C:Int→Int→Prop} {g:Int→Int→Int}
  (rule:∀ (i j:Int) (t u:Tok) (s:Shared) (Q:Value→Shared→Prop) (E:Value→Shared→Prop),C i j→Q (.int (g i j) s.toks) { s with toks:=s.toks+1 }→wpAny (model X.prog X.w) X.A (f (.int i t) (.int j u)) Q E s) :
  OpR X f (rI C fun i j=>.int (g i j)):=by
 intro pins s σ H x y v u Q I rx ry h
 obtain⟨i,j,rfl,rfl,hc,q⟩:=h
 obtain⟨t,rfl⟩:=rx
 obtain⟨t',rfl⟩:=ry
 exact rule i j t t' s _ _ hc ⟨.int (g i j),H,I.tok _,⟨_,rfl⟩,q⟩
theorem znG {f:Value→Value→Sem Value} {g:Int→Int→Int}
  (rule:∀ (i j:Int) (t u:Tok) (s:Shared) (Q:Value→Shared→Prop) (E:Value→Shared→Prop),Q (.int (g i j) s.toks) { s with toks:=s.toks+1 }→wpAny (model X.prog X.w) X.A (f (.int i t) (.int j u)) Q E s) :
  OpR X f (rI0 fun i j=>.int (g i j)):=by
 intro pins s σ H x y v u Q I rx ry h
 obtain⟨i,j,rfl,rfl,q⟩:=h
 obtain⟨t,rfl⟩:=rx
 obtain⟨t',rfl⟩:=ry
 exact rule i j t t' s _ _ ⟨.int (g i j),H,I.tok _,⟨_,rfl⟩,q⟩
theorem znH {f:Value→Value→Sem Value} {g:Int→Int→Bool}
  (rule:∀ (i j:Int) (t u:Tok) (s:Shared) (Q:Value→Shared→Prop) (E:Value→Shared→Prop),Q (.bool (g i j)) s→wpAny (model X.prog X.w) X.A (f (.int i t) (.int j u)) Q E s) :
  OpR X f (rI0 fun i j=>.bl (g i j)):=by
 intro pins s σ H x y v u Q I rx ry h
 obtain⟨i,j,rfl,rfl,q⟩:=h
 obtain⟨t,rfl⟩:=rx
 obtain⟨t',rfl⟩:=ry
 exact rule i j t t' s _ _ ⟨.bl (g i j),H,I,rfl,q⟩
def zoI (i j:Int):Prop:=0 < j∧j < 1073741824
def zpm (i j:Int):Prop:=0≤j∧j≤1000000∧i.natAbs < 2 ^ 64
def znI (i j:Int):Prop:=(-(2 ^ 64) < i∧i < 2 ^ 64)∨(-(2 ^ 64) < j∧j < 2 ^ 64)
theorem znI.ok {i j:Int} (h:znI i j):IntMulOk i j:=by
 rcases h with ⟨h1,h2⟩ | ⟨h1,h2⟩
 ·exact .of_left (intBits_le_64 h1 h2)
 ·exact .of_right (intBits_le_64 h1 h2)
theorem zO:OpR X (binaryOp .Add) (rI0 fun i j=>.int (i+j)):=znG fun _ _ _ _ _ _ _ q=>add_int q
theorem zaV:OpR X (binaryOp .Sub) (rI0 fun i j=>.int (i - j)):=znG fun _ _ _ _ _ _ _ q=>sub_int q
theorem zZ:OpR X (binaryOp .Mult) (rI znI fun i j=>.int (i*j)):=opI fun _ _ _ _ _ _ _ hc q=>mul_int q hc.ok
theorem zbB:OpR X (binaryOp .FloorDiv) (rI zoI fun i j=>.int (i / j)):=opI fun i j _ _ _ _ _ hc q=>by
 have h1:(0:Int) < j:=hc.1
 have h2:j < 1073741824:=hc.2
 exact floordiv_int (by lia) (by rw [gJ i (by lia)]; exact q) (.inl (iP (by lia)))
theorem zH:OpR X (binaryOp .Mod) (rI (fun _ j=>0 < j) fun i j=>.int (i % j)):=opI fun i j _ _ _ _ _ hc q=>by
 have h1:(0:Int) < j:=hc
 exact mod_int' (by lia) (by rw [Int.fmod_eq_emod_of_nonneg i (by lia)]; exact q)
theorem znJ:OpR X (binaryOp .Pow) (rI zpm fun i j=>.int (i ^ j.toNat)):=opI fun _ _ _ _ _ _ _ hc q=>pow_int_small hc.1 hc.2.1 hc.2.2 q
theorem zii:OpR X (inplaceOp .Add) (rI0 fun i j=>.int (i+j)):=znG fun _ _ _ _ _ _ _ q=>iadd_int q
theorem zkg:OpR X (inplaceOp .FloorDiv) (rI zoI fun i j=>.int (i / j)):=opI fun i j _ _ _ _ _ hc q=>by
 have h1:(0:Int) < j:=hc.1
 have h2:j < 1073741824:=hc.2
 exact ifloordiv_int (by lia) (by rw [gJ i (by lia)]; exact q) (.inl (iP (by lia)))
theorem unI {f:Value→Sem Value} {g:Int→Int}
  (rule:∀ (i:Int) (t:Tok) (s:Shared) (Q:Value→Shared→Prop) (E:Value→Shared→Prop),Q (.int (g i) s.toks) { s with toks:=s.toks+1 }→wpAny (model X.prog X.w) X.A (f (.int i t)) Q E s) :
  UnR X f (rU fun i=>.int (g i)):=by
 intro pins s σ H x v Q I rx h
 obtain⟨i,rfl,q⟩:=h
 obtain⟨t,rfl⟩:=rx
 exact rule i t s _ _ ⟨.int (g i),H,I.tok _,⟨_,rfl⟩,q⟩
theorem zhH:UnR X (unaryOp .USub) (rU fun i=>.int (-i)):=unI fun _ _ _ _ _ q=>neg_int q
end
def znK:V→V→Bool
 | .non,.non=>true | .non,.int _=>true | .int _,.non=>true | .non,.bl _=>true | .bl _,.non=>true | .non,.str _=>true | .str _,.non=>true
 | .int _,.int _=>true | .bl _,.bl _=>true | .str _,.str _=>true | .byt _,.byt _=>true
 | .int _,.str _=>true | .str _,.int _=>true | .bl _,.str _=>true | .str _,.bl _=>true
 | _,_=>false
def rEq:R2:=fun x y H Q=>znK x y=true∧Q (.bl (decide (x=y))) H
def rNe:R2:=fun x y H Q=>znK x y=true∧Q (.bl (!decide (x=y))) H
theorem zij {i j:Int}:decide (V.int i=V.int j)=(i == j):=by
 rw [cm]
 simp
theorem zkh {i j:Bool}:decide (V.bl i=V.bl j)=(i == j):=by
 rw [cm]
 simp
theorem zik {i j:Str}:decide (V.str i=V.str j)=(i == j):=by
 rw [cm]
 simp
theorem zil {i j:Array UInt8}:decide (V.byt i=V.byt j)=(i.toList == j.toList):=by
 rw [cm]
 cases i
 cases j
 simp
section
variable {X:Cx} {a b c:Expr} {ta tb tc:TE} {pos:Pos}
theorem zV {pins:List (Addr×Obj)} {σ:St} {H:Hp} {s:Shared} {Q:VK} {k k':Bool} (I:Inv X pins σ H s) (q:Q (.bl k) H) (e:k=k'):EP X pins σ Q (.bool k') s:=by
 subst e
 exact⟨.bl k,H,I,rfl,q⟩
theorem zdE:OpR X (compareOp .Eq) rEq:=by
 intro pins s σ H x y v u Q I rx ry h
 obtain⟨hs,q⟩:=h
 cases x with
 | non =>
  cases rx
  cases y with
  | non=>cases ry; exact PySem.EqNone.eq_none_none (zV I q (by simp))
  | bl j=>cases ry; exact PySem.EqNone.eq_none_bool (zV I q (by simp))
  | int j=>obtain⟨t',rfl⟩:=ry; exact PySem.EqNone.eq_none_int (zV I q (by simp))
  | str j=>obtain⟨t',rfl⟩:=ry; exact PySem.EqNone.eq_none_str (zV I q (by simp))
  | _=>exact absurd (show false=true from hs) aN
 | bl i =>
  cases rx
  cases y with
  | non=>cases ry; exact PySem.EqNone.eq_bool_none (zV I q (by simp))
  | bl j=>cases ry; exact eq_bool (zV I q zkh)
  | str j=>obtain⟨t',rfl⟩:=ry; exact PySem.EqMixed.eq_bool_str (zV I q (by simp))
  | _=>exact absurd (show false=true from hs) aN
 | int i =>
  obtain⟨t,rfl⟩:=rx
  cases y with
  | non=>cases ry; exact PySem.EqNone.eq_int_none (zV I q (by simp))
  | int j=>obtain⟨t',rfl⟩:=ry; exact eq_int (zV I q zij)
  | str j=>obtain⟨t',rfl⟩:=ry; exact PySem.EqMixed.eq_int_str (zV I q (by simp))
  | _=>exact absurd (show false=true from hs) aN
 | str i =>
  obtain⟨t,rfl⟩:=rx
  cases y with
  | non=>cases ry; exact PySem.EqNone.eq_str_none (zV I q (by simp))
  | bl j=>cases ry; exact PySem.EqMixed.eq_str_bool (zV I q (by simp))
  | int j=>obtain⟨t',rfl⟩:=ry; exact PySem.EqMixed.eq_str_int (zV I q (by simp))
  | str j=>obtain⟨t',rfl⟩:=ry; exact eq_str (zV I q zik)
  | _=>exact absurd (show false=true from hs) aN
 | byt i =>
  obtain⟨t,rfl⟩:=rx
  cases y with
  | byt j=>obtain⟨t',rfl⟩:=ry; exact PySem.W.eq_bytes (zV I q zil)
  | _=>exact absurd (show false=true from hs) aN
 | _=>cases y <;> exact absurd (show false=true from hs) aN
theorem znj:OpR X (compareOp .NotEq) rNe:=by
 intro pins s σ H x y v u Q I rx ry h
 obtain⟨hs,q⟩:=h
 cases x with
 | non =>
  cases rx
  cases y with
  | non=>cases ry; exact PySem.EqNone.ne_none_none (zV I q (by simp))
  | bl j=>cases ry; exact PySem.EqNone.ne_none_bool (zV I q (by simp))
  | int j=>obtain⟨t',rfl⟩:=ry; exact PySem.EqNone.ne_none_int (zV I q (by simp))
  | str j=>obtain⟨t',rfl⟩:=ry; exact PySem.EqNone.ne_none_str (zV I q (by simp))
  | _=>exact absurd (show false=true from hs) aN
 | bl i =>
  cases rx
  cases y with
  | non=>cases ry; exact PySem.EqNone.ne_bool_none (zV I q (by simp))
  | bl j=>cases ry; exact ne_bool (zV I q (congrArg not zkh))
  | str j=>obtain⟨t',rfl⟩:=ry; exact PySem.EqMixed.ne_bool_str (zV I q (by simp))
  | _=>exact absurd (show false=true from hs) aN
 | int i =>
  obtain⟨t,rfl⟩:=rx
  cases y with
  | non=>cases ry; exact PySem.EqNone.ne_int_none (zV I q (by simp))
  | int j=>obtain⟨t',rfl⟩:=ry; exact ne_int (zV I q (congrArg not zij))
  | str j=>obtain⟨t',rfl⟩:=ry; exact PySem.EqMixed.ne_int_str (zV I q (by simp))
  | _=>exact absurd (show false=true from hs) aN
 | str i =>
  obtain⟨t,rfl⟩:=rx
  cases y with
  | non=>cases ry; exact PySem.EqNone.ne_str_none (zV I q (by simp))
  | bl j=>cases ry; exact PySem.EqMixed.ne_str_bool (zV I q (by simp))
  | int j=>obtain⟨t',rfl⟩:=ry; exact PySem.EqMixed.ne_str_int (zV I q (by simp))
  | str j=>obtain⟨t',rfl⟩:=ry; exact ne_str (zV I q (congrArg not zik))
  | _=>exact absurd (show false=true from hs) aN
 | byt i =>
  obtain⟨t,rfl⟩:=rx
  cases y with
  | byt j=>obtain⟨t',rfl⟩:=ry; exact PySem.W.ne_bytes (zV I q (congrArg not zil))
  | _=>exact absurd (show false=true from hs) aN
 | _=>cases y <;> exact absurd (show false=true from hs) aN
theorem zfh:OpR X (compareOp .Lt) (rI0 fun i j=>.bl (decide (i < j))):=znH fun _ _ _ _ _ _ _ q=>lt_int q
theorem zc2:OpR X (compareOp .Gt) (rI0 fun i j=>.bl (decide (j < i))):=znH fun _ _ _ _ _ _ _ q=>gt_int q
theorem znk:OpR X (compareOp .GtE) (rI0 fun i j=>.bl (decide (j≤i))):=znH fun _ _ _ _ _ _ _ q=>ge_int q
theorem znL:OpR X (compareOp .Is) (fun x y H Q=>y = .non∧Q (.bl (decide (x = .non))) H):=by
 intro pins s σ H x y v u Q I rx ry h
 obtain⟨rfl,q⟩:=h
 cases ry
 refine is_none_gen (zV I q ?_)
 cases x <;> first
  | (cases rx; rfl)
  | (obtain⟨t,rfl⟩:=rx; rfl)
theorem zfQ:OpR X (compareOp .IsNot) (fun x y H Q=>y = .non∧Q (.bl (!decide (x = .non))) H):=by
 intro pins s σ H x y v u Q I rx ry h
 obtain⟨rfl,q⟩:=h
 cases ry
 refine isnot_none_gen (zV I q ?_)
 cases x <;> first
  | (cases rx; rfl)
  | (obtain⟨t,rfl⟩:=rx; rfl)
theorem zQ (b:Expr) {op:CmpOp} (h:op≠.In:=by decide) (h2:op≠.NotIn:=by decide):behindInMarks op b=false:=by
 have e1:(op == CmpOp.In)=false:=by cases op <;> first | rfl | exact absurd rfl h
 have e2:(op == CmpOp.NotIn)=false:=by cases op <;> first | rfl | exact absurd rfl h2
 cases b <;> simp [behindInMarks,e1,e2]
theorem zl5 {op:CmpOp} {r:R2} (ho:OpR X (compareOp op) r) (ha:PE X a ta) (hb:PE X b tb) (hm:behindInMarks op b=false):PE X (.Compare a [op] [b] pos) (tOp r ta tb):=by
 intro pins s σ H Q I h
 exact wpAny_Compare1 (znF ha hb I h fun v u s2 x y H2 I2 rx ry q=>ho pins s2 σ H2 x y v u Q I2 rx ry q) hm
def zoJ (t:TE):TT:=fun σ H Q=>t σ H fun x H'=>∃ k,x = .bl k∧Q k H'
theorem zC {op:CmpOp} {r:R2} (ho:OpR X (compareOp op) r) (ha:PE X a ta) (hb:PE X b tb) (hm:behindInMarks op b=false):PT X (.Compare a [op] [b] pos) (zoJ (tOp r ta tb)):=by
 intro pins s σ H Q I h
 refine wpAny_isTrue_Compare1 (thn (ha pins s σ H _ I h) fun v s1 ⟨x,H1,I1,r1,q1⟩=>thn (hb pins s1 σ H1 _ I1 q1) fun u s2 ⟨y,H2,I2,r2,q2⟩ =>
  thn (ho pins s2 σ H2 x y v u _ I2 r1 r2 q2) fun c s3 ⟨z,H3,I3,r3,k,e,q3⟩=>?_) hm
 subst e
 cases r3
 exact wpAny_truthy_bool ⟨H3,I3,q3⟩
def zoK (K:ag) (x:V) (H:Hp) (k:Bool):Prop :=
 match x with
 | .non=>k=false
 | .bl b=>k=b
 | .int i=>k=(i != 0)
 | .str y=>y.length≤sizeLine∧k=((y.length:Int) != 0)
 | .byt y=>y.size≤sizeLine∧k=((y.size:Int) != 0)
 | .ref p=>(∃ xs,SqL K H p xs∧k = !xs.isEmpty)∨(∃ xs,SqT K H p xs∧k = !xs.isEmpty)∨∃ kvs,H p=some (.dK kvs)∧k = !kvs.isEmpty
 | _=>False
theorem zhI {κ:Type} {kvs:List (κ×V)} {vs:List (κ×Value)} (r:KV kvs vs):(!vs.isEmpty) = !kvs.isEmpty:=by
 cases r <;> rfl
theorem zef {xs:List V} {its:List Value} (r:zL xs its):(!its.toArray.isEmpty) = !xs.isEmpty:=by
 cases r <;> simp
theorem zeg:(sizeLine:Nat) < 2 ^ 63:=by rw [aV]; decide
theorem znM:zpl X (fun x H Q=>∃ k,zoK X.K x H k∧Q k H):=by
 intro pins s σ H x v Q I rx h
 obtain⟨k,e,q⟩:=h
 have hl:=zeg
 have hs:sizeLine=16777216:=aV
 cases x with
 | non =>
  cases rx
  have e':k=false:=e
  subst e'
  exact truthy_none ⟨H,I,q⟩
 | bl b =>
  cases rx
  have e':k=b:=e
  subst e'
  exact wpAny_truthy_bool ⟨H,I,q⟩
 | int i =>
  obtain⟨t,rfl⟩:=rx
  have e':k=(i != 0):=e
  subst e'
  exact PySem.P.truthy_int ⟨H,I,q⟩
 | str y =>
  obtain⟨t,rfl⟩:=rx
  obtain⟨hy,e'⟩:y.length≤sizeLine∧k=((y.length:Int) != 0):=e
  subst e'
  exact PySem.P.truthy_str (by lia) ⟨H,I.tok _,q⟩
 | byt y =>
  obtain⟨t,rfl⟩:=rx
  obtain⟨hy,e'⟩:y.size≤sizeLine∧k=((y.size:Int) != 0):=e
  subst e'
  exact PySem.W.truthy_bytes (by lia) ⟨H,I.tok _,q⟩
 | ref p =>
  cases rx
  have e':(∃ xs,SqL X.K H p xs∧k = !xs.isEmpty)∨(∃ xs,SqT X.K H p xs∧k = !xs.isEmpty)∨∃ kvs,H p=some (.dK kvs)∧k = !kvs.isEmpty:=e
  rcases e' with ⟨xs,hx,e'⟩ | ⟨xs,hx,e'⟩ | ⟨kvs,hx,e'⟩
  ·subst e'
   obtain⟨its,r,pl,hz⟩:=I.list hx
   have hlen:=r.length
   exact wpAny_truthy_list pl.isList (by simp only [aj]; lia) ⟨H,I.tok _,by rw [zef r]; exact q⟩
  ·subst e'
   obtain⟨its,r,pl,hz⟩:=I.tuple hx
   have hlen:=r.length
   exact truthy_tuple pl (by simp only [aj]; lia) ⟨H,I.tok _,by rw [zef r]; exact q⟩
  ·subst e'
   obtain⟨hz,hS,vs,r,m⟩:kvs.length≤sizeLine∧(p == sysModules)=false∧∃ vs,KV kvs vs∧s.heap.DictOf (zan X.prog X.w) p vs:=I.hok p _ hx
   have hlen:kvs.length=vs.length:=be r
   exact wpAny_truthy_dict hS m (by lia) ⟨H,I.tok _,by rw [zhI r]; exact q⟩
 | _=>exact (show False from e).elim
theorem zki (ha:PE X a ta) (he:∀ whole,isTrue a X.env whole=(do let v ← whole; standAt a.pos; holding [v] (truthy v))) :
  PT X a (fun σ H Q=>ta σ H fun x H'=>∃ k,zoK X.K x H' k∧Q k H'):=by
 intro pins s σ H Q I h
 exact isTrue_plain (thn (ha pins s σ H _ I h) fun v s1 ⟨x,H1,I1,r1,q1⟩=>znM pins s1 σ H1 x v Q I1 r1 q1) (he _)
theorem vals1 {x:V} {us:List Value} (r:zL [x] us):∃ u,us = [u]∧RelV x u:=by
 cases r with
 | cons r1 r2=>cases r2; exact⟨_,rfl,r1⟩
theorem vals2 {x y:V} {us:List Value} (r:zL [x,y] us):∃ u w',us = [u,w']∧RelV x u∧RelV y w':=by
 cases r with
 | cons r1 r2 =>
  cases r2 with
  | cons r3 r4=>cases r4; exact⟨_,_,rfl,r1,r3⟩
theorem zfi (hc:X.calm=true):zbM X (.builtin "min") (fun xs H Q=>∃ i j,xs = [.int i,.int j]∧Q (.int (if j < i then j else i)) H):=by
 intro pins s σ H xs us Q I r h
 obtain⟨i,j,rfl,q⟩:=h
 obtain⟨u,w',rfl,⟨t,rfl⟩,⟨t',rfl⟩⟩:=vals2 r
 refine min_two_ints (I.ok.hd hc) fun h' tk k=>⟨_,H,I.kept k,?_,q⟩
 by_cases hj:j < i
 ·rw [if_pos hj,if_pos hj]; exact⟨_,rfl⟩
 ·rw [if_neg hj,if_neg hj]; exact⟨_,rfl⟩
theorem zjn:zbM X (.type "int") (fun xs H Q=>(∃ i,xs = [.int i]∧Q (.int i) H)∨∃ k,xs = [.bl k]∧Q (.int (if k then 1 else 0)) H):=by
 intro pins s σ H xs us Q I r h
 rcases h with ⟨i,rfl,q⟩ | ⟨k,rfl,q⟩
 ·obtain⟨u,rfl,t,rfl⟩:=vals1 r
  exact call_int_int ⟨.int i,H,I,⟨_,rfl⟩,q⟩
 ·obtain⟨u,rfl,r1⟩:=vals1 r
  cases r1
  exact call_int_bool ⟨.int (if k then 1 else 0),H,I.tok _,⟨_,rfl⟩,q⟩
end
structure Room (k:Nat) (A:Around):Prop where
 hd:A.handled=none
 dp:A.depth+3*k+5 < recursionLimit
 un:A.units+16*k+200 < cLine
theorem Room.mono {j k:Nat} {A:Around} (r:Room k A) (h:j≤k):Room j A:=⟨r.hd,by have:=r.dp; lia,by have:=r.un; lia⟩
theorem Room.deeper {k:Nat} {A:Around} (r:Room (k+1) A) (env:Env):Room k (A.deeper env) :=
 ⟨r.hd,by have:=r.dp; show A.depth+1+3*k+5 < _; lia,by have:=r.un; show A.units+3+16*k+200 < _; lia⟩
theorem Room.depth {k:Nat} {A:Around} (r:Room k A):A.depth < recursionLimit:=by have:=r.dp; lia
theorem Room.units {k:Nat} {A:Around} (r:Room k A):A.units+64 < cLine:=by have:=r.un; lia
def zpn:TA:=fun _ H Q=>Q [] H
def znl (ta:TE) (tr:TA):TA:=fun σ H Q=>ta σ H fun x H1=>tr σ H1 fun xs H2=>Q (x :: xs) H2
section
variable {X:Cx} {e:Expr} {es:List Expr} {te:TE} {t:TA} {pos:Pos}
theorem ze:PA X [] zpn:=fun _ _ _ _ H Q I h=>fO ⟨[],H,I,.nil,h⟩
theorem za (ha:PE X e te) (hr:PA X es t) (hs:starEach (e :: es) X.env=(false,eval e X.env) :: starEach es X.env:=by rfl):PA X (e :: es) (znl te t):=by
 intro pos pins s σ H Q I h
 rw [hs]
 show wpAny _ _ (spliced ((false,eval e X.env) :: backTo pos (starEach es X.env))) _ _ s
 refine er (thn (ha pins s σ H _ I h) fun u s1 ⟨x,H1,I1,r1,q1⟩=>?_)
 exact thn (hr pos pins s1 σ H1 _ I1 q1) fun us s2 ⟨xs,H2,I2,r2,q2⟩=>⟨x :: xs,H2,I2,.cons r1 r2,q2⟩
def zpo (t:TA):TE:=fun σ H Q=>t σ H fun xs H1=>xs.length≤sizeLine∧∀ p,H1 p=none→Q (.ref p) (upd H1 p (.tup xs))
def zl6 (t:TA):TE:=fun σ H Q=>t σ H fun xs H1=>xs.length≤sizeLine∧∀ p,H1 p=none→Q (.ref p) (upd H1 p (.lst xs))
theorem zaG {x1} (h:PA X es t):PE X (.Tuple es x1 pos) (zpo t):=by
 intro pins s σ H Q I hq
 refine wpAny_Tuple_spliced (thn (h pos pins s σ H _ I hq) fun us s1 ⟨xs,H1,I1,r,z,q⟩=>⟨by rw [← r.length]; exact z,?_⟩)
 have hf:H1 s1.heap.objs.size=none:=I1.hok.fresh (af _)
 refine⟨.ref s1.heap.objs.size,upd H1 s1.heap.objs.size (.tup xs),I1.laid (t':=s1.toks) (fun b u e=>ai _ e) (af _) ?_,rfl,q _ hf⟩
 exact⟨z,us,r,⟨_,aI _ rfl,rfl,_,rfl⟩⟩
theorem zX (h:PA X es t):PE X (.List es pos) (zl6 t):=by
 intro pins s σ H Q I hq
 refine wpAny_List_spliced (thn (h pos pins s σ H _ I hq) fun us s1 ⟨xs,H1,I1,r,z,q⟩=>⟨by rw [← r.length]; exact z,?_⟩)
 have hf:H1 s1.heap.objs.size=none:=I1.hok.fresh (af _)
 refine⟨.ref s1.heap.objs.size,upd H1 s1.heap.objs.size (.lst xs),I1.laid (t':=s1.toks) (fun b u e=>ai _ e) (af _) ?_,rfl,q _ hf⟩
 exact⟨z,us,0,r,aI _ rfl⟩
end
abbrev Sp:=List V→Hp→VK→XK→Prop
abbrev CXT:=List Env→Hp→Shared→XK→Value→Shared→Prop
structure Env0 (P:Program) (w:World) (K:ag) (mg:Str→Option Value) (base:Heap) (A:Around) (outer:List Env) (s:Shared) (H:Hp):Prop where
 frames:A.frames=some outer
 mod:Mod K mg base
 bs:∀ b o,base.get? b=some o→s.heap.get? b=some o∧H b=none
 bsz:base.objs.size≤s.heap.objs.size
 funs:s.heap.FunFrames base outer
 frf:∀ b∈frs outer,H b=none
 hok:HOk P w H s.heap
 bare:AllBare s.gens
def CE (outer:List Env) (P:Program) (w:World) (H:Hp) (s:Shared) (Q:VK) (u:Value) (s':Shared):Prop :=
 ∃ v H',s'.os=s.os∧AllBare s'.gens∧Un (frs outer) [] H H' s.heap s'.heap∧HOk P w H' s'.heap∧RelV v u∧Q v H'
def CR (CX:CXT) (outer:List Env) (P:Program) (w:World) (H:Hp) (s:Shared) (Q:VK) (E:XK) (r:Result) (s':Shared):Prop :=
 match r with
 | .ok (.ret u)=>CE outer P w H s Q u s'
 | .ok _=>False
 | .error e=>CX outer H s E e s'
structure FnOk (P:Program) (w:World) (K:ag) (mg:Str→Option Value) (base:Heap) (CX:CXT) (k:Nat) (f:Addr) (fd:FuncData) (ps:List Str) (sp:Sp):Prop where
 len:∀ vs H Q E,sp vs H Q E→vs.length=ps.length
 run:∀ (A:Around) (outer:List Env) (s:Shared) (H:Hp) (args:Args) (us:List Value) (vs:List V) (Q:VK) (E:XK),Room k A→Env0 P w K mg base A outer s H→BindsTo s fd args (ps.zip us)→zL vs us→sp vs H Q E →
  codeAny (model P w) A (.call (.ref f) args) (CR CX outer P w H s Q E) s
section
variable {X:Cx} {pins:List (Addr×Obj)} {σ:St} {H:Hp} {s s':Shared}
theorem Inv.env0 (I:Inv X pins σ H s):Env0 X.prog X.w X.K X.mg X.base X.A X.stack s H :=
 ⟨I.ok.frames,I.ok.mod,I.bs,aZ I.ok.bsz I.sz,I.stack,I.stkFree,I.hok,I.bare⟩
theorem Inv.after {Q:VK} {u:Value} (I:Inv X pins σ H s) (h:CE X.stack X.prog X.w H s Q u s'):EP X pins σ Q u s':=by
 obtain⟨v,H',os,bare,un,hok,r,q⟩:=h
 obtain⟨hh,g,d,t,os'⟩:=s'
 obtain rfl:os'=s.os:=os
 exact⟨v,H',I.call (h':=hh) (g':=g) (d':=d) (t':=t) (ch:=[]) un hok bare (fun b z=>absurd z (by simp)),r,q⟩
end
def zoL (sp:Sp) (dvs:List V) (E:XK) (t:TA):TE:=fun σ H Q=>t σ H fun vs H1=>sp (vs++dvs) H1 Q E
def Binds (K:ag) (fd:FuncData) (ps:List Str) (ds:List Value):Prop :=
 ∀ (s:Shared) (us:List Value),K.In s.heap→(us++ds).length=ps.length→BindsTo s fd ⟨us,[]⟩ (ps.zip (us++ds))
theorem Binds.all {K:ag} {fd:FuncData} {ps:List Str} (h:∀ us:List Value,us.length=ps.length→bindArgs fd ⟨us,[]⟩=pure (ps.zip us)):Binds K fd ps []:=fun s us _ hl=>by
 rw [bO] at hl ⊢
 exact .of_eq (h us hl)
def zhJ (CX:CXT) (X:Cx) (E:XK):Prop:=∀ (pins:List (Addr×Obj)) (σ:St) (H:Hp) (s:Shared) (e:Value) (s':Shared),Inv X pins σ H s→CX X.stack H s E e s'→X.xe e s'
section
variable {X:Cx} {CX:CXT} {k:Nat} {f C:Addr} {fd:FuncData} {ps:List Str} {sp:Sp} {dvs:List V} {ds:List Value} {E:XK} {x m:Str} {p pos apos:Pos} {e o:Expr} {es:List Expr} {ta:TE} {t:TA}
theorem znN {pins:List (Addr×Obj)} {σ:St} {H:Hp} {s:Shared} {Q:VK} {us:List Value} {vs:List V} (F:FnOk X.prog X.w X.K X.mg X.base CX k f fd ps sp) (hr:Room k X.A) (hb:Binds X.K fd ps ds) (hd:zL dvs ds) (hx:zhJ CX X E)
  (I:Inv X pins σ H s) (r:zL vs us) (h:sp (vs++dvs) H Q E):wpAny (model X.prog X.w) X.A (call (.ref f) us) (EP X pins σ Q) X.xe s:=by
 have r2:zL (vs++dvs) (us++ds):=r.append hd
 have hl:(us++ds).length=ps.length:=by rw [← r2.length]; exact F.len _ _ _ _ h
 refine wpAny_call (jy (F.run X.A X.stack s H ⟨us,[]⟩ (us++ds) (vs++dvs) Q E hr I.env0 (hb s us I.kIn hl) r2 h) fun r s' hq=>?_)
 cases r with
 | error e=>exact hx pins σ H s e s' I hq
 | ok fl =>
  cases fl with
  | ret u=>exact I.after hq
  | next=>exact dS hq
  | brk=>exact dS hq
  | cont=>exact dS hq
theorem zr (F:FnOk X.prog X.w X.K X.mg X.base CX k f fd ps sp) (hr:Room k X.A) (hg:Gl X x) (hm:X.mg x=some (.ref f)) (hk:fJ X.K (.ref f)=true) (hb:Binds X.K fd ps ds) (hd:zL dvs ds) (hx:zhJ CX X E)
  (ha:PA X (e :: es) t) (hdb:(x == ("__debug__" : Str))=false:=by decide) (he:starEach (e :: es) X.env=(false,eval e X.env) :: starEach es X.env:=by rfl) (hpl:(backTo pos (starEach es X.env)).any (·.1)=false:=by rfl) :
  PE X (.Call (.Name x p) (e :: es) [] pos) (zoL sp dvs E t):=by
 intro pins s σ H Q I h
 refine gC (zl3 I hg hm ?_ hdb)
 refine PySem.W.callWith_K (h₀:=X.base) I.ok.mod.kin hk (thn (ha pos pins s σ H _ I h) fun us s1 ⟨vs,H1,I1,r,q⟩=>⟨I1.kIn,?_⟩) he hpl
 exact znN F hr hb hd hx I1 r q
end
structure FnScope (N P:List Str) (sc:Scope):Prop where
 kind:sc.kind = .function
 co:sc.isCoroutine=false
 gen:sc.isGenerator=false
 nd:N.Nodup
 pre:N.take P.length=P
 par:∀ x∈P,sc.names.lookup x=some .local∨sc.names.lookup x=some .cell
 nofree:∀ y∈sc.names,y.2≠.free
theorem zfj {kindOf:Str→Option NameKind} {x:Str}:∀ {binds:List (Str×Value)} {m:Str→Option Value},(∀ v,(x,v)∉binds)→bindL kindOf binds m x=m x
 | [],_,_=>rfl
 | (n,v) :: r,m,h=>by
  unfold bindL
  rw [zfj fun w hw=>h w (av _ hw)]
  split
  ·have:x≠n:=by rintro rfl; exact h v aF
   simp [this]
  ·rfl
theorem zfk {kindOf:Str→Option NameKind} {x:Str}:∀ {binds:List (Str×Value)} {m:Str→Option Value},(∀ v,(x,v)∉binds)→bindC kindOf binds m x=m x
 | [],_,_=>rfl
 | (n,v) :: r,m,h=>by
  unfold bindC
  rw [zfk fun w hw=>h w (av _ hw)]
  split
  ·rfl
  ·have:x≠n:=by rintro rfl; exact h v aF
   simp [this]
theorem zfl {kindOf:Str→Option NameKind} {x:Str} {v:Value}:∀ {P:List Str} {vs:List Value} {i:Nat} {m:Str→Option Value},P.Nodup→P[i]? = some x→vs[i]? = some v→kindOf x=some .local →
  bindL kindOf (P.zip vs) m x=some v
 | [],_,_,_,_,h,_,_=>by simp at h
 | _ :: _,[],_,_,_,_,h,_=>by simp at h
 | p :: P,w :: vs,0,m,nd,h1,h2,hk=>by
  simp at h1 h2; subst h1; subst h2
  show bindL kindOf ((p,w) :: P.zip vs) m p=_
  unfold bindL
  rw [zfj fun v hv=>(dM.mp nd).1 (ga hv).1,if_pos hk]
  simp
 | p :: P,w :: vs,i+1,m,nd,h1,h2,hk=>by
  show bindL kindOf ((p,w) :: P.zip vs) m x=_
  unfold bindL
  exact zfl (i:=i) (dM.mp nd).2 (by simpa using h1) (by simpa using h2) hk
theorem zfm {kindOf:Str→Option NameKind} {x:Str} {v:Value}:∀ {P:List Str} {vs:List Value} {i:Nat} {m:Str→Option Value},P.Nodup→P[i]? = some x→vs[i]? = some v→kindOf x≠some .local →
  bindC kindOf (P.zip vs) m x=some v
 | [],_,_,_,_,h,_,_=>by simp at h
 | _ :: _,[],_,_,_,_,h,_=>by simp at h
 | p :: P,w :: vs,0,m,nd,h1,h2,hk=>by
  simp at h1 h2; subst h1; subst h2
  show bindC kindOf ((p,w) :: P.zip vs) m p=_
  unfold bindC
  rw [zfk fun v hv=>(dM.mp nd).1 (ga hv).1,if_neg hk]
  simp
 | p :: P,w :: vs,i+1,m,nd,h1,h2,hk=>by
  show bindC kindOf ((p,w) :: P.zip vs) m x=_
  unfold bindC
  exact zfm (i:=i) (dM.mp nd).2 (by simpa using h1) (by simpa using h2) hk
def start (N:List Str) (vs:List V):St:=vs.map some++ap (N.length - vs.length) none
def zjo (CX:CXT) (P:Program) (w:World) (K:ag) (mg:Str→Option Value) (base:Heap) (N:List Str) (qual:Str) (scope:Scope) (f:Addr) (cd:Value) (A:Around) (outer:List Env) (s:Shared) (H:Hp) (E:XK):Cx where
 prog:=P
 w:=w
 K:=K
 mg:=mg
 base:=base
 A:=A.deeper (envOfC qual scope s.heap.objs.size f cd)
 N:=N
 s₀:=s
 H₀:=H
 env:=envOfC qual scope s.heap.objs.size f cd
 outer:=outer
 stack:=envOfC qual scope s.heap.objs.size f cd :: outer
 ex:=[]
 calm:=true
 fn:=fun _=>true
 pn:=[]
 xe:=fun e s'=>wpAny (model P w) (A.deeper (envOfC qual scope s.heap.objs.size f cd)) (leaving (envOfC qual scope s.heap.objs.size f cd) e) (fun _ s''=>CX outer H s E e s'') (fun e' s''=>CX outer H s E e' s'') s'
theorem zgL {sc:Scope} {n:Nat} {x:Str} (h:sc.names.lookup x=some .cell):∃ c,(cellsFrom n sc.names []).lookup x=some c:=by
 have q:=iQ sc.names n [] (.inl h)
 exact Option.isSome_iff_exists.mp q
theorem zjp {CX:CXT} {P:Program} {w:World} {K:ag} {mg:Str→Option Value} {base:Heap} {N ps:List Str} {qual:Str} {scope:Scope} {f:Addr} {cd:Value} {A:Around} {outer:List Env} {s s1:Shared} {H:Hp} {E:XK} {us:List Value} {vs:List V}
  (S:FnScope N ps scope) (hd:A.handled=none) (e0:Env0 P w K mg base A outer s H) (hl:vs.length=ps.length) (r:zL vs us)
  (x:InCallC s s.heap.objs.size (bindL (envOfC qual scope s.heap.objs.size f cd).kindOf (ps.zip us) fun _=>none) (cellsFrom (s.heap.objs.size+1) scope.names []) (bindC (envOfC qual scope s.heap.objs.size f cd).kindOf (ps.zip us) fun _=>none) s1) :
  Inv (zjo CX P w K mg base N qual scope f cd A outer s H E) [] (start N vs) H s1:=by
 have hpl:ps.length≤N.length:=by have:=congrArg eC S.pre; rw [aA] at this; lia
 obtain⟨h1,tk,rfl,hk⟩:=x.done
 have noA:∀ b:Addr,b∉(zjo CX P w K mg base N qual scope f cd A outer s H E).ex:=fun b z=>absurd (show b∈([]:List Addr) from z) (by simp)
 refine⟨⟨e0.mod,S.kind,rfl,rfl,af _,fun y z c h1 h2=>?_,fun y hy=>?_,fun y c _ h=>?_,fun _=>hd,Around.frames_deeper e0.frames,.inr ⟨rfl,rfl⟩,fun b z=>absurd z (noA b),e0.bs,e0.bsz,fun b _ _=>noA b,fun b z=>absurd z (noA b),e0.funs,e0.frf⟩,
  rfl,e0.bare,Un.kept hk,⟨_,x.toInCall.ns,fun i y v h1 h2 h3=>?_⟩,fun y c h=>⟨_,x.cell y c h⟩,e0.hok.fresh (af _),fun y c h=>?_,fun p hp=>absurd (show p∈([]:List (Addr×Obj)) from hp) (by simp),e0.hok.kept hk,?_⟩
 ·exact name_of_addr x.apart (ee h1) (ee h2)
 ·have hy:scope.names.lookup y=some .cell∨scope.names.lookup y=some .free:=hy
  rcases hy with hy | hy
  ·exact zgL hy
  ·exact absurd rfl (S.nofree _ (ee hy))
 ·exact fw (x.above y c (ee h))
 ·have hi:i < vs.length:=by
   unfold start at h2
   by_cases hi:i < vs.length
   ·exact hi
   ·rw [bR (by simpa using hi)] at h2
    rw [cK] at h2
    split at h2 <;> cases h2
  have ha:vs[i]? = some v:=by
   unfold start at h2
   rw [bp (by simpa using hi),ah] at h2
   cases e:vs[i]? with
   | none=>rw [e] at h2; cases h2
   | some a=>rw [e] at h2; cases h2; rfl
  obtain⟨u,hu,rv⟩:=r.get ha
  have hp:ps[i]? = some y:=by
   rw [← S.pre,bD (by lia)]; exact h1
  have ndP:ps.Nodup:=by rw [← S.pre]; exact S.nd.sublist (bU _ _)
  refine⟨u,rv,?_⟩
  rcases S.par y (aB hp) with k | k
  ·exact .inl ⟨k,zfl ndP hp hu k⟩
  ·obtain⟨c,e⟩:=zgL (n:=s.heap.objs.size+1) k
   refine .inr ⟨.inl k,c,e,?_⟩
   have q:=x.cell y c e
   rw [zfm ndP hp hu (by show scope.names.lookup y≠_; rw [k]; decide)] at q
   exact q
 ·exact e0.hok.fresh (fw (x.above y c (ee h)))
 ·unfold start
  show _=N.length
  rw [ao,ab,aQ]
  lia
theorem zoM {CX:CXT} {P:Program} {w:World} {K:ag} {mg:Str→Option Value} {base:Heap} {k:Nat} {f:Addr} {name qual:Str} {params:Arguments} {body:List Stmt} {scope:Scope} {dV kV doc pm cdv ct oc:Value} {an od:Option Addr}
  {osl:Array (Option Value)} {N ps:List Str} {sp:Sp} (lk:K.lookup f=some ⟨oc,od,.func (dh name qual params body scope dV kV doc pm an cdv ct),osl⟩) (hcd:fK K cdv qual=true) (S:FnScope N ps scope)
  (len:∀ vs H Q E,sp vs H Q E→vs.length=ps.length)
  (hbody:∀ (A:Around) (outer:List Env) (s:Shared) (H:Hp) (vs:List V) (Q:VK) (E:XK),Room k (A.deeper (envOfC qual scope s.heap.objs.size f cdv))→sp vs H Q E →
   ∃ t,PSs (zjo CX P w K mg base N qual scope f cdv A outer s H E) body t∧t { nx:=fun _ H'=>Q .non H',rt:=Q } (start N vs) H) :
  FnOk P w K mg base CX (k+1) f (dh name qual params body scope dV kV doc pm an cdv ct) ps sp:=by
 refine⟨len,fun A outer s H args us vs Q E hr e0 hb r hsp=>?_⟩
 have hl:=len _ _ _ _ hsp
 have KX:K.In s.heap:=e0.mod.kin.keeps fun b o e=>(e0.bs b o e).1
 have lim:s.heap.NoLimit:=e0.mod.nolimit.keeps fun b o e=>(e0.bs b o e).1
 have hkind:∀ y∈ps.zip us,scope.names.lookup y.1=some .local∨(scope.names.lookup y.1=some .cell∧((cellsFrom (s.heap.objs.size+1) scope.names []).lookup y.1).isSome=true):=fun ⟨n,v⟩ hy=>by
  rcases S.par n (ga hy).1 with q | q
  ·exact .inl q
  ·exact .inr ⟨q,iQ _ _ _ (.inl q)⟩
 refine codeAny_call_function hr.depth (KX _ _ lk) rfl S.co S.gen rfl (PySem.W.codeRec_of KX hcd) (hb _ _ _ _ ?_)
 refine wpAny_newFunctionEnv_cells S.kind hkind fun env he s1 x=>?_
 subst he
 refine⟨lim.keeps x.toInCall.keep,codeAny_func ?_⟩
 obtain⟨t,ht,hq⟩:=hbody A outer s H vs Q E (hr.deeper _) hsp
 have I:Inv (zjo CX P w K mg base N qual scope f cdv A outer s H E) [] (start N vs) H s1:=zjp S hr.hd e0 hl r x
 refine cS (ht [] s1 (start N vs) H _ I hq) (fun fl s' hs=>?_) fun e s' hs=>hs
 have fin:∀ {σ':St} {H':Hp} {v:V} {u:Value},Inv (zjo CX P w K mg base N qual scope f cdv A outer s H E) [] σ' H' s'→RelV v u→Q v H'→CE outer P w H s Q u s' :=
  fun {σ' H' v u} J rv q=>⟨v,H',J.os,J.bare,J.base,J.hok,rv,q⟩
 cases fl with
 | ret u =>
  obtain⟨v,σ',H',J,rv,q⟩:=hs
  exact fin J rv q
 | next =>
  obtain⟨σ',H',J,q⟩:=hs
  exact fin (v:=V.non) (u:=dE) J rfl q
 | brk =>
  obtain⟨_,_,_,q⟩:=hs
  exact dS q
 | cont =>
  obtain⟨_,_,_,q⟩:=hs
  exact dS q
section
variable {X:Cx} {x:Str} {p pos:Pos} {e:Expr} {es:List Expr} {t:TA} {id T:String} {r:List V→Hp→VK→Prop}
def tCB (r:List V→Hp→VK→Prop) (t:TA):TE:=fun σ H Q=>t σ H fun vs H1=>r vs H1 Q
theorem zA (hc:zbM X (.builtin id) r) (hg:Gl X x) (hm:X.mg x=none) (hv:bootBuiltins x=some (.builtin id)) (ha:PA X (e :: es) t) (hn:x≠"__name__":=by decide) (hdb:(x == ("__debug__" : Str))=false:=by decide)
  (he:starEach (e :: es) X.env=(false,eval e X.env) :: starEach es X.env:=by rfl) (hpl:(backTo pos (starEach es X.env)).any (·.1)=false:=by rfl):PE X (.Call (.Name x p) (e :: es) [] pos) (tCB r t):=by
 intro pins s σ H Q I h
 refine gC (zbx I hg hm hv ?_ hn hdb)
 exact PyProof.Rows.callWith_builtin1 (thn (ha pos pins s σ H _ I h) fun us s1 ⟨vs,H1,I1,r1,q1⟩=>hc pins s1 σ H1 vs us Q I1 r1 q1) he hpl
theorem zaD (hc:zbM X (.type T) r) (hg:Gl X x) (hm:X.mg x=none) (hv:bootBuiltins x=some (.type T)) (ha:PA X (e :: es) t) (hn:x≠"__name__":=by decide) (hdb:(x == ("__debug__" : Str))=false:=by decide)
  (he:starEach (e :: es) X.env=(false,eval e X.env) :: starEach es X.env:=by rfl) (hpl:(backTo pos (starEach es X.env)).any (·.1)=false:=by rfl):PE X (.Call (.Name x p) (e :: es) [] pos) (tCB r t):=by
 intro pins s σ H Q I h
 refine gC (zbx I hg hm hv ?_ hn hdb)
 exact bq (thn (ha pos pins s σ H _ I h) fun us s1 ⟨vs,H1,I1,r1,q1⟩=>hc pins s1 σ H1 vs us Q I1 r1 q1) he hpl
end
end L2
namespace HT
open PySem PyProof.Rows
section
variable {prog:Program} {w:World} {A:Around} {E:Value→Shared→Prop} {s:Shared}
theorem cat_tup {t b:Addr} {vs ws:List Value} {Q:Value→Shared→Prop} (ht:IsTup s.heap t vs.toArray) (hb:IsTup s.heap b ws.toArray) (hv:vs≠[])
  (h1:ws = []→Q (.ref t) s) (h2:ws≠[]→Q (.ref s.heap.objs.size) { s with heap:=s.heap.push { cls:=.type "tuple",data:=.seq (vs++ws).toArray } })
  (hsz:vs.length+ws.length≤sizeLine):wpAny (model prog w) A (binaryOp .Add (.ref t) (.ref b)) Q E s:=by
 obtain⟨⟨cls,dd,data,sl⟩,ho,hc,n,hd⟩:=id ht
 obtain⟨⟨cls2,dd2,data2,sl2⟩,ho2,hc2,n2,hd2⟩:=id hb
 simp only at hc hd hc2 hd2
 subst hc hd hc2 hd2
 have e:vs.toArray++ws.toArray=(vs++ws).toArray:=by simp
 by_cases hw:ws = []
 ·exact jz ⟨_,ho,rfl⟩ ⟨_,ho2,rfl⟩ ie jj fT fM (fA _ _)
   (tuple_addW1 t b vs.toArray ws.toArray n n2 dd dd2 sl sl2 (by simpa using hv) (by simp [hw])) ⟨ho,ho2,h1 hw⟩
 ·refine jz ⟨_,ho,rfl⟩ ⟨_,ho2,rfl⟩ ie jj fT fM (fA _ _)
   (tuple_addW2 t b vs.toArray ws.toArray n n2 dd dd2 sl sl2 (by simpa using hv) (by simpa using hw) (by rw [aj,aj]; exact hsz)) ⟨ho,ho2,?_⟩
  rw [e]
  exact h2 hw
def sIx (n d:Nat):Option Int→Nat
 | none=>d
 | some v=>if v < 0 then (v+(n:Int)).toNat else min v.toNat n
theorem sIx_none (n d:Nat):sIx n d none=d:=rfl
theorem sIx_nat (n d k:Nat):sIx n d (some (k:Int))=min k n:=by
 show (if (k:Int) < 0 then ((k:Int)+(n:Int)).toNat else min (k:Int).toNat n)=min k n
 rw [if_neg (by lia),bm]
theorem znO (n d:Nat) (hd:d≤n) (o:Option Int):sIx n d o≤n:=by
 cases o with
 | none=>exact hd
 | some v =>
  show (if v < 0 then (v+(n:Int)).toNat else min v.toNat n)≤n
  by_cases hv:v < 0
  ·rw [if_pos hv]; lia
  ·rw [if_neg hv]; exact Nat.min_le_right _ _
theorem zim (v:Int) (n d:Nat):(if v < 0 then max (v+(n:Int)) 0 else min v (n:Int))=((sIx n d (some v):Nat):Int):=by
 show (if v < 0 then max (v+(n:Int)) 0 else min v (n:Int))=(((if v < 0 then (v+(n:Int)).toNat else min v.toNat n):Nat):Int)
 by_cases hv:v < 0
 ·simp only [if_pos hv]; lia
 ·simp only [if_neg hv]; lia
theorem zhK (lo hi:Option Int) (n:Nat):fh lo hi 1 (n:Int)=(((sIx n 0 lo:Nat):Int),((sIx n n hi:Nat):Int)):=by
 have h1:¬ ((1:Int) < 0):=by lia
 unfold fh
 simp only [h1,if_false]
 refine jZ ?_ ?_
 ·cases lo with
  | none=>rfl
  | some v=>exact zim v n 0
 ·cases hi with
  | none=>rfl
  | some v=>exact zim v n n
theorem zhL (i j:Nat):dU (i:Int) (j:Int) 1=j - i:=by
 unfold dU
 have h1:(1:Int) > 0:=by lia
 simp only [h1,if_true,Int.ediv_one]
 split <;> lia
theorem zeh {v:Value} {o:Option Int} {Q:Option Int→Shared→Prop} (p:IsPart v o) (h:Q o s):wpAny (model prog w) A (Builtin.Slice.slicePartIndex v) Q E s:=by
 cases p with
 | none=>exact slicePart_none h
 | int i t=>exact slicePart_int h
theorem zb1 {sl:Addr} {vl vu:Value} {lo hi:Option Int} {n:Nat} {Q:Int×Int×Nat→Shared→Prop} (hs:s.heap.IsSliceOf sl vl vu .none) (pl:IsPart vl lo) (pu:IsPart vu hi)
  (h:Q (((sIx n 0 lo:Nat):Int),1,sIx n n hi - sIx n 0 lo) s):wpAny (model prog w) A (gK (.ref sl) (pure (n:Int))) Q E s:=by
 obtain⟨os,hos,hcs,hds⟩:=id hs
 unfold gK Builtin.Slice.sliceFields
 refine ae (ae (br hos hds (x:=vl) rfl (ae (br hos hds (x:=vu) rfl (ae (br hos hds (x:=.none) rfl (ak ?_)))))))
 refine ae (slicePart_none ?_)
 show wpAny _ _ (if ((1:Int) == 0)=true then _ else _) _ _ s
 rw [if_neg (by decide)]
 refine ae (zeh pl (ae (zeh pu (ae (ak ?_)))))
 show wpAny _ _ (match fh lo hi 1 (n:Int) with | (lo,hi)=>pure (lo,(1:Int),dU lo hi 1)) _ _ s
 rw [zhK lo hi n]
 show wpAny _ _ (pure (((sIx n 0 lo:Nat):Int),(1:Int),dU ((sIx n 0 lo:Nat):Int) ((sIx n n hi:Nat):Int) 1)) _ _ s
 rw [zhL]
 exact ak h
theorem zkj (xs:Array Value) (i k:Nat):((aL k).filterMap fun (m:Nat)=>xs[((i:Int)+(m:Int)*1).toNat]?).toArray=((xs.toList.drop i).take k).toArray:=by
 have e:(fun (m:Nat)=>xs[((i:Int)+(m:Int)*1).toNat]?)=fun m=>xs[i+m]?:=by
  funext m
  have:((i:Int)+(m:Int)*1).toNat=i+m:=by lia
  rw [this]
 rw [e]
 have:=pick_run xs i k
 rw [jA] at this
 have e2:((fun x=>xs[x]?) ∘ fun x=>i+x)=fun m=>xs[i+m]?:=rfl
 rw [e2] at this
 rw [this]
theorem getItem_tuple_cut {t sl:Addr} {items:Array Value} {vl vu:Value} {lo hi:Option Int} {Q:Value→Shared→Prop} (ht:IsTup s.heap t items) (hs:s.heap.IsSliceOf sl vl vu .none) (pl:IsPart vl lo) (pu:IsPart vu hi)
  (hw:¬ (sIx items.size 0 lo=0∧sIx items.size items.size hi=items.size))
  (h:Q (.ref s.heap.objs.size) { s with heap:=s.heap.push { cls:=.type "tuple",data:=.seq ((items.toList.drop (sIx items.size 0 lo)).take (sIx items.size items.size hi - sIx items.size 0 lo)).toArray } })
  (hsz:items.size≤sizeLine):wpAny (model prog w) A (getItem (.ref t) (.ref sl)) Q E s:=by
 have htake:sizeOk (.seq ((items.toList.drop (sIx items.size 0 lo)).take (sIx items.size items.size hi - sIx items.size 0 lo)).toArray):=by
  show ((items.toList.drop (sIx items.size 0 lo)).take (sIx items.size items.size hi - sIx items.size 0 lo)).toArray.size≤sizeLine
  rw [aj,aA,bK,bw]
  lia
 have hj:sIx items.size items.size hi≤items.size:=znO _ _ (af _) hi
 obtain⟨os,hos,hcs,hds⟩:=id hs
 have hTs:s.TypeIs (.ref sl) "slice":=⟨os,hos,hcs⟩
 unfold getItem
 try with_reducible refine bQ ?_
 first | refine ae (ak ?_) | skip
 refine ae (wpAny_sequenceKey ht.typeIs (by decide) ?_)
 refine ae (bh (name:=bN "__getitem__") ht.typeIs dg
  (bu dg ht.typeIs jp ?_ (jB _ _)))
 show wpAny _ _ (gL (.ref t) >>= _) _ _ s
 refine ae (tupleItemsOf_ ht ?_)
 refine ae (fB hTs ?_)
 rw [if_pos (by decide)]
 refine ae (zb1 hs pl pu ?_)
 have hno:¬ ((((sIx items.size 0 lo:Nat):Int) == 0 && (1:Int) == 1 && (sIx items.size items.size hi - sIx items.size 0 lo) == items.size)=true):=by
  intro q
  rw [dY,dY] at q
  have q1:((sIx items.size 0 lo:Nat):Int)=0:=eq_of_beq q.1.1
  have q2:sIx items.size items.size hi - sIx items.size 0 lo=items.size:=eq_of_beq q.2
  exact hw ⟨by lia,by lia⟩
 show wpAny _ _ (if (((sIx items.size 0 lo:Nat):Int) == 0 && (1:Int) == 1 && (sIx items.size items.size hi - sIx items.size 0 lo) == items.size)=true then _ else _) _ _ s
 rw [if_neg hno,zkj]
 first
  | exact ae (m:=dZ _) (bM (ak ⟨_,rfl,ak h⟩) htake)
  | exact ae (m:=dZ _) (bM (ae (ak (ak ⟨_,rfl,ak h⟩))) htake)
  | exact ae (ae (m:=dZ _) (bM (ak (ak ⟨_,rfl,ak h⟩)) htake))
  | exact ae (ae (m:=dZ _) (bM (ak ⟨_,rfl,ak h⟩) htake))
end
end HT
namespace L2
open PySem PySem.Spec PyProof.Rows
abbrev TO:=St→Hp→(Option Int→Hp→Prop)→Prop
def PO (X:Cx) (e:Option Expr) (t:TO):Prop :=
 ∀ (pins:List (Addr×Obj)) (s:Shared) (σ:St) (H:Hp) (Q:Option Int→Hp→Prop),Inv X pins σ H s→t σ H Q →
  wpAny (model X.prog X.w) X.A (evalPart e X.env) (fun u s'=>∃ o H',Inv X pins σ H' s'∧IsPart u o∧Q o H') X.xe s
def zl7:TO:=fun _ H Q=>Q none H
def zoN (t:TE):TO:=fun σ H Q=>t σ H fun x H1=>∃ i,x = .int i∧Q (some i) H1
theorem intsAre_of {ns:List Int}:∀ {us:List Value},zL (ns.map V.int) us→IntsAre us ns:=by
 induction ns with
 | nil=>intro us r; rw [fC] at r; cases r; exact .nil
 | cons n ns ih =>
  intro us r
  rw [aU] at r
  cases r with
  | cons r1 r2 =>
   obtain⟨t,e⟩:=r1
   subst e
   exact .cons n t (ih r2)
section
variable {X:Cx} {e:Expr} {te:TE} {lo hi:Option Expr} {tl th:TO} {pos p2:Pos}
theorem za1:PO X none zl7:=by
 intro pins s σ H Q I h
 rw [evalPart_none]
 exact ak ⟨none,H,I,.none,h⟩
theorem zaH (h:PE X e te):PO X (some e) (zoN te):=by
 intro pins s σ H Q I hw
 rw [evalPart_some]
 refine thn (h pins s σ H _ I hw) fun u s1 ⟨x,H1,I1,r1,q1⟩=>?_
 obtain⟨i,rfl,q⟩:=q1
 obtain⟨t,rfl⟩:=r1
 exact⟨some i,H1,I1,.int i t,q⟩
def SlR (X:Cx) (r:V→Option Int→Option Int→Hp→VK→Prop):Prop :=
 ∀ (pins:List (Addr×Obj)) (s:Shared) (σ:St) (H:Hp) (x:V) (v vl vu:Value) (lo hi:Option Int) (sl:Addr) (Q:VK),Inv X pins σ H s→RelV x v→s.heap.IsSliceOf sl vl vu .none→IsPart vl lo→IsPart vu hi→r x lo hi H Q →
  ∃ T id,typeLookup (.type T) "__getitem__" = pure (some (.builtin id))∧s.TypeIs v T∧wpAny (model X.prog X.w) X.A (getItem v (.ref sl)) (EP X pins σ Q) X.xe s
def tSl (r:V→Option Int→Option Int→Hp→VK→Prop) (te:TE) (tl th:TO):TE:=fun σ H Q=>te σ H fun x H1=>tl σ H1 fun l H2=>th σ H2 fun u H3=>r x l u H3 Q
theorem zax {r:V→Option Int→Option Int→Hp→VK→Prop} (hr:SlR X r) (he:PE X e te) (hl:PO X lo tl) (hu:PO X hi th):PE X (.Subscript e (.Slice lo hi none p2) pos) (tSl r te tl th):=by
 intro pins s σ H Q I h
 refine Subscript_ (thn (he pins s σ H _ I h) fun v s1 ⟨x,H1,I1,r1,q1⟩=>?_)
 refine wpAny_Slice (thn (hl pins s1 σ H1 _ I1 q1) fun vl s2 ⟨l,H2,I2,pl,q2⟩=>thn (hu pins s2 σ H2 _ I2 q2) fun vu s3 ⟨u,H3,I3,pu,q3⟩=>?_)
 rw [evalPart_none]
 refine ak ?_
 have I4:Inv X pins σ H3 { s3 with heap:=s3.heap.push { cls:=.type "slice",data:=.fields #[vl,vu,.none] } }:=I3.kept (t':=s3.toks) fun b ob q=>ai _ q
 obtain⟨T,id,hT,ht,hg⟩:=hr pins { s3 with heap:=s3.heap.push { cls:=.type "slice",data:=.fields #[vl,vu,.none] } } σ H3 x v vl vu l u s3.heap.objs.size Q I4 r1 (Heap.IsSliceOf.new ..) pl pu q3
 show wpAny (model X.prog X.w) X.A (subscriptTail e (.Slice lo hi none p2) v (.ref s3.heap.objs.size)) (EP X pins σ Q) X.xe { s3 with heap:=s3.heap.push { cls:=.type "slice",data:=.fields #[vl,vu,.none] } }
 exact tail_any (ops:=[.ref s3.heap.objs.size,v]) ht hT hg (by with_unfolding_all rfl)
def zaW (xs:List V) (lo hi:Option Int):List V:=(xs.drop (HT.sIx xs.length 0 lo)).take (HT.sIx xs.length xs.length hi - HT.sIx xs.length 0 lo)
theorem zdF (xs:List V) (lo hi:Option Int):(zaW xs lo hi).length≤xs.length:=by
 unfold zaW
 rw [aA,bK]
 lia
def zpp (K:ag):V→Option Int→Option Int→Hp→VK→Prop:=fun x lo hi H Q=>∃ a xs,x = .ref a∧SqT K H a xs ∧
 ¬ (HT.sIx xs.length 0 lo=0∧HT.sIx xs.length xs.length hi=xs.length)∧∀ p,H p=none→Q (.ref p) (upd H p (.tup (zaW xs lo hi)))
theorem zkk:SlR X (zpp X.K):=by
 intro pins s σ H x v vl vu lo hi sl Q I rx hs pl pu h
 obtain⟨a,xs,rfl,hx,hw,q⟩:=h
 cases rx
 obtain⟨its,r,ht,hz⟩:=I.tuple hx
 have hlen:its.toArray.size=xs.length:=by rw [aj]; exact r.length.symm
 refine⟨"tuple",_,PyProof.Rows.slot_tuple_getitem.lookup,ht.typeIs,?_⟩
 refine HT.getItem_tuple_cut ht hs pl pu (by rw [hlen]; exact hw) ?_ (by rw [hlen]; exact hz)
 rw [hlen]
 refine⟨.ref s.heap.objs.size,_,I.laid (t':=s.toks) (o:=.tup (zaW xs lo hi)) (fun b ob q=>ai _ q) (af _) ?_,rfl,q _ (I.hok.fresh (af _))⟩
 exact⟨aZ (zdF xs lo hi) hz,_,(r.drop (HT.sIx xs.length 0 lo)).take (HT.sIx xs.length xs.length hi - HT.sIx xs.length 0 lo),iG _ _⟩
def zoO (K:ag):R2:=fun x y H Q=>∃ a b xs ys,x = .ref a∧y = .ref b∧SqT K H a xs∧SqT K H b ys∧xs≠[]∧xs.length+ys.length≤sizeLine ∧
 (ys = []→Q (.ref a) H)∧(ys≠[]→∀ p,H p=none→Q (.ref p) (upd H p (.tup (xs++ys))))
theorem zL.nil_iff {xs:List V} {us:List Value} (r:zL xs us):us = []↔xs = []:=by
 cases r with
 | nil=>simp
 | cons _ _=>simp
theorem zl8:OpR X (binaryOp .Add) (zoO X.K):=by
 intro pins s σ H x y v u Q I rx ry h
 obtain⟨a,b,xs,ys,rfl,rfl,ha,hb,hx,hz,q1,q2⟩:=h
 cases rx
 cases ry
 obtain⟨its,r1,p1,_⟩:=I.tuple ha
 obtain⟨its2,r2,p2,_⟩:=I.tuple hb
 refine HT.cat_tup p1 p2 (fun z=>hx (r1.nil_iff.mp z)) (fun z=>⟨.ref a,H,I,rfl,q1 (r2.nil_iff.mp z)⟩) (fun z=>?_) (by rw [← r1.length,← r2.length]; exact hz)
 refine⟨.ref s.heap.objs.size,_,I.laid (t':=s.toks) (o:=.tup (xs++ys)) (fun b ob q=>ai _ q) (af _) ?_,rfl,q2 (fun w=>z (r2.nil_iff.mpr w)) _ (I.hok.fresh (af _))⟩
 exact⟨by rw [ao]; exact hz,_,r1.append r2,iG _ _⟩
end
def ixN (n:Nat) (i:Int):Option Nat:=if 0≤i then (if i < n then some i.toNat else none) else if -(n:Int)≤i then some (i+n).toNat else none
def atI {α:Type} (xs:List α) (i:Int):Option α:=(ixN xs.length i).bind fun j=>xs[j]?
theorem zin {n:Nat} {i:Int} {j:Nat} (h:ixN n i=some j):seqIndex? i n=some j∧j < n∧-(n:Int)≤i∧i < n:=by
 unfold ixN at h
 by_cases h0:0≤i
 ·rw [if_pos h0] at h
  by_cases h1:i < n
  ·rw [if_pos h1] at h
   have e:i.toNat=j:=aO h
   exact⟨by rw [gw h0 h1,e],by lia,by lia,h1⟩
  ·rw [if_neg h1] at h; cases h
 ·rw [if_neg h0] at h
  by_cases h1:-(n:Int)≤i
  ·rw [if_pos h1] at h
   have e:(i+n).toNat=j:=aO h
   exact⟨by rw [jC (by lia) h1,e],by lia,h1,by lia⟩
  ·rw [if_neg h1] at h; cases h
theorem zio {α:Type} {xs:List α} {i:Int} {v:α} (h:atI xs i=some v):∃ j,seqIndex? i xs.length=some j∧xs[j]? = some v∧j < xs.length∧-(xs.length:Int)≤i∧i < xs.length:=by
 unfold atI at h
 cases e:ixN xs.length i with
 | none=>rw [e] at h; cases h
 | some j =>
  rw [e] at h
  obtain⟨h1,h2,h3,h4⟩:=zin e
  exact⟨j,h1,h,h2,h3,h4⟩
theorem zaR {α:Type} {xs:List α} {j:Nat} {v:α} (h:xs[j]? = some v):atI xs (j:Int)=some v:=by
 have hj:j < xs.length:=(az.mp h).1
 have e:ixN xs.length (j:Int)=some j:=by
  unfold ixN
  rw [if_pos (by lia),if_pos (by lia)]; simp
 unfold atI; rw [e]; exact h
def zl9 (b:Expr):Prop:=∀ o i,subscripted b false o i=operate [o,i] (getItem o i)
def IxR (X:Cx) (r:R2):Prop :=
 ∀ (value slice:Expr) (pins:List (Addr×Obj)) (s:Shared) (σ:St) (H:Hp) (x y:V) (v u:Value) (Q:VK),Inv X pins σ H s→RelV x v→RelV y u→r x y H Q →
  subscripted slice false v u=operate [v,u] (getItem v u)→wpAny (model X.prog X.w) X.A (subscriptTail value slice v u) (EP X pins σ Q) X.xe s
def MtR (X:Cx) (id:String) (r:V→List V→Hp→VK→Prop):Prop :=
 ∀ (pins:List (Addr×Obj)) (s:Shared) (σ:St) (H:Hp) (x:V) (xs:List V) (v:Value) (us:List Value) (Q:VK),Inv X pins σ H s→RelV x v→zL xs us→r x xs H Q →
  wpAny (model X.prog X.w) X.A (call (.builtin id) (v :: us)) (EP X pins σ Q) X.xe s
section
variable {X:Cx} {a b:Expr} {ta tb:TE} {pos:Pos}
theorem zM {r:R2} (hr:IxR X r) (ha:PE X a ta) (hb:PE X b tb) (hs:zl9 b):PE X (.Subscript a b pos) (tOp r ta tb):=by
 intro pins s σ H Q I h
 exact Subscript_ (znF ha hb I h fun v u s2 x y H2 I2 rx ry q=>hr a b pins s2 σ H2 x y v u Q I2 rx ry q (hs _ _))
def zoP (K:ag):R2:=fun x y H Q=>∃ p xs i v,x = .ref p∧y = .int i∧SqL K H p xs∧atI xs i=some v∧Q v H
def zpq (K:ag):R2:=fun x y H Q=>∃ p xs i v,x = .ref p∧y = .int i∧SqT K H p xs∧atI xs i=some v∧Q v H
theorem zK:IxR X (zoP X.K):=by
 intro value slice pins s σ H x y v u Q I rx ry h hs
 obtain⟨p,xs,i,z,rfl,rfl,hq,he,q⟩:=h
 cases rx
 obtain⟨t,rfl⟩:=ry
 obtain⟨its,r,pl,hz⟩:=I.list hq
 obtain⟨j,h1,h2,h3,h4,h5⟩:=zio he
 obtain⟨w,ew,rw'⟩:=r.get h2
 have hl:=r.length
 have hn:=zeg
 have fin:EP X pins σ Q w s:=⟨z,H,I,rw',q⟩
 by_cases h0:0≤i
 ·have hj:i.toNat=j:=by
   rw [gw h0 h5] at h1
   exact aO h1
  exact item_listR pl.isList h0 (by lia) (by rw [hj]; simpa using ew) fin hs
 ·have hj:(i+(its.toArray.size:Int)).toNat=j:=by
   rw [jC (by lia) h4] at h1
   rw [aj,← hl]
   exact aO h1
  exact iR (x:=w) pl.isList.typeIs slot_list_getitem.lookup
   (wpAny_getItem_list_neg (Q:=fun r s'=>r=w∧EP X pins σ Q r s') pl.isList (by lia) (by rw [aj] <;> lia) (by lia) (by rw [hj]; simpa using ew) ⟨rfl,fin⟩) hs
theorem zb8:IxR X (zpq X.K):=by
 intro value slice pins s σ H x y v u Q I rx ry h hs
 obtain⟨p,xs,i,z,rfl,rfl,hq,he,q⟩:=h
 cases rx
 obtain⟨t,rfl⟩:=ry
 obtain⟨its,r,pl,hz⟩:=I.tuple hq
 obtain⟨j,h1,h2,h3,h4,h5⟩:=zio he
 obtain⟨w,ew,rw'⟩:=r.get h2
 have hl:=r.length
 have hn:=zeg
 have fin:EP X pins σ Q w s:=⟨z,H,I,rw',q⟩
 exact iR (x:=w) pl.typeIs slot_tuple_getitem.lookup
  (getItem_tuple (j:=j) (Q:=fun r s'=>r=w∧EP X pins σ Q r s') pl (by lia) (by lia) (by rw [aj,← hl]; exact h1) (by simpa using ew) ⟨rfl,fin⟩) hs
theorem zhM (its:List Value) (n j:Nat) (u:Value):dj (·.setIfInBounds j u) { cls:=.type "list",data:=.seq its.toArray n } = { cls:=.type "list",data:=.seq (its.set j u).toArray n }:=by
 simp [dj]
theorem Inv.lst {pins:List (Addr×Obj)} {σ:St} {H:Hp} {s:Shared} {p:Addr} {xs:List V} (I:Inv X pins σ H s) (h:H p=some (.lst xs)) :
  ∃ (its:List Value) (n:Nat),zL xs its∧s.heap.get? p=some { cls:=.type "list",data:=.seq its.toArray n }∧xs.length≤sizeLine:=by
 obtain⟨z,its,n,r,e⟩:=I.hok p _ h
 exact⟨its,n,r,e,z⟩
theorem Inv.lstUpd {pins:List (Addr×Obj)} {σ:St} {H:Hp} {s:Shared} {p:Addr} {xs ys:List V} {its its':List Value} {n n':Nat} {f:Obj→Obj} (I:Inv X pins σ H s) (h:H p=some (.lst xs))
  (ho:s.heap.get? p=some { cls:=.type "list",data:=.seq its.toArray n }) (hf:f { cls:=.type "list",data:=.seq its.toArray n } = { cls:=.type "list",data:=.seq its'.toArray n' }) (r:zL ys its') (hz:ys.length≤sizeLine) (t:Nat) :
  Inv X pins σ (upd H p (.lst ys)) { s with heap:=s.heap.update p f,toks:=t }:=by
 have e:(s.heap.update p f).get? p=some { cls:=.type "list",data:=.seq its'.toArray n' }:=by
  rw [dN f ho (by rw [hf] <;> rfl),hf]
 refine I.write (x:=p) (e:=p) (by rw [h]; trivial) (.inl rfl) (fun b u hb q=>(fU _ _ (dW hb)).trans q) ⟨_,e⟩ ?_
 exact⟨hz,its',n',r,e⟩
def zoQ:V→V→V→Hp→(Hp→Prop)→Prop:=fun o i v H Q=>∃ p xs k j,o = .ref p∧i = .int k∧H p=some (.lst xs)∧ixN xs.length k=some j∧Q (upd H p (.lst (xs.set j v)))
theorem set_list:zoD X zoQ:=by
 intro pins s σ H o i v ov iv u Q I ro ri rv h
 obtain⟨p,xs,k,j,rfl,rfl,hp,hj,q⟩:=h
 cases ro
 obtain⟨t,rfl⟩:=ri
 obtain⟨its,n,r,ho,hz⟩:=I.lst hp
 obtain⟨h1,h2,h3,h4⟩:=zin hj
 have hl:=r.length
 have hn:=zeg
 have I':Inv X pins σ (upd H p (.lst (xs.set j v))) { s with heap:=s.heap.update p (dj (·.setIfInBounds j u)) } :=
  I.lstUpd hp ho (zhM its n j u) (r.set rv j) (by rw [fj]; exact hz) s.toks
 by_cases h0:0≤k
 ·have hk:k.toNat=j:=by
   rw [gw h0 h4] at h1
   exact aO h1
  exact PySem.W.ki_setAt ho h0 (by lia) (by rw [aj,← hl]; exact h4) (by rw [hk]; exact⟨_,I',q⟩)
 ·have hk:(k+(its.toArray.size:Int)).toNat=j:=by
   rw [jC (by lia) h3] at h1
   rw [aj,← hl]
   exact aO h1
  exact PySem.W.ki_setBack ho (by lia) (by rw [aj,← hl]; exact h3) (by lia) (by rw [hk]; exact⟨_,I',q⟩)
theorem zfR (lo hi:Option Int) (n:Nat):(sliceBounds lo hi none n).1=((HT.sIx n 0 lo:Nat):Int)∧(sliceBounds lo hi none n).2.1=((HT.sIx n n hi:Nat):Int)∧(sliceBounds lo hi none n).2.2=1:=by
 refine⟨?_,?_,rfl⟩
 ·cases lo with
  | none=>simp [sliceBounds,HT.sIx]
  | some i =>
   simp only [sliceBounds,HT.sIx,j0,show (1:Int) > 0 by decide,if_true]
   by_cases h:i < 0
   ·simp only [h,if_true] <;> lia
   ·simp only [h,if_false] <;> lia
 ·cases hi with
  | none=>simp [sliceBounds,HT.sIx]
  | some i =>
   simp only [sliceBounds,HT.sIx,j0,show (1:Int) > 0 by decide,if_true]
   by_cases h:i < 0
   ·simp only [h,if_true] <;> lia
   ·simp only [h,if_false] <;> lia
theorem zeZ (its:List Value) (lo hi:Option Int):slicePick its.toArray lo hi none=((its.drop (HT.sIx its.length 0 lo)).take (HT.sIx its.length its.length hi - HT.sIx its.length 0 lo)).toArray:=by
 obtain⟨h1,h2,h3⟩:=zfR lo hi its.toArray.size
 unfold slicePick
 rw [h1,h2,h3]
 simp only [sliceRange_one,pick_run,aj] <;> rfl
def zoR (K:ag):V→Option Int→Option Int→Hp→VK→Prop:=fun x lo hi H Q=>∃ a xs,x = .ref a∧SqL K H a xs∧∀ p,H p=none→Q (.ref p) (upd H p (.lst (zaW xs lo hi)))
theorem zba:SlR X (zoR X.K):=by
 intro pins s σ H x v vl vu lo hi sl Q I rx hs pl pu h
 obtain⟨a,xs,rfl,hx,q⟩:=h
 cases rx
 obtain⟨its,r,ht,hz⟩:=I.list hx
 have hlen:=r.length
 refine⟨"list",_,slot_list_getitem.lookup,ht.isList.typeIs,?_⟩
 refine wpAny_getItem_list_slice ht.isList hs pl pu .none (by simp) ?_ (by rw [aj] <;> lia)
 rw [zeZ,← hlen]
 refine⟨.ref s.heap.objs.size,_,I.laid (t':=s.toks) (o:=.lst (zaW xs lo hi)) (fun b ob q=>ai _ q) (af _) ?_,rfl,q _ (I.hok.fresh (af _))⟩
 exact⟨aZ (zdF xs lo hi) hz,_,0,(r.drop (HT.sIx xs.length 0 lo)).take (HT.sIx xs.length xs.length hi - HT.sIx xs.length 0 lo),aI _ rfl⟩
def zfn:V→Bool
 | .non=>true
 | .bl _=>true
 | .int _=>true
 | .str _=>true
 | _=>false
def eqV:V→V→Bool
 | .non,.non=>true
 | .bl a,.bl b=>a == b
 | .bl a,.int b=>(if a then 1 else 0) == b
 | .int a,.bl b=>a == (if b then 1 else 0)
 | .int a,.int b=>a == b
 | .str a,.str b=>a == b
 | _,_=>false
theorem znP {A:Around} {s:Shared} {y x:V} {u v:Value} (ry:RelV y u) (rx:RelV x v) (fy:zfn y=true) (fx:zfn x=true):SeqAt.EqAt A s u v (eqV y x):=by
 cases y with
 | non =>
  cases ry
  cases x with
  | non=>cases rx; exact ki _
  | bl b=>cases rx; exact SeqAt.EqAt.none_bool b
  | int b=>obtain⟨t,rfl⟩:=rx; exact SeqAt.EqAt.none_int b t
  | str b=>obtain⟨t,rfl⟩:=rx; exact SeqAt.EqAt.none_str b t
  | _=>exact absurd (show false=true from fx) aN
 | bl a =>
  cases ry
  cases x with
  | non=>cases rx; exact SeqAt.EqAt.bool_none a
  | bl b=>cases rx; exact SeqAt.EqAt.bool_bool a b
  | int b=>obtain⟨t,rfl⟩:=rx; exact SeqAt.EqAt.bool_int a b t
  | str b=>obtain⟨t,rfl⟩:=rx; exact SeqAt.EqAt.bool_str a b t
  | _=>exact absurd (show false=true from fx) aN
 | int a =>
  obtain⟨t',rfl⟩:=ry
  cases x with
  | non=>cases rx; exact SeqAt.EqAt.int_none a t'
  | bl b=>cases rx; exact SeqAt.EqAt.int_bool a t' b
  | int b=>obtain⟨t,rfl⟩:=rx; exact SeqAt.EqAt.int_int a t' b t
  | str b=>obtain⟨t,rfl⟩:=rx; exact jv a t' b t
  | _=>exact absurd (show false=true from fx) aN
 | str a =>
  obtain⟨t',rfl⟩:=ry
  cases x with
  | non=>cases rx; exact SeqAt.EqAt.str_none a t'
  | bl b=>cases rx; exact SeqAt.EqAt.str_bool a t' b
  | int b=>obtain⟨t,rfl⟩:=rx; exact jw a t' b t
  | str b=>obtain⟨t,rfl⟩:=rx; exact SeqAt.EqAt.str_str a t' b t
  | _=>exact absurd (show false=true from fx) aN
 | _=>exact absurd (show false=true from fy) aN
theorem zu:zbM X (.builtin "len") (fun xs H Q=>∃ p ys,xs = [.ref p]∧(SqL X.K H p ys∨SqT X.K H p ys)∧Q (.int ys.length) H):=by
 intro pins s σ H xs us Q I r h
 obtain⟨p,ys,rfl,hq,q⟩:=h
 obtain⟨u,rfl,rx⟩:=vals1 r
 cases rx
 have hn:=zeg
 rcases hq with hq | hq
 ·obtain⟨its,r',pl,hz⟩:=I.list hq
  have hlen:=r'.length
  exact Calls.call_len_list pl.isList (by simp only [aj] <;> lia) ⟨.int ys.length,H,I.tok _,⟨s.toks+1,by rw [aj,hlen]⟩,q⟩
 ·obtain⟨its,r',pl,hz⟩:=I.tuple hq
  have hlen:=r'.length
  exact len_tuple pl (by simp only [aj] <;> lia) ⟨.int ys.length,H,I.tok _,⟨s.toks+1,by rw [aj,hlen]⟩,q⟩
theorem zfS:zbM X (.type "list") (fun xs H Q=>∃ p ys,xs = [.ref p]∧(SqL X.K H p ys∨SqT X.K H p ys)∧∀ l,H l=none→Q (.ref l) (upd H l (.lst ys))):=by
 intro pins s σ H xs us Q I r h
 obtain⟨p,ys,rfl,hq,q⟩:=h
 obtain⟨u,rfl,rx⟩:=vals1 r
 cases rx
 have fin:∀ (its:List Value),zL ys its→ys.length≤sizeLine→∀ (h':Heap) (c':Nat),(∀ b o',s.heap.get? b=some o'→h'.get? b=some o') →
   h'.get? s.heap.objs.size=some { cls:=.type "list",dict:=none,data:=.seq its.toArray c',slots:=#[] }→EP X pins σ Q (.ref s.heap.objs.size) { s with heap:=h' }:=fun its r' hz h' c' kp e =>
  ⟨.ref s.heap.objs.size,_,I.laid (t':=s.toks) kp (af _) (show zao X.prog X.w _ h' _ (.lst ys) from ⟨hz,its,c',r',e⟩),rfl,q _ (I.hok.fresh (af _))⟩
 rcases hq with hq | hq
 ·obtain⟨its,r',pl,hz⟩:=I.list hq
  have hlen:=r'.length
  obtain⟨o,ho,hc,n,hd⟩:=pl.isList
  exact call_list_seq p (.inl rfl) ho hc hd (fun h' c' kp e=>fin its r' hz h' c' kp e) (by simp only [aj] <;> lia)
 ·obtain⟨its,r',pl,hz⟩:=I.tuple hq
  have hlen:=r'.length
  obtain⟨o,ho,hc,n,hd⟩:=pl
  exact call_list_seq p (.inr rfl) ho hc hd (fun h' c' kp e=>fin its r' hz h' c' kp e) (by simp only [aj] <;> lia)
theorem zaE:zbM X (.type "tuple") (fun xs H Q=>∃ p ys,xs = [.ref p]∧((SqL X.K H p ys∧∀ l,H l=none→Q (.ref l) (upd H l (.tup ys)))∨(SqT X.K H p ys∧Q (.ref p) H))):=by
 intro pins s σ H xs us Q I r h
 obtain⟨p,ys,rfl,h⟩:=h
 obtain⟨u,rfl,rx⟩:=vals1 r
 cases rx
 rcases h with ⟨hq,q⟩ | ⟨hq,q⟩
 ·obtain⟨its,r',pl,hz⟩:=I.list hq
  have hlen:=r'.length
  refine call_tuple_list pl.isList (fun h' kp=>?_) (by simp only [aj] <;> lia)
  have I1:Inv X pins σ H { s with heap:=h' }:=I.kept (t':=s.toks) kp
  have I2:Inv X pins σ (upd H h'.objs.size (.tup ys)) { s with heap:=h'.push { cls:=.type "tuple",data:=.seq its.toArray } } :=
   I1.laid (t':=s.toks) (fun b o e=>ai _ e) (af _) (show zao X.prog X.w _ _ _ (.tup ys) from ⟨hz,its,r',iG _ _⟩)
  exact⟨.ref h'.objs.size,_,I2,rfl,q _ (I1.hok.fresh (af _))⟩
 ·obtain⟨its,r',pl,hz⟩:=I.tuple hq
  exact call_tuple_same pl ⟨.ref p,H,I,rfl,q⟩
def tyV (K:ag) (T:String) (x:V) (H:Hp):Prop:=match x with
 | .str _=>T = "str"
 | .int _=>T = "int"
 | .ref p=>(T = "list"∧∃ xs,SqL K H p xs)∨(T = "tuple"∧∃ o,K.lookup p=some o∧o.cls = .type "tuple"∧o.dict=none) ∨
   (T = "dict"∧((∃ kvs,H p=some (.dK kvs))∨∃ kvs,H p=some (.dT kvs)))∨(T = "set"∧∃ S n,H p=some (.set S n))
 | _=>False
theorem znQ {pins:List (Addr×Obj)} {σ:St} {H:Hp} {s:Shared} {T:String} {x:V} {v:Value} (I:Inv X pins σ H s) (r:RelV x v) (ty:tyV X.K T x H) :
  s.TypeIs v T∧∀ a,v = .ref a→∃ ob,s.heap.get? a=some ob∧ob.dict=none:=by
 cases x with
 | str z =>
  obtain⟨t,rfl⟩:=r
  cases (show T = "str" from ty)
  exact⟨typeIs_str s z t,fun _ e=>nomatch e⟩
 | int i =>
  obtain⟨t,rfl⟩:=r
  cases (show T = "int" from ty)
  exact⟨hU s i t,fun _ e=>nomatch e⟩
 | ref p =>
  cases r
  rcases ty with ⟨rfl,xs,hq⟩ | ⟨rfl,o,hk,hc,hd⟩ | ⟨rfl,hk⟩ | ⟨rfl,S,n,hk⟩
  ·obtain⟨its,_,pl,_⟩:=I.list hq
   refine⟨pl.isList.typeIs,fun a e=>?_⟩
   cases e
   obtain⟨o,n,e,c,hd,_⟩:=pl
   exact⟨o,e,hd⟩
  ·refine⟨⟨o,I.kIn p o hk,hc⟩,fun a e=>?_⟩
   cases e
   exact⟨o,I.kIn _ o hk,hd⟩
  ·have z:∃ o,s.heap.get? p=some o∧o.ExactDict:=by
    rcases hk with ⟨kvs,hk⟩ | ⟨kvs,hk⟩
    ·obtain⟨_,_,_,_,o,_,_,e,ex,_⟩:=I.hok p _ hk
     exact⟨o,e,ex⟩
    ·obtain⟨_,_,_,_,o,_,_,e,ex,_⟩:=I.hok p _ hk
     exact⟨o,e,ex⟩
   obtain⟨o,e,ex⟩:=z
   refine⟨⟨o,e,ex.1⟩,fun a e2=>?_⟩
   cases e2
   exact⟨o,e,ex.2.1⟩
  ·obtain⟨o,_,_,_,e,ex,_⟩:=I.hok p _ hk
   refine⟨⟨o,e,ex.1⟩,fun a e2=>?_⟩
   cases e2
   exact⟨o,e,ex.2.1⟩
 | _=>exact dS ty
def tBM (K:ag) (T:String) (r:V→List V→Hp→VK→Prop) (to:TE) (t:TA):TE:=fun σ H Q=>to σ H fun x H1=>tyV K T x H1∧t σ H1 fun xs H2=>r x xs H2 Q
variable {o e:Expr} {es:List Expr} {to:TE} {t:TA} {name:Str} {apos cpos:Pos} {T id:String} {r:V→List V→Hp→VK→Prop}
theorem zfo (pa:PlainAttrs T) (slot:Slot T name id) (hty:typeOf (.builtin id)=pure (.type "method_descriptor")) (hm:MtR X id r) (ho:PE X o to) (ha:PA X (e :: es) t)
  (hbase:attributeBase o name X.env (eval o X.env)=eval o X.env:=by rfl)
  (hfew:((backTo cpos (starEach (e :: es) X.env)).all (fun x=>!x.1) && (backToKw cpos (keywordEach [] X.env)).all (fun x=>x.1.isSome)
   && decide ((e :: es).length+([]:List Keyword).length+(if ([]:List Keyword).isEmpty then 0 else 1) < 30))=true:=by rfl)
  (hline:(apos.endLine == cpos.line)=true:=by rfl) (hs:starEach (e :: es) X.env=(false,eval e X.env) :: starEach es X.env:=by rfl) (hplain:(backTo cpos (starEach es X.env)).any (·.1)=false:=by rfl) :
  PE X (.Call (.Attribute o name apos) (e :: es) [] cpos) (tBM X.K T r to t):=by
 intro pins s σ H Q I h
 refine wpAny_Call_method_late hbase hfew hline rfl (thn (ho pins s σ H _ I h) fun v s1 ⟨x,H1,I1,r1,ty,q1⟩=>?_)
 obtain⟨h1,h2⟩:=znQ I1 r1 ty
 refine⟨T,id,pa,slot,hty,h1,h2,?_⟩
 have hA:=ha cpos pins s1 σ H1 _ I1 q1
 rw [hs] at hA ⊢
 refine iS (by show (false || (backTo cpos (starEach es X.env)).any (·.1))=false; rw [hplain] <;> rfl) (jc ?_)
 exact thn hA fun us s2 ⟨vs,H2,I2,r2,q2⟩=>hm pins s2 σ H2 x vs v us Q I2 r1 r2 q2
end
def MtM (X:Cx) (id:String) (r:V→List V→Hp→VK→Prop):Prop :=
 ∀ (pins:List (Addr×Obj)) (s:Shared) (σ:St) (H:Hp) (x:V) (xs:List V) (v:Value) (us:List Value) (Q:VK),Inv X pins σ H s→RelV x v→zL xs us→r x xs H Q →
  wpAny (model X.prog X.w) X.A (call (.builtin id) (v :: us)) (EP X pins σ Q) X.xe s
theorem zL.one:∀ {x:V} {us:List Value},zL [x] us→∃ u,us = [u]∧RelV x u
 | _,_,.cons r .nil=>⟨_,rfl,r⟩
theorem zL.eraseIdx:∀ {xs:List V} {us:List Value} (i:Nat),zL xs us→zL (xs.eraseIdx i) (us.eraseIdx i)
 | _,_,_,.nil=>.nil
 | _,_,0,.cons _ t=>t
 | _,_,i+1,.cons r t=>.cons r (zL.eraseIdx i t)
theorem zL.rep {xs:List V} {us:List Value} (h:zL xs us):∀ k:Nat,zL (ap k xs).flatten (ap k us).flatten
 | 0=>.nil
 | k+1=>by
  rw [bY,bY,dQ,dQ]
  exact zL.append h (zL.rep h k)
theorem zfp {α:Type}:∀ (l:List α) (i:Nat),(l.eraseIdx i).length≤l.length
 | [],_=>af _
 | _ :: _,0=>gz _
 | _ :: r,i+1=>eX (zfp r i)
theorem foldl_rep (its:List Value):∀ (k:Nat) (acc:List Value),
  gb (fun x1 x2=>x1++x2) acc.toArray (ap k its.toArray)=(acc++(ap k its).flatten).toArray
 | 0,acc=>by simp
 | k+1,acc=>by
  have e:acc.toArray++its.toArray=(acc++its).toArray:=by simp
  have e2:(acc++its)++(ap k its).flatten=acc++(ap (k+1) its).flatten:=by
   rw [bY,dQ,a8]
  rw [← e2,← foldl_rep its k (acc++its),← e,bY,iH]
section
variable {X:Cx} {pins:List (Addr×Obj)} {σ:St} {H:Hp} {s:Shared} {l b:Addr} {xs ys zs:List V}
theorem Inv.lset {its its':List Value} {n:Nat} {f:Array Value→Array Value} {t':Nat} (I:Inv X pins σ H s) (hH:H l=some (.lst xs))
  (e:s.heap.get? l=some { cls:=.type "list",data:=.seq its.toArray n }) (hf:f its.toArray=its'.toArray) (hv:zL ys its') (hz:ys.length≤sizeLine) :
  Inv X pins σ (upd H l (.lst ys)) { s with heap:=s.heap.update l (dj f),toks:=t' }:=by
 have q:=j1 e f
 rw [hf] at q
 refine I.write (x:=l) (e:=l) (by rw [hH]; exact trivial) (.inl rfl) (fun b' u hb hu=>(fU s.heap (dj f) (dW hb)).trans hu) ⟨_,q⟩ ?_
 exact⟨hz,its',_,hv,q⟩
theorem Inv.lnew {its:List Value} {t':Nat} (I:Inv X pins σ H s) (hv:zL ys its) (hz:ys.length≤sizeLine) :
  Inv X pins σ (upd H s.heap.objs.size (.lst ys)) { s with heap:=s.heap.push { cls:=.type "list",data:=.seq its.toArray },toks:=t' } :=
 I.laid (fun _ _ q=>ai _ q) (af _) ⟨hz,its,0,hv,aI _ rfl⟩
theorem Inv.fresh (I:Inv X pins σ H s):H s.heap.objs.size=none:=I.hok.fresh (af _)
theorem Inv.lstM (I:Inv X pins σ H s) (hH:H l=some (.lst xs)):xs.length≤sizeLine∧∃ (its:List Value) (n:Nat),zL xs its∧xs.length=its.length∧s.heap.get? l=some { cls:=.type "list",data:=.seq its.toArray n }:=by
 obtain⟨z,its,n,r,e⟩:=I.hok l _ hH
 exact⟨z,its,n,r,r.length,e⟩
theorem zgM {n:Nat} (h:n≤sizeLine):d6 n=false:=by
 unfold d6
 exact decide_eq_false (by lia)
end
section
variable {X:Cx}
def zma:V→List V→Hp→VK→Prop:=fun x vs H Q=>∃ l xs y,x = .ref l∧vs = [y]∧H l=some (.lst xs)∧xs.length < sizeLine∧Q .non (upd H l (.lst (xs++[y])))
theorem zb2:MtM X "list.append" zma:=by
 intro pins s σ H x vs v us Q I rx rv h
 obtain⟨l,xs,y,rfl,rfl,hH,hz,q⟩:=h
 cases rx
 obtain⟨u,rfl,ru⟩:=rv.one
 obtain⟨z,its,n,r,hl,e⟩:=I.lstM hH
 refine dF jD ⟨_,e,rfl⟩ jq (jd _ _) (jN l its.toArray n u (by rw [aj]; lia)) ⟨e,?_⟩
 refine⟨.non,_,I.lset (its':=its++[u]) hH e (by simp) (r.append (.cons ru .nil)) ?_,rfl,q⟩
 rw [ao,f8]
 lia
def znR:V→List V→Hp→VK→Prop:=fun x vs H Q=>∃ l xs i k y,x = .ref l∧vs = [.int i]∧H l=some (.lst xs)∧-(2 ^ 63)≤i∧i < 2 ^ 63∧seqIndex? i xs.length=some k∧xs[k]? = some y∧Q y (upd H l (.lst (xs.eraseIdx k)))
theorem zkl:MtM X "list.pop" znR:=by
 intro pins s σ H x vs v us Q I rx rv h
 obtain⟨l,xs,i,k,y,rfl,rfl,hH,h1,h2,hk,hy,q⟩:=h
 cases rx
 obtain⟨u,rfl,ru⟩:=rv.one
 obtain⟨t,rfl⟩:=ru
 obtain⟨z,its,n,r,hl,e⟩:=I.lstM hH
 obtain⟨w,hw,rw'⟩:=r.get hy
 refine dF F.slot_list_pop ⟨_,e,rfl⟩ F.entry_list_pop (F.args_list_pop_2 _ _)
  (MeetsSeq.list_pop_at l its.toArray n i t k w (fitsIndex_both h1 h2) (by rw [aj,← hl]; exact hk) (by rw [← bi]; exact hw) (by rw [aj]; lia)) ⟨e,?_⟩
 refine⟨y,_,I.lset (its':=its.eraseIdx k) hH e ?_ (r.eraseIdx k) ?_,rw',q⟩
 ·show its.toArray.eraseIdxIfInBounds k=(its.eraseIdx k).toArray
  rw [List.eraseIdxIfInBounds_toArray]
 ·have:=zfp xs k
  lia
def zpr:R2:=fun x y H Q=>∃ l b xs zs,x = .ref l∧y = .ref b∧H l=some (.lst xs)∧H b=some (.lst zs)∧xs.length+zs.length≤sizeLine∧∀ p,H p=none→Q (.ref p) (upd H p (.lst (xs++zs)))
theorem zb9:OpR X (binaryOp .Add) zpr:=by
 intro pins s σ H x y v u Q I rx ry h
 obtain⟨l,b,xs,zs,rfl,rfl,hH,hB,hz,q⟩:=h
 cases rx
 cases ry
 obtain⟨z,its,n,r,hl,e⟩:=I.lstM hH
 obtain⟨z2,its2,n2,r2,hl2,e2⟩:=I.lstM hB
 refine PySem.P.add_list e e2 ?_ (by rw [aj,aj]; lia)
 have ea:its.toArray++its2.toArray=(its++its2).toArray:=by simp
 rw [ea]
 exact⟨.ref _,_,I.lnew (t':=s.toks) (r.append r2) (by rw [ao]; lia),rfl,q _ I.fresh⟩
def zps:R2:=fun x y H Q=>∃ l k xs,x = .ref l∧y = .int k∧H l=some (.lst xs)∧-(2 ^ 63)≤k∧k < 2 ^ 63∧xs.length*k.toNat≤sizeLine ∧
 ∀ p,H p=none→Q (.ref p) (upd H p (.lst (ap k.toNat xs).flatten))
theorem len_rep {α:Type} (xs:List α) (k:Nat):(ap k xs).flatten.length=k*xs.length:=by
 induction k with
 | zero=>simp
 | succ k ih=>rw [bY,dQ,ao,ih,Nat.succ_mul,Nat.add_comm]
theorem zfT:OpR X (binaryOp .Mult) zps:=by
 intro pins s σ H x y v u Q I rx ry h
 obtain⟨l,k,xs,rfl,rfl,hH,h1,h2,hz,q⟩:=h
 cases rx
 obtain⟨t,rfl⟩:=ry
 obtain⟨z,its,n,r,hl,e⟩:=I.lstM hH
 have hlen:its.toArray.size*k.toNat≤sizeLine:=by rw [aj,← hl]; exact hz
 have hcap:¬ its.toArray.size*k.toNat > (2 ^ 63 - 1) / 8:=by
  have:(sizeLine:Nat)≤(2 ^ 63 - 1) / 8:=by decide
  lia
 have hfit:¬ (!Builtin.List.listFitsIndex k)=true:=by
  rw [fitsIndex_both h1 h2]
  exact aN
 have hlong:¬ d6 (its.toArray.size*k.toNat)=true:=by
  rw [zgM hlen]
  exact aN
 have hnew:gb (fun x1 x2=>x1++x2) #[] (ap (if its.toArray.isEmpty=true then 0 else k.toNat) its.toArray)=(ap k.toNat its).flatten.toArray:=by
  have f0:∀ m:Nat,gb (fun x1 x2=>x1++x2) #[] (ap m its.toArray)=(ap m its).flatten.toArray:=fun m=>by
   have:=foldl_rep its m []
   rw [iI] at this
   exact this
  rw [f0]
  cases its with
  | nil=>simp
  | cons a r'=>rw [if_neg (by simp)]
 refine hW (T:="list") (U:="int") (by decide) ⟨_,e,rfl⟩ (fun s'=>hU s' k t) noFill_list_mul F.fills_int_mul gc repeat_list F.slot_int_index.lookup
  (dF gc (hU s k t) j2 (jO _ _) (int___rmul___int_list k t l its.toArray n)
   ⟨e,rfl,⟨_,e,rfl⟩,dF F.slot_list_mul ⟨_,e,rfl⟩ F.entry_list_mul (F.args_list_mul_2 _ _) (AutoListH.list___mul___list_int_3 l its.toArray n k t hfit hcap hlong) ⟨e,?_⟩⟩)
 rw [hnew]
 exact⟨.ref _,_,I.lnew (t':=s.toks) (r.rep k.toNat) (by rw [len_rep,eI]; exact hz),rfl,q _ I.fresh⟩
end
end L2
namespace Att
open PySem PySem.W PySem.Calls PyProof.Rows
theorem zdM {P:Params} {h:Heap}:∀ (ns:List Int) (vs:List Value),WellAll P h vs (ns.map WData.int)→IntsAre vs ns:=by
 intro ns
 induction ns with
 | nil =>
  intro vs w
  rw [fC] at w
  cases w
  exact .nil
 | cons n ns ih =>
  intro vs w
  rw [aU] at w
  cases w with
  | cons a b =>
   cases a
   exact .cons _ _ (ih _ b)
theorem zjq {l:OpenLaw} {n:Nat} (hn:l.most=some n) {P:Params} {h:Heap} {args:List WData} {vals:List Value}
  (hpre:l.row.toRowW.claim.pre args=true) (hwl:WellAll P h vals args) :
  ∃ a vs ns,vals = [bb a]∧args = [WData.list (ns.map WData.int)]∧h.get? a=some { cls:=.type "list",data:=.seq vs.toArray }∧IntsAre vs ns∧ns.length≤n:=by
 have hsh:WShape.hasAll [] args [.list .int]=true:=(pre_splitW hpre).1
 have hc:l.pre.holds [] { args:=args }=true:=(pre_splitW hpre).2
 obtain⟨d,r,rfl,h1,h2⟩:=hasAllW_cons hsh
 obtain rfl:=hasAllW_nil h2
 obtain⟨xs,rfl,h3⟩:=hasW_list h1
 obtain⟨ns,rfl⟩:=items_int h3
 have hlen:ns.length≤n:=by
  unfold OpenLaw.pre at hc
  have h4:(WTm.not (.lt (.lit (.int (n:Int))) (.len (.arg 0)))).holds [] { args:=[.list (ns.map .int)] }=true:=by
   have h4:=(holds_andW hc).1
   rw [hn] at h4
   exact h4
  have h5:=condW_of h4 (w_not (w_lt w_lit (w_len_list (w_arg rfl))))
  rw [ab] at h5
  refine eY fun q=>?_
  have q':(n:Int) < ((ns.length:Nat):Int):=by lia
  first
   | (rw [decide_eq_true q'] at h5; exact absurd h5 (by decide))
   | (simp at h5; lia)
 cases hwl with
 | cons w1 w2 =>
  cases w2
  cases w1 with
  | list ho hall=>exact⟨_,_,ns,rfl,rfl,ho,zdM ns _ hall,hlen⟩
theorem zjr (l:OpenLaw) (args:List WData):l.row.toRowW.claim.post args (.bool true) args=true :=
 postW_of (r:=l.row.toRowW) (X:=(true == true))
  (show WShape.has [] (.bool true) .bool=true by first | rfl | decide | simp [WShape.has,WShape.arms,WShape.armsAll])
  (show (WTm.eq .res (.lit (.bool true))).value [] { args:=args,res:=some (.bool true),after:=args }=some (.bool (true == true)) from w_eq_bool (w_res rfl) w_lit) rfl
theorem attach_call {l:OpenLaw} {n:Nat} {q:Program} {loose:List Str} {XP:(Str→Option Value)→Heap→Prop} {YP:World→Heap→Prop} {d:DefRec}
  (hn:l.most=some n) (hdf:d.params.defaults = [])
  (call:∀ (w:World) (s₀ s₁:Shared) (mg mb:Str→Option Value) (fa:Addr) (o:Obj) (pm cd doc:Value) (a:Addr) (vs:List Value) (ns:List Int),
   Ground q loose [] XP w s₀ mg mb s₁.heap→YP w s₁.heap →
   s₁.heap.get? fa=some o→o.data = .func (docDef d.name d.params d.body d.scope pm cd doc)→s₁.heap.CodeRec cd d.name→mg d.name=some (.ref fa) →
   s₁.heap.get? a=some { cls:=.type "list",data:=.seq vs.toArray }→IntsAre vs ns→ns.length≤n→s₁.gens = #[] →
   codeAny (model l.prog w) callerA (.call (.ref fa) ⟨[.ref a],[]⟩) (fun r s'=>r = .ok (.ret (.bool true))∧OldK s₁.heap s'.heap∧s'.os=s₁.os∧AllBare s'.gens) s₁) :
  WalkO q loose XP YP l.row.toRowW d [] (fun f vs=>kj f vs):=by
 intro w s₀ s₁ mg mb G Y fa o pm cd doc dV kV ho hd hcd hD hmg hg args vals as hpre hlay hrd hwl hlo
 obtain rfl:dV = .none:=Dflts.none hD hdf
 obtain rfl:kV = .none:=Dflts.noKw hD
 obtain⟨a,vs,ns,rfl,rfl,hobj,hints,hlen⟩:=zjq hn hpre hwl
 refine enter_call (jy (call w s₀ s₁ mg mb fa o pm cd doc a vs ns G Y ho (fd_plain hd) hcd hmg hobj hints hlen hg) fun r s' hq=>?_)
 obtain⟨rfl,h2,h3,h4⟩:=hq
 exact⟨.inl ⟨.bool true,.bool true,[],rfl,fun _=>rfl,.bool true,zjr l _,fun _=>⟨gT,fun _ hm=>(nomatch hm)⟩⟩,h2,h3,h4⟩
end Att
namespace L2
open PySem PySem.Spec PyProof.Rows
theorem zfq:∀ {vs:List Value} {ns:List Int},IntsAre vs ns→zL (ns.map V.int) vs
 | _,_,.nil=>.nil
 | _,_,.cons n t h=>.cons ⟨t,rfl⟩ (zfq h)
def znS (H:Hp):Prop:=∀ b,H b=none∨∃ o xs,H b=some (.frz o (.lst xs))
theorem zkm {P:Program} {w:World} {K:ag} {mg mb:Str→Option Value} {CX:CXT} {k:Nat} {fa a:Addr} {fd:FuncData} {x:Str} {sp:Sp} {s₁:Shared} {vs:List Value} {ns:List Int}
  (KX:K.In s₁.heap) (hns:s₁.heap.Ns mainGlobals mg) (hb:s₁.heap.Ns builtinsNs mb) (hbb:∀ x:Str,x≠"__name__"→mb x=bootBuiltins x) (hlim:s₁.heap.NoLimit) (hg:s₁.gens = #[])
  (ha:s₁.heap.get? a=some { cls:=.type "list",data:=.seq vs.toArray }) (hi:IntsAre vs ns) (hl:ns.length≤sizeLine) (hr:Room k callerA)
  (F:∀ base:Heap,K.In base→base.Ns mainGlobals mg→FnOk P w K mg base CX k fa fd [x] sp) (hbind:∀ (s:Shared) (u:Value),BindsTo s fd ⟨[u],[]⟩ [(x,u)])
  (hsp:∀ H:Hp,znS H→SqL K H a (ns.map V.int)→sp [.ref a] H (fun v _=>v = .bl true) fun _ _ _=>False)
  (hCX:∀ H e s',CX [] H s₁ (fun _ _ _=>False) e s'→False) :
  codeAny (model P w) callerA (.call (.ref fa) ⟨[.ref a],[]⟩) (fun r s'=>r = .ok (.ret (.bool true))∧OldK s₁.heap s'.heap∧s'.os=s₁.os∧AllBare s'.gens) s₁:=by
 have rv:=zfq hi
 have lenV:=hi.length
 have core:∀ H:Hp,znS H→SqL K H a (ns.map V.int)→HOk P w H s₁.heap→(∀ b,H b≠none→b=a)→(H a≠none→K.lookup a=none) →
   codeAny (model P w) callerA (.call (.ref fa) ⟨[.ref a],[]⟩) (fun r s'=>r = .ok (.ret (.bool true))∧OldK s₁.heap s'.heap∧s'.os=s₁.os∧AllBare s'.gens) s₁:=by
  intro H hO hS hok hA hK
  have base_of:∀ {b:Addr} {o:Obj},s₁.heap.get? b=some o→H b=none→(zfN s₁.heap H).get? b=some o:=fun e n=>zkb e n
  have noA:∀ {b:Addr} {o:Obj} {es:Array DictEntry} {ep:Nat},s₁.heap.get? b=some o→o.data = .dict es ep→H b=none:=fun {b o es ep} e d=>by
   cases q:H b with
   | none=>rfl
   | some u =>
    have e':b=a:=hA b (by rw [q]; simp)
    subst e'
    rw [ha] at e; cases e
    have d':kK vs.toArray _=Data.dict es ep:=d
    cases d'
  have nsK:∀ {b:Addr} {m:Str→Option Value},s₁.heap.Ns b m→(zfN s₁.heap H).Ns b m:=fun {b m} ⟨o,es,ep,e,d,r⟩=>⟨o,es,ep,base_of e (noA e d),d,r⟩
  have hKb:K.In (zfN s₁.heap H):=fun b o e=>base_of (KX b o e) (by
   cases q:H b with
   | none=>rfl
   | some u =>
    have e':b=a:=hA b (by rw [q]; simp)
    subst e'
    rw [hK (by rw [q]; simp)] at e; cases e)
  have hM:Mod K mg (zfN s₁.heap H):=⟨hKb,nsK hns,⟨mb,nsK hb,hbb⟩,let ⟨mc,h1,h2⟩:=hlim; ⟨mc,nsK h1,h2⟩⟩
  have e0:Env0 P w K mg (zfN s₁.heap H) callerA [] s₁ H:=⟨rfl,hM,fun b o e=>zl2 e,Nat.le_of_eq (zjl _ _),trivial,fun b hb=>absurd (show b∈([]:List Addr) from hb) (by simp),hok,.of_eq hg⟩
  refine jy ((F _ hKb (nsK hns)).run callerA [] s₁ H ⟨[.ref a],[]⟩ [.ref a] [.ref a] _ _ hr e0 (hbind s₁ (.ref a)) (.cons rfl .nil) (hsp H hO hS)) fun r s' h=>?_
  cases r with
  | error e=>exact (hCX H e s' h).elim
  | ok fl =>
   cases fl with
   | next=>exact dS h
   | brk=>exact dS h
   | cont=>exact dS h
   | ret u =>
    obtain⟨v,H',os,bare,un,hok',r',q⟩:=h
    have q':v = .bl true:=q
    subst q'
    obtain rfl:u=Value.bool true:=r'
    refine⟨rfl,OldK.of_keep fun b o e=>?_,os,bare⟩
    cases q:H b with
    | none=>exact un.keep b o e q (by intro z; exact absurd (show b∈([]:List Addr) from z) (by simp)) (by simp)
    | some u =>
     rcases hO b with z | ⟨ob,xs,z⟩
     ·rw [q] at z; cases z
     ·have z2:=un.frzs b ob _ z
      obtain⟨e1,_⟩:=hok b _ z
      obtain⟨e2,_⟩:=hok' b _ z2
      rw [e] at e1; cases e1
      exact e2
 cases hk:K.lookup a with
 | some o =>
  have e:=KX a o hk
  rw [ha] at e
  cases e
  refine core (fun _=>none) (fun _=>.inl rfl) (.inr ⟨_,vs.toArray,_,hk,rfl,rfl,rfl,by rw [aj,lenV]; exact hl,by simpa using rv⟩) (fun b u z=>by have z':(none:Option HO)=some u:=z; cases z') (fun b z=>absurd rfl z) fun z=>absurd rfl z
 | none =>
  refine core (fun b=>if b=a then some (.frz { cls:=.type "list",data:=.seq vs.toArray } (.lst (ns.map V.int))) else none) (fun b=>?_) (.inl (.inr ⟨{ cls:=.type "list",data:=.seq vs.toArray },if_pos rfl⟩)) (fun b u z=>?_) (fun b z=>?_) fun _=>hk
  ·by_cases hb:b=a
   ·exact .inr ⟨_,_,if_pos hb⟩
   ·exact .inl (if_neg hb)
  ·by_cases hb:b=a
   ·have z':=(if_pos hb).symm.trans z
    cases z'
    subst hb
    exact⟨ha,by rw [ab]; exact hl,vs,_,rv,ha⟩
   ·have z':=(if_neg hb).symm.trans z
    cases z'
  ·by_cases hb:b=a
   ·exact hb
   ·exact absurd (if_neg hb) z
theorem zmb {l:iJ} {n k:Nat} {q:Program} {loose:List Str} {XP:(Str→Option Value)→Heap→Prop} {YP:World→Heap→Prop} {d:DefRec} {K:Params→ag} {CX:World→CXT} {sp:World→Sp} {x:Str}
  (hn:l.most=some n) (hn2:n≤sizeLine) (hdf:d.params.defaults = []) (hr:Room k callerA)
  (hY:∀ (w:World) (h:Heap),YP w h→(K w.params).In h)
  (F:∀ (w:World) (mg:Str→Option Value) (fa:Addr) (h:Heap),(K w.params).In h→h.Ns mainGlobals mg→mg d.name=some (.ref fa) →
   ∃ fd:FuncData,(∀ (s:Shared) (u:Value),BindsTo s fd ⟨[u],[]⟩ [(x,u)]) ∧
    ∀ base:Heap,(K w.params).In base→base.Ns mainGlobals mg→FnOk l.prog w (K w.params) mg base (CX w) k fa fd [x] (sp w))
  (hsp:∀ (w:World) (H:Hp) (a:Addr) (ns:List Int),ns.length≤n→znS H→SqL (K w.params) H a (ns.map V.int)→sp w [.ref a] H (fun v _=>v = .bl true) fun _ _ _=>False)
  (hCX:∀ (w:World) (H:Hp) (s:Shared) (e:Value) (s':Shared),CX w [] H s (fun _ _ _=>False) e s'→False) :
  kF q loose XP YP l.row.toRowW d [] (fun f vs=>kj f vs):=by
 refine Att.attach_call hn hdf fun w s₀ s₁ mg mb fa o pm cd doc a vs ns G Y ho hd hcd hmg hobj hints hlen hg=>?_
 have KX:=hY w _ Y
 obtain⟨fd,hb,hF⟩:=F w mg fa _ KX G.T.g hmg
 exact zkm KX G.T.g G.T.b G.T.builtins G.T.nolimit hg hobj hints (aZ hlen hn2) hr hF hb (fun H hO hS=>hsp w H a ns hlen hO hS) fun H e s'=>hCX w H s₁ e s'
def zbN (s:Stmt):Arguments:=match s with
 | .FunctionDef _ a _ _ _ _ _ _ _ _=>a
 | _=>{ posonlyargs:=[],args:=[],vararg:=none,kwonlyargs:=[],kw_defaults:=[],kwarg:=none,defaults:=[] }
def zbC (s:Stmt):List Stmt:=match s with
 | .FunctionDef _ _ b _ _ _ _ _ _ _=>b
 | _=>[]
def zh (s:Stmt):Scope:=match s with
 | .FunctionDef _ _ _ _ _ _ sc _ _ _=>sc
 | _=>{ kind:=.function,names:=[],isGenerator:=false,isCoroutine:=false }
abbrev CX0:CXT:=fun _ _ _ _ _ _=>False
abbrev E0:XK:=fun _ _ _=>False
theorem zG {X:Cx}:zhJ CX0 X E0:=fun _ _ _ _ _ _ _ h=>h.elim
structure Fun (K:ag) (x qual:Str) (st:Stmt) (f:Addr) (fd:FuncData):Prop where
 ex:∃ (oc:Value) (od:Option Addr) (kV doc pm:Value) (an:Option Addr) (cdv ct:Value) (osl:Array (Option Value)),
  fd=dh x qual (zbN st) (zbC st) (zh st) .none kV doc pm an cdv ct∧K.lookup f=some ⟨oc,od,.func fd,osl⟩∧fK K cdv qual=true
 kp:fJ K (.ref f)=true
section
variable {P:Program} {w:World} {K:ag} {mg:Str→Option Value} {base:Heap}
theorem Fun.ok {x qual:Str} {st:Stmt} {f:Addr} {fd:FuncData} {N ps:List Str} {k:Nat} {sp:Sp} (F:Fun K x qual st f fd) (S:FnScope N ps (zh st)) (len:∀ vs H Q E,sp vs H Q E→vs.length=ps.length)
  (hbody:∀ (cdv:Value) (A:Around) (outer:List Env) (s:Shared) (H:Hp) (vs:List V) (Q:VK) (E:XK),Room k (A.deeper (envOfC qual (zh st) s.heap.objs.size f cdv))→sp vs H Q E →
   ∃ t,PSs (zjo CX0 P w K mg base N qual (zh st) f cdv A outer s H E).nox (zbC st) t∧t { nx:=fun _ H'=>Q .non H',rt:=Q } (start N vs) H):FnOk P w K mg base CX0 (k+1) f fd ps sp:=by
 obtain⟨oc,od,kV,doc,pm,an,cdv,ct,osl,rfl,lk,hcd⟩:=F.ex
 refine zoM lk hcd S len fun A outer s H vs Q E hr hsp=>?_
 obtain⟨t,h,q⟩:=hbody cdv A outer s H vs Q E hr hsp
 exact⟨t,h.nox,q⟩
theorem Fun.binds {x qual:Str} {st:Stmt} {f:Addr} {fd:FuncData} {ps:List Str} (F:Fun K x qual st f fd)
  (h:∀ (kV doc pm:Value) (an:Option Addr) (cdv ct:Value) (us:List Value),us.length=ps.length→bindArgs (dh x qual (zbN st) (zbC st) (zh st) .none kV doc pm an cdv ct) ⟨us,[]⟩=pure (ps.zip us)):Binds K fd ps []:=by
 obtain⟨oc,od,kV,doc,pm,an,cdv,ct,osl,rfl,lk,hcd⟩:=F.ex
 exact .all (h kV doc pm an cdv ct)
theorem zkn {x qual:Str} {st:Stmt} {f:Addr} {oc:Value} {od an:Option Addr} {osl:Array (Option Value)} {kV doc pm cdv ct:Value} (l:K.lookup f=some ⟨oc,od,.func (dh x qual (zbN st) (zbC st) (zh st) .none kV doc pm an cdv ct),osl⟩)
  (c:fK K cdv qual=true) (k:fJ K (.ref f)=true):Fun K x qual st f (dh x qual (zbN st) (zbC st) (zh st) .none kV doc pm an cdv ct):=⟨⟨oc,od,kV,doc,pm,an,cdv,ct,osl,rfl,l,c⟩,k⟩
end
theorem ze0 {A B:Prop} (h:B):if false=true then A else B:=by
 rw [if_neg aN]
 exact h
theorem zpt {A B:Prop} (h:A):if true=true then A else B:=by
 rw [if_pos rfl]
 exact h
theorem zaI {c A B:Prop} [Decidable c] (h1:c→A) (h2:¬ c→B):if c then A else B:=by
 by_cases h:c
 ·rw [if_pos h]
  exact h1 h
 ·rw [if_neg h]
  exact h2 h
def zt (H H':Hp):Prop:=∀ b o,H b=some o→H' b=some o
theorem zt.trans {H H1 H2:Hp} (a:zt H H1) (b:zt H1 H2):zt H H2:=fun c o h=>b c o (a c o h)
theorem zt.free {H H':Hp} (e:zt H H') {l:Addr} (h:H' l=kL):H l=kL:=by
 cases q:H l with
 | none=>rfl
 | some o =>
  rw [e l o q] at h
  cases h
theorem zt.seq {K:ag} {H H':Hp} {a:Addr} {xs:List V} (e:zt H H') (h:SqL K H a xs):SqL K H' a xs:=by
 rcases h with (h | ⟨o,h⟩) | h
 ·exact .inl (.inl (e _ _ h))
 ·exact .inl (.inr ⟨o,e _ _ h⟩)
 ·exact .inr h
end L2
section
namespace L2
open PySem PySem.Spec PyProof.Rows
def zaf (cs:List (Str×Addr)):List (Str×NameKind)→List (Str×Addr)→List (Str×Addr)
 | [],acc=>acc
 | (n,k) :: r,acc=>if k == .free then zaf cs r ((n,(cs.lookup n).getD 0) :: acc) else zaf cs r acc
theorem zcN {scope:Scope} {env:Env} (h:∀ y∈scope.names,y.2 = .free→∃ c,env.cells.lookup y.1=some c) :
  closureFor scope env=pure (zaf env.cells scope.names []):=by
 have go:∀ (names:List (Str×NameKind)) (acc:List (Str×Addr)),(∀ y∈names,y.2 = .free→∃ c,env.cells.lookup y.1=some c) →
   (forIn names acc (fun (x:Str×NameKind) (cs:List (Str×Addr))=>(if (x.2 == cb)=true then do
    let a ← cellOf env x.1
    pure (cn ((x.1,a) :: cs)) else pure (cn cs):Sem (ForInStep (List (Str×Addr))))))=(pure (zaf env.cells names acc):Sem _):=by
  intro names
  induction names with
  | nil=>intro acc _; rfl
  | cons y r ih =>
   intro acc hy
   obtain⟨n,k⟩:=y
   rw [et]
   cases hk:(k == cb) with
   | true =>
    obtain⟨c,hc⟩:=hy (n,k) aF (by simpa using hk)
    have hcell:cellOf env n=pure c:=by
     unfold cellOf
     have hc':env.cells.lookup n=some c:=hc
     rw [hc']
    simp only [hk,if_true,hcell]
    have e:=ih ((n,c) :: acc) fun y hy'=>hy y (av _ hy')
    have hc':env.cells.lookup n=some c:=hc
    simp only [zaf,hk,if_true,hc',ig]
    exact e
   | false =>
    simp only [hk,bn,if_false]
    have e:=ih acc fun y hy'=>hy y (av _ hy')
    simp only [zaf,hk,bn,if_false]
    exact e
 have e:=go scope.names [] h
 unfold closureFor
 show (forIn scope.names [] _ >>= fun cs=>pure cs)=_
 first
  | (rw [e]; rfl)
  | (simp only []; rw [e]; rfl)
  | (have e':=e; simp at e' ⊢; exact e')
theorem zbV {cs:List (Str×Addr)}:∀ (names:List (Str×NameKind)) (acc:List (Str×Addr)),
  (∀ y∈names,y.2 = .free→∃ c,cs.lookup y.1=some c)→(∀ x c,acc.lookup x=some c→cs.lookup x=some c) →
  ∀ x c,(zaf cs names acc).lookup x=some c→cs.lookup x=some c
 | [],acc,_,h,x,c,e=>h x c e
 | (n,k) :: r,acc,hy,h,x,c,e=>by
  have hr:∀ y∈r,y.2 = .free→∃ c,cs.lookup y.1=some c:=fun y hy'=>hy y (av _ hy')
  unfold zaf at e
  cases hk:(k == cb) with
  | false =>
   rw [hk] at e
   exact zbV r acc hr h x c e
  | true =>
   rw [hk] at e
   obtain⟨d,hd⟩:=hy (n,k) aF (by simpa using hk)
   have hd':cs.lookup n=some d:=hd
   refine zbV r _ hr (fun x c e'=>?_) x c e
   rw [hd',ig,ba] at e'
   cases hx:(x == n) with
   | true =>
    rw [hx] at e'
    have:x=n:=by simpa using hx
    subst this
    rw [hd']
    exact e'
   | false =>
    rw [hx] at e'
    exact h x c e'
theorem zca {cs:List (Str×Addr)}:∀ (names:List (Str×NameKind)) (acc:List (Str×Addr)) (x:Str),
  ((∃ c,acc.lookup x=some c)∨(x,cb)∈names)→∃ c,(zaf cs names acc).lookup x=some c
 | [],acc,x,h=>by
  rcases h with h | h
  ·exact h
  ·cases h
 | (n,k) :: r,acc,x,h=>by
  unfold zaf
  cases hk:(k == cb) with
  | false =>
   refine zca r acc x ?_
   rcases h with h | h
   ·exact .inl h
   ·rcases aD.mp h with h | h
    ·cases h
     exact absurd hk (by decide)
    ·exact .inr h
  | true =>
   refine zca r _ x ?_
   cases hx:(x == n) with
   | true=>exact .inl ⟨_,by rw [ba,hx]⟩
   | false =>
    rcases h with ⟨c,h⟩ | h
    ·exact .inl ⟨c,by rw [ba,hx]; exact h⟩
    ·rcases aD.mp h with h | h
     ·cases h
      simp at hx
     ·exact .inr h
theorem lookup_mem {α:Type}:∀ {l:List (Str×α)} {x:Str} {k:α},l.lookup x=some k→(x,k)∈l
 | [],x,k,h=>by simp at h
 | (n,j) :: r,x,k,h=>by
  rw [ba] at h
  cases hx:(x == n) with
  | true =>
   rw [hx] at h
   have:x=n:=by simpa using hx
   subst this
   cases h
   exact aF
  | false =>
   rw [hx] at h
   exact av _ (lookup_mem h)
theorem zbz {env:Env}:∀ {names:List (Str×NameKind)} {x:Str},names.lookup x=some .free →
  (names.map fun (n,k)=>if (k == cb && env.scope.kind == .function && env.kindOf n == some .cell) then (n,cT) else (n,k)).lookup x=some .cell ∨
  (names.map fun (n,k)=>if (k == cb && env.scope.kind == .function && env.kindOf n == some .cell) then (n,cT) else (n,k)).lookup x=some .free
 | [],_,h=>by simp at h
 | (n,k) :: r,x,h=>by
  have ih:=@zbz env r x
  simp only [aU]
  cases hx:x == n with
  | true =>
   simp only [ba,hx] at h; cases h
   by_cases hc:(cb == cb && env.scope.kind == .function && env.kindOf n == some .cell)=true
   ·rw [if_pos hc]; left; simp only [ba,hx]
   ·rw [if_neg hc]; right; simp only [ba,hx]
  | false =>
   simp only [ba,hx] at h; rcases jE ((k == cb && env.scope.kind == .function && env.kindOf n == some .cell)=true) with hc | hc
   ·exact (by rw [if_pos hc]; simp only [ba,hx]; exact ih h)
   ·exact (by rw [if_neg hc]; simp only [ba,hx]; exact ih h)
theorem zc3 {env:Env}:∀ {names:List (Str×NameKind)} {x:Str},
  ((names.map fun (n,k)=>if (k == cb && env.scope.kind == .function && env.kindOf n == some .cell) then (n,cT) else (n,k)).lookup x=some .cell ∨
  (names.map fun (n,k)=>if (k == cb && env.scope.kind == .function && env.kindOf n == some .cell) then (n,cT) else (n,k)).lookup x=some .free) →
  names.lookup x=some .free∨names.lookup x=some .cell
 | [],_,h=>by simp at h
 | (n,k) :: r,x,h=>by
  have ih:=@zc3 env r x
  simp only [aU] at h
  cases hx:x == n with
  | true =>
   rcases jE ((k == cb && env.scope.kind == .function && env.kindOf n == some .cell)=true) with hc | hc
   ·have hk:k = .free:=by
     simp only [dY] at hc; simpa using hc.1.1
    subst hk
    exact .inl (by simp only [ba,hx])
   ·rw [if_neg hc] at h
    simp only [ba,hx] at h ⊢
    rcases h with h | h
    ·exact .inr h
    ·exact .inl h
  | false =>
   rcases jE ((k == cb && env.scope.kind == .function && env.kindOf n == some .cell)=true) with hc | hc
   ·rw [if_pos hc] at h
    simp only [ba,hx] at h ⊢
    exact ih h
   ·rw [if_neg hc] at h
    simp only [ba,hx] at h ⊢
    exact ih h
end L2
end
section
namespace L2
open PySem PySem.Spec PyProof.Rows
theorem zfU:∀ (names:List (Str×NameKind)) (n:Nat) (acc:List (Str×Addr)) (x:Str),(x,cT)∉names→(cellsFrom n names acc).lookup x=acc.lookup x
 | [],_,_,_,_=>rfl
 | (y,k) :: r,n,acc,x,h=>by
  have hr:(x,cT)∉r:=fun z=>h (av _ z)
  unfold cellsFrom
  split
  ·rename_i hk
   have hk':k = .cell:=by simpa using hk
   rw [zfU r _ _ x hr,ba]
   cases hx:(x == y) with
   | true =>
    have:x=y:=by simpa using hx
    subst this
    subst hk'
    exact absurd aF h
   | false=>rfl
  ·exact zfU r _ _ x hr
theorem zfV:∀ (names:List (Str×NameKind)) (n:Nat) (acc:List (Str×Addr)) (x:Str),(x,cT)∈names→∃ c,(cellsFrom n names acc).lookup x=some c∧n≤c
 | (y,k) :: r,n,acc,x,h=>by
  by_cases hr:(x,cT)∈r
  ·unfold cellsFrom
   split
   ·obtain⟨c,e,l⟩:=zfV r (n+1) ((y,n) :: acc) x hr
    exact⟨c,e,by lia⟩
   ·exact zfV r n acc x hr
  ·rcases aD.mp h with e | e
   ·cases e
    unfold cellsFrom
    rw [if_pos (by decide),zfU r _ _ _ hr,ba,beq_self_eq_true]
    exact⟨n,rfl,af _⟩
   ·exact absurd e hr
structure CO (h:Heap) (lo:Nat) (old cs:List (Str×Addr)):Prop where
 each:∀ x c,cs.lookup x=some c→(h.IsCell c none∧lo≤c)∨(old.lookup x=some c∧c < lo)
 inj:∀ x y c,cs.lookup x=some c→cs.lookup y=some c→x=y
theorem zko {lo:Nat} {old:List (Str×Addr)}:∀ (names:List (Str×NameKind)) (h:Heap) (acc:List (Str×Addr)),CO h lo old acc→lo≤h.objs.size→CO (pushCells h names) lo old (cellsFrom h.objs.size names acc)
 | [],_,_,a,_=>a
 | (y,k) :: r,h,acc,a,hl=>by
  unfold pushCells cellsFrom
  split
  ·have lt:∀ x c,acc.lookup x=some c→c < h.objs.size:=fun x c e=>(a.each x c e).elim (fun z=>z.1.lt) fun z=>bg z.2 hl
   have key:∀ x c,iT x ((y,h.objs.size) :: acc)=some c→(x=y∧c=h.objs.size)∨acc.lookup x=some c:=fun x c e=>by
    rw [ba] at e
    cases hx:(x == y) with
    | true =>
     rw [hx] at e
     exact .inl ⟨by simpa using hx,(aO e).symm⟩
    | false =>
     rw [hx] at e
     exact .inr e
   have:=zko (lo:=lo) (old:=old) r (h.push { cls:=.type "cell",data:=.cell none }) ((y,h.objs.size) :: acc) ⟨fun x c e=>?_,fun x z c e1 e2=>?_⟩ (by rw [bL]; lia)
   ·rw [bL] at this
    exact this
   ·rcases key x c e with ⟨_,rfl⟩ | e
    ·exact .inl ⟨⟨_,aI _ rfl,rfl⟩,hl⟩
    ·rcases a.each x c e with z | z
     ·exact .inl ⟨z.1.keeps fun b o e=>ai _ e,z.2⟩
     ·exact .inr z
   ·rcases key x c e1 with ⟨p1,q1⟩ | f1 <;> rcases key z c e2 with ⟨p2,q2⟩ | f2
    ·exact p1.trans p2.symm
    ·exact absurd (lt _ _ f2) (by rw [q1]; exact cu _)
    ·exact absurd (lt _ _ f1) (by rw [q2]; exact cu _)
    ·exact a.inj x z c f1 f2
  ·exact zko r h acc a hl
theorem zjs {M:Model} {A:Around} {E:Value→Shared→Prop} {s:Shared} {scope:Scope} {globals:Addr} {closure:List (Str×Addr)} {qual:Str} {env:Env} {Q:Env→Shared→Prop}
  (h:Q (newEnv scope s.heap.objs.size globals (cellsFrom (s.heap.objs.size+1) scope.names closure) qual none .none (some env) builtinsNs) { s with heap:=pushCells (s.heap.push { cls:=.type "dict",data:=.dict #[] }) scope.names }) :
  wpAny M A (newFunctionEnv scope globals closure [] qual none .none (some env)) Q E s:=by
 (simp only [newFunctionEnv,jF,if_true])
 (refine ae (wpAny_alloc ?_))
 (refine ae (wpAny_layCells _ (fun name kind cells=>by cases hkc:kind == cT <;> simp [hkc]) _ _ _ _ ?_))
 rw [show ({ s with heap:=s.heap.push { cls:=.type "dict",data:=.dict #[] } }:Shared).heap.objs.size=s.heap.objs.size+1 from bL ..]
 (exact ae (ak (ak h)))
abbrev zI (X:Cx) (N':List Str) (scope:Scope) (s₃:Shared) (H₃:Hp) (ex:List Addr) (pins:List (Addr×Obj)):Cx :=
 { X with N:=N',s₀:=s₃,H₀:=H₃,env:=compEnvC scope (cellsFrom (s₃.heap.objs.size+1) scope.names (zaf X.env.cells scope.names [])) s₃.heap.objs.size X.env,outer:=X.stack,stack:=X.stack,ex:=ex,fn:=fun x=>scope.names.lookup x == some .cell,pn:=X.pn++pins,xe:=fun _ _=>False }
def zhN (ifs:List Expr) (env:Env):Sem Bool :=
 forIn ifs true fun c r=>if r=true then do let ok ← isTrue c env (eval c env); pure (cn ok) else pure (cn r)
def zc4 (X:Cx) (ifs:List Expr) (t:TT):Prop :=
 ∀ (pins:List (Addr×Obj)) (s:Shared) (σ:St) (H:Hp) (Q:Bool→Hp→Prop),Inv X pins σ H s→t σ H Q→wpAny (model X.prog X.w) X.A (zhN ifs X.env) (TP X pins σ Q) X.xe s
def zmc:TT:=fun _ H Q=>Q true H
theorem zB {X:Cx}:zc4 X [] zmc:=fun _ _ _ H _ I h=>ak ⟨H,I,h⟩
theorem zbq {X:Cx} {c:Expr} {t:TT} (h:PT X c t):zc4 X [c] t:=by
 intro pins s σ H Q I hw
 unfold zhN
 rw [et]
 simp only [if_true]
 exact ae (ae (thn (h pins s σ H _ I hw) fun b s1 q=>ak (ak q)))
structure CompSc (X:Cx) (N':List Str) (ix:List (Option Nat)) (scope:Scope):Prop where
 kind:scope.kind = .function
 cells:∀ y∈scope.names,y.2 = .cell→scope.names.lookup y.1=some .cell
 names:∀ y∈scope.names,y.2 = .local→scope.names.lookup y.1=some .local
 free:∀ y∈scope.names,y.2 = .free→X.env.kindOf y.1=some .cell∨X.env.kindOf y.1=some .free
 len:N'.length=ix.length
 cap:∀ j i:Nat,ix[j]? = some (some i)→∃ x,N'[j]? = some x∧X.N[i]? = some x∧scope.names.lookup x=some .free
def ziq (osc:Scope) (oN N':List Str) (ix:List (Option Nat)) (scope:Scope):Bool :=
 (scope.kind == .function) && (scope.names.all fun y=>y.2 != .cell || scope.names.lookup y.1 == some .cell) && (scope.names.all fun y=>y.2 != .local || scope.names.lookup y.1 == some .local) &&
 (scope.names.all fun y=>y.2 != .free || (osc.names.lookup y.1 == some .cell || osc.names.lookup y.1 == some .free)) && (N'.length == ix.length) &&
 ((aL ix.length).all fun j=>match ix[j]? with
  | some (some i)=>(match N'[j]? with
   | some x=>oN[i]? == some x && scope.names.lookup x == some .free
   | none=>false)
  | _=>true)
theorem CompSc.of {X:Cx} {N':List Str} {ix:List (Option Nat)} {scope:Scope} (osc:Scope) (oN:List Str) (h1:X.env.scope=osc) (h2:X.N=oN) (hb:ziq osc oN N' ix scope=true):CompSc X N' ix scope:=by
 unfold ziq at hb
 simp only [dY,d7] at hb
 obtain⟨⟨⟨⟨⟨a,b⟩,c⟩,d⟩,e⟩,f⟩:=hb
 refine⟨?_,fun y hy hl=>?_,fun y hy hl=>?_,fun y hy hf=>?_,by simpa using e,fun j i hj=>?_⟩
 ·revert a
  cases scope.kind <;> first | (intro _; rfl) | (intro h; exact absurd h (by decide))
 ·have:=b y hy
  rw [hl] at this
  simpa using this
 ·have:=c y hy
  rw [hl] at this
  simpa using this
 ·have:=d y hy
  rw [hf] at this
  have e1:X.env.kindOf y.1=osc.names.lookup y.1:=by rw [← h1]; rfl
  rw [e1]
  simpa using this
 ·have hlt:j < ix.length:=(az.mp hj).1
  have:=f j (bF.mpr hlt)
  rw [hj] at this
  cases hN:N'[j]? with
  | none =>
   rw [hN] at this
   simp at this
  | some x =>
   rw [hN] at this
   refine⟨x,rfl,?_⟩
   rw [h2]
   simpa using this
def zc5 (ix:List (Option Nat)) (σ:St):St:=ix.map fun o=>match o with
 | none=>none
 | some i=>(σ[i]?).join
theorem Inv.track {X:Cx} {pins:List (Addr×Obj)} {σ:St} {H:Hp} {s:Shared} {D:Addr} {o:HO} (I:Inv X pins σ H s) (hn:H D=none) (hs:X.s₀.heap.objs.size≤D) (hL:X.env.locals≠D)
  (hC:∀ x c,X.env.cells.lookup x=some c→c≠D) (hp:∀ p∈X.pn++pins,p.1≠D) (ok:zao X.prog X.w (upd H D o) s.heap D o):Inv X pins σ (upd H D o) s:=by
 have ne:∀ b u,H b=some u→b≠D:=fun b u e=>zy e hn
 refine⟨I.ok,I.os,I.bare,⟨I.base.keep,I.base.slot,fun b u e n hx=>?_,I.base.there,fun b xs e=>?_,fun b u xs e=>?_,fun b ps e=>?_⟩,I.loc,I.cell,?_,fun x c e=>?_,fun p hp'=>?_,fun b u e=>?_,I.len⟩
 ·have:b≠D:=bt (bg (aJ e) hs)
  rw [zq this]
  exact I.base.free b u e n hx
 ·have:=I.base.tups b xs e
  rw [zq (ne b _ this)]
  exact this
 ·have:=I.base.frzs b u xs e
  rw [zq (ne b _ this)]
  exact this
 ·obtain⟨more,q⟩:=I.base.tbls b ps e
  exact⟨more,by rw [zq (ne b _ q)]; exact q⟩
 ·rw [zq hL]
  exact I.free
 ·rw [zq (hC x c e)]
  exact I.freeC x c e
 ·obtain⟨a1,a2,a3⟩:=I.pin p hp'
  exact⟨a1,by rw [zq (hp p hp')]; exact a2,a3⟩
 ·by_cases hb:b=D
  ·subst hb
   rw [zc] at e
   cases e
   exact ok
  ·rw [zq hb] at e
   exact (I.hok b u e).stay (fun c v _ q=>q) (fun c q=>by rw [zq (ne c _ q)]; exact q) fun c xs q=>by rw [zq (ne c _ q)]; exact q
def cGo (g:TG) (ts:TT) (te:TE) (σ0:St) (J:It) (Q:VK) (H1:Hp):Prop :=
 ∃ W:Nat→Nat→List V→Hp→Prop,(∃ m,W 0 m [] H1)∧∀ i m ys H,W i m ys H →
  (J.stop i H∧∀ D,H D=none→Q (.ref D) (upd H D (.lst ys))) ∨
  (J.go i H∧∃ N:List V→Hp→Prop,(∀ ys' H',N ys' H'→∃ m',m' < m∧W (i+1) m' ys' H')∧∀ x H',J.yld i H x H'→g x σ0 H' fun σ2 H2=>ts σ2 H2 fun b H3 =>
   if b=true then te σ2 H3 fun y H4=>ys.length < sizeLine∧N (ys++[y]) H4 else N ys H3)
def znm (ix:List (Option Nat)) (wi:TI) (g:TG) (ts:TT) (te:TE):TE:=fun σ H Q=>wi σ H fun J H1=>cGo g ts te (zc5 ix σ) J Q H1
theorem zT {J:It} {n:Nat} {g:TG} {ts:TT} {te:TE} {σ0:St} {Q:VK} {H:Hp} (Pv:Nat→List V→Hp→Prop) (h0:Pv 0 [] H) (hgo:∀ i ys H,i < n→Pv i ys H→J.go i H) (hst:∀ ys H,Pv n ys H→J.stop n H)
  (hs:∀ i x ys H H',i < n→Pv i ys H→J.yld i H x H'→g x σ0 H' fun σ2 H2=>ts σ2 H2 fun b H3=>if b=true then te σ2 H3 fun y H4=>ys.length < sizeLine∧Pv (i+1) (ys++[y]) H4 else Pv (i+1) ys H3)
  (hd:∀ ys H D,Pv n ys H→H D=none→Q (.ref D) (upd H D (.lst ys))):cGo g ts te σ0 J Q H:=by
 refine⟨fun i m ys H=>m=n - i∧i≤n∧Pv i ys H,⟨n,by simp,aY _,h0⟩,?_⟩
 rintro i m ys H ⟨rfl,hi,p⟩
 by_cases hlt:i < n
 ·exact .inr ⟨hgo i ys H hlt p,Pv (i+1),fun ys' H' p'=>⟨n - (i+1),by lia,rfl,hlt,p'⟩,fun x H' y=>hs i x ys H H' hlt p y⟩
 ·have e:i=n:=by lia
  subst e
  exact .inl ⟨hst ys H p,fun D hD=>hd ys H D p hD⟩
theorem zhO {J:It} {n:Nat} {g:TG} {tb:TS} {D:Ends} {σ:St} {H:Hp} (Pv:Nat→St→Hp→Prop) (h0:Pv 0 σ H) (hgo:∀ i σ H,i < n→Pv i σ H→J.go i H) (hst:∀ σ H,Pv n σ H→J.stop n H)
  (hs:∀ i x σ H H',i < n→Pv i σ H→J.yld i H x H'→g x σ H' fun σ2 H2=>tb { D with nx:=Pv (i+1),ct:=Pv (i+1),bk:=D.nx } σ2 H2) (hd:∀ σ H,Pv n σ H→D.nx σ H) :
  ∃ W:Nat→Nat→St→Hp→Prop,(∃ m,W 0 m σ H)∧∀ i m σ H,W i m σ H →
   (J.stop i H∧D.nx σ H)∨(J.go i H∧∃ N:St→Hp→Prop,(∀ σ' H',N σ' H'→∃ m',m' < m∧W (i+1) m' σ' H')∧∀ x H',J.yld i H x H'→g x σ H' fun σ2 H2=>tb { D with nx:=N,ct:=N,bk:=D.nx } σ2 H2):=by
 refine⟨fun i m σ H=>m=n - i∧i≤n∧Pv i σ H,⟨n,by simp,aY _,h0⟩,?_⟩
 rintro i m σ H ⟨rfl,hi,p⟩
 by_cases hlt:i < n
 ·exact .inr ⟨hgo i σ H hlt p,Pv (i+1),fun σ' H' p'=>⟨n - (i+1),by lia,rfl,hlt,p'⟩,fun x H' y=>hs i x σ H H' hlt p y⟩
 ·have e:i=n:=by lia
  subst e
  exact .inl ⟨hst σ H p,hd σ H p⟩
end L2
end
section
namespace L2
open PySem PySem.Spec PyProof.Rows
abbrev TM:=List V→St→Hp→(List V→Hp→Prop)→Prop
abbrev zdN (its:List Value) (nn:Nat):Obj:={ cls:=.type "list",data:=.seq its.toArray nn }
structure AccAt (Y:Cx) (pins:List (Addr×Obj)) (H:Hp) (s:Shared) (D:Addr) (ys:List V) (its:List Value) (nn:Nat):Prop where
 fp:zbU Y pins H D
 here:s.heap.get? D=some (zdN its nn)
 vals:zL ys its
 len:ys.length≤sizeLine
def zfW (js:List Nat) (σ:St):Prop:=∀ j∈js,∀ v,σ[j]?≠some (some v)
def Kp (js:List Nat) (σ σ2:St):Prop:=σ2.length=σ.length∧∀ j,j∉js→σ2[j]? = σ[j]?
theorem Kp.refl {js:List Nat} {σ:St}:Kp js σ σ:=⟨rfl,fun _ _=>rfl⟩
theorem Kp.set {js:List Nat} {σ σ2:St} {i:Nat} {v:Option V} (hi:i∈js) (h:Kp js σ σ2):Kp js σ (σ2.set i v):=by
 refine⟨by rw [fj]; exact h.1,fun j hj=>?_⟩
 rw [dR (fun z=>hj (by rw [← z]; exact hi))]
 exact h.2 j hj
def GS (js:List Nat) (g:TG):Prop:=∀ (σ σ1:St) (x:V) (H:Hp) (Q:St→Hp→Prop),Kp js σ σ1→g x σ1 H Q→g x σ1 H fun σ2 H2=>Kp js σ σ2∧Q σ2 H2
def GSs (js:List Nat) (g:TGs):Prop:=∀ (σ σ1:St) (xs:List V) (H:Hp) (Q:St→Hp→Prop),Kp js σ σ1→g xs σ1 H Q→g xs σ1 H fun σ2 H2=>Kp js σ σ2∧Q σ2 H2
theorem zcy {js:List Nat} {i:Nat} (hi:i∈js):GS js (zaT i):=fun σ σ1 x H Q hw h=>⟨hw.set hi,h⟩
theorem zir {js:List Nat}:GSs js zhE:=fun σ σ1 xs H Q hw h=>⟨h.1,hw,h.2⟩
theorem zei {js:List Nat} {i:Nat} {u:TGs} (hi:i∈js) (h2:GSs js u):GSs js (zb0 (zaT i) u):=fun σ σ1 xs H Q hw h=>by
 obtain⟨v,r,e,h⟩:=h
 exact⟨v,r,e,h2 σ _ r H Q (hw.set hi) h⟩
theorem zkp {js:List Nat} {K:ag} {n:Nat} {t:TGs} (h:GSs js t):GS js (zgJ K n t):=fun σ σ1 x H Q hw hg=>by
 obtain⟨a,xs,e,hq,hl,hg⟩:=hg
 exact⟨a,xs,e,hq,hl,h σ σ1 xs H Q hw hg⟩
theorem Inv.fewer {X:Cx} {pins pins':List (Addr×Obj)} {σ:St} {H:Hp} {s:Shared} (I:Inv X pins σ H s) (h:∀ p∈pins',p∈pins):Inv X pins' σ H s :=
 I.pins_of fun p hp=>I.pin p (aG _ (h p hp))
section
variable {Y:Cx} {pins:List (Addr×Obj)} {σ:St} {H:Hp} {s:Shared} {D:Addr} {ys:List V} {its:List Value} {nn:Nat}
theorem AccAt.pin (a:AccAt Y pins H s D ys its nn) (I:Inv Y pins σ H s):Inv Y (pins++[(D,zdN its nn)]) σ H s :=
 I.pins_of fun p hp=>by
  rcases (aW.mp hp) with hp | hp
  ·exact I.pin p (aG _ hp)
  ·obtain rfl:p=(D,zdN its nn):=by simpa using hp
   obtain⟨a0,a1,a2,_⟩:=a.fp
   exact⟨a.here,a0,a1,a2,fun v z=>by cases z⟩
theorem AccAt.back {pins':List (Addr×Obj)} {σ':St} {H':Hp} {s':Shared} (a:AccAt Y pins H s D ys its nn) (I:Inv Y pins' σ' H' s') (hm:(D,zdN its nn)∈pins'):AccAt Y pins H' s' D ys its nn:=by
 have p:=I.pin (D,zdN its nn) (aG _ hm)
 exact⟨⟨p.2.1,a.fp.2⟩,p.1,a.vals,a.len⟩
end
def PM (Y:Cx) (D:Addr) (js:List Nat) (mk:Sem Fin→Sem Fin) (tm:TM):Prop :=
 ∀ (last:Sem Fin) (pins:List (Addr×Obj)) (s:Shared) (σ:St) (H:Hp) (ys:List V) (its:List Value) (nn:Nat) (Q:List V→Hp→Prop) (Φ:Fin→Shared→Prop),Inv Y pins σ H s→AccAt Y pins H s D ys its nn→zfW js σ→tm ys σ H Q →
  (∀ (s':Shared) (ys':List V) (its':List Value) (nn':Nat) (H':Hp),Inv Y pins σ H' s'→AccAt Y pins H' s' D ys' its' nn'→Q ys' H'→wpAny (model Y.prog Y.w) Y.A last Φ (fun _ _=>False) s') →
  wpAny (model Y.prog Y.w) Y.A (mk last) Φ (fun _ _=>False) s
def zfr (elt:Expr) (acc:Value) (env:Env) (last:Sem Fin):Sem Fin:=(eval elt env >>= fun x=>call (.builtin "list.append") [acc,x] >>= fun _=>pure ()) >>= fun _=>last
def zis (e iter:Expr) (d:Nat) (acc:Value) (env:Env) (last:Sem Fin):Sem Fin :=
 eval iter env >>= fun x=>standAt iter.pos >>= fun _=>foldedSetIterable iter env x >>= fun x=>holding [x] (pyIter x) >>= fun itv=>runOwn (.compStart e d itv acc env) env >>= fun _=>last
def zit (te:TE):TM:=fun ys σ H Q=>te σ H fun y H4=>ys.length < sizeLine∧Q (ys++[y]) H4
def cIn (g:TG) (ts:TT) (tm:TM) (σ:St) (J:It) (Q:List V→Hp→Prop) (ys:List V) (H1:Hp):Prop :=
 ∃ W:Nat→Nat→List V→Hp→Prop,(∃ m,W 0 m ys H1)∧∀ i m ys H,W i m ys H →
  (J.stop i H∧Q ys H) ∨
  (J.go i H∧∃ N:List V→Hp→Prop,(∀ ys' H',N ys' H'→∃ m',m' < m∧W (i+1) m' ys' H')∧∀ x H',J.yld i H x H'→g x σ H' fun σ2 H2=>ts σ2 H2 fun b H3 =>
   if b=true then tm ys σ2 H3 N else N ys H3)
def ziu (wi:TI) (g:TG) (ts:TT) (tm:TM):TM:=fun ys σ H Q=>wi σ H fun J H1=>cIn g ts tm σ J Q ys H1
def zfX (ix:List (Option Nat)) (wi:TI) (g:TG) (ts:TT) (tm:TM):TE:=fun σ H Q=>wi σ H fun J H1=>cIn g ts tm (zc5 ix σ) J (fun ys H'=>∀ D,H' D=none→Q (.ref D) (upd H' D (.lst ys))) [] H1
theorem thx {α:Type} {X:Cx} {m:Sem α} {P Q:α→Shared→Prop} {E:Value→Shared→Prop} {s:Shared} (hx:X.xe=fun _ _=>False) (h:wpAny (model X.prog X.w) X.A m P X.xe s) (k:∀ a s',P a s'→Q a s'):wpAny (model X.prog X.w) X.A m Q E s :=
 cS h k fun _ _ z=>by rw [hx] at z; exact z.elim
theorem zhP {Y:Cx} {D:Addr} {elt:Expr} {te:TE} (hx:Y.xe=fun _ _=>False) (he:PE Y elt te):PM Y D [] (zfr elt (.ref D) Y.env) (zit te):=by
 intro last pins s σ H ys its nn Q Φ I a no h k
 unfold zfr
 refine ae (ae (thx hx (he (pins++[(D,zdN its nn)]) s σ H _ (a.pin I) h) fun yv s1 ⟨y,H1,I1,r1,hz,q1⟩=>ae ?_))
 have a1:=a.back I1 (aG _ aF)
 have J1:Inv Y pins σ H1 s1:=I1.fewer fun p hp=>aS _ hp
 have hvl:=a1.vals.length
 refine dF jD ⟨_,a1.here,rfl⟩ jq (jd _ _) (jN D its.toArray nn yv (by rw [aj]; lia)) ⟨a1.here,?_⟩
 refine ak ?_
 have q:=j1 a1.here (·.push yv)
 have k10:∀ b o,b≠D→s1.heap.get? b=some o→(s1.heap.update D (dj (·.push yv))).get? b=some o:=fun b o hb e=>(fU s1.heap (dj (·.push yv)) (dW hb)).trans e
 obtain⟨b0,b1,b2,b3,b4,b5⟩:=a1.fp
 have I11:Inv Y pins σ H1 { s1 with heap:=s1.heap.update D (dj (·.push yv)) }:=J1.turned (t':=s1.toks) k10 b0 b1 b3 b4 b5
 have e1:its.toArray.push yv=(its++[yv]).toArray:=by simp
 rw [e1] at q
 refine k _ (ys++[y]) (its++[yv]) _ H1 I11 ⟨a1.fp,q,a1.vals.append (.cons r1 .nil),?_⟩ q1
 rw [ao,f8]
 lia
section
variable {Y:Cx} {D:Addr} {js js':List Nat} {elt:Expr} {gens:List Comprehension} {scope:Scope} {pos:Pos} {d:Nat} {tg:Expr} {ifs:List Expr} {p:Pos} {mk:Sem Fin→Sem Fin} {g:TG} {ts:TT} {tm:TM}
def zcb (tg:Expr) (ifs:List Expr) (p:Pos) (mk:Sem Fin→Sem Fin) (c:Code) (it:Value) (env:Env):Sem Fin :=
 standAt p >>= fun _=>pyNext it >>= fun r=>match r with
  | none=>pure (.done .next)
  | some v=>letOwnedTupleGo tg it v >>= fun _=>assign tg env v >>= fun _=>zhN ifs env >>= fun ok=>if ok=true then mk (again c) else again c
theorem ziv (hc:Y.calm=true) (hx:Y.xe=fun _ _=>False) (hgs:GS js g) (hdis:∀ j∈js,j∉js') (hg:PG Y tg g) (ht:zc4 Y ifs ts) (hm:PM Y D js' mk tm)
  (hturn:∀ it,compTurn (.ListComp elt gens scope pos) d it (.ref D) Y.env=zcb tg ifs p mk (.compLoop (.ListComp elt gens scope pos) d it (.ref D) Y.env) it Y.env)
  {pins:List (Addr×Obj)} {σ:St} {H2:Hp} {s2:Shared} {it:Addr} {fp:List Addr} {tn:Nat→Heap→Prop} {J:It} {Q:List V→Hp→Prop} {R:Result→Shared→Prop} {ys:List V} {its:List Value} {nn:Nat}
  (I2:Inv Y pins σ H2 s2) (a2:AccAt Y pins H2 s2 D ys its nn) (no:zfW (js++js') σ) (T:Turn Y.prog Y.w Y.K tg J fp it tn) (st2:tn 0 s2.heap) (f2:∀ b∈fp,zbU Y pins H2 b) (fD:∀ b∈fp,b≠D) (q:cIn g ts tm σ J Q ys H2)
  (hR:∀ (s':Shared) (ys':List V) (its':List Value) (nn':Nat) (H':Hp),Inv Y pins σ H' s'→AccAt Y pins H' s' D ys' its' nn'→Q ys' H'→R (.ok .next) s') :
  codeAny (model Y.prog Y.w) Y.A (.compLoop (.ListComp elt gens scope pos) d (.ref it) (.ref D) Y.env) R s2:=by
 obtain⟨W,⟨m0,w0⟩,turn⟩:=q
 have fpY:∀ {H':Hp} {its:List Value} {nn:Nat},(∀ b∈fp,H' b=none)→∀ b∈fp,zbU Y (pins++[(D,zdN its nn)]) H' b:=fun {H' its nn} hn b hb=>by
  obtain⟨_,a1,a2,a3,a4,a5⟩:=f2 b hb
  refine⟨hn b hb,a1,a2,a3,a4,fun p hp=>?_⟩
  rcases (aW.mp hp) with hp | hp
  ·exact a5 p (aS _ hp)
  ·rcases (aW.mp hp) with hp | hp
   ·exact a5 p (aG _ hp)
   ·obtain rfl:p=(D,zdN its nn):=by simpa using hp
    exact (fD b hb).symm
 refine codeAny_loop rfl (fun n s'=>∃ i ys H' its nn,Inv Y pins σ H' s'∧tn i s'.heap∧(∀ b∈fp,H' b=none)∧AccAt Y pins H' s' D ys its nn∧W i n ys H') ?_ m0
  ⟨0,ys,H2,its,nn,I2,st2,fun b hb=>(f2 b hb).1,a2,w0⟩
 rintro n s5 ⟨i,ys,H5,its,nn,I5,st5,fr5,a5,w5⟩
 show wpAny _ Y.A ((compTurn (.ListComp elt gens scope pos) d (.ref it) (.ref D) Y.env).onRaise (fun x=>do noteFrame x Y.env; theTreesLotGoes x)) _ _ s5
 refine wpAny_noted ?_
 rw [hturn]
 unfold zcb
 have I5p:=a5.pin I5
 (refine ae (fc (ae ?_)))
 rcases turn i n ys H5 w5 with ⟨stop,qn⟩ | ⟨go,N,hN,step⟩
 ·refine cS (T.done Y rfl rfl rfl hc i _ s5 _ H5 (fun _ _=>False) I5p (fpY fr5) st5 stop) (fun r s6 ⟨hr,I6⟩=>?_) fun _ _ z=>z.elim
  subst hr
  exact ak (hR s6 ys its nn H5 (I6.fewer fun p hp=>aS _ hp) (a5.back I6 (aG _ aF)) qn)
 ·refine cS (T.item Y rfl rfl rfl hc i _ s5 _ H5 (fun _ _=>False) I5p (fpY fr5) st5 go) (fun r s6 ⟨u,hr,h6⟩=>?_) fun _ _ z=>z.elim
  subst hr
  refine ae (cS h6 (fun _ s7 ⟨x,H7,I7,r7,y7,st7,fr7⟩=>?_) fun _ _ z=>z.elim)
  have I7':=I7.pinned (fpY fr7) (T.obj _ _ st7)
  refine ae (thx hx (hg _ s7 _ H7 x u _ I7' r7 (hgs σ σ x H7 _ Kp.refl (step x H7 y7))) fun _ s8 ⟨σ8,H8,I8,kp,q8⟩=>?_)
  refine ae (thx hx (ht _ s8 σ8 H8 _ I8 q8) fun ok s9 ⟨H9,I9,q9⟩=>?_)
  have mD:(D,zdN its nn)∈(pins++[(D,zdN its nn)])++zcn fp s7.heap:=aS _ (aG _ aF)
  have a9:=a5.back I9 mD
  have K9:Inv Y (pins++zcn fp s7.heap) σ8 H9 s9:=I9.fewer fun p hp=>(aW.mp hp).elim (fun z=>aS _ (aS _ z)) fun z=>aG _ z
  have wk:∀ (j:Nat) v,σ[j]? = some (some v)→σ8[j]? = some (some v):=fun j v e=>by
   have hj:j∉js:=fun z=>no j (aS _ z) v e
   rw [kp.2 j hj]
   exact e
  have back:∀ {H':Hp} {s':Shared},Inv Y (pins++zcn fp s7.heap) σ8 H' s'→Inv Y pins σ H' s'∧tn (i+1) s'.heap∧∀ b∈fp,H' b=none:=fun {H' s'} I'=>by
   refine⟨(I'.fewer fun p hp=>aS _ hp).weak kp.1.symm wk,T.keep _ _ _ st7 fun b hb o e=>(I'.pin (b,o) (aG _ (aG _ (zb7 hb e)))).1,fun b hb=>?_⟩
   obtain⟨o,e,d⟩:=T.obj _ _ st7 b hb
   exact (I'.pin (b,o) (aG _ (aG _ (zb7 hb e)))).2.1
  cases ok with
  | false =>
   rw [if_neg aN] at q9 ⊢
   obtain⟨m',hm',w9⟩:=hN _ _ q9
   obtain⟨b1,b2,b3⟩:=back K9
   exact ak ⟨rfl,m',hm',i+1,ys,H9,its,nn,b1,b2,b3,a9,w9⟩
  | true =>
   rw [if_pos rfl] at q9 ⊢
   have a9':AccAt Y (pins++zcn fp s7.heap) H9 s9 D ys its nn:=by
    obtain⟨b0,b1,b2,b3,b4,b5⟩:=a9.fp
    refine⟨⟨b0,b1,b2,b3,b4,fun p hp=>?_⟩,a9.here,a9.vals,a9.len⟩
    rcases (aW.mp hp) with hp | hp
    ·exact b5 p (aS _ hp)
    ·rcases (aW.mp hp) with hp | hp
     ·exact b5 p (aG _ hp)
     ·exact fD _ (zfg hp).1
   have no':zfW js' σ8:=fun j hj v e=>by
    have hj':j∉js:=fun z=>hdis j z hj
    rw [kp.2 j hj'] at e
    exact no j (aG _ hj) v e
   refine cS (hm (again _) _ s9 σ8 H9 ys its nn N (fun fin s'=>match fin with | .done f=>R (.ok f) s' | .again c'=>c'=_∧∃ m,m < n∧_) K9 a9' no' q9 fun s' ys' its' nn' H' I' a' n'=>?_) (fun _ _ z=>z) fun _ _ z=>z.elim
   obtain⟨m',hm',w'⟩:=hN _ _ n'
   obtain⟨b1,b2,b3⟩:=back I'
   obtain⟨c0,c1,c2,c3,c4,c5⟩:=a'.fp
   refine ak ⟨rfl,m',hm',i+1,ys',H',its',nn',b1,b2,b3,⟨⟨c0,c1,c2,c3,c4,fun p hp=>?_⟩,a'.here,a'.vals,a'.len⟩,w'⟩
   rcases (aW.mp hp) with hp | hp
   ·exact c5 p (aS _ hp)
   ·exact c5 p (aG _ (aS _ hp))
theorem zgN {prog:Program} {w:World} {A:Around} {R:Result→Shared→Prop} {s:Shared} {iter:Expr} {it acc:Value} {env:Env} (hd:gens[d]? = some ⟨tg,iter,ifs,0⟩)
  (h0:codeAny (model prog w) A (.compLoop (.ListComp elt gens scope pos) d it acc env) R s)
  (h:wpAny (model prog w) A (pyIter it) (fun it' s'=>codeAny (model prog w) A (.compLoop (.ListComp elt gens scope pos) d it' acc env) R s') (fun _ _=>False) s) :
  codeAny (model prog w) A (.compStart (.ListComp elt gens scope pos) d it acc env) R s:=by
 refine codeAny_of_tree ?_
 show wpAny _ _ ((compStart (.ListComp elt gens scope pos) d it acc env).onRaise (fun x=>do noteFrame x env; standAt theWindowsPlace)) _ _ s
 refine wpAny_notedAt ?_
 unfold compStart
 have e1:(clausesOf (.ListComp elt gens scope pos))[d]? = some ⟨tg,iter,ifs,0⟩:=hd
 rw [e1]
 (show wpAny _ _ (ask >>= _) _ _ s)
 (refine ae (wpAny_askSetting (wpAny_ite ?_)))
 split
 ·first
   | (exact ae (ak (ak ⟨rfl,h0⟩)))
   | (exact ak ⟨rfl,h0⟩)
 ·first
   | exact ae (cg (ae (fc (ae (cS h (fun it' s' h'=>ak (And.intro rfl h')) fun _ _ x=>x.elim)))))
   | (refine ae (cg ?_); show wpAny _ _ (standAt iter.pos >>= _) _ _ s; exact ae (fc (ae (cS h (fun it' s' h'=>ak (And.intro rfl h')) fun _ _ x=>x.elim))))
theorem znT {iter:Expr} {wi:TI} (hc:Y.calm=true) (hx:Y.xe=fun _ _=>False) (hgs:GS js g) (hdis:∀ j∈js,j∉js') (hi:PI Y tg iter wi) (hg:PG Y tg g) (ht:zc4 Y ifs ts) (hm:PM Y D js' mk tm) (hd:gens[d]? = some ⟨tg,iter,ifs,0⟩)
  (hturn:∀ it,compTurn (.ListComp elt gens scope pos) d it (.ref D) Y.env=zcb tg ifs p mk (.compLoop (.ListComp elt gens scope pos) d it (.ref D) Y.env) it Y.env)
  (hs:∀ x,foldedSetIterable iter Y.env x=pure x:=by intro _; rfl) :
  PM Y D (js++js') (zis (.ListComp elt gens scope pos) iter d (.ref D) Y.env) (ziu wi g ts tm):=by
 intro last pins s σ H ys its nn Q Φ I a no h k
 unfold zis
 refine ae (thx hx (hi (pins++[(D,zdN its nn)]) s σ H _ (a.pin I) h) fun v s1 h1=>ae (fc (ae ?_)))
 rw [hs v]
 refine ak (ae (bQ (thx hx h1 fun itv s2 h2=>?_)))
 obtain⟨it,fp,tn,J,H2,e,I2,T,st2,f2,q⟩:=h2
 subst e
 have a2:=a.back I2 (aG _ aF)
 have J2:Inv Y pins σ H2 s2:=I2.fewer fun p hp=>aS _ hp
 have f2':∀ b∈fp,zbU Y pins H2 b:=fun b hb=>by
  obtain⟨c0,c1,c2,c3,c4,c5⟩:=f2 b hb
  refine⟨c0,c1,c2,c3,c4,fun p hp=>?_⟩
  rcases (aW.mp hp) with hp | hp
  ·exact c5 p (aS _ hp)
  ·exact c5 p (aG _ (aS _ hp))
 have fD:∀ b∈fp,b≠D:=fun b hb=>((f2 b hb).2.2.2.2.2 (D,zdN its nn) (aG _ (aG _ aF))).symm
 have loop:codeAny (model Y.prog Y.w) Y.A (.compLoop (.ListComp elt gens scope pos) d (.ref it) (.ref D) Y.env) (fun r s'=>match r with | .ok f=>wpAny (model Y.prog Y.w) Y.A last Φ (fun _ _=>False) s' | .error e=>cameBackBy (model Y.prog Y.w) Y.A Y.env (fun _ _=>False) e s') s2 :=
  ziv hc hx hgs hdis hg ht hm hturn J2 a2 no T st2 f2' fD q fun s' ys' its' nn' H' I' a' q'=>k s' ys' its' nn' H' I' a' q'
 exact ae (wpAny_runOwn (zgN hd loop (T.self _ 0 _ _ _ st2 loop)))
end
section
variable {X:Cx} {elt tg iter:Expr} {ifs:List Expr} {gs:List Comprehension} {scope:Scope} {pos:Pos} {N':List Str} {ix:List (Option Nat)} {js js':List Nat} {g:TG} {ts:TT} {tm:TM} {mk:Addr→Env→Sem Fin→Sem Fin}
theorem zdG {pins:List (Addr×Obj)} {σ:St} {H2:Hp} {s2:Shared} {it:Addr} {fp:List Addr} {tn:Nat→Heap→Prop} {J:It} {Q:VK} {E:Value→Shared→Prop} {RR:Value→Addr→Result→Shared→Prop}
  (SC:CompSc X N' ix scope) (hc:X.calm=true) (hgs:GS js g) (hdis:∀ j∈js,j∉js') (hjs:∀ j∈js++js',ix[j]? = some none)
  (hg:∀ s₃ H₃ ex pins,PG (zI X N' scope s₃ H₃ ex pins) tg g) (ht:∀ s₃ H₃ ex pins,zc4 (zI X N' scope s₃ H₃ ex pins) ifs ts) (hm:∀ s₃ H₃ ex pins D,PM (zI X N' scope s₃ H₃ ex pins) D js' (mk D (zI X N' scope s₃ H₃ ex pins).env) tm)
  (hturn:∀ it D env,compTurn (.ListComp elt (⟨tg,iter,ifs,0⟩ :: gs) scope pos) 0 it (.ref D) env=zcb tg ifs iter.pos (mk D env) (.compLoop (.ListComp elt (⟨tg,iter,ifs,0⟩ :: gs) scope pos) 0 it (.ref D) env) it env)
  (I2:Inv X pins σ H2 s2) (T:Turn X.prog X.w X.K tg J fp it tn) (st2:tn 0 s2.heap) (f2:∀ b∈fp,zbU X pins H2 b) (q:cIn g ts tm (zc5 ix σ) J (fun ys H'=>∀ D,H' D=none→Q (.ref D) (upd H' D (.lst ys))) [] H2)
  (hRR:∀ (D C:Addr) (s':Shared) (ys:List V) (H':Hp) (m:Str→Option Value),Inv X pins σ (upd H' D (.lst ys)) s'→zbU X pins (upd H' D (.lst ys)) C→s'.heap.Ns C m→Q (.ref D) (upd H' D (.lst ys))→RR (.ref D) C (.ok .next) s') :
  wpAny (model X.prog X.w) X.A (newList []) (fun acc s₃=>wpAny (model X.prog X.w) X.A (newFunctionEnv scope X.env.globals (zaf X.env.cells scope.names []) [] X.env.qual none .none (some X.env)) (fun cenv s₄ =>
   codeAny (model X.prog X.w) X.A (.compStart (.ListComp elt (⟨tg,iter,ifs,0⟩ :: gs) scope pos) 0 (.ref it) acc { cenv with scope:=relabel scope X.env }) (RR acc cenv.locals) s₄) E s₃) E s2:=by
 have hfr:∀ y∈scope.names,y.2 = .free→∃ c,X.env.cells.lookup y.1=some c:=fun y hy hf=>I2.ok.has y.1 (SC.free y hy hf)
 have hcl:∀ x c,(zaf X.env.cells scope.names []).lookup x=some c→X.env.cells.lookup x=some c:=zbV scope.names [] hfr (fun x c e=>by simp at e)
 refine bM (zjs ?_)
 have I3:Inv X pins σ H2 { s2 with heap:=s2.heap.push { cls:=.type "list",dict:=none,data:=.seq ([]:List Value).toArray } }:=I2.kept (t':=s2.toks) fun b o e=>ai _ e
 have hD3:(s2.heap.push { cls:=.type "list",dict:=none,data:=.seq ([]:List Value).toArray }).get? s2.heap.objs.size=some { cls:=.type "list",dict:=none,data:=.seq ([]:List Value).toArray }:=aI _ rfl
 have hst3:tn 0 (s2.heap.push { cls:=.type "list",dict:=none,data:=.seq ([]:List Value).toArray }):=T.keep _ _ _ st2 fun b hb o e=>ai _ e
 have hsz3:(s2.heap.push { cls:=.type "list",dict:=none,data:=.seq ([]:List Value).toArray }).objs.size=s2.heap.objs.size+1:=bL _ _
 generalize hh3:s2.heap.push { cls:=.type "list",dict:=none,data:=.seq ([]:List Value).toArray }=h3 at *
 have hfpO:=T.obj _ _ st2
 have hfpLt:∀ b∈fp,b < s2.heap.objs.size:=fun b hb=>by obtain⟨o,e,_⟩:=hfpO b hb; exact aJ e
 have stk:∀ b∈frs X.stack,b=X.env.locals∨b∈X.fs:=fun b hb=>aD.mp (I2.stkSub b hb)
 have hDok:zbU X pins H2 s2.heap.objs.size:=I2.fpOk (af _) I2.fresh
 have exOk:∀ b∈s2.heap.objs.size :: fp,zbU X pins H2 b:=fun b hb=>by
  rcases (aD.mp hb) with e | hb
  ·rw [e]; exact hDok
  ·exact f2 b hb
 have exLt:∀ b∈s2.heap.objs.size :: fp,b < h3.objs.size:=fun b hb=>by
  rw [hsz3]
  rcases (aD.mp hb) with e | hb; · rw [e]; exact j3 _
  ·exact eE (hfpLt b hb)
 have exStk:∀ b∈s2.heap.objs.size :: fp,b∉frs X.stack:=fun b hb z=>by
  obtain⟨_,a1,a2,_⟩:=exOk b hb
  rcases stk b z with e | e
  ·exact a1 e
  ·exact a2 e
 have hns₁:(pushCells (h3.push { cls:=.type "dict",data:=.dict #[] }) scope.names).Ns h3.objs.size (fun _=>none):=(Heap.Ns.new h3 (.type "dict")).keeps (pushCells_keeps _ _)
 have old:∀ b o,h3.get? b=some o→(pushCells (h3.push { cls:=.type "dict",data:=.dict #[] }) scope.names).get? b=some o:=fun b o e=>pushCells_keeps _ _ b o (ai _ e)
 have cOld:∀ x c,X.env.cells.lookup x=some c→c < h3.objs.size:=fun x c e=>by
  obtain⟨v,q⟩:=I3.cell x c e
  exact q.lt
 have co:CO (pushCells (h3.push { cls:=.type "dict",data:=.dict #[] }) scope.names) (h3.objs.size+1) (zaf X.env.cells scope.names []) (cellsFrom (h3.objs.size+1) scope.names (zaf X.env.cells scope.names [])):=by
  have:=zko (lo:=h3.objs.size+1) (old:=zaf X.env.cells scope.names []) scope.names (h3.push { cls:=.type "dict",data:=.dict #[] }) (zaf X.env.cells scope.names [])
   ⟨fun x c e=>.inr ⟨e,eE (cOld x c (hcl x c e))⟩,fun x y c e1 e2=>I2.ok.inj x y c (hcl x c e1) (hcl y c e2)⟩ (by rw [bL]; exact af _)
  rw [bL] at this
  exact this
 generalize pushCells (h3.push { cls:=.type "dict",data:=.dict #[] }) scope.names=h₁ at hns₁ old co ⊢
 have clo:∀ {x c},(cellsFrom (h3.objs.size+1) scope.names (zaf X.env.cells scope.names [])).lookup x=some c→(h₁.IsCell c none∧h3.objs.size+1≤c)∨X.env.cells.lookup x=some c:=fun {x c} e=>(co.each x c e).elim .inl fun z=>.inr (hcl x c z.1)
 have cfr:∀ x,scope.names.lookup x=some .free→(cellsFrom (h3.objs.size+1) scope.names (zaf X.env.cells scope.names [])).lookup x=(zaf X.env.cells scope.names []).lookup x:=fun x hx=>zfU _ _ _ _ fun z=>by
  have:=SC.cells _ z rfl
  rw [hx] at this
  cases this
 let s3:Shared:={ s2 with heap:=h3 }
 let Y:Cx:=zI X N' scope s3 H2 (s2.heap.objs.size :: fp) pins
 have I3':Inv X pins σ H2 s3:=I3
 have okY:Y.Ok:=by
  refine⟨I2.ok.mod,SC.kind,I2.ok.glob,I2.ok.blt,af _,co.inj,fun x hx=>?_,fun x c z e=>?_,I2.ok.hd,I2.ok.frames,.inl rfl,fun b hb=>?_,fun b o e=>I3'.bs b o e,?_,fun b o e hb=>?_,exStk,I3'.stack,I3'.stkFree⟩
  ·have hx':=zc3 (env:=X.env) (names:=scope.names) (x:=x) hx
   rcases hx' with hx' | hx'
   ·obtain⟨c,e⟩:=zca (cs:=X.env.cells) scope.names [] x (.inr (lookup_mem hx'))
    exact⟨c,(cfr x hx').trans e⟩
   ·obtain⟨c,e,_⟩:=zfV scope.names (h3.objs.size+1) (zaf X.env.cells scope.names []) x (lookup_mem hx')
    exact⟨c,e⟩
  ·obtain⟨c',e',l'⟩:=zfV scope.names (h3.objs.size+1) (zaf X.env.cells scope.names []) x (lookup_mem (by have z':(scope.names.lookup x == some cT)=true:=z; simpa using z'))
   have e2:(cellsFrom (h3.objs.size+1) scope.names (zaf X.env.cells scope.names [])).lookup x=some c:=e
   rw [e'] at e2
   cases e2
   exact gU l'
  ·refine⟨bt (exLt b hb),fun x c e=>(clo e).elim (fun z y=>?_) fun z=>(exOk b hb).2.2.2.2.1 x c z⟩
   subst y
   exact cu _ (bg (exLt _ hb) (gU z.2))
  ·exact aZ I2.ok.bsz I3'.sz
  ·obtain⟨_,_,_,a3,_⟩:=exOk b hb
   rcases a3 with z | z
   ·exact I2.ok.noex b o e z
   ·have:=(I2.ok.bs b o e).1
    exact absurd (bg (aJ this) z) (cu _)
 have inv4:Inv Y [] (zc5 ix σ) H2 { s3 with heap:=h₁ }:=by
  refine⟨okY,rfl,I2.bare,Un.kept old,⟨_,hns₁,fun j x v e1 e2 e3=>?_⟩,fun x c e=>?_,I3'.fresh,fun x c e=>(clo e).elim (fun z=>I3'.hok.fresh (gU z.2)) fun z=>I2.freeC x c z,fun p hp=>?_,I3'.hok.kept old,?_⟩
  ·unfold zc5 at e2
   rw [ah] at e2
   cases hj:ix[j]? with
   | none=>rw [hj] at e2; simp at e2
   | some oi =>
    rw [hj] at e2
    cases oi with
    | none=>simp at e2
    | some i =>
     obtain⟨y,h1,h2,h3'⟩:=SC.cap j i hj
     have hxy:y=x:=by
      have e1':N'[j]? = some x:=e1
      rw [h1] at e1'
      exact aO e1'
     subst hxy
     have e2':(σ[i]?).join=some v:=by simpa using e2
     have e2'':σ[i]? = some (some v):=by
      cases hs:σ[i]? with
      | none=>rw [hs] at e2'; simp at e2'
      | some w=>rw [hs] at e2'; simp at e2'; rw [e2']
     obtain⟨m,hn,hl⟩:=I3'.loc
     have hk:=SC.free (y,.free) (lookup_mem h3') rfl
     have hvis:Vis X.env.scope y:=hk.elim (fun z=>.inr (.inl z)) fun z=>.inr (.inr z)
     obtain⟨u,r,l⟩:=hl i y v h2 e2'' hvis
     refine⟨u,r,.inr ⟨zbz h3',?_⟩⟩
     obtain⟨c,hcc⟩:=zca (cs:=X.env.cells) scope.names [] y (.inr (lookup_mem h3'))
     refine⟨c,(cfr y h3').trans hcc,?_⟩
     rcases l with ⟨hk',_⟩ | ⟨_,c',hc',hcell⟩
     ·rcases hk with hk | hk
      ·have hk2:X.env.kindOf y=some .cell:=hk
       rw [hk2] at hk'; cases hk'
      ·have hk2:X.env.kindOf y=some .free:=hk
       rw [hk2] at hk'; cases hk'
     ·have:=hcl y c hcc
      rw [hc'] at this
      cases this
      obtain⟨o,ho,hd⟩:=hcell
      exact⟨o,old _ _ ho,hd⟩
  ·rcases clo e with z | z
   ·exact⟨_,z.1⟩
   ·obtain⟨v,o,ho,hd⟩:=I3'.cell x c z
    exact⟨v,o,old _ _ ho,hd⟩
  ·have hp':p∈X.pn++pins:=by
    have:p∈(X.pn++pins)++([]:List (Addr×Obj)):=hp
    simpa using this
   obtain⟨a1,a2,a3,a4,a5⟩:=I3'.pin p hp'
   exact⟨old _ _ a1,a2,bt (aJ a1),fun z=>(stk _ z).elim a3 a4,a5⟩
  ·unfold zc5
   rw [ab]
   exact SC.len.symm
 have fpY:∀ {H':Hp},(∀ b∈s2.heap.objs.size :: fp,H' b=none)→∀ b∈s2.heap.objs.size :: fp,zbU Y [] H' b:=fun {H'} hn b hb=>by
  obtain⟨_,a1,a2,a3,a4,a5⟩:=exOk b hb
  refine⟨hn b hb,bt (exLt b hb),exStk b hb,.inl hb,(okY.exf b hb).2,fun p hp=>?_⟩
  have:p∈(X.pn++pins)++([]:List (Addr×Obj)):=hp
  exact a5 p (by simpa using this)
 have nn2:∀ b∈s2.heap.objs.size :: fp,H2 b=none:=fun b hb=>(exOk b hb).1
 have noA:zfW (js++js') (zc5 ix σ):=fun j hj v e=>by
  unfold zc5 at e
  rw [ah,hjs j hj] at e
  simp at e
 have loop:∀ s₅:Shared,s₅ = { s2 with heap:=h₁ } →
   codeAny (model X.prog X.w) X.A (.compLoop (.ListComp elt (⟨tg,iter,ifs,0⟩ :: gs) scope pos) 0 (.ref it) (.ref s2.heap.objs.size) (compEnvC scope (cellsFrom (h3.objs.size+1) scope.names (zaf X.env.cells scope.names [])) h3.objs.size X.env)) (RR (.ref s2.heap.objs.size) h3.objs.size) s₅:=by
  rintro s₅ rfl
  refine ziv (Y:=Y) (pins:=[]) (σ:=zc5 ix σ) (its:=[]) (nn:=0) hc rfl hgs hdis (hg s3 H2 _ pins) (ht s3 H2 _ pins) (hm s3 H2 _ pins s2.heap.objs.size) (fun it=>hturn it _ _) inv4 ⟨fpY nn2 _ aF,old _ _ hD3,.nil,aY _⟩ noA T (T.keep _ _ _ hst3 fun b hb o e=>old b o e)
   (fun b hb=>fpY nn2 b (av _ hb)) (fun b hb=>bt (hfpLt b hb)) q fun s6 ys its nn H5 I6 a6 qn=>?_
  have dn5:H5 s2.heap.objs.size=none:=a6.fp.1
  have I7:Inv X pins σ H5 s6:=by
   refine I3'.call' (s':=s6) (ch:=s2.heap.objs.size :: fp) I6.os I6.base I6.hok I6.bare fun b hb=>?_
   obtain⟨_,a1,a2,a3,a4,a5⟩:=exOk b hb
   exact⟨a3,a1,a4,a5⟩
  have I8:Inv X pins σ (upd H5 s2.heap.objs.size (.lst ys)) s6:=by
   obtain⟨_,a1,a2,a3,a4,a5⟩:=hDok
   exact I7.track dn5 I2.sz (dW a1) a4 a5 ⟨a6.len,its,nn,a6.vals,a6.here⟩
  obtain⟨mm,hmm,_⟩:=I6.loc
  have dne:h3.objs.size≠s2.heap.objs.size:=by rw [hsz3]; exact ij _
  refine hRR _ _ s6 ys H5 mm I8 (I3'.fpOk (H':=upd H5 s2.heap.objs.size (.lst ys)) (af _) ?_) hmm (qn _ dn5)
  show upd H5 s2.heap.objs.size (.lst ys) h3.objs.size=none
  rw [zq dne]
  exact I6.free
 exact zgN rfl (loop _ rfl) (T.self _ 0 _ _ _ (T.keep _ _ _ hst3 fun b hb o e=>old b o e) (loop _ rfl))
theorem zgO {wi:TI} (SC:CompSc X N' ix scope) (hc:X.calm=true) (hgs:GS js g) (hdis:∀ j∈js,j∉js') (hjs:∀ j∈js++js',ix[j]? = some none) (hi:PI X tg iter wi)
  (hg:∀ s₃ H₃ ex pins,PG (zI X N' scope s₃ H₃ ex pins) tg g) (ht:∀ s₃ H₃ ex pins,zc4 (zI X N' scope s₃ H₃ ex pins) ifs ts) (hm:∀ s₃ H₃ ex pins D,PM (zI X N' scope s₃ H₃ ex pins) D js' (mk D (zI X N' scope s₃ H₃ ex pins).env) tm)
  (hturn:∀ it D env,compTurn (.ListComp elt (⟨tg,iter,ifs,0⟩ :: gs) scope pos) 0 it (.ref D) env=zcb tg ifs iter.pos (mk D env) (.compLoop (.ListComp elt (⟨tg,iter,ifs,0⟩ :: gs) scope pos) 0 it (.ref D) env) it env)
  (hs:∀ x,foldedSetIterable iter X.env x=pure x:=by intro _; rfl):PE X (.ListComp elt (⟨tg,iter,ifs,0⟩ :: gs) scope pos) (zfX ix wi g ts tm):=by
 intro pins s σ H Q I h
 rw [eval_ListComp]
 have hfr:∀ y∈scope.names,y.2 = .free→∃ c,X.env.cells.lookup y.1=some c:=fun y hy hf=>I.ok.has y.1 (SC.free y hy hf)
 refine ik (use:=none) rfl hs (zcN hfr) SC.kind SC.names (thn (hi pins s σ H _ I h) fun v s1 h1=>thn h1 fun itv s2 h2=>?_)
 obtain⟨it,fp,tn,J,H2,e,I2,T,st2,f2,q⟩:=h2
 subst e
 refine zdG (RR:=fun acc C=>compPost (model X.prog X.w) X.A X.xe none (EP X pins σ Q) acc C) SC hc hgs hdis hjs hg ht hm hturn I2 T st2 f2 q ?_
 intro D C s' ys H' m I' fpC hm q'
 refine⟨m,hm,fun h'' hs''=>⟨.ref D,_,?_,rfl,q'⟩⟩
 obtain⟨f0,f1,f2',f3,f4,f5⟩:=fpC
 exact I'.turned (t':=s'.toks) (fun b o hb e=>hs''.extBut b o hb e) f0 f1 f3 f4 f5
theorem zdH {wi:TI} {i:Nat} {x:Str} {pos' spos:Pos} (hN:X.N.Nodup) (hxi:X.N[i]? = some x) (hx:Loc X.env.scope x) (SC:CompSc X N' ix scope) (hc:X.calm=true) (hgs:GS js g) (hdis:∀ j∈js,j∉js') (hjs:∀ j∈js++js',ix[j]? = some none) (hi:PI X tg iter wi)
  (hg:∀ s₃ H₃ ex pins,PG (zI X N' scope s₃ H₃ ex pins) tg g) (ht:∀ s₃ H₃ ex pins,zc4 (zI X N' scope s₃ H₃ ex pins) ifs ts) (hm:∀ s₃ H₃ ex pins D,PM (zI X N' scope s₃ H₃ ex pins) D js' (mk D (zI X N' scope s₃ H₃ ex pins).env) tm)
  (hturn:∀ it D env,compTurn (.ListComp elt (⟨tg,iter,ifs,0⟩ :: gs) scope pos) 0 it (.ref D) env=zcb tg ifs iter.pos (mk D env) (.compLoop (.ListComp elt (⟨tg,iter,ifs,0⟩ :: gs) scope pos) 0 it (.ref D) env) it env)
  (hsw:swapsWith (.ListComp elt (⟨tg,iter,ifs,0⟩ :: gs) scope pos) (some (.Name x pos')) spos.line X.env=pure true:=by rfl)
  (hs:∀ x,foldedSetIterable iter X.env x=pure x:=by intro _; rfl) (hf:X.fn x=true∨X.env.scope.names.lookup x=some .local:=by first | exact .inl rfl | exact .inr rfl | assumption) :
  PS X (.Assign [.Name x pos'] (.ListComp elt (⟨tg,iter,ifs,0⟩ :: gs) scope pos) spos) (zhF (zfX ix wi g ts tm) (zaT i)):=by
 intro pins s σ H D I h
 have hfr:∀ y∈scope.names,y.2 = .free→∃ c,X.env.cells.lookup y.1=some c:=fun y hy hf=>I.ok.has y.1 (SC.free y hy hf)
 rw [exec_Assign_Name_used _ _ _ _ hsw]; refine ae (fc (ae ?_))
 show wpAny _ X.A (do let _ ← comprehension (.ListComp elt (⟨tg,iter,ifs,0⟩ :: gs) scope pos) scope X.env _ (newList []) false (eval iter X.env) (some (assign (.Name x pos') X.env))) _ _ s
 refine ae (cS (ik (use:=some (assign (.Name x pos') X.env)) (Q:=fun _ s'=>SP X pins D .next s') rfl hs (zcN hfr) SC.kind SC.names
  (thn (hi pins s σ H _ I h) fun v s1 h1=>thn h1 fun itv s2 h2=>?_)) (fun _ s' hq=>ak (ak hq)) fun _ _ e=>e)
 obtain⟨it,fp,tn,J,H2,e,I2,T,st2,f2,q⟩:=h2
 subst e
 refine zdG (Q:=fun x H1=>zaT i x σ H1 D.nx) (RR:=fun acc C=>compPost (model X.prog X.w) X.A X.xe (some (assign (.Name x pos') X.env)) (fun _ s'=>SP X pins D .next s') acc C) SC hc hgs hdis hjs hg ht hm hturn I2 T st2 f2 q ?_
 intro Da C s' ys H' m I' fpC hm q'
 show wpAny _ X.A (assign (.Name x pos') X.env (.ref Da)) _ _ _
 refine wpAny_assign_Name (zfc I' hN hxi hx (show RelV (.ref Da) (.ref Da) from rfl) (fun s'' I'' ⟨a,hsb,ha⟩=>?_) hf)
 obtain⟨f0,f1,f2',f3,f4,f5⟩:=fpC
 have hCa:C≠a:=by
  rcases ha with e | e
  ·rw [e]; exact f1
  ·exact dW (f4 x a e)
 refine⟨m,hm.sameBut hsb hCa,fun h₃ hs₃=>⟨_,_,?_,q'⟩⟩
 exact I''.turned (t':=s''.toks) (fun b o hb e=>hs₃.extBut b o hb e) f0 f1 f3 f4 f5
end
theorem zkq {elt t1 i1 t2 i2:Expr} {f1 f2:List Expr} {scope:Scope} {pos:Pos} (it:Value) (D:Addr) (env:Env):compTurn (.ListComp elt [⟨t1,i1,f1,0⟩,⟨t2,i2,f2,0⟩] scope pos) 0 it (.ref D) env =
  zcb t1 f1 i1.pos (zis (.ListComp elt [⟨t1,i1,f1,0⟩,⟨t2,i2,f2,0⟩] scope pos) i2 1 (.ref D) env) (.compLoop (.ListComp elt [⟨t1,i1,f1,0⟩,⟨t2,i2,f2,0⟩] scope pos) 0 it (.ref D) env) it env:=by rfl
theorem znU {elt t1 i1 t2 i2:Expr} {f1 f2:List Expr} {scope:Scope} {pos:Pos} (it:Value) (D:Addr) (env:Env):compTurn (.ListComp elt [⟨t1,i1,f1,0⟩,⟨t2,i2,f2,0⟩] scope pos) 1 it (.ref D) env =
  zcb t2 f2 i2.pos (zfr elt (.ref D) env) (.compLoop (.ListComp elt [⟨t1,i1,f1,0⟩,⟨t2,i2,f2,0⟩] scope pos) 1 it (.ref D) env) it env:=by rfl
def zdn (ix:List (Option Nat)):List Nat:=(aL ix.length).filter fun j=>ix[j]? == some none
theorem zcc {ix:List (Option Nat)} {i:Nat}:i∈zdn ix↔ix[i]? = some none:=by
 unfold zdn
 rw [bz,bF,beq_iff_eq]
 exact⟨fun h=>h.2,fun h=>⟨(az.mp h).1,h⟩⟩
def GK (ix:List (Option Nat)) (g:TG):Prop:=GS (zdn ix) g
def GKs (ix:List (Option Nat)) (g:TGs):Prop:=GSs (zdn ix) g
theorem zap {ix:List (Option Nat)} {i:Nat} (hi:ix[i]? = some none):GK ix (zaT i):=zcy (zcc.2 hi)
theorem zav {ix:List (Option Nat)}:GKs ix zhE:=zir
theorem zw {ix:List (Option Nat)} {i:Nat} {u:TGs} (hi:ix[i]? = some none) (h2:GKs ix u):GKs ix (zb0 (zaT i) u):=zei (zcc.2 hi) h2
theorem zaX {ix:List (Option Nat)} {K:ag} {n:Nat} {t:TGs} (h:GKs ix t):GK ix (zgJ K n t):=zkp h
theorem zjt {ix:List (Option Nat)} {g:TG} {u:TGs} (h1:GK ix g) (h2:GKs ix u) (mono:∀ (x:V) (σ:St) (H:Hp) (Q Q':St→Hp→Prop),(∀ σ' H',Q σ' H'→Q' σ' H')→g x σ H Q→g x σ H Q'):GKs ix (zb0 g u):=fun σ σ1 xs H Q hw h=>by
 obtain⟨v,r,e,h⟩:=h
 refine⟨v,r,e,mono v σ1 H _ _ (fun σ' H' q=>?_) (h1 σ σ1 v H _ hw h)⟩
 exact h2 σ σ' r H' Q q.1 q.2
theorem znn {elt t1 i1:Expr} {f1:List Expr} {scope:Scope} {pos:Pos} (it:Value) (D:Addr) (env:Env):compTurn (.ListComp elt [⟨t1,i1,f1,0⟩] scope pos) 0 it (.ref D) env =
  zcb t1 f1 i1.pos (zfr elt (.ref D) env) (.compLoop (.ListComp elt [⟨t1,i1,f1,0⟩] scope pos) 0 it (.ref D) env) it env:=by rfl
section
variable {X:Cx} {elt tg iter:Expr} {ifs:List Expr} {scope:Scope} {pos:Pos} {N':List Str} {ix:List (Option Nat)} {g:TG} {ts:TT} {te:TE}
theorem z0 {wi:TI} (SC:CompSc X N' ix scope) (hc:X.calm=true) (hk:GK ix g) (hi:PI X tg iter wi)
  (hg:∀ s₃ H₃ ex pins,PG (zI X N' scope s₃ H₃ ex pins) tg g) (ht:∀ s₃ H₃ ex pins,zc4 (zI X N' scope s₃ H₃ ex pins) ifs ts) (he:∀ s₃ H₃ ex pins,PE (zI X N' scope s₃ H₃ ex pins) elt te)
  (hs:∀ x,foldedSetIterable iter X.env x=pure x:=by intro _; rfl):PE X (.ListComp elt [⟨tg,iter,ifs,0⟩] scope pos) (znm ix wi g ts te) :=
 zgO (mk:=fun D env=>zfr elt (.ref D) env) (js:=zdn ix) (js':=[]) SC hc hk (fun _ _ h=>nomatch h) (fun j h=>zcc.1 (by simpa using h)) hi hg ht (fun s₃ H₃ ex pins D=>zhP rfl (he s₃ H₃ ex pins)) (fun _ _ _=>znn _ _ _) hs
theorem zaA {wi:TI} {i:Nat} {x:Str} {pos' spos:Pos} (hN:X.N.Nodup) (hxi:X.N[i]? = some x) (hx:Loc X.env.scope x) (SC:CompSc X N' ix scope) (hc:X.calm=true) (hk:GK ix g) (hi:PI X tg iter wi)
  (hg:∀ s₃ H₃ ex pins,PG (zI X N' scope s₃ H₃ ex pins) tg g) (ht:∀ s₃ H₃ ex pins,zc4 (zI X N' scope s₃ H₃ ex pins) ifs ts) (he:∀ s₃ H₃ ex pins,PE (zI X N' scope s₃ H₃ ex pins) elt te)
  (hsw:swapsWith (.ListComp elt [⟨tg,iter,ifs,0⟩] scope pos) (some (.Name x pos')) spos.line X.env=pure true:=by rfl)
  (hs:∀ x,foldedSetIterable iter X.env x=pure x:=by intro _; rfl) (hf:X.fn x=true∨X.env.scope.names.lookup x=some .local:=by first | exact .inl rfl | exact .inr rfl | assumption) :
  PS X (.Assign [.Name x pos'] (.ListComp elt [⟨tg,iter,ifs,0⟩] scope pos) spos) (zhF (znm ix wi g ts te) (zaT i)) :=
 zdH (mk:=fun D env=>zfr elt (.ref D) env) (js:=zdn ix) (js':=[]) hN hxi hx SC hc hk (fun _ _ h=>nomatch h) (fun j h=>zcc.1 (by simpa using h)) hi hg ht (fun s₃ H₃ ex pins D=>zhP rfl (he s₃ H₃ ex pins)) (fun _ _ _=>znn _ _ _) hsw hs hf
end
end L2
end
section
namespace L2
open PySem PySem.Spec PyProof.Rows
section
variable {X:Cx} {pins:List (Addr×Obj)} {σ:St} {H:Hp} {s:Shared} {h':Heap}
theorem Inv.turnedL {t':Nat} {ch:List Addr} (I:Inv X pins σ H s) (k:∀ b o,b∉ch→s.heap.get? b=some o→h'.get? b=some o) (hf:∀ b∈ch,zbU X pins H b)
  (th:∀ b∈ch,∃ o,h'.get? b=some o):Inv X pins σ H { s with heap:=h',toks:=t' }:=by
 have nit:∀ b u,H b=some u→b∉ch:=fun b u e z=>by rw [(hf b z).1] at e; cases e
 refine I.step (g':=s.gens) (d':=s.drawn) (ch:=ch) (fun b hb=>?_) (fun b o _ _ hc e _=>k b o hc e) (fun b o _ _ hc e _=>⟨o.slots,k b o hc e⟩) (fun _ _ _ _ n=>n)
  (fun b o hc e=>⟨o,k b o hc e⟩) (fun _ _ e=>e) (fun _ _ _ e=>e) (fun b ps e=>⟨#[],by rw [e]; simp⟩) (fun m hm=>?_) (fun b u e=>?_) I.bare
 ·obtain⟨_,a1,_,a3,a4,a5⟩:=hf b hb
  exact⟨a3,a1,a4,a5⟩
 ·obtain⟨o,es,ep,ho,r⟩:=hm
  exact⟨o,es,ep,k _ o (fun z=>(hf _ z).2.1 rfl) ho,r⟩
 ·refine (I.hok b u e).stay (fun c v hc q=>k c v ?_ q) (fun _ q=>q) fun _ _ q=>q
  rcases hc with z | z
  ·rw [z]; exact nit b u e
  ·exact nit c _ z
theorem Inv.turnedNew {t':Nat} {ch:List Addr} {T:Addr} {o:HO} (I:Inv X pins σ H s) (k:∀ b o,b∉ch→s.heap.get? b=some o→h'.get? b=some o) (hf:∀ b∈ch,zbU X pins H b)
  (th:∀ b∈ch,∃ o,h'.get? b=some o) (hT:s.heap.objs.size≤T) (ok:zao X.prog X.w (upd H T o) h' T o):Inv X pins σ (upd H T o) { s with heap:=h',toks:=t' }:=by
 have I1:Inv X pins σ H { s with heap:=h',toks:=t' }:=I.turnedL k hf th
 have hn:H T=none:=I.hok.fresh hT
 obtain⟨_,a1,a2,a3,a4,a5⟩:=I.fpOk (H':=H) hT hn
 exact I1.track hn (aZ I.sz hT) (dW a1) a4 a5 ok
end
def znV (Sq:Hp→Addr→List V→Prop) (a:Addr):It :=
 ⟨fun i H=>∃ xs x,Sq H a xs∧xs[i]? = some x,fun i H x H'=>∃ T v,H T=none∧x = .ref T∧H'=upd H T (.tup [.int i,v])∧∀ xs,Sq H a xs→xs[i]? = some v,fun i H=>∃ xs,Sq H a xs∧xs.length≤i⟩
theorem zbK {h:Heap} {T:Addr} {a b:Value} (e:h.get? T=some { cls:=.type "tuple",data:=.seq #[a,b] }):IsTup h T ([a,b]:List Value).toArray:=⟨_,e,rfl,_,rfl⟩
theorem zaJ:2≤sizeLine:=by rw [aV]; decide
theorem zhQ {P:Program} {w:World} {K:ag} {es:List Expr} {k:Nat} {pos:Pos} (a it e:Addr) (hei:e≠it):Turn P w K (.Tuple es k pos) (znV (SqL K) a) [e,it] e (fun i h=>(∃ old,IsEnum h e it i old)∧h.IsListIter it a i) where
 mem:=by simp
 obj:=fun i h st b hb=>by
  obtain⟨⟨old,he⟩,o,ho,hc,hd⟩:=st
  rcases aD.mp hb with z | z
  ·subst z
   exact⟨_,he,fun v z=>by cases z⟩
  ·have z:b=it:=by simpa using z
   subst z
   exact⟨o,ho,fun v z=>by rw [hd] at z; cases z⟩
 keep:=fun i h h' st kk=>⟨st.1.imp fun old he=>kk e (by simp) _ he,st.2.at fun o eo=>kk it (by simp) o eo⟩
 item:=by
  intro X hP hw hK hc i pins s σ H E I hf st hg
  subst hP hw hK
  obtain⟨xs,x,hq,hx⟩:=hg
  obtain⟨⟨old,he⟩,hit⟩:=st
  obtain⟨its,rv,p,hz⟩:=I.list hq
  obtain⟨u,hu,ru⟩:=rv.get hx
  have hes:e < s.heap.objs.size:=aJ he
  have hits:it < s.heap.objs.size:=by obtain⟨o,ho,_⟩:=hit; exact aJ ho
  refine wpAny_pyNext_enum_item he hit p.isList (x:=u) (by simpa using hu) hei fun h' ho' hit' hT hsz kk=>?_
  have k1:∀ b o,b∉[e,it]→s.heap.get? b=some o→h'.get? b=some o:=fun b o hb eo=>kk b o (fun z=>hb (by simp [z])) (fun z=>hb (by simp [z])) eo
  have th1:∀ b∈[e,it],∃ o,h'.get? b=some o:=fun b hb=>by
   rcases aD.mp hb with z | z
   ·subst z; exact⟨_,ho'⟩
   ·have z:b=it:=by simpa using z
    subst z
    obtain⟨o,eo,_⟩:=hit'
    exact⟨o,eo⟩
  have I1:Inv X pins σ (upd H s.heap.objs.size (.tup [.int i,x])) { s with heap:=h',toks:=s.toks+1 } :=
   I.turnedNew k1 hf th1 (af _) ⟨zaJ,_,.cons ⟨s.toks,rfl⟩ (.cons ru .nil),zbK hT⟩
  refine⟨_,rfl,gM ho' fun h'' he'' hs''=>?_⟩
  have fr:∀ b∈[e,it],upd H s.heap.objs.size (.tup [.int i,x]) b=none:=fun b hb=>by
   have hlt:b < s.heap.objs.size:=by
    rcases aD.mp hb with z | z
    ·subst z; exact hes
    ·have z:b=it:=by simpa using z
     subst z; exact hits
   rw [zq (bt hlt)]
   exact (hf b hb).1
  have I2:Inv X pins σ (upd H s.heap.objs.size (.tup [.int i,x])) { s with heap:=h'',toks:=s.toks+1 } :=
   Inv.turnedL (s:={ s with heap:=h',toks:=s.toks+1 }) (ch:=[e]) (t':=s.toks+1) I1 (fun b o hb eo=>hs''.extBut b o (by simpa using hb) eo) (fun b hb=>by
    have z:b=e:=by simpa using hb
    subst z
    exact⟨fr b (by simp),(hf b (by simp)).2⟩) (fun b hb=>by
    have z:b=e:=by simpa using hb
    subst z
    exact⟨_,he''⟩)
  refine⟨.ref s.heap.objs.size,_,I2,rfl,⟨_,x,I.fresh,rfl,rfl,fun ys hy=>by rw [I.list_inj hy hq]; exact hx⟩,⟨⟨_,by simpa using he''⟩,hit'.extBut hs''.extBut (dW hei)⟩,fr⟩
 done:=by
  intro X hP hw hK hc i pins s σ H E I hf st hg
  subst hP hw hK
  obtain⟨xs,hq,hx⟩:=hg
  obtain⟨⟨old,he⟩,hit⟩:=st
  obtain⟨its,rv,p,hz⟩:=I.list hq
  have hl:=rv.length
  obtain⟨f0,f1,f2,f3,f4,f5⟩:=hf it (by simp)
  exact wpAny_pyNext_enum_end (I.ok.hd hc) he hit p.isList (by simp; lia) fun h' eb=>⟨rfl,I.turned (t':=s.toks) (fun b o hb e=>eb b o hb e) f0 f1 f3 f4 f5⟩
 self:=fun _ _ _ _ _ st h=>by
  obtain⟨⟨old,he⟩,_⟩:=st
  exact fP he h
def iEn (Sq:Hp→Addr→List V→Prop) (ta:TA):TI:=fun σ H R=>ta σ H fun vs H1=>∃ a xs,vs = [.ref a]∧Sq H1 a xs∧R (znV Sq a) H1
theorem zkr {X:Cx} {es:List Expr} {k:Nat} {tpos p pos:Pos} {a:Expr} {ta:TA} (hg:Gl X "enumerate") (hm:X.mg "enumerate" = none) (ha:PA X [a] ta) (hs:starEach [a] X.env = [(false,eval a X.env)]:=by rfl) :
  PI X (.Tuple es k tpos) (.Call (.Name "enumerate" p) [a] [] pos) (iEn (SqL X.K) ta):=by
 intro pins s σ H R I h
 refine Call_ (zbx I hg hm boot_enumerate (bq (thn (ha pos pins s σ H _ I h) fun us s1 ⟨vs,H1,I1,r1,q1⟩=>?_) hs rfl))
 obtain⟨l,xs,e,hq,q⟩:=q1
 subst e
 cases r1 with
 | cons r rr =>
  cases rr
  cases r
  obtain⟨its,rv,pl,hz⟩:=I1.list hq
  refine call_enumerate_list pl.isList fun h' he hi hsz kk=>?_
  have I2:Inv X pins σ H1 { s1 with heap:=h' }:=I1.kept (t':=s1.toks) kk
  refine fP he ?_; refine⟨_,[s1.heap.objs.size+1,s1.heap.objs.size],_,znV (SqL X.K) l,H1,rfl,I2,zhQ l s1.heap.objs.size (s1.heap.objs.size+1) (ij _),⟨⟨_,he⟩,hi⟩,fun b hb=>?_,q⟩
  have hle:s1.heap.objs.size≤b:=by
   rcases aD.mp hb with z | z
   ·rw [z]; exact gz _
   ·have z:b=s1.heap.objs.size:=by simpa using z
    rw [z]; exact af _
  exact I1.fpOk hle (I1.hok.fresh hle)
def zju (Sq1 Sq2:Hp→Addr→List V→Prop) (a b:Addr):It :=
 ⟨fun i H=>∃ xs ys x y,Sq1 H a xs∧Sq2 H b ys∧xs[i]? = some x∧ys[i]? = some y,
  fun i H x H'=>∃ T u v,H T=none∧x = .ref T∧H'=upd H T (.tup [u,v])∧(∀ xs,Sq1 H a xs→xs[i]? = some u)∧∀ ys,Sq2 H b ys→ys[i]? = some v,
  fun i H=>∃ xs ys,Sq1 H a xs∧Sq2 H b ys∧(xs.length≤i∨ys.length≤i)⟩
theorem zjv {P:Program} {w:World} {K:ag} {es:List Expr} {k:Nat} {pos:Pos} (a b:Addr) (n:Nat) (ha:a < n) (hb:b < n):Turn P w K (.Tuple es k pos) (zju (SqL K) (SqL K) a b) [n+4,n+2,n+3,n,n+1] (n+4)
  (fun i h=>IsZip h (n+4) (n+2) (n+3) .none∧IsPair h (n+2) (.ref n) (.ref (n+1))∧(∃ u v,IsPair h (n+3) u v)∧h.IsListIter n a i∧h.IsListIter (n+1) b i) where
 mem:=by simp
 obj:=fun i h st c hc=>by
  obtain⟨h1,h2,⟨u,v,h3⟩,⟨o4,e4,_,d4⟩,⟨o5,e5,_,d5⟩⟩:=st
  simp only [aD,aR,or_false] at hc
  rcases hc with z | z | z | z | z <;> subst z
  ·exact⟨_,h1,fun v z=>by cases z⟩
  ·exact⟨_,h2,fun v z=>by cases z⟩
  ·exact⟨_,h3,fun v z=>by cases z⟩
  ·exact⟨_,e4,fun v z=>by rw [d4] at z; cases z⟩
  ·exact⟨_,e5,fun v z=>by rw [d5] at z; cases z⟩
 keep:=fun i h h' st kk=>by
  obtain⟨h1,h2,⟨u,v,h3⟩,h4,h5⟩:=st
  exact⟨kk _ (by simp) _ h1,kk _ (by simp) _ h2,⟨u,v,kk _ (by simp) _ h3⟩,h4.at fun o eo=>kk _ (by simp) o eo,h5.at fun o eo=>kk _ (by simp) o eo⟩
 item:=by
  intro X hP hw hK hc i pins s σ H E I hf st hg
  subst hP hw hK
  obtain⟨xs,ys,x,y,hq1,hq2,hx,hy⟩:=hg
  obtain⟨h1,h2,⟨u0,v0,h3⟩,h4,h5⟩:=st
  obtain⟨its1,rv1,p1,hz1⟩:=I.list hq1
  obtain⟨its2,rv2,p2,hz2⟩:=I.list hq2
  obtain⟨u,hu,ru⟩:=rv1.get hx
  obtain⟨v,hv,rv⟩:=rv2.get hy
  have hzs:n+4 < s.heap.objs.size:=aJ h1
  refine wpAny_pyNext_zip_item (dk ha hb) h1 h2 h3 h4 h5 p1.isList p2.isList (x:=u) (y:=v) (by simpa using hu) (by simpa using hv) fun h' a1 a2 a3 a4 a5 a6 kk=>?_
  have k1:∀ c o,c∉[n+4,n+3,n,n+1]→s.heap.get? c=some o→h'.get? c=some o:=fun c o hc' eo =>
   kk c o (fun z=>hc' (by simp [z])) (fun z=>hc' (by simp [z])) (fun z=>hc' (by simp [z])) (fun z=>hc' (by simp [z])) eo
  have sub:∀ c∈[n+4,n+3,n,n+1],c∈[n+4,n+2,n+3,n,n+1]:=fun c hc'=>by
   simp only [aD,aR,or_false] at hc' ⊢
   rcases hc' with z | z | z | z <;> subst z <;> simp
  have th1:∀ c∈[n+4,n+3,n,n+1],∃ o,h'.get? c=some o:=fun c hc'=>by
   simp only [aD,aR,or_false] at hc'
   rcases hc' with z | z | z | z <;> subst z
   ·exact⟨_,a1⟩
   ·exact⟨_,a2⟩
   ·obtain⟨o,e,_⟩:=a3; exact⟨o,e⟩
   ·obtain⟨o,e,_⟩:=a4; exact⟨o,e⟩
  have I1:Inv X pins σ (upd H s.heap.objs.size (.tup [x,y])) { s with heap:=h' } :=
   I.turnedNew (t':=s.toks) k1 (fun c hc'=>hf c (sub c hc')) th1 (af _) ⟨zaJ,_,.cons ru (.cons rv .nil),zbK a5⟩
  refine⟨_,rfl,wpAny_letOwnedTupleGo_zip a1 fun h'' hz'' hs''=>?_⟩
  have fr:∀ c∈[n+4,n+2,n+3,n,n+1],upd H s.heap.objs.size (.tup [x,y]) c=none:=fun c hc'=>by
   have hlt:c < s.heap.objs.size:=by
    simp only [aD,aR,or_false] at hc'
    rcases hc' with z | z | z | z | z <;> subst z <;> lia
   rw [zq (bt hlt)]
   exact (hf c hc').1
  have I2:Inv X pins σ (upd H s.heap.objs.size (.tup [x,y])) { s with heap:=h'' } :=
   Inv.turnedL (s:={ s with heap:=h' }) (ch:=[n+4]) (t':=s.toks) I1 (fun c o hc' eo=>hs''.extBut c o (by simpa using hc') eo) (fun c hc'=>by
    have z:c=n+4:=by simpa using hc'
    subst z
    exact⟨fr _ (by simp),(hf _ (by simp)).2⟩) (fun c hc'=>by
    have z:c=n+4:=by simpa using hc'
    subst z
    exact⟨_,hz''⟩)
  refine⟨.ref s.heap.objs.size,_,I2,rfl,⟨_,x,y,I.fresh,rfl,rfl,fun zs hz=>by rw [I.list_inj hz hq1]; exact hx,fun zs hz=>by rw [I.list_inj hz hq2]; exact hy⟩,
   ⟨hz'',hs''.extBut _ _ (dk ha hb).TIz (kk _ _ (dk ha hb).TIz (dk ha hb).TITO (dk ha hb).TIi1 (dk ha hb).TIi2 h2),⟨_,_,hs''.extBut _ _ (dk ha hb).TOz a2⟩,a3.extBut hs''.extBut (dk ha hb).i1z,a4.extBut hs''.extBut (dk ha hb).i2z⟩,fr⟩
 done:=by
  intro X hP hw hK hc i pins s σ H E I hf st hg
  subst hP hw hK
  obtain⟨xs,ys,hq1,hq2,hx⟩:=hg
  obtain⟨h1,h2,⟨u0,v0,h3⟩,h4,h5⟩:=st
  obtain⟨its1,rv1,p1,hz1⟩:=I.list hq1
  obtain⟨its2,rv2,p2,hz2⟩:=I.list hq2
  have hl1:=rv1.length
  have hl2:=rv2.length
  refine wpAny_pyNext_zip_end (I.ok.hd hc) (dk ha hb) h1 h2 h3 h4 h5 p1.isList p2.isList ?_ fun h' kk=>⟨rfl,?_⟩
  ·rcases hx with z | z
   ·exact .inl (by simp; lia)
   ·exact .inr (by simp; lia)
  ·have hth:∀ c∈[n+4,n+3,n,n+1],c∈[n+4,n+2,n+3,n,n+1]:=fun c hc'=>by
    simp only [aD,aR,or_false] at hc' ⊢
    rcases hc' with z | z | z | z <;> subst z <;> simp
   refine I.step (g':=s.gens) (d':=s.drawn) (t':=s.toks) (ch:=[n+4,n+3,n,n+1]) (fun c hc'=>?_) (fun c o _ _ hcc e _=>kk c o (fun z=>hcc (by simp [z])) (fun z=>hcc (by simp [z])) (fun z=>hcc (by simp [z])) (fun z=>hcc (by simp [z])) e)
    (fun c o _ _ hcc e _=>⟨o.slots,kk c o (fun z=>hcc (by simp [z])) (fun z=>hcc (by simp [z])) (fun z=>hcc (by simp [z])) (fun z=>hcc (by simp [z])) e⟩) (fun _ _ _ _ n=>n)
    (fun c o hcc e=>⟨o,kk c o (fun z=>hcc (by simp [z])) (fun z=>hcc (by simp [z])) (fun z=>hcc (by simp [z])) (fun z=>hcc (by simp [z])) e⟩) (fun _ _ e=>e) (fun _ _ _ e=>e) (fun c ps e=>⟨#[],by rw [e]; simp⟩) (fun m hm=>?_) (fun c u e=>?_) I.bare
   ·obtain⟨_,a1,_,a3,a4,a5⟩:=hf c (hth c hc')
    exact⟨a3,a1,a4,a5⟩
   ·obtain⟨o,es',ep,ho,r⟩:=hm
    have ne:∀ c∈[n+4,n+2,n+3,n,n+1],X.env.locals≠c:=fun c hc'=>dW (hf c hc').2.1
    exact⟨o,es',ep,kk _ o (ne _ (by simp)) (ne _ (by simp)) (ne _ (by simp)) (ne _ (by simp)) ho,r⟩
   ·have nit:∀ d u',H d=some u'→∀ c∈[n+4,n+2,n+3,n,n+1],d≠c:=fun d u' e' c hc' z=>by rw [z,(hf c hc').1] at e'; cases e'
    refine (I.hok c u e).stay (fun d v' hd q=>kk d v' ?_ ?_ ?_ ?_ q) (fun _ q=>q) fun _ _ q=>q
    all_goals
     rcases hd with z | z
     ·rw [z]; exact nit c u e _ (by simp)
     ·exact nit d _ z _ (by simp)
 self:=fun _ _ _ _ _ st h=>fY st.1 h
def iZp (Sq1 Sq2:Hp→Addr→List V→Prop) (ta:TA):TI:=fun σ H R=>ta σ H fun vs H1=>∃ a b xs ys,vs = [.ref a,.ref b]∧Sq1 H1 a xs∧Sq2 H1 b ys∧R (zju Sq1 Sq2 a b) H1
theorem zdX {X:Cx} {es:List Expr} {k:Nat} {tpos p pos:Pos} {a b:Expr} {ta:TA} (hg:Gl X "zip") (hm:X.mg "zip" = none) (ha:PA X [a,b] ta) (hs:starEach [a,b] X.env = [(false,eval a X.env),(false,eval b X.env)]:=by rfl) (hs2:starEach [b] X.env = [(false,eval b X.env)]:=by rfl) :
  PI X (.Tuple es k tpos) (.Call (.Name "zip" p) [a,b] [] pos) (iZp (SqL X.K) (SqL X.K) ta):=by
 intro pins s σ H R I h
 refine Call_ (zbx I hg hm j4 (bq (thn (ha pos pins s σ H _ I h) fun us s1 ⟨vs,H1,I1,r1,q1⟩=>?_) (by rw [hs,hs2]) (by rw [hs2]; rfl)))
 obtain⟨l1,l2,xs,ys,e,hq1,hq2,q⟩:=q1
 subst e
 cases r1 with
 | cons r rr =>
  cases rr with
  | cons r' rr =>
   cases rr
   cases r
   cases r'
   obtain⟨its1,rv1,pl1,hz1⟩:=I1.list hq1
   obtain⟨its2,rv2,pl2,hz2⟩:=I1.list hq2
   have hlt1:l1 < s1.heap.objs.size:=by obtain⟨_,_,e,_⟩:=pl1; exact aJ e
   have hlt2:l2 < s1.heap.objs.size:=by obtain⟨_,_,e,_⟩:=pl2; exact aJ e
   refine call_zip_2 pl1.isList pl2.isList fun h' b1 b2 b3 b4 b5 b6 kk=>?_
   have I2:Inv X pins σ H1 { s1 with heap:=h' }:=I1.kept (t':=s1.toks) kk
   refine fY b1 ?_
   refine⟨_,_,_,zju (SqL X.K) (SqL X.K) l1 l2,H1,rfl,I2,zjv l1 l2 s1.heap.objs.size hlt1 hlt2,⟨b1,b2,⟨_,_,b3⟩,b4,b5⟩,fun c hc=>?_,q⟩
   have hle:s1.heap.objs.size≤c:=by
    simp only [aD,aR,or_false] at hc
    rcases hc with z | z | z | z | z <;> subst z <;> lia
   exact I1.fpOk hle (I1.hok.fresh hle)
def zgP (Sq:Hp→Addr→List V→Prop) (a:Addr) (n:Nat):It :=
 ⟨fun i H=>i < n∧∃ xs,Sq H a xs∧xs.length=n,fun i H x H'=>H'=H∧∀ xs,Sq H a xs→xs[n - 1 - i]? = some x,fun i H=>n≤i⟩
theorem zjw {P:Program} {w:World} {K:ag} {tg:Expr} (a it:Addr) (n:Nat):Turn P w K tg (zgP (SqL K) a n) [it] it (fun i h=>i≤n∧h.IsRevIter it a ((n:Int) - 1 - (i:Int))) where
 mem:=by simp
 obj:=fun i h st b hb=>by
  have z:b=it:=by simpa using hb
  subst z
  obtain⟨_,o,e,c,d⟩:=st
  exact⟨o,e,fun v z=>by rw [d] at z; cases z⟩
 keep:=fun i h h' st k=>⟨st.1,st.2.at fun o e=>k it (by simp) o e⟩
 item:=by
  intro X hP hw hK hc i pins s σ H E I hf st hg
  subst hP hw hK
  obtain⟨hin,xs,hq,hl⟩:=hg
  obtain⟨its,rv,p,hz⟩:=I.list hq
  have hlen:=rv.length
  obtain⟨x,hx⟩:∃ x,xs[n - 1 - i]? = some x:=⟨xs[n - 1 - i]'(by lia),by simp⟩
  obtain⟨u,hu,ru⟩:=rv.get hx
  obtain⟨f0,f1,f2,f3,f4,f5⟩:=hf it (by simp)
  have e:(n:Int) - 1 - (i:Int)=((n - 1 - i:Nat):Int):=by lia
  have hit:=st.2
  rw [e] at hit
  refine wpAny_pyNext_rev_item hit p.isList (x:=u) (by simpa using hu) fun h' st' sb=>?_
  have I1:Inv X pins σ H { s with heap:=h' }:=I.turned (t':=s.toks) (fun b o hb e=>(sb.2 b hb).trans e) f0 f1 f3 f4 f5
  have e2:((n - 1 - i:Nat):Int) - 1=(n:Int) - 1 - ((i+1:Nat):Int):=by lia
  rw [e2] at st'
  obtain⟨o,eo,c,d⟩:=id st'
  exact⟨u,rfl,zfe (s:={ s with heap:=h' }) eo c d (by decide) ⟨x,H,I1,ru,⟨rfl,fun ys hy=>by rw [I.list_inj hy hq]; exact hx⟩,⟨hin,st'⟩,fun b hb=>(hf b hb).1⟩⟩
 done:=by
  intro X hP hw hK hc i pins s σ H E I hf st hg
  subst hP hw hK
  obtain⟨f0,f1,f2,f3,f4,f5⟩:=hf it (by simp)
  have hin:n≤i:=hg
  have e:(n:Int) - 1 - (i:Int) = -1:=by have:=st.1; lia
  have hit:=st.2
  rw [e] at hit
  exact wpAny_pyNext_rev_end (I.ok.hd hc) hit fun h' eb=>⟨rfl,I.turned (t':=s.toks) (fun b o hb e=>eb b o hb e) f0 f1 f3 f4 f5⟩
 self:=fun _ _ _ _ _ st h=>je st.2 h
end L2
end
section
namespace PySem
namespace F
theorem zfs:Manifest.owners.lookup (String.ofList ['d','e','s','r','e','v','e','r'].reverse)=some Manifest.sig_reversed:=by kernel_rfl
theorem slot_rvd_next:Slot "reversed" "__next__" "reversed.__next__" :=
 .of (owner:="reversed") (n:="__next__") (by rw [dO,cE]; kernel_rfl) (by decide +kernel) (by decide +kernel) (by decide +kernel) (by first | exact .inl (by decide +kernel) | exact .inr (by decide +kernel)) (by rw [gn]; kernel_rfl)
theorem entry_rvd_next:entryFor table "reversed.__next__" = some Builtin.«reversed.__next__»:=entryFor_of_tree (by kernel_rfl)
theorem args_rvd_next_1 (a:Value):argsOk "reversed.__next__" ⟨[a],[]⟩:=by
 unfold argsOk; rw [signature?_of (id:="reversed.__next__") (n:=['_','_','t','x','e','n','_','_']) (o:=['d','e','s','r','e','v','e','r']) (by kernel_rfl) zfs]; kernel_rfl
theorem slot_rvd_iter:Slot "reversed" "__iter__" "reversed.__iter__" :=
 .of (owner:="reversed") (n:="__iter__") (by rw [dO,cE]; kernel_rfl) (by decide +kernel) (by decide +kernel) (by decide +kernel) (by first | exact .inl (by decide +kernel) | exact .inr (by decide +kernel)) (by rw [gn]; kernel_rfl)
theorem args_rvd_iter_1 (a:Value):argsOk "reversed.__iter__" ⟨[a],[]⟩:=by
 unfold argsOk; rw [signature?_of (id:="reversed.__iter__") (n:=['_','_','r','e','t','i','_','_']) (o:=['d','e','s','r','e','v','e','r']) (by kernel_rfl) zfs]; kernel_rfl
theorem entry_rvd_iter:entryFor table "reversed.__iter__" = some Builtin.«dict_keyiterator.__iter__»:=entryFor_alias (id':="dict_keyiterator.__iter__") (by kernel_rfl) (by first | rfl | decide +kernel | (unfold String.splitOn; simp +decide [String.splitOnAux])) (by decide +kernel) (by kernel_rfl)
theorem ze1:Slot "reversed" "__init__" "object.__init__":=.of (owner:="object") (n:="__init__") (by rw [dO,cE]; kernel_rfl) (by decide +kernel) (by decide +kernel) (by decide +kernel) (by first | exact .inl (by decide +kernel) | exact .inr (by decide +kernel)) (by rw [gn]; kernel_rfl)
theorem called_rvd:TypeCalled "reversed" "reversed.__new__" "object.__init__" :=
 ⟨by decide +kernel,by decide +kernel,⟨_,_,mro_reversed⟩,made_reversed,by decide +kernel,by rw [gn]; kernel_rfl,ze1⟩
theorem noRev_tuple:typeLookup (.type "tuple") "__reversed__" = pure none:=by rw [dO,cE]; kernel_rfl
end F
def zfY (l:Addr) (i:Int):Obj:={ cls:=.type "reversed",data:=.fields #[.ref l,rawInt i] }
def Heap.IsRvd (h:Heap) (a l:Addr) (i:Int):Prop:=∃ o,h.get? a=some o∧o.cls = .type "reversed"∧o.data = .fields #[.ref l,rawInt i]
theorem Heap.IsRvd.typeIs {s:Shared} {a l:Addr} {i:Int} (x:s.heap.IsRvd a l i):s.TypeIs (.ref a) "reversed":=let ⟨o,ho,hc,_⟩:=x; ⟨o,ho,hc⟩
theorem Heap.IsRvd.at {h h':Heap} {a l:Addr} {i:Int} (x:h.IsRvd a l i) (e:∀ o,h.get? a=some o→h'.get? a=some o):h'.IsRvd a l i:=let ⟨o,ho,r⟩:=x; ⟨o,e _ ho,r⟩
open PyProof.Rows in
theorem ze2 (l:Addr) (items:Array Value) :
  Meets (Builtin.«reversed.__new__» ⟨[.type "reversed",.ref l],[]⟩) (fun _ R s=>IsTup s.heap l items∧(items.size:Int) < 2 ^ 63 ∧
   R (.ok (.ret (.ref s.heap.objs.size))) { s with heap:=s.heap.push (zfY l ((items.size:Int) - 1)),toks:=s.toks+1+1 }) :=
 .of_wp fun prog w A R s h=>by
  obtain⟨hl,hsz,h⟩:=h
  unfold Builtin.«reversed.__new__»; refine ae (dG (newClass_reversed _) ?_)
  try dsimp only
  iterate 2 refine ae (dG (a:=()) (by first | rfl | kernel_rfl) ?_)
  try dsimp only
  refine ae (iK hl.typeIs F.noRev_tuple ?_)
  try dsimp only
  refine ae (ae (m:=isInstance (.ref l) (.type "dict")) (eZ hl.typeIs F.sub_tuple_dict ?_))
  simp only [bn,if_false]; refine ae (m:=specialOf (.ref l) "__getitem__") (iK hl.typeIs slot_tuple_getitem.lookup ?_)
  refine ak ?_
  try dsimp only
  try simp only [Bool.not_true,bn,if_false]
  refine ae (len_tuple hl hsz ?_)
  refine ae (m:=asInt? _) (dG (a:=some (items.size:Int)) rfl ?_)
  try dsimp only
  refine ae (m:=kx _ _) ?_
  show wpAny _ _ (newObj (.type "reversed") (.fields #[.ref l,rawInt ((items.size:Int) - 1)]) none) _ _ _
  refine bM ?_
  exact ak ⟨_,rfl,h⟩
section
variable {prog:Program} {w:World} {A:Around} {E:Value→Shared→Prop} {s:Shared}
open PyProof.Rows
theorem zej {l:Addr} {items:Array Value} {Q:Value→Shared→Prop} (hl:IsTup s.heap l items) (hsz:(items.size:Int) < 2 ^ 63)
  (h:Q (.ref s.heap.objs.size) { s with heap:=s.heap.push (zfY l ((items.size:Int) - 1)),toks:=s.toks+1+1 }):wpAny (model prog w) A (call (.type "reversed") [.ref l]) Q E s:=by
 refine jG F.called_rvd (by decide) (F.typeCall_reversed_1 _) (F.newCall_reversed_1 _) (fun obj=>jf obj _) F.entry_reversed_new (ze2 l items) ⟨hl,hsz,?_⟩; exact⟨⟨_,aI _ rfl,rfl⟩,h⟩
theorem zcm {it l:Addr} {i:Nat} {items:Array Value} {x:Value} {Q:Option Value→Shared→Prop} (hit:s.heap.IsRvd it l (i:Int)) (hl:IsTup s.heap l items) (hx:items[i]? = some x) (hi:(i:Int) < 2 ^ 62)
  (hQ:∀ h',h'.IsRvd it l ((i:Int) - 1)→bj it s.heap h'→Q (some x) { s with heap:=h',toks:=s.toks+1 }):wpAny (model prog w) A (pyNext (.ref it)) Q E s:=by
 obtain⟨o,ho,hc,hd⟩:=id hit; unfold pyNext
 refine ae (cU (bh (name:=bN "__next__") hit.typeIs F.slot_rvd_next
  (bu F.slot_rvd_next hit.typeIs F.entry_rvd_next ?_ (F.args_rvd_next_1 _))))
 unfold Builtin.«reversed.__next__»
 refine ae (dG (a:=(bb it,[])) rfl ?_); try dsimp only
 refine ae (br ho hd (x:=.ref l) rfl ?_); refine ae (br ho hd (x:=rawInt (i:Int)) rfl ?_)
 show wpAny _ _ (if (i:Int) < 0 then _ else _) _ _ s; rw [if_neg (by lia)]
 refine ae (iK hl.typeIs slot_tuple_getitem.lookup ?_)
 try simp only [Option.isNone_some,bn,if_false]
 refine ae (wpAny_mkInt ?_); have hlt:i < items.size:=by
  obtain⟨h1,_⟩:=cV.mp hx
  exact h1
 refine ae (cU (getItem_tuple (j:=i) hl (by lia) (by lia) (by rw [gw (by lia) (by lia)]; simp) hx ?_))
 try dsimp only
 refine ae (br (s:={ s with toks:=s.toks+1 }) ho hd (x:=rawInt (i:Int)) rfl ?_)
 show wpAny _ _ (setField (.ref it) 1 (rawInt ((i:Int) - 1)) >>= _) _ _ _
 refine ae (dX (s:={ s with toks:=s.toks+1 }) ho hd (by simp) (ak ⟨x,rfl,ak (hQ _ ?_ (cN ..))⟩))
 exact⟨_,dN _ ho (eJ (c7 hd _)),(gV ..).trans hc,by rw [c7 hd]; simp⟩
theorem zco {it l:Addr} {Q:Option Value→Shared→Prop} (hh:A.handled=none) (hit:s.heap.IsRvd it l (-1)) (hQ:∀ h',jU it s.heap h'→Q none { s with heap:=h' }):wpAny (model prog w) A (pyNext (.ref it)) Q E s:=by
 obtain⟨o,ho,hc,hd⟩:=id hit; unfold pyNext
 refine ae (cU (bh (name:=bN "__next__") hit.typeIs F.slot_rvd_next
  (bu F.slot_rvd_next hit.typeIs F.entry_rvd_next ?_ (F.args_rvd_next_1 _))))
 unfold Builtin.«reversed.__next__»
 refine ae (dG (a:=(bb it,[])) rfl ?_); try dsimp only
 refine ae (br ho hd (x:=.ref l) rfl ?_); refine ae (br ho hd (x:=rawInt (-1)) rfl ?_)
 show wpAny _ _ (if (-1:Int) < 0 then _ else _) _ _ s; rw [if_pos (by decide)]
 refine ae (cg ?_)
 refine ae (ae (m:=setField (.ref it) 1 (rawInt (-1))) (dX ho hd (by simp) ?_))
 have hd2:=c7 hd (·.setIfInBounds 1 (rawInt (-1)))
 have ho2:=dN (gN (·.setIfInBounds 1 (rawInt (-1)))) ho (eJ hd2)
 refine dX ho2 hd2 (by simp) ?_
 try dsimp only
 refine ae ?_; show wpAny _ _ (newExc (.type "StopIteration") [] >>= _) _ _ _
 refine ae ?_
 simp only [newExc,newTuple]
 refine ae (bM ?_ (by size_fits)); refine ae (m:=firstArgMember _ _) (dG (a:=dE) (by first | rfl | (simp only [firstArgMember]; rfl)) ?_)
 refine bM ?_ (by size_fits); simp only [raiseNew]
 refine ae (jk ?_); first | rw [show A.in1.handled=none from hh] | rw [hh]
 refine ae (ak (jV ?_)); refine ae (eZ (T:="StopIteration") (b:=true) ⟨_,aI _ rfl,rfl⟩ gp ?_)
 exact ak (hQ _ ((((cN ..).extBut.trans (cN ..).extBut).push _).push _))
theorem zb3 {it l:Addr} {i:Int} {Q:Value→Shared→Prop} (hit:s.heap.IsRvd it l i) (h:Q (.ref it) s):wpAny (model prog w) A (pyIter (.ref it)) Q E s:=by
 refine gW hit.typeIs F.slot_rvd_iter (bu F.slot_rvd_iter hit.typeIs F.entry_rvd_iter ?_ (F.args_rvd_iter_1 _))
 show wpAny _ _ (ret (.ref it)) _ _ s; exact ak ⟨_,rfl,"reversed",_,hit.typeIs,F.slot_rvd_next.lookup,h⟩
end
section
variable {prog:Program} {w:World} {A:Around} {E:Value→Shared→Prop} {s:Shared}
theorem zgQ {it t:Addr} {i:Nat} {items:Array Value} {x:Value} {Q:Value→Shared→Prop} (hit:s.heap.IsTupleIter it t i) (ht:s.heap.IsTuple t items) (hx:items[i]? = some x)
  (hQ:∀ h',h'.IsTupleIter it t (i+1)→bj it s.heap h'→Q x { s with heap:=h' }):wpAny (model prog w) A (bd (.ref it)) Q E s:=by
 obtain⟨o,ho,hc,hd⟩:=id hit; obtain⟨ot,hot,_,nt,hdt⟩:=ht
 unfold bd; refine ae (bh (name:=bN "__next__") hit.typeIs dP (bu dP hit.typeIs gD ?_ (gq _)))
 show wpAny _ _ (field (.ref it) 0 >>= _) _ _ s; refine ae (br ho hd (x:=.ref t) rfl ?_); show wpAny _ _ (if (bb t == dE)=true then _ else _) _ _ _; rw [if_neg (by exact aN)]
 refine ae (br ho hd (x:=.int _ 0) rfl ?_); refine ae (m:=seqItems? _) (c8 hot hdt ?_); simp only [bm,hx]
 have hn:=dN (gN (·.setIfInBounds 1 (rawInt ((i+1:Nat):Int)))) ho (eJ (c7 hd _))
 refine ae (dX ho hd (by simp) (ak ⟨x,rfl,ak (hQ _ ⟨_,hn,(gV ..).trans hc,?_⟩ (cN ..))⟩)); rw [c7 hd]; simp [rawInt]
theorem zgR {it t:Addr} {i:Nat} {items:Array Value} {Q:Value→Shared→Prop} (hh:A.handled=none) (hit:s.heap.IsTupleIter it t i) (ht:s.heap.IsTuple t items) (hx:items[i]? = none)
  (hE:∀ h' e,jU it s.heap h'→(∃ o,h'.get? e=some o∧o.cls = .type "StopIteration")→E (.ref e) { s with heap:=h' }):wpAny (model prog w) A (bd (.ref it)) Q E s:=by
 obtain⟨o,ho,hc,hd⟩:=id hit; obtain⟨ot,hot,_,nt,hdt⟩:=ht
 unfold bd; refine ae (bh (name:=bN "__next__") hit.typeIs dP (bu dP hit.typeIs gD ?_ (gq _)))
 show wpAny _ _ (field (.ref it) 0 >>= _) _ _ s; refine ae (br ho hd (x:=.ref t) rfl ?_); show wpAny _ _ (if (bb t == dE)=true then _ else _) _ _ _; rw [if_neg (by exact aN)]
 refine ae (br ho hd (x:=.int _ 0) rfl ?_); refine ae (m:=seqItems? _) (c8 hot hdt ?_); simp only [bm,hx]
 refine ae (cg (ae (dX ho hd (by simp) ?_))); show wpAny _ _ (newExc (.type "StopIteration") [] >>= _) _ _ _; refine ae ?_
 simp only [newExc,newTuple]; refine ae (bM ?_ (by size_fits)); refine ae (m:=firstArgMember _ _) (dG (a:=dE) (by first | rfl | (simp only [firstArgMember]; rfl)) ?_)
 refine bM ?_ (by size_fits); simp only [raiseNew]; refine ae (jk ?_); first | rw [show A.in1.handled=none from hh] | rw [hh]
 refine ae (ak (jV ?_)); exact hE _ _ (((cN ..).extBut.push _).push _) ⟨_,aI _ rfl,rfl⟩
end
theorem Draws.tuple {prog:Program} {w:World} {A:Around} (hh:A.handled=none) (it t:Addr) (hne:t≠it) (items:Array Value):Draws prog w A it [it,t] items.size (fun i v=>items[i]? = some v) (fun i h=>h.IsTupleIter it t i∧h.IsTuple t items) where
 live:=fun i h st=>st.1.imp fun o r=>r.1
 frame:=fun i h h' st kk=>⟨st.1.at fun o=>kk it (by simp) o,st.2.at fun o=>kk t (by simp) o⟩
 item:=fun i s Q E hi st hQ=>zgQ st.1 st.2 (x:=items[i]) (by simp [hi]) fun h' a b=>hQ _ h' s.toks (by simp [hi]) ⟨a,st.2.extBut b.extBut hne⟩ b
 done:=fun s Q E st hE=>zgR hh st.1 st.2 (by simp) hE
def zcl (t:Addr):Obj:={ cls:=.type "tuple_iterator",data:=.fields #[.ref t,.int 0 0] }
def zkt (it:Addr):Obj:={ cls:=.type "enumerate",data:=.fields #[.none,.bool false,.ref it,rawInt 0,.none,.none] }
end PySem
namespace L2
open PySem PySem.Spec PyProof.Rows
theorem zjx {P:Program} {w:World} {K:ag} {tg:Expr} (a it:Addr) (n:Nat):Turn P w K tg (zgP (SqT K) a n) [it] it (fun i h=>i≤n∧h.IsRvd it a ((n:Int) - 1 - (i:Int))) where
 mem:=by simp
 obj:=fun i h st b hb=>by
  have z:b=it:=by simpa using hb
  subst z
  obtain⟨_,o,e,c,d⟩:=st
  exact⟨o,e,fun v z=>by rw [d] at z; cases z⟩
 keep:=fun i h h' st k=>⟨st.1,st.2.at fun o e=>k it (by simp) o e⟩
 item:=by
  intro X hP hw hK hc i pins s σ H E I hf st hg
  subst hP hw hK
  obtain⟨hin,xs,hq,hl⟩:=hg
  obtain⟨its,rv,p,hz⟩:=I.tuple hq
  have hlen:=rv.length
  have hsl:=aV
  obtain⟨x,hx⟩:∃ x,xs[n - 1 - i]? = some x:=⟨xs[n - 1 - i]'(by lia),by simp⟩
  obtain⟨u,hu,ru⟩:=rv.get hx
  obtain⟨f0,f1,f2,f3,f4,f5⟩:=hf it (by simp)
  have e:(n:Int) - 1 - (i:Int)=((n - 1 - i:Nat):Int):=by lia
  have hit:=st.2
  rw [e] at hit
  refine zcm hit p (x:=u) (by simpa using hu) (by lia) fun h' st' sb=>?_
  have I1:Inv X pins σ H { s with heap:=h',toks:=s.toks+1 }:=I.turned (t':=s.toks+1) (fun b o hb e=>(sb.2 b hb).trans e) f0 f1 f3 f4 f5
  have e2:((n - 1 - i:Nat):Int) - 1=(n:Int) - 1 - ((i+1:Nat):Int):=by lia
  rw [e2] at st'
  obtain⟨o,eo,c,d⟩:=id st'
  exact⟨u,rfl,zfe (s:={ s with heap:=h',toks:=s.toks+1 }) eo c d (by decide) ⟨x,H,I1,ru,⟨rfl,fun ys hy=>by rw [I.tuple_inj hy hq]; exact hx⟩,⟨hin,st'⟩,fun b hb=>(hf b hb).1⟩⟩
 done:=by
  intro X hP hw hK hc i pins s σ H E I hf st hg
  subst hP hw hK
  obtain⟨f0,f1,f2,f3,f4,f5⟩:=hf it (by simp)
  have hin:n≤i:=hg
  have e:(n:Int) - 1 - (i:Int) = -1:=by have:=st.1; lia
  have hit:=st.2
  rw [e] at hit
  exact zco (I.ok.hd hc) hit fun h' eb=>⟨rfl,I.turned (t':=s.toks) (fun b o hb e=>eb b o hb e) f0 f1 f3 f4 f5⟩
 self:=fun _ _ _ _ _ st h=>zb3 st.2 h
theorem zfZ {X:Cx} {tg:Expr} {pins:List (Addr×Obj)} {σ:St} {H1:Hp} {s1:Shared} {R:It→Hp→Prop} {l:Addr} {xs:List V} (I1:Inv X pins σ H1 s1) (hq:SqT X.K H1 l xs) (q:R (zgP (SqT X.K) l xs.length) H1) :
  wpAny (model X.prog X.w) X.A (call (.type "reversed") [.ref l]) (fun v s2=>wpAny (model X.prog X.w) X.A (pyIter v) (PIE X pins σ tg R) X.xe s2) X.xe s1:=by
 obtain⟨its,rv,pl,hz⟩:=I1.tuple hq
 have hlen:=rv.length
 have hsl:=aV
 refine zej pl (by rw [aj]; lia) ?_
 have I2:Inv X pins σ H1 { s1 with heap:=s1.heap.push (zfY l ((its.toArray.size:Int) - 1)),toks:=s1.toks+1+1 }:=I1.kept fun b o e=>ai _ e
 have hr:(s1.heap.push (zfY l ((its.toArray.size:Int) - 1))).IsRvd s1.heap.objs.size l ((xs.length:Int) - 1 - ((0:Nat):Int)):=by
  refine⟨_,aI _ rfl,rfl,?_⟩
  have e1:(its.toArray.size:Int) - 1=(xs.length:Int) - 1 - ((0:Nat):Int):=by rw [aj,hlen]; lia
  show jS #[.ref l,rawInt ((its.toArray.size:Int) - 1)]=_
  rw [e1]
 refine zb3 hr ?_
 refine⟨_,[s1.heap.objs.size],_,zgP (SqT X.K) l xs.length,H1,rfl,I2,zjx l s1.heap.objs.size xs.length,⟨aY _,hr⟩,fun b hb=>?_,q⟩
 have z:b=s1.heap.objs.size:=by simpa using hb
 subst z
 exact I1.fpOk (af _) (I1.hok.fresh (af _))
theorem zgS {X:Cx} {tg:Expr} {pins:List (Addr×Obj)} {σ:St} {H1:Hp} {s1:Shared} {R:It→Hp→Prop} {l:Addr} {xs:List V} (I1:Inv X pins σ H1 s1) (hq:SqL X.K H1 l xs) (q:R (zgP (SqL X.K) l xs.length) H1) :
  wpAny (model X.prog X.w) X.A (call (.type "reversed") [.ref l]) (fun v s2=>wpAny (model X.prog X.w) X.A (pyIter v) (PIE X pins σ tg R) X.xe s2) X.xe s1:=by
 obtain⟨its,rv,pl,hz⟩:=I1.list hq
 have hlen:=rv.length
 refine call_reversed_list pl.isList ?_
 have I2:Inv X pins σ H1 { s1 with heap:=s1.heap.push (revObj l ((its.toArray.size:Int) - 1)) }:=I1.kept (t':=s1.toks) fun b o e=>ai _ e
 have hr:(s1.heap.push (revObj l ((its.toArray.size:Int) - 1))).IsRevIter s1.heap.objs.size l ((xs.length:Int) - 1 - ((0:Nat):Int)):=by
  refine⟨_,aI _ rfl,rfl,?_⟩
  have e1:(its.toArray.size:Int) - 1=(xs.length:Int) - 1 - ((0:Nat):Int):=by rw [aj,hlen]; lia
  show jS #[.ref l,rawInt ((its.toArray.size:Int) - 1)]=_
  rw [e1]
 refine je hr ?_
 refine⟨_,[s1.heap.objs.size],_,zgP (SqL X.K) l xs.length,H1,rfl,I2,zjw l s1.heap.objs.size xs.length,⟨aY _,hr⟩,fun b hb=>?_,q⟩
 have z:b=s1.heap.objs.size:=by simpa using hb
 subst z
 exact I1.fpOk (af _) (I1.hok.fresh (af _))
def zpu (K:ag) (ta:TA):TI:=fun σ H R=>ta σ H fun vs H1=>∃ a xs,vs = [.ref a]∧((SqL K H1 a xs∧R (zgP (SqL K) a xs.length) H1)∨(SqT K H1 a xs∧R (zgP (SqT K) a xs.length) H1))
theorem znW {X:Cx} {tg:Expr} {p pos:Pos} {a:Expr} {ta:TA} (hg:Gl X "reversed") (hm:X.mg "reversed" = none) (ha:PA X [a] ta) (hs:starEach [a] X.env = [(false,eval a X.env)]:=by rfl) :
  PI X tg (.Call (.Name "reversed" p) [a] [] pos) (zpu X.K ta):=by
 intro pins s σ H R I h
 refine Call_ (zbx I hg hm boot_reversed (bq (thn (ha pos pins s σ H _ I h) fun us s1 ⟨vs,H1,I1,r1,q1⟩=>?_) hs rfl))
 obtain⟨l,xs,e,hq⟩:=q1
 subst e
 cases r1 with
 | cons r rr =>
  cases rr
  cases r
  rcases hq with ⟨hq,q⟩ | ⟨hq,q⟩
  ·exact zgS I1 hq q
  ·exact zfZ I1 hq q
end L2
end
section
namespace L2
open PySem PySem.Spec PyProof.Rows
inductive EqD (K:ag) (H:Hp):Nat→V→V→Bool→Prop where
 | flat {d:Nat} {x y:V} (hx:zfn x=true) (hy:zfn y=true):EqD K H d x y (eqV x y)
 | same {d:Nat} {a:Addr}:EqD K H d (.ref a) (.ref a) true
 | lists {d:Nat} {a b:Addr} {xs ys:List V} {e:Nat→Bool} (hne:a≠b) (ha:SqL K H a xs) (hb:SqL K H b ys) (hl:xs.length=ys.length)
   (he:∀ (j:Nat) x y,xs[j]? = some x→ys[j]? = some y→EqD K H d x y (e j)):EqD K H (d+1) (.ref a) (.ref b) ((aL xs.length).all e)
 | lens {d:Nat} {a b:Addr} {xs ys:List V} (hne:a≠b) (ha:SqL K H a xs) (hb:SqL K H b ys) (hl:xs.length≠ys.length):EqD K H (d+1) (.ref a) (.ref b) false
 | tups {d:Nat} {a b:Addr} {xs ys:List V} {e:Nat→Bool} (hne:a≠b) (ha:SqT K H a xs) (hb:SqT K H b ys)
   (he:∀ (j:Nat) x y,xs[j]? = some x→ys[j]? = some y→EqD K H d x y (e j)):EqD K H (d+1) (.ref a) (.ref b) ((aL (min xs.length ys.length)).all e && xs.length == ys.length)
theorem zL.getE {xs:List V} {us:List Value} (r:zL xs us) {j:Nat} (h:j < us.toArray.size):∃ x,xs[j]? = some x∧RelV x us.toArray[j]:=by
 have hl:=r.length
 have hj:j < xs.length:=by rw [hl]; simpa using h
 obtain⟨u,hu,ru⟩:=r.get (i:=j) (x:=xs[j]) (by simp)
 refine⟨xs[j],by simp,?_⟩
 have:us.toArray[j]=u:=by
  have h2:j < us.length:=by simpa using h
  rw [am h2] at hu
  simpa using aO hu
 rw [this]
 exact ru
theorem EqD.at {X:Cx} {pins:List (Addr×Obj)} {σ:St} {H:Hp} {s:Shared} (I:Inv X pins σ H s) {d:Nat} {x y:V} {b:Bool} (h:EqD X.K H d x y b) :
  ∀ (A:Around) (u v:Value),RelV x u→RelV y v→A.units+d < cLine→SeqAt.EqAt A s u v b:=by
 induction h with
 | flat hx hy=>exact fun A u v rx ry _=>znP rx ry hx hy
 | same=>intro A u v rx ry _; cases rx; cases ry; exact ki _
 | lists hne ha hb hl he ih =>
  intro A u v rx ry hu
  cases rx; cases ry
  obtain⟨is1,r1,p1,_⟩:=I.list ha
  obtain⟨is2,r2,p2,_⟩:=I.list hb
  have l1:=r1.length
  have l2:=r2.length
  refine gE hne ?_
  have q:=j5 (A:=A) p1.isList p2.isList (by simp only [aj]; lia) (by lia) fun j h1 h2=>by
   obtain⟨x,hx,rx⟩:=r1.getE h1
   obtain⟨y,hy,ry⟩:=r2.getE h2
   exact ih j x y hx hy A.in1 _ _ rx ry (by simp only [ci]; lia)
  rw [aj,← l1] at q
  exact q
 | lens hne ha hb hl =>
  intro A u v rx ry hu
  cases rx; cases ry
  obtain⟨is1,r1,p1,_⟩:=I.list ha
  obtain⟨is2,r2,p2,_⟩:=I.list hb
  have l1:=r1.length
  have l2:=r2.length
  exact gE hne (il p1.isList p2.isList (by simp only [aj,bne_iff_ne]; lia) (by lia))
 | tups hne ha hb he ih =>
  intro A u v rx ry hu
  cases rx; cases ry
  obtain⟨is1,r1,p1,_⟩:=I.tuple ha
  obtain⟨is2,r2,p2,_⟩:=I.tuple hb
  have l1:=r1.length
  have l2:=r2.length
  refine gE hne ?_
  have q:=gX (A:=A) (s:=s) p1 p2 (by lia) fun j h1 h2=>by
   obtain⟨x,hx,rx⟩:=r1.getE h1
   obtain⟨y,hy,ry⟩:=r2.getE h2
   exact ih j x y hx hy A.in1 _ _ rx ry (by simp only [ci]; lia)
  rw [aj,aj,← l1,← l2] at q
  exact q
def zku (K:ag) (neg:Bool):R2:=fun x y H Q=>∃ a b xs ys,x = .ref a∧y = .ref b∧((SqL K H a xs∧SqL K H b ys)∨(SqT K H a xs∧SqT K H b ys)) ∧
 ((xs.length≠ys.length∧(∀ (j:Nat) x y,xs[j]? = some x→ys[j]? = some y→∃ c,EqD K H 8 x y c)∧Q (.bl neg) H) ∨
  (xs.length=ys.length∧∃ e:Nat→Bool,(∀ (j:Nat) x y,xs[j]? = some x→ys[j]? = some y→EqD K H 8 x y (e j))∧Q (.bl (if neg then !(aL xs.length).all e else (aL xs.length).all e)) H))
theorem znX {X:Cx} (hu:X.A.units+20 < cLine):OpR X (compareOp .Eq) (zku X.K false):=by
 intro pins s σ H x y v u Q I rx ry h
 obtain⟨a,b,xs,ys,rfl,rfl,hk,h⟩:=h
 cases rx; cases ry
 rcases hk with ⟨ha,hb⟩ | ⟨ha,hb⟩
 ·obtain⟨is1,r1,p1,_⟩:=I.list ha
  obtain⟨is2,r2,p2,_⟩:=I.list hb
  have l1:=r1.length
  have l2:=r2.length
  rcases h with ⟨hl,_,q⟩ | ⟨hl,e,he,q⟩
  ·exact il p1.isList p2.isList (by simp only [aj,bne_iff_ne]; lia) (by lia) _ _ _ _ ⟨.bl false,H,I,rfl,q⟩
  ·refine j5 p1.isList p2.isList (e:=e) (by simp only [aj]; lia) (by lia) (fun j h1 h2=>?_) _ _ _ _ ⟨.bl _,H,I,rfl,?_⟩
   ·obtain⟨x,hx,rx⟩:=r1.getE h1
    obtain⟨y,hy,ry⟩:=r2.getE h2
    exact (he j x y hx hy).at I _ _ _ rx ry (by simp only [ci]; lia)
   ·rw [aj,← l1]
    exact q
 ·obtain⟨is1,r1,p1,_⟩:=I.tuple ha
  obtain⟨is2,r2,p2,_⟩:=I.tuple hb
  have l1:=r1.length
  have l2:=r2.length
  rcases h with ⟨hl,he,q⟩ | ⟨hl,e,he,q⟩
  ·have he':∀ j:Nat,∃ c:Bool,∀ x y,xs[j]? = some x→ys[j]? = some y→EqD X.K H 8 x y c:=fun j=>by
    cases hx:xs[j]? with
    | none=>exact⟨true,fun x y z=>by cases z⟩
    | some x =>
     cases hy:ys[j]? with
     | none=>exact⟨true,fun x y _ z=>by cases z⟩
     | some y =>
      obtain⟨c,hc⟩:=he j x y hx hy
      exact⟨c,fun x' y' z1 z2=>by cases z1; cases z2; exact hc⟩
   obtain⟨e,he''⟩:=iz he'
   refine gX (s:=s) p1 p2 (e:=e) (by lia) (fun j h1 h2=>?_) _ _ _ _ ⟨.bl _,H,I,rfl,?_⟩
   ·obtain⟨x,hx,rx⟩:=r1.getE h1
    obtain⟨y,hy,ry⟩:=r2.getE h2
    exact (he'' j x y hx hy).at I _ _ _ rx ry (by simp only [ci]; lia)
   ·have hb':(is1.toArray.size == is2.toArray.size)=false:=by
     rw [aj,aj]; exact beq_eq_false_iff_ne.mpr (by lia)
    rw [hb',i3]
    exact q
  ·refine gX (s:=s) p1 p2 (e:=e) (by lia) (fun j h1 h2=>?_) _ _ _ _ ⟨.bl _,H,I,rfl,?_⟩
   ·obtain⟨x,hx,rx⟩:=r1.getE h1
    obtain⟨y,hy,ry⟩:=r2.getE h2
    exact (he j x y hx hy).at I _ _ _ rx ry (by simp only [ci]; lia)
   ·have hb':(is1.toArray.size == is2.toArray.size)=true:=by
     rw [aj,aj]; exact beq_iff_eq.mpr (by lia)
    have hmin:min is1.toArray.size is2.toArray.size=xs.length:=by rw [aj,aj]; lia
    rw [hb',kG,hmin]
    exact q
theorem zhR {X:Cx} (hu:X.A.units+20 < cLine):OpR X (compareOp .NotEq) (zku X.K true):=by
 intro pins s σ H x y v u Q I rx ry h
 obtain⟨a,b,xs,ys,rfl,rfl,hk,h⟩:=h
 cases rx; cases ry
 rcases hk with ⟨ha,hb⟩ | ⟨ha,hb⟩
 ·obtain⟨is1,r1,p1,_⟩:=I.list ha
  obtain⟨is2,r2,p2,_⟩:=I.list hb
  have l1:=r1.length
  have l2:=r2.length
  rcases h with ⟨hl,_,q⟩ | ⟨hl,e,he,q⟩
  ·exact SeqAt.RcNeAt.lists_lengths p1.isList p2.isList (by simp only [aj,bne_iff_ne]; lia) (by lia) _ _ _ _ ⟨.bl true,H,I,rfl,q⟩
  ·refine SeqAt.RcNeAt.lists p1.isList p2.isList (e:=e) (by simp only [aj]; lia) (by lia) (fun j h1 h2=>?_) _ _ _ _ ⟨.bl _,H,I,rfl,?_⟩
   ·obtain⟨x,hx,rx⟩:=r1.getE h1
    obtain⟨y,hy,ry⟩:=r2.getE h2
    exact (he j x y hx hy).at I _ _ _ rx ry (by simp only [ci]; lia)
   ·rw [aj,← l1]
    exact q
 ·obtain⟨is1,r1,p1,_⟩:=I.tuple ha
  obtain⟨is2,r2,p2,_⟩:=I.tuple hb
  have l1:=r1.length
  have l2:=r2.length
  rcases h with ⟨hl,he,q⟩ | ⟨hl,e,he,q⟩
  ·have he':∀ j:Nat,∃ c:Bool,∀ x y,xs[j]? = some x→ys[j]? = some y→EqD X.K H 8 x y c:=fun j=>by
    cases hx:xs[j]? with
    | none=>exact⟨true,fun x y z=>by cases z⟩
    | some x =>
     cases hy:ys[j]? with
     | none=>exact⟨true,fun x y _ z=>by cases z⟩
     | some y =>
      obtain⟨c,hc⟩:=he j x y hx hy
      exact⟨c,fun x' y' z1 z2=>by cases z1; cases z2; exact hc⟩
   obtain⟨e,he''⟩:=iz he'
   refine jr (s:=s) p1 p2 (e:=e) (by lia) (fun j h1 h2=>?_) _ _ _ _ ⟨.bl _,H,I,rfl,?_⟩
   ·obtain⟨x,hx,rx⟩:=r1.getE h1
    obtain⟨y,hy,ry⟩:=r2.getE h2
    exact (he'' j x y hx hy).at I _ _ _ rx ry (by simp only [ci]; lia)
   ·have hb':(is1.toArray.size == is2.toArray.size)=false:=by
     rw [aj,aj]; exact beq_eq_false_iff_ne.mpr (by lia)
    rw [hb',i3]
    exact q
  ·refine jr (s:=s) p1 p2 (e:=e) (by lia) (fun j h1 h2=>?_) _ _ _ _ ⟨.bl _,H,I,rfl,?_⟩
   ·obtain⟨x,hx,rx⟩:=r1.getE h1
    obtain⟨y,hy,ry⟩:=r2.getE h2
    exact (he j x y hx hy).at I _ _ _ rx ry (by simp only [ci]; lia)
   ·have hb':(is1.toArray.size == is2.toArray.size)=true:=by
     rw [aj,aj]; exact beq_iff_eq.mpr (by lia)
    have hmin:min is1.toArray.size is2.toArray.size=xs.length:=by rw [aj,aj]; lia
    rw [hb',kG,hmin]
    exact q
theorem zek {K:ag} {H:Hp} {ms ns:List Int}:∀ (j:Nat) x y,(ms.map V.int)[j]? = some x→(ns.map V.int)[j]? = some y→EqD K H 8 x y ((fun j=>decide (ms[j]? = ns[j]?)) j):=fun j x y hx hy=>by
 rw [ah] at hx hy
 cases h1:ms[j]? with
 | none=>rw [h1] at hx; cases hx
 | some m =>
  cases h2:ns[j]? with
  | none=>rw [h2] at hy; cases hy
  | some n =>
   rw [h1] at hx; rw [h2] at hy
   cases hx; cases hy
   have e:eqV (.int m) (.int n)=decide (some m=some n):=by
    show (m == n)=_
    rw [cm]; simp
   show EqD K H 8 (.int m) (.int n) (decide (ms[j]? = ns[j]?))
   rw [h1,h2,← e]
   exact EqD.flat rfl rfl
theorem zkv {α:Type} [DecidableEq α] {ms ns:List α} (hl:ms.length=ns.length):(aL ms.length).all (fun j=>decide (ms[j]? = ns[j]?))=decide (ms=ns):=by
 rw [cm]
 simp only [d7,bF,decide_eq_true_eq]
 constructor
 ·intro h
  apply eF
  intro j
  by_cases hj:j < ms.length
  ·exact h j hj
  ·rw [b7 (by lia),b7 (by lia)]
 ·intro h j _
  rw [h]
theorem zjy {K:ag} {neg:Bool} {H:Hp} {Q:VK} {a b:Addr} {ms ns:List Int} (hk:(SqL K H a (ms.map V.int)∧SqL K H b (ns.map V.int))∨(SqT K H a (ms.map V.int)∧SqT K H b (ns.map V.int)))
  (q:Q (.bl (if neg then !decide (ms=ns) else decide (ms=ns))) H):zku K neg (.ref a) (.ref b) H Q:=by
 refine⟨a,b,_,_,rfl,rfl,hk,?_⟩
 rw [ab,ab]
 by_cases hl:ms.length=ns.length
 ·refine .inr ⟨hl,_,zek,?_⟩
  rw [zkv hl]
  exact q
 ·refine .inl ⟨hl,fun j x y hx hy=>⟨_,zek j x y hx hy⟩,?_⟩
  have hne:ms≠ns:=fun z=>hl (by rw [z])
  cases neg with
  | true=>simpa [hne] using q
  | false=>simpa [hne] using q
theorem zgT {X:Cx}:zbM X (.type "range") (fun xs H Q=>∃ j:Int,xs = [.int j]∧∀ l,H l=none→Q (.ref l) (upd H l (.rng 0 j))):=by
 intro pins s σ H xs us Q I r h
 obtain⟨j,rfl,q⟩:=h
 obtain⟨u,rfl,t,rfl⟩:=vals1 r
 refine call_range_1 ?_
 exact⟨.ref s.heap.objs.size,_,I.laid (o:=.rng 0 j) (fun b o e=>ai _ e) (af _) ⟨_,_,_,aI _ rfl⟩,rfl,q _ I.fresh⟩
def zbW (lo:Int) (n:Nat):List Int:=(aL n).map fun (i:Nat)=>lo+(i:Int)
theorem zcO (lo:Int) (n:Nat):(zbW lo n).length=n:=by simp [zbW]
theorem ze3 {acc:Array Value} {lo:Int} {n:Nat} (h:ItemsOf (fun i v=>∃ t,v = .int (lo+(i:Nat)*1) t) acc n):zL ((zbW lo n).map V.int) acc.toList:=by
 obtain⟨hsz,hv⟩:=h
 have go:∀ (us:List Value) (k:Nat),(∀ (j:Nat) v,us[j]? = some v→∃ t,v = .int (lo+((k+j:Nat):Int)) t)→zL (((aL us.length).map fun (i:Nat)=>V.int (lo+((k+i:Nat):Int)))) us:=by
  intro us
  induction us with
  | nil=>intro k _; exact .nil
  | cons u us ih =>
   intro k hu
   rw [aX,iU,aU,bv]
   refine .cons ?_ ?_
   ·obtain⟨t,e⟩:=hu 0 u rfl
    exact⟨t,e⟩
   ·have:=ih (k+1) fun j v e=>by
     obtain⟨t,z⟩:=hu (j+1) v (by simpa using e)
     exact⟨t,by rw [z]; congr 1; lia⟩
    have e2:(fun (i:Nat)=>V.int (lo+((k+1+i:Nat):Int)))=((fun (i:Nat)=>V.int (lo+((k+i:Nat):Int))) ∘ Nat.succ):=by
     funext i
     show V.int _=V.int _
     congr 2
     show ((k+1+i:Nat):Int)=((k+(i+1):Nat):Int)
     lia
    rw [← e2]
    exact this
 have h1:=go acc.toList 0 fun j v e=>by
  obtain⟨t,z⟩:=hv j v (by simpa using e)
  exact⟨t,by rw [z]; simp⟩
 have e1:acc.toList.length=n:=by simpa using hsz
 rw [e1] at h1
 unfold zbW
 rw [bv]
 have e2:(V.int ∘ fun (i:Nat)=>lo+(i:Int))=fun (i:Nat)=>V.int (lo+((0+i:Nat):Int)):=by
  funext i
  show V.int (lo+(i:Int))=V.int (lo+((0+i:Nat):Int))
  rw [dm]
 rw [e2]
 exact h1
theorem ze4 {X:Cx} (hc:X.calm=true):zbM X (.type "list") (fun xs H Q=>∃ p hi,xs = [.ref p]∧H p=some (.rng 0 hi)∧0≤hi∧hi≤1000∧∀ l,H l=none→Q (.ref l) (upd H l (.lst ((zbW 0 hi.toNat).map V.int)))):=by
 intro pins s σ H xs us Q I r h
 obtain⟨p,hi,rfl,hp,h0,h1,q⟩:=h
 obtain⟨u,rfl,rx⟩:=vals1 r
 cases rx
 obtain⟨t,u',v,e⟩:=(show zao X.prog X.w H s.heap p (.rng 0 hi) from I.hok p _ hp)
 have hsl:=aV
 refine call_list_range (n:=hi.toNat) (I.ok.hd hc) (show IsRange s.heap p 0 hi 1 t u' v from e) (small_one (by lia) (by lia) (by lia) (by lia)) (by rw [rangeSize_one]; split <;> lia) (by lia) fun h' tk acc' c' kk ho hacc=>?_
 have hv:=ze3 (lo:=0) (n:=hi.toNat) hacc
 refine⟨.ref s.heap.objs.size,_,I.laid kk (af _) ?_,rfl,q _ I.fresh⟩
 exact⟨by rw [ab,zcO]; lia,acc'.toList,c',hv,by simpa using ho⟩
def zpv (K:ag) (tl:TE):TI:=fun σ H R=>tl σ H fun x H1=>∃ a,x = .ref a∧(((∃ xs,SqL K H1 a xs)∧R (Itl K a) H1)∨((∃ xs,SqT K H1 a xs)∧R (Itt K a) H1))
theorem znY {X:Cx} {tg l:Expr} {tl:TE} (hl:PE X l tl):PI X tg l (zpv X.K tl):=by
 intro pins s σ H R I h
 refine thn (hl pins s σ H _ I h) fun v s1 ⟨x,H1,I1,r1,q1⟩=>?_
 obtain⟨a,e,q⟩:=q1
 subst e
 cases r1
 rcases q with ⟨⟨xs,hq⟩,q⟩ | ⟨⟨xs,hq⟩,q⟩
 ·obtain⟨its,rv,p,hz⟩:=I1.list hq
  refine gS p.isList ?_
  refine⟨s1.heap.objs.size,[s1.heap.objs.size],_,_,H1,rfl,I1.kept (t':=s1.toks) fun b o e=>ai _ e,zff a _,⟨_,aI _ rfl,rfl,rfl⟩,fun b hb=>?_,q⟩
  have e:b=s1.heap.objs.size:=by simpa using hb
  subst e
  exact I1.fpOk (af _) (I1.hok.fresh (af _))
 ·obtain⟨its,rv,p,hz⟩:=I1.tuple hq
  refine gB (show s1.heap.IsTuple a its.toArray from p) ?_
  refine⟨s1.heap.objs.size,[s1.heap.objs.size],_,_,H1,rfl,I1.kept (t':=s1.toks) fun b o e=>ai _ e,zee a _,⟨_,aI _ rfl,rfl,rfl⟩,fun b hb=>?_,q⟩
  have e:b=s1.heap.objs.size:=by simpa using hb
  subst e
  exact I1.fpOk (af _) (I1.hok.fresh (af _))
def intsOf:List Expr→Option (List Int)
 | []=>some []
 | .Constant (.int i) _ _ :: r=>(intsOf r).map (i :: ·)
 | _=>none
def zft (ns:List Int):TA:=fun _ H Q=>Q (ns.map V.int) H
theorem zkw {X:Cx}:∀ (es:List Expr) (ns:List Int),intsOf es=some ns→PA X es (zft ns):=by
 intro es
 induction es with
 | nil =>
  intro ns h
  have e:ns = []:=(aO h).symm
  subst e
  exact ze
 | cons e r ih =>
  intro ns h
  unfold intsOf at h
  split at h
  ·rename_i heq
   cases heq
  ·rename_i i j p r' heq
   injection heq with e1 e2
   subst e1 e2
   cases hr:intsOf r with
   | none=>rw [hr] at h; cases h
   | some ms =>
    rw [hr] at h
    have e:i :: ms=ns:=aO h
    subst e
    exact za zf (ih ms hr)
  ·cases h
theorem zmd {X:Cx} {es:List Expr} {ns:List Int} (h:intsOf es=some ns):PA X es (zft ns):=zkw es ns h
theorem zcP {X:Cx} {i:Int} {j:Nat} {p:Pos} {es:List Expr} {t:TA} (hr:PA X es t):PA X (.Constant (.int i) j p :: es) (znl (tC (.int i)) t):=za zf hr
theorem zkx {X:Cx} {i:Nat} {x:Str} {pos' pos2 spos:Pos} {rest:List Stmt} {u:TS} {es:List Expr} {ns:List Int} (h:intsOf es=some ns) (hN:X.N.Nodup) (hi:X.N[i]? = some x) (hx:Loc X.env.scope x)
  (hf:X.fn x=true∨X.env.scope.names.lookup x=some .local) (hr:PSs X rest u):PSs X (.Assign [.Name x pos'] (.List es pos2) spos :: rest) (zoB (zhF (zl6 (zft ns)) (zaT i)) u):=by
 have h1:PE X (.List es pos2) (zl6 (zft ns)):=@zX X es (zft ns) pos2 (@zmd X es ns h)
 have h2:PS X (.Assign [.Name x pos'] (.List es pos2) spos) (zhF (zl6 (zft ns)) (zaT i)):=zo hN hi hx h1 (by rfl) hf
 exact zd h2 hr
section
variable {X:Cx} {K:ag}
theorem zbr (hK:X.K=K):IxR X (zoP K):=by subst hK; exact zK
theorem zky (hK:X.K=K):SlR X (zoR K):=by subst hK; exact zba
def zoS (K:ag):List V→Hp→VK→Prop:=fun xs H Q=>∃ p ys,xs = [.ref p]∧(SqL K H p ys∨SqT K H p ys)∧Q (.int ys.length) H
theorem zbX (hK:X.K=K):zbM X (.builtin "len") (zoS K):=by subst hK; exact zu
theorem zaq {es:List Expr} {k:Nat} {t:TGs} {n:Nat} {pos:Pos} (hK:X.K=K) (hc:X.calm=true) (h:PGs X es t)
  (hn:(assignEach es X.env).length=n:=by rfl) (hst:(assignEach es X.env).findIdx? (·.1)=none:=by rfl):PG X (.Tuple es k pos) (zgJ K n t):=by subst hK; exact zaU hc h hn hst
theorem znZ {o e:Expr} {es:List Expr} {to:TE} {t:TA} {name:Str} {apos cpos:Pos} {T id:String} {r:V→List V→Hp→VK→Prop} (hK:X.K=K) (pa:PlainAttrs T) (slot:Slot T name id) (hty:typeOf (.builtin id)=pure (.type "method_descriptor")) (hm:MtR X id r) (ho:PE X o to) (ha:PA X (e :: es) t)
  (hbase:attributeBase o name X.env (eval o X.env)=eval o X.env:=by rfl)
  (hfew:((backTo cpos (starEach (e :: es) X.env)).all (fun x=>!x.1) && (backToKw cpos (keywordEach [] X.env)).all (fun x=>x.1.isSome)
   && decide ((e :: es).length+([]:List Keyword).length+(if ([]:List Keyword).isEmpty then 0 else 1) < 30))=true:=by rfl)
  (hline:(apos.endLine == cpos.line)=true:=by rfl) (hs:starEach (e :: es) X.env=(false,eval e X.env) :: starEach es X.env:=by rfl) (hplain:(backTo cpos (starEach es X.env)).any (·.1)=false:=by rfl) :
  PE X (.Call (.Attribute o name apos) (e :: es) [] cpos) (tBM K T r to t):=by subst hK; exact zfo pa slot hty hm ho ha hbase hfew hline hs hplain
end
end L2
end
section
namespace My
def Cg (p a b:Int):Prop:=∃ k,a=b+p*k
theorem Cg.refl (p a:Int):Cg p a a:=⟨0,by grind⟩
theorem Cg.symm {p a b:Int} (h:Cg p a b):Cg p b a:=by obtain⟨k,e⟩:=h; exact⟨-k,by grind⟩
theorem Cg.trans {p a b c:Int} (h:Cg p a b) (h':Cg p b c):Cg p a c:=by
 obtain⟨k,e⟩:=h; obtain⟨l,e'⟩:=h'; exact⟨k+l,by grind⟩
theorem Cg.add {p a b c d:Int} (h:Cg p a b) (h':Cg p c d):Cg p (a+c) (b+d):=by
 obtain⟨k,e⟩:=h; obtain⟨l,e'⟩:=h'; exact⟨k+l,by grind⟩
theorem Cg.sub {p a b c d:Int} (h:Cg p a b) (h':Cg p c d):Cg p (a - c) (b - d):=by
 obtain⟨k,e⟩:=h; obtain⟨l,e'⟩:=h'; exact⟨k - l,by grind⟩
theorem Cg.mul {p a b c d:Int} (h:Cg p a b) (h':Cg p c d):Cg p (a*c) (b*d):=by
 obtain⟨k,e⟩:=h; obtain⟨l,e'⟩:=h'
 exact⟨k*d+b*l+p*k*l,by subst e e'; grind⟩
theorem Cg.of_eq {p a b:Int} (h:a=b):Cg p a b:=h ▸ Cg.refl p a
theorem Cg.emod (p a:Int):Cg p (a % p) a:=⟨-(a / p),by have:=Int.emod_add_mul_ediv a p; grind⟩
theorem Cg.mod_eq {p a b:Int} (h:Cg p a b):a % p=b % p:=by
 obtain⟨k,e⟩:=h; rw [e,Int.add_mul_emod_self_left]
theorem Cg.of_mod {p a b:Int} (h:a % p=b % p):Cg p a b:=(Cg.emod p a).symm.trans (h ▸ Cg.emod p b)
theorem Cg.eq {p a b:Int} (h:Cg p a b) (ha:0≤a) (ha':a < p) (hb:0≤b) (hb':b < p):a=b:=by
 have:=h.mod_eq
 rwa [ck ha ha',ck hb hb'] at this
def zl (p x:Int):List Int→Int
 | []=>0
 | c :: r=>(c+x*zl p x r) % p
theorem zar {p x:Int} (hp:0 < p):∀ l,0≤zl p x l
 | []=>bH 0
 | _ :: _=>aH _ (by lia)
theorem zas {p x:Int} (hp:0 < p):∀ l,zl p x l < p
 | []=>hp
 | _ :: _=>aC _ hp
theorem zN (p x c:Int) (r:List Int):Cg p (zl p x (c :: r)) (c+x*zl p x r):=Cg.emod _ _
theorem zhS {p x:Int} (m:Nat):zl p x (ap m 0)=0:=by
 induction m with
 | zero=>rfl
 | succ m ih=>rw [bY]; show (0+x*zl p x (ap m 0)) % p=0; rw [ih]; simp
theorem zgU {p x:Int} (m:Nat):∀ l,zl p x (l++ap m 0)=zl p x l
 | []=>zhS m
 | c :: r=>by show (c+x*zl p x (r++ap m 0)) % p=(c+x*zl p x r) % p; rw [zgU m r]
def lv (p x:Int):Int→Int→List Int→Int
 | total,_,[]=>total
 | total,power,c :: r=>lv p x ((total+c*power) % p) (power*x % p) r
theorem zno {p x:Int}:∀ (l:List Int) (total power:Int),Cg p (lv p x total power l) (total+power*zl p x l)
 | [],total,power=>Cg.of_eq (by show total=total+power*0; grind)
 | c :: r,total,power=>by
  have h1:=zno (p:=p) (x:=x) r ((total+c*power) % p) (power*x % p)
  refine h1.trans ?_
  have h2:Cg p ((total+c*power) % p+power*x % p*zl p x r) (total+c*power+power*x*zl p x r):=(Cg.emod p _).add ((Cg.emod p (power*x)).mul (Cg.refl p _))
  refine h2.trans ?_
  have h3:Cg p (total+power*(c+x*zl p x r)) (total+power*zl p x (c :: r)):=(Cg.refl p _).add ((Cg.refl p _).mul (zN p x c r).symm)
  refine (Cg.of_eq ?_).trans h3
  grind
theorem zkz {p x:Int} (hp:0 < p):∀ (l:List Int) (total power:Int),0≤total→total < p→0≤lv p x total power l∧lv p x total power l < p
 | [],total,power,h1,h2=>⟨h1,h2⟩
 | c :: r,total,power,h1,h2=>zkz hp r _ _ (aH _ (by lia)) (aC _ hp)
theorem ziw {p x:Int} (hp:0 < p) (l:List Int):lv p x 0 1 l=zl p x l:=by
 obtain⟨a,b⟩:=zkz (x:=x) hp l 0 1 (bH _) hp
 exact ((zno l 0 1).trans (Cg.of_eq (by grind))).eq a b (zar hp l) (zas hp l)
def zm:List Int:=[5,7,11,13,17,19,23,29,31,37,41,43,47,53,59,61,67,71,73,79,83,89,97]
def zcz (p:Int):Nat→Int→Int→Int→Int
 | 0,prod,_,_=>prod
 | n+1,prod,sq,left=>if 0 < left then zcz p n (if left % 2=1 then prod*sq % p else prod) (sq*sq % p) (left / 2) else prod
def inv (p h:Int):Int:=zcz p 7 1 (h % p) (p - 2)
def zpw:Bool:=zm.all fun p=>(aL p.toNat).all fun h=>h == 0 || (inv p h*h) % p == 1
theorem zjz:zpw=true:=by decide +kernel
theorem zp {p:Int} (hp:p∈zm):5≤p∧p≤97:=by
 have:zm.all (fun p=>decide (5≤p∧p≤97))=true:=by decide +kernel
 have:=d7.mp this p hp
 simpa using this
theorem zf0 {p h:Int} (hp:p∈zm) (h0:0 < h) (h1:h < p):Cg p (inv p h*h) 1:=by
 have e:=d7.mp (d7.mp zjz p hp) h.toNat (bF.mpr (by lia))
 have hh:((h.toNat:Nat):Int)=h:=by lia
 have:h.toNat≠0:=by lia
 simp only [km,beq_iff_eq,hh,this,false_or] at e
 have hr:=zp hp
 exact Cg.of_mod (by rw [e,ck (by lia) (by lia)])
theorem zdI {p a b:Int} (hp:p∈zm) (h:Cg p (a*b) 0):Cg p a 0∨Cg p b 0:=by
 have hr:=zp hp
 by_cases ha:a % p=0
 ·exact .inl (Cg.of_mod (by rw [ha]; simp))
 ·right
  have h0:0 < a % p:=by have:=aH a (show p≠0 by lia); lia
  have hi:=zf0 hp h0 (aC a (by lia))
  have h1:Cg p (inv p (a % p)*(a*b)) 0:=((Cg.refl p _).mul h).trans (Cg.of_eq (by grind))
  have h2:Cg p (inv p (a % p)*(a % p)*b) (1*b):=hi.mul (Cg.refl p b)
  have h3:Cg p (inv p (a % p)*(a*b)) (inv p (a % p)*(a % p)*b):=by
   have:=((Cg.refl p (inv p (a % p))).mul (Cg.emod p a).symm).mul (Cg.refl p b)
   exact (Cg.of_eq (by grind)).trans this
  exact ((Cg.of_eq (by grind)).trans (h2.symm.trans (h3.symm.trans h1)))
def trF (p r:Int) (high low:Int):Int:=(high - r*low) % p
def zbA (p r:Int) (v:List Int):List Int:=bf (trF p r) (0 :: v) (v++[0])
theorem znp {p r z:Int}:∀ (v:List Int) (h:Int),Cg p (zl p z (bf (trF p r) (h :: v) (v++[0]))) (h+(z - r)*zl p z v)
 | [],h=>by
  show Cg p ((trF p r h 0+z*0) % p) (h+(z - r)*0)
  refine (Cg.emod p _).trans ?_
  have:Cg p (trF p r h 0) (h - r*0):=Cg.emod p _
  exact (this.add (Cg.refl p (z*0))).trans (Cg.of_eq (by grind))
 | c :: w,h=>by
  show Cg p ((trF p r h c+z*zl p z (bf (trF p r) (c :: w) (w++[0]))) % p) (h+(z - r)*zl p z (c :: w))
  have ih:=znp (p:=p) (r:=r) (z:=z) w c
  have h1:Cg p (trF p r h c) (h - r*c):=Cg.emod p _
  refine (Cg.emod p _).trans ((h1.add ((Cg.refl p z).mul ih)).trans ?_)
  have h2:Cg p (h+(z - r)*(c+z*zl p z w)) (h+(z - r)*zl p z (c :: w)):=(Cg.refl p h).add ((Cg.refl p _).mul (zN p z c w).symm)
  exact (Cg.of_eq (by grind)).trans h2
theorem zix {p r z:Int} (v:List Int):Cg p (zl p z (zbA p r v)) ((z - r)*zl p z v):=(znp v 0).trans (Cg.of_eq (by grind))
theorem zbH (p r:Int) (v:List Int):(zbA p r v).length=v.length+1:=by simp [zbA]
theorem zel {α β γ:Type} {f:α→β→γ}:∀ {as:List α} {bs:List β} {c:γ},c∈bf f as bs→∃ a b,c=f a b
 | [],_,c,h=>by simp at h
 | _ :: _,[],c,h=>by simp at h
 | a :: as,b :: bs,c,h=>by
  rcases aD.mp h with e | e
  ·exact⟨a,b,e⟩
  ·exact zel e
theorem zkA {p r:Int} (hp:0 < p) (v:List Int):∀ c∈zbA p r v,0≤c∧c < p:=by
 intro c hc
 obtain⟨a,b,e⟩:=zel hc
 rw [e]; exact⟨aH _ (by lia),aC _ hp⟩
def ad (p f:Int):List Int→List Int→List Int
 | c :: cs,v :: vs=>(c+f*v) % p :: ad p f cs vs
 | cs,[]=>cs
 | [],_ :: _=>[]
theorem zfu (p f:Int):∀ (cs vs:List Int),(ad p f cs vs).length=cs.length
 | _ :: cs,_ :: vs=>by show (ad p f cs vs).length+1=_; rw [zfu p f cs vs]; rfl
 | [],[]=>rfl
 | _ :: _,[]=>rfl
 | [],_ :: _=>rfl
theorem zkB {p f:Int} (hp:0 < p):∀ (cs vs:List Int),(∀ c∈cs,0≤c∧c < p)→∀ c∈ad p f cs vs,0≤c∧c < p
 | c :: cs,v :: vs,h,d,hd=>by
  rcases aD.mp hd with e | e
  ·rw [e]; exact⟨aH _ (by lia),aC _ hp⟩
  ·exact zkB hp cs vs (fun c hc=>h c (av _ hc)) d e
 | [],[],h,d,hd=>h d hd
 | _ :: _,[],h,d,hd=>h d hd
 | [],_ :: _,h,d,hd=>by cases hd
theorem ziy {p f z:Int}:∀ (cs vs:List Int),vs.length≤cs.length→Cg p (zl p z (ad p f cs vs)) (zl p z cs+f*zl p z vs)
 | c :: cs,v :: vs,h=>by
  have ih:=ziy (p:=p) (f:=f) (z:=z) cs vs (by simpa using h)
  show Cg p (((c+f*v) % p+z*zl p z (ad p f cs vs)) % p) (zl p z (c :: cs)+f*zl p z (v :: vs))
  refine (Cg.emod p _).trans (((Cg.emod p (c+f*v)).add ((Cg.refl p z).mul ih)).trans ?_)
  have h2:Cg p ((c+z*zl p z cs)+f*(v+z*zl p z vs)) (zl p z (c :: cs)+f*zl p z (v :: vs)):=(zN p z c cs).symm.add ((Cg.refl p f).mul (zN p z v vs).symm)
  exact (Cg.of_eq (by grind)).trans h2
 | [],[],_=>Cg.of_eq (by show (0:Int)=0+f*0; grind)
 | c :: cs,[],_=>Cg.of_eq (by show zl p z (c :: cs)=zl p z (c :: cs)+f*0; grind)
 | [],_ :: _,h=>by simp at h
def zcp (p:Int) (s:List Int×List Int) (q:Int×Int):List Int×List Int :=
 (ad p ((q.2 - zl p q.1 s.1)*inv p (zl p q.1 s.2) % p) s.1 s.2,zbA p q.1 s.2)
def zoT (p:Int) (n:Nat) (pts:List (Int×Int)):List Int×List Int:=pts.foldl (zcp p) (ap n 0,[1])
def thr (p:Int) (pts:List (Int×Int)):List Int:=(zoT p pts.length pts).1
def zcq (z:Int):List (Int×Int)→Int
 | []=>1
 | q :: r=>(z - q.1)*zcq z r
theorem zem (z:Int) (q:Int×Int):∀ l,zcq z (l++[q])=zcq z l*(z - q.1)
 | []=>by show (z - q.1)*1=1*(z - q.1); grind
 | a :: l=>by show (z - a.1)*zcq z (l++[q])=(z - a.1)*zcq z l*(z - q.1); rw [zem z q l]; grind
theorem zen {z:Int}:∀ {l:List (Int×Int)},(∃ q∈l,q.1=z)→zcq z l=0
 | [],h=>by obtain⟨q,hq,_⟩:=h; cases hq
 | a :: l,h=>by
  show (z - a.1)*zcq z l=0
  obtain⟨q,hq,e⟩:=h
  rcases aD.mp hq with hq | hq
  ·subst hq; rw [e]; simp
  ·rw [zen ⟨q,hq,e⟩]; simp
theorem zgV {p z:Int} (hp:p∈zm) (hz:0≤z) (hz':z < p):∀ {l:List (Int×Int)},(∀ q∈l,0≤q.1∧q.1 < p∧q.1≠z)→¬ Cg p (zcq z l) 0
 | [],_,h=>by
  have hr:=zp hp
  have:=h.mod_eq
  have e1:(zcq z []:Int)=1:=rfl
  rw [e1,ck (by lia) (by lia)] at this
  simp at this
 | a :: l,hl,h=>by
  rcases zdI hp (show Cg p ((z - a.1)*zcq z l) 0 from h) with h | h
  ·obtain⟨h1,h2,h3⟩:=hl a aF
   have:Cg p z a.1:=by
    have:=h.add (Cg.refl p a.1)
    exact (Cg.of_eq (by grind)).trans (this.trans (Cg.of_eq (by grind)))
   exact h3 (this.eq hz hz' h1 h2).symm
  ·exact zgV hp hz hz' (fun q hq=>hl q (av _ hq)) h
structure Nw (p:Int) (n:Nat) (done:List (Int×Int)) (s:List Int×List Int):Prop where
 lc:s.1.length=n
 lv:s.2.length=done.length+1
 rc:∀ c∈s.1,0≤c∧c < p
 rv:∀ c∈s.2,0≤c∧c < p
 van:∀ z,Cg p (zl p z s.2) (zcq z done)
 hit:∀ q∈done,zl p q.1 s.1=q.2
theorem zgW {p:Int} (hp:p∈zm) (n:Nat):Nw p n [] (ap n 0,[1]):=by
 have hr:=zp hp
 refine⟨by simp,rfl,fun c hc=>?_,fun c hc=>?_,fun z=>?_,fun q hq=>by cases hq⟩
 ·obtain⟨_,e⟩:=List.mem_replicate.mp hc
  lia
 ·have:c=1:=by simpa using hc
  lia
 ·show Cg p ((1+z*0) % p) 1
  exact (Cg.emod p _).trans (Cg.of_eq (by grind))
theorem ziz {p:Int} {n:Nat} {done:List (Int×Int)} {s:List Int×List Int} (hp:p∈zm) (h:Nw p n done s) {q:Int×Int} (q0:0≤q.1) (q1:q.1 < p) (hd:∀ a∈done,0≤a.1∧a.1 < p∧a.1≠q.1) :
  0 < zl p q.1 s.2∧zl p q.1 s.2 < p:=by
 have hr:=zp hp
 refine⟨?_,zas (by lia) _⟩
 have h0:=zar (x:=q.1) (show 0 < p by lia) s.2
 by_cases e:zl p q.1 s.2=0
 ·exact absurd ((h.van q.1).symm.trans (Cg.of_eq e)) (zgV hp q0 q1 hd)
 ·lia
theorem zjA {p:Int} {n:Nat} {done:List (Int×Int)} {s:List Int×List Int} (hp:p∈zm) (h:Nw p n done s) {q:Int×Int} (q0:0≤q.1) (q1:q.1 < p) (hd:∀ a∈done,0≤a.1∧a.1 < p∧a.1≠q.1) :
  Cg p ((q.2 - zl p q.1 s.1)*inv p (zl p q.1 s.2) % p*zl p q.1 s.2) (q.2 - zl p q.1 s.1):=by
 obtain⟨h0,h1⟩:=ziz hp h q0 q1 hd
 have hi:=zf0 hp h0 h1
 refine ((Cg.emod p _).mul (Cg.refl p _)).trans ?_
 have:=(Cg.refl p (q.2 - zl p q.1 s.1)).mul hi
 exact (Cg.of_eq (by grind)).trans (this.trans (Cg.of_eq (by grind)))
theorem ziA {p:Int} {n:Nat} {done:List (Int×Int)} {s:List Int×List Int} (hp:p∈zm) (h:Nw p n done s) {q:Int×Int} (hn:done.length < n) (q0:0≤q.1) (q1:q.1 < p) (q2:0≤q.2) (q3:q.2 < p)
  (hd:∀ a∈done,0≤a.1∧a.1 < p∧a.1≠q.1∧0≤a.2∧a.2 < p):Nw p n (done++[q]) (zcp p s q):=by
 have hr:=zp hp
 have hd':∀ a∈done,0≤a.1∧a.1 < p∧a.1≠q.1:=fun a ha=>⟨(hd a ha).1,(hd a ha).2.1,(hd a ha).2.2.1⟩
 have hlv:=h.lv
 have hlc:=h.lc
 have hle:s.2.length≤s.1.length:=by lia
 refine⟨by show (ad _ _ _ _).length=n; rw [zfu,h.lc],by show (zbA _ _ _).length=_; rw [zbH,h.lv,ao,f8],zkB (by lia) _ _ h.rc,zkA (by lia) _,fun z=>?_,fun a ha=>?_⟩
 ·rw [zem]
  exact (zix s.2).trans (((Cg.refl p _).mul (h.van z)).trans (Cg.of_eq (by grind)))
 ·have hv:=ziy (p:=p) (f:=(q.2 - zl p q.1 s.1)*inv p (zl p q.1 s.2) % p) (z:=a.1) s.1 s.2 hle; rcases aW.mp ha with ha | ha
  ·obtain⟨b0,b1,b2,b3,b4⟩:=hd a ha
   have hz:Cg p (zl p a.1 s.2) 0:=(h.van a.1).trans (Cg.of_eq (zen ⟨a,ha,rfl⟩))
   have h2:Cg p (zl p a.1 (ad p ((q.2 - zl p q.1 s.1)*inv p (zl p q.1 s.2) % p) s.1 s.2)) (zl p a.1 s.1):=hv.trans (((Cg.refl p (zl p a.1 s.1)).add ((Cg.refl p _).mul hz)).trans (Cg.of_eq (by rw [cR,Int.add_zero])))
   rw [h.hit a ha] at h2
   exact h2.eq (zar (by lia) _) (zas (by lia) _) b3 b4
  ·have e:a=q:=by simpa using ha
   subst e
   have h2:Cg p (zl p a.1 (ad p ((a.2 - zl p a.1 s.1)*inv p (zl p a.1 s.2) % p) s.1 s.2)) a.2:=hv.trans (((Cg.refl p (zl p a.1 s.1)).add (zjA hp h q0 q1 hd')).trans (Cg.of_eq (by lia)))
   exact h2.eq (zar (by lia) _) (zas (by lia) _) q2 q3
structure Pts (p:Int) (pts:List (Int×Int)):Prop where
 nd:(pts.map (·.1)).Nodup
 rg:∀ q∈pts,0≤q.1∧q.1 < p∧0≤q.2∧q.2 < p
theorem Pts.apart {p:Int} {done rest:List (Int×Int)} {q:Int×Int} (h:Pts p (done++q :: rest)):∀ a∈done,0≤a.1∧a.1 < p∧a.1≠q.1∧0≤a.2∧a.2 < p:=fun a ha=>by
 obtain⟨r1,r2,r3,r4⟩:=h.rg a (aS _ ha)
 refine⟨r1,r2,fun e=>?_,r3,r4⟩
 have nd:=h.nd
 rw [ar,eG] at nd
 exact nd.2.2 a.1 (aE.mpr ⟨a,ha,rfl⟩) q.1 (by simp) e
theorem zkC {p:Int} (hp:p∈zm) {n:Nat}:∀ (rest done:List (Int×Int)) (s:List Int×List Int),Pts p (done++rest)→(done++rest).length=n→Nw p n done s→Nw p n (done++rest) (rest.foldl (zcp p) s)
 | [],done,s,_,_,h=>by rw [bO]; exact h
 | q :: rest,done,s,hP,hn,h=>by
  have hn':done.length < n:=by rw [← hn]; simp
  obtain⟨a,b,c,d⟩:=hP.rg q (by simp)
  have hs:=ziA hp h (q:=q) hn' a b c d hP.apart
  have e:done++q :: rest=(done++[q])++rest:=by simp
  rw [e] at hP hn ⊢
  exact zkC hp rest (done++[q]) _ hP hn hs
theorem zdo {p:Int} (hp:p∈zm) {pts:List (Int×Int)} (hP:Pts p pts):(thr p pts).length=pts.length∧(∀ c∈thr p pts,0≤c∧c < p)∧∀ q∈pts,zl p q.1 (thr p pts)=q.2:=by
 have h:=zkC hp (n:=pts.length) pts [] _ (by simpa using hP) (by simp) (zgW hp pts.length)
 exact⟨h.lc,h.rc,h.hit⟩
end My
end
section
namespace My
open PySem L2 PyProof.Rows
section
variable {K:ag}
theorem zkD {ns:List Int} {k:Int} (h0:0≤k) (h1:k < ns.length):∃ c:Int,ns[k.toNat]? = some c∧atI (ns.map V.int) k=some (.int c):=by
 have hlt:k.toNat < ns.length:=by lia
 have e:atI (ns.map V.int) ((k.toNat:Nat):Int)=some (.int ns[k.toNat]):=zaR (by simp [ah,am hlt])
 have hk:((k.toNat:Nat):Int)=k:=by lia
 rw [hk] at e
 exact⟨ns[k.toNat],by simp,e⟩
theorem zdY {ns:List Int} {k:Int} (h0:0≤k) (h1:k < ns.length):∃ c:Int,atI (ns.map V.int) k=some (.int c):=let ⟨c,_,e⟩:=zkD h0 h1; ⟨c,e⟩
theorem zb {H:Hp} {a:Addr} {o:HO} (h:H a=none):zt H (upd H a o):=fun b u e=>by rw [zq (zy e h)]; exact e
theorem zac {H H':Hp} {a:Addr} {o:HO} (s:zt H H') (h:H a=none):zt H (upd H' a o):=fun b u e=>by rw [zq (zy e h)]; exact s b u e
theorem zad {n:Nat} (h:n≤10000):n < sizeLine:=by rw [aV]; lia
def zjB (K:ag):Sp:=fun vs H Q _=>∃ (a:Addr) (ns:List Int) (k:Int),vs = [.ref a,.int k]∧SqL K H a (ns.map V.int)∧ns.length≤63∧0≤k∧k≤1000∧∀ c:Int,Q (.int c) H
def ziB (many:Nat) (base:Int) (ds:List Int):Prop:=ds.length=many∧∀ d∈ds,0≤d∧d < base
def zhT (K:ag):Sp:=fun vs H Q _=>∃ (a:Addr) (ns:List Int) (k many base:Int),vs = [.ref a,.int k,.int many,.int base]∧SqL K H a (ns.map V.int)∧ns.length≤63∧0≤k∧k≤1000∧0≤many∧many≤1000∧0 < base∧base < 1073741824 ∧
 ∀ (l:Addr) (ds:List Int) (H':Hp),H l=none→zt H H'→ziB many.toNat base ds→H' l=some (.lst (ds.map V.int))→Q (.ref l) H'
abbrev zme:List V:=[.int 2147483647,.int 2147483629,.int 2147483587,.int 2147483579,.int 2147483563,.int 2147483549,.int 2147483543,.int 2147483497]
theorem zmf {m:Int} (h0:0≤m) (h1:m < 8):∃ q:Int,atI zme m=some (.int q)∧0 < q∧q < 2147483648:=by
 have:m=0∨m=1∨m=2∨m=3∨m=4∨m=5∨m=6∨m=7:=by lia
 rcases this with e | e | e | e | e | e | e | e <;> subst e <;> exact⟨_,rfl,by decide,by decide⟩
theorem zeo (j:Int):∃ q:Int,atI zme (j % 8)=some (.int q)∧0 < q∧q < 2147483648:=zmf (aH _ (by decide)) (aC _ (by decide))
theorem gY {i:Nat} {x:V} {σ:L2.St} {H:Hp} {A B:L2.St→Hp→Prop} (h:A (σ.set i (some x)) H):zaT i x σ H (fun σ2 H2=>zmc σ2 H2 fun b H3=>if b=true then A σ2 H3 else B σ2 H3):=by
 show (if true=true then A (σ.set i (some x)) H else B (σ.set i (some x)) H)
 rw [if_pos rfl]
 exact h
structure CodeOk (mk mn p k:Int) (pl:List Int):Prop where
 pr:p∈zm
 k1:1≤k
 kk:k≤mk
 kl:k≤pl.length
 ln:(pl.length:Int)≤mn
 nd:pl.Nodup
 rg:∀ x∈pl,0≤x∧x < p
def zjC (K:ag):Sp:=fun vs H Q _=>∃ (a:Addr) (ns:List Int) (at' mk mn:Int),vs = [.ref a,.int at',.int mk,.int mn]∧SqL K H a (ns.map V.int)∧ns.length≤63∧0≤at'∧at'≤1000∧1≤mk∧mk≤5∧mk≤mn∧mn≤16 ∧
 ∀ (c tt:Addr) (p k:Int) (pl:List Int) (H':Hp),H c=none→zt H H'→CodeOk mk mn p k pl→H' c=some (.tup [.int p,.int k,.ref tt])→H' tt=some (.tup (pl.map V.int))→Q (.ref c) H'
theorem zn0 {x y m:Int} (h0:0≤m) (h1:m < 2):∃ z:Int,atI [V.int x,V.int y] m=some (.int z)∧(z=x∨z=y):=by
 have:m=0∨m=1:=by lia
 rcases this with e | e <;> subst e
 ·exact⟨x,rfl,.inl rfl⟩
 ·exact⟨y,rfl,.inr rfl⟩
theorem zkE {ns:List Int} {k:Int} (h0:0≤k) (h1:k < ns.length):∃ c:Int,c∈ns∧atI (ns.map V.int) k=some (.int c):=by
 obtain⟨c,e,h⟩:=zkD h0 h1
 exact⟨c,aB e,h⟩
theorem zfv {α β:Type} (f:α→β):∀ (l:List α) (k:Nat),(l.map f).eraseIdx k=(l.eraseIdx k).map f
 | [],_=>rfl
 | _ :: _,0=>rfl
 | a :: l,k+1=>by show f a :: (l.map f).eraseIdx k=f a :: (l.eraseIdx k).map f; rw [zfv f l k]
theorem zep {α:Type}:∀ {l:List α} {k:Nat} {x:α},l[k]? = some x→(x :: l.eraseIdx k).Perm l
 | [],_,_,h=>by simp at h
 | a :: l,0,x,h=>by
  have e:a=x:=by simpa using h
  subst e
  exact List.Perm.refl _
 | a :: l,k+1,x,h=>by
  have ih:=zep (l:=l) (k:=k) (x:=x) (by simpa using h)
  exact (List.Perm.swap a x _).trans (ih.cons a)
theorem zmg {p:Int} {xs ls:List Int} {k:Nat} {x:Int} (h:ls[k]? = some x) (nd:(xs++ls).Nodup) (rg:∀ y∈xs++ls,0≤y∧y < p):((xs++[x])++ls.eraseIdx k).Nodup∧∀ y∈(xs++[x])++ls.eraseIdx k,0≤y∧y < p:=by
 have hp:((xs++[x])++ls.eraseIdx k).Perm (xs++ls):=by
  rw [a8]
  exact (zep h).append_left xs
 exact⟨hp.nodup_iff.mpr nd,fun y hy=>rg y (hp.mem_iff.mp hy)⟩
theorem zjD (p:Int):(zbW 0 p.toNat).Nodup∧∀ y∈zbW 0 p.toNat,0≤y∧y < p:=by
 unfold zbW
 constructor
 ·rw [cW,dz]
  exact (cW.mp (j6 (n:=p.toNat))).imp fun {a b} hab=>by lia
 ·intro y hy
  obtain⟨i,hi,e⟩:=aE.mp hy
  have:=bF.mp hi
  lia
def zdJ (K:ag):Sp:=fun vs H Q _=>∃ (p x:Int) (a:Addr) (cs:List Int),vs = [.int p,.ref a,.int x]∧(SqL K H a (cs.map V.int)∨SqT K H a (cs.map V.int))∧0 < p∧p≤97∧0≤x∧x < p∧Q (.int (zl p x cs)) H
def zhU (K:ag):Sp:=zdJ K
theorem zfw {cs:List Int} {i:Nat} {c:Int} (hi:i < cs.length) (h:cs[cs.length - 1 - i]? = some c):cs.drop (cs.length - (i+1))=c :: cs.drop (cs.length - i):=by
 have e:cs.length - (i+1)=cs.length - 1 - i:=by lia
 have hlt:cs.length - 1 - i < cs.length:=by lia
 rw [e,cA hlt]
 have:cs[cs.length - 1 - i]=c:=by
  rw [am hlt] at h
  exact aO h
 rw [this]
 congr 2
 lia
theorem zal {cs:List Int} {j:Nat} {x:V} (h:(cs.map V.int)[j]? = some x):∃ c,x = .int c∧cs[j]? = some c:=by
 rw [ah] at h
 cases e:cs[j]? with
 | none=>rw [e] at h; cases h
 | some c=>rw [e] at h; exact⟨c,(aO h).symm,rfl⟩
theorem ziC {p x total power c:Int} {cs:List Int} {i:Nat} (h:cs[i]? = some c):lv p x total power (cs.drop i)=lv p x ((total+c*power) % p) (power*x % p) (cs.drop (i+1)):=by
 obtain⟨hlt,e⟩:=az.mp h
 rw [cA hlt,e]
 rfl
def zhV (K:ag):Sp:=fun vs H Q _=>∃ (p h:Int),vs = [.int p,.int h]∧p∈zm∧0≤h∧h < p∧Q (.int (inv p h)) H
def zn1 (σ:L2.St):Nat:=match (σ[4]?:Option (Option V)) with
 | some (some (V.int l))=>l.toNat
 | _=>0
theorem zf1 {p prod sq left:Int} {n:Nat} (h0:0 < left) (h1:left < 2 ^ (n+1)):zcz p (n+1) prod sq left=zcz p n (if left % 2=1 then prod*sq % p else prod) (sq*sq % p) (left / 2):=by
 show (if 0 < left then _ else _)=_
 rw [if_pos h0]
theorem zgX {p prod sq:Int}:∀ n,zcz p n prod sq 0=prod
 | 0=>rfl
 | n+1=>by show (if (0:Int) < 0 then _ else prod)=prod; rw [if_neg (by decide)]
theorem gY2 {K:ag} {i j:Nat} {T:Addr} {x y:V} {σ:L2.St} {H:Hp} {A B:L2.St→Hp→Prop} (hT:SqT K H T [x,y]) (h:A ((σ.set i (some x)).set j (some y)) H) :
  zgJ K 2 (zb0 (zaT i) (zb0 (zaT j) zhE)) (.ref T) σ H (fun σ2 H2=>zmc σ2 H2 fun b H3=>if b=true then A σ2 H3 else B σ2 H3):=by
 refine⟨T,_,rfl,hT,rfl,x,_,rfl,y,_,rfl,rfl,?_⟩
 show (if true=true then A ((σ.set i (some x)).set j (some y)) H else B ((σ.set i (some x)).set j (some y)) H)
 rw [if_pos rfl]
 exact h
theorem zgY {f:Int→Int→Int} {as bs:List Int} {i:Nat} {x y:Int} (hx:as[i]? = some x) (hy:bs[i]? = some y):(bf f as bs).take (i+1)=(bf f as bs).take i++[f x y]:=by
 have e:(bf f as bs)[i]? = some (f x y):=by rw [i4,hx,hy]
 rw [gZ,e,jl]
def zkF (K:ag) (H:Hp) (a:Addr) (pts:List (Int×Int)):Prop:=∃ bs:List Addr,SqL K H a (bs.map V.ref)∧bs.length=pts.length∧∀ (i:Nat) (b:Addr) (q:Int×Int),bs[i]? = some b→pts[i]? = some q→H b=some (.tup [.int q.1,.int q.2])
theorem zc6 (n:Nat):(ap n [V.int 0]).flatten=(ap n (0:Int)).map V.int:=by
 induction n with
 | zero=>rfl
 | succ n ih=>rw [bY,dQ,ih,bY]; rfl
theorem zmh {n j:Nat} (h:j < n):ixN n (j:Int)=some j:=by
 unfold ixN
 rw [if_pos (by lia),if_pos (by lia)]
 rfl
theorem zY {bs:List Addr} {i:Nat} {x:V} (h:(bs.map V.ref)[i]? = some x):∃ b,x = .ref b∧bs[i]? = some b:=by
 rw [ah] at h
 cases e:bs[i]? with
 | none=>rw [e] at h; cases h
 | some b=>rw [e] at h; exact⟨b,(aO h).symm,rfl⟩
theorem take_snoc {α:Type} {l:List α} {i:Nat} {x:α} (h:l[i]? = some x):l.take (i+1)=l.take i++[x]:=by
 rw [gZ,h,jl]
theorem zeq {α:Type} {l:List α} {i:Nat} {x:α} (h:l[i]? = some x):l=l.take i++x :: l.drop (i+1):=by
 obtain⟨hi,e⟩:=az.mp h; have:=b8 i l
 rw [cA hi,e] at this
 exact this.symm
theorem zkG {f:Int→Int→Int} {as bs:List Int} {n:Nat} (h1:n≤as.length) (h2:n≤bs.length) (h3:as.length≤n∨bs.length≤n):(bf f as bs).length=n:=by
 rw [eg]
 lia
theorem zfx {a b:Addr} {as bs:List Int} {n:Nat} {f:Int→Int→Int} {g:TG} {ts:TT} {te:TE} {σ0:L2.St} {Q:VK} {H:Hp} (ha:H a=some (.lst (as.map V.int))) (hb:H b=some (.lst (bs.map V.int))) (h1:n≤as.length) (h2:n≤bs.length) (h3:as.length≤n∨bs.length≤n) (hn:n≤10000)
  (hs:∀ (i:Nat) (x y:Int) (H1:Hp) (T:Addr) (R:VK) (B:L2.St→Hp→Prop),as[i]? = some x→bs[i]? = some y→zt H H1→H1 T=none→R (.int (f x y)) (upd H1 T (.tup [.int x,.int y]))→g (.ref T) σ0 (upd H1 T (.tup [.int x,.int y])) fun σ2 H2=>ts σ2 H2 fun b H3=>if b=true then te σ2 H3 R else B σ2 H3)
  (hd:∀ D H1,zt H H1→H1 D=none→Q (.ref D) (upd H1 D (.lst ((bf f as bs).map V.int)))):cGo g ts te σ0 (zju (SqL K) (SqL K) a b) Q H:=by
 have hl:=zkG (f:=f) h1 h2 h3
 refine zT (n:=n) (fun i ys H'=>ys=((bf f as bs).take i).map V.int∧zt H H') ⟨by simp,fun _ _ e=>e⟩ ?_ ?_ ?_ ?_
 ·rintro i ys H3 hi ⟨_,s3⟩
  obtain⟨x,hx⟩:∃ x,as[i]? = some x:=⟨as[i]'(by lia),by simp⟩
  obtain⟨y,hy⟩:∃ y,bs[i]? = some y:=⟨bs[i]'(by lia),by simp⟩
  exact⟨_,_,.int x,.int y,SqL.of (s3 _ _ ha),SqL.of (s3 _ _ hb),by rw [ah,hx]; rfl,by rw [ah,hy]; rfl⟩
 ·rintro ys H3 ⟨_,s3⟩
  exact⟨_,_,SqL.of (s3 _ _ ha),SqL.of (s3 _ _ hb),by rw [ab,ab]; exact h3⟩
 ·rintro i x ys H3 H4 hi ⟨rfl,s3⟩ ⟨T,u,v,hT,rfl,rfl,hu,hv⟩
  obtain⟨x,rfl,hx⟩:=zal (hu _ (SqL.of (s3 _ _ ha)))
  obtain⟨y,rfl,hy⟩:=zal (hv _ (SqL.of (s3 _ _ hb)))
  refine hs i x y H3 T _ _ hx hy s3 hT ⟨zad ?_,?_,s3.trans (zb hT)⟩
  ·rw [ab]
   exact aZ (gk _ _) (by lia)
  ·rw [zgY hx hy,ar]
   rfl
 ·rintro ys H3 D ⟨rfl,s3⟩ hD
  rw [aK (by lia)]
  exact hd D H3 s3 hD
theorem zcA {a:Addr} {xs fs:List V} {g:TG} {ts:TT} {te:TE} {σ0:L2.St} {Q:VK} {H:Hp} (ha:SqL K H a xs) (hl:fs.length=xs.length) (hn:xs.length≤10000)
  (hs:∀ (i:Nat) (x y:V) (R:VK) (B:L2.St→Hp→Prop),xs[i]? = some x→fs[i]? = some y→R y H→g x σ0 H fun σ2 H2=>ts σ2 H2 fun b H3=>if b=true then te σ2 H3 R else B σ2 H3)
  (hd:∀ D,H D=none→Q (.ref D) (upd H D (.lst fs))):cGo g ts te σ0 (Itl K a) Q H:=by
 refine zT (n:=xs.length) (fun i ys H'=>ys=fs.take i∧H'=H) ⟨by simp,rfl⟩ ?_ ?_ ?_ ?_
 ·rintro i ys H3 hi ⟨_,rfl⟩
  exact⟨_,xs[i],ha,by simp⟩
 ·rintro ys H3 ⟨_,rfl⟩
  exact⟨_,ha,af _⟩
 ·rintro i x ys H3 H4 hi ⟨rfl,rfl⟩ ⟨rfl,hx⟩
  have hy:fs[i]? = some fs[i]:=by simp
  refine hs i x fs[i] _ _ (hx _ ha) hy ⟨zad (aZ (gk _ _) (by lia)),?_,rfl⟩
  rw [take_snoc hy]
 ·rintro ys H3 D ⟨rfl,rfl⟩ hD
  rw [aK (by lia)]
  exact hd D hD
theorem zgZ (ds:List Int) (lo hi:Option Int):∃ ms:List Int,zaW (ds.map V.int) lo hi=ms.map V.int∧ms.length≤ds.length:=by
 refine⟨(ds.drop (HT.sIx (ds.map V.int).length 0 lo)).take (HT.sIx (ds.map V.int).length (ds.map V.int).length hi - HT.sIx (ds.map V.int).length 0 lo),?_,?_⟩
 ·unfold zaW; rw [cX,fW]
 ·rw [aA,bK]
  lia
theorem zg0 {ms:List Int} {f:Int→V} {i:Nat} {x y:V} (hx:(ms.map V.int)[i]? = some x) (hy:(ms.map f)[i]? = some y):∃ c,ms[i]? = some c∧x = .int c∧y=f c:=by
 obtain⟨c,rfl,hc⟩:=zal hx
 rw [ah,hc] at hy
 exact⟨c,hc,rfl,(aO hy).symm⟩
def zf2 (K:ag):Sp:=fun vs H Q _=>∃ (a:Addr) (ns:List Int),vs = [.ref a]∧SqL K H a (ns.map V.int)∧ns.length≤63∧∀ H',Q (.bl true) H'
end
end My
end
section
namespace PySem
abbrev IsZ (h:Heap) (z TI TO:Addr) (f0 f1:Value):Prop:=h.get? z=some { cls:=.type "zip",dict:=none,data:=.fields #[f0,f1,.bool false,.ref TI,.ref TO],slots:=#[] }
def ZF (f0 f1:Value):Prop:=(f0 = .none∨∃ a t,f0 = .int a t)∧∃ b,f1 = .bool b
structure Zap (z TI TO i1 i2:Addr) (fp1 fp2:List Addr):Prop where
 zTI:TI≠z
 zTO:TO≠z
 z1:i1≠z
 z2:i2≠z
 TT:TI≠TO
 T1:TI≠i1
 T2:TI≠i2
 O1:TO≠i1
 O2:TO≠i2
 ii:i1≠i2
 a1:z∉fp1
 a2:TO∉fp1
 a3:i2∉fp1
 b1:z∉fp2
 b2:TO∉fp2
 b3:i1∉fp2
section
variable {prog:Program} {w:World} {A:Around} {E:Value→Shared→Prop} {s:Shared}
theorem zjE {a:Addr} {Q:Option Obj→Shared→Prop} (h:Q (s.heap.get? a) s):wpAny (model prog w) A (loadIfAlive a) Q E s:=fun _ _ _=>h
theorem zkH {z TI TO:Addr} {f0 f1:Value} {Q:Bool→Shared→Prop} (hz:IsZ s.heap z TI TO f0 f1) (hf:ZF f0 f1) (h1:Q true s)
  (h2:∀ h',IsZ h' z TI TO f0 (.bool true)→bj z s.heap h'→Q false { s with heap:=h' }):wpAny (model prog w) A (bP (.ref z)) Q E s:=by
 obtain⟨hf,b,rfl⟩:=hf
 unfold bP; rcases hf with rfl | ⟨a,t,rfl⟩
 ·exact ae (br hz rfl (x:=.none) rfl (ak h1))
 ·refine ae (br hz rfl (x:=.int a t) rfl ?_)
  refine ae (zjE ?_)
  cases s.heap.get? a.toNat with
  | none=>exact ak h1
  | some o =>
   refine ae (br hz rfl (x:=.bool b) rfl ?_)
   cases b with
   | true=>exact ak (h2 s.heap hz ⟨rfl,fun _ _=>rfl⟩)
   | false=>exact ae (bG hz (by simp) fun h' a' b'=>ak (h2 h' a' b'))
theorem ziD {z TI TO i1 i2:Addr} {fp1 fp2:List Addr} {n1 n2 k1 k2:Nat} {P1 P2:Nat→Value→Prop} {S1 S2:Nat→Heap→Prop} {f0 f1 a b:Value} {Q:Value→Shared→Prop} (D1:Draws prog w A i1 fp1 n1 P1 S1) (D2:Draws prog w A i2 fp2 n2 P2 S2) (Z:Zap z TI TO i1 i2 fp1 fp2)
  (hz:IsZ s.heap z TI TO f0 f1) (hf:ZF f0 f1) (hTI:IsPair s.heap TI (.ref i1) (.ref i2)) (hTO:IsPair s.heap TO a b) (st1:S1 k1 s.heap) (st2:S2 k2 s.heap) (l1:k1 < n1) (l2:k2 < n2)
  (hQ:∀ x y h' tk g0 g1 a' b',P1 k1 x→P2 k2 y→IsZ h' z TI TO g0 g1→ZF g0 g1→IsPair h' TI (.ref i1) (.ref i2)→IsPair h' TO a' b'→S1 (k1+1) h'→S2 (k2+1) h'→IsPair h' s.heap.objs.size x y→h'.objs.size=s.heap.objs.size+1 →
   (∀ c o,c≠z→c≠TO→c≠i1→c≠i2→s.heap.get? c=some o→h'.get? c=some o)→Q (.ref s.heap.objs.size) { s with heap:=h',toks:=tk }):wpAny (model prog w) A (Builtin.«zip.__next__» ⟨[.ref z],[]⟩) (fun fin s'=>∃ v,fin = .done (.ret v)∧Q v s') E s:=by
 obtain⟨hp,g,d,tk0,os⟩:=s
 show wpAny _ _ (field (.ref z) 2 >>= _) _ _ _; refine ae (br hz rfl (x:=.bool false) rfl ?_); show wpAny _ _ (field (.ref z) 3 >>= _) _ _ _
 refine ae (br hz rfl (x:=.ref TI) rfl ?_); refine ae (c8 hTI rfl ?_)
 show wpAny _ _ (bP (.ref z) >>= _) _ _ _; refine ae (zkH hz hf ?_ fun h0 hz0 hs0=>?_)
 ·simp only [if_true]
  refine ae (cg (ae (br hz rfl (x:=.ref TO) rfl ?_)))
  refine ae (bG hz (by simp) fun ha hza hsa=>?_)
  replace hza:IsZ ha z TI TO .ellipsis f1:=hza
  replace hsa:bj z hp ha:=hsa
  refine ae ?_
  simp only [j7,ko,et,gr]; refine ae (ae (gO ?_)); show wpAny _ _ (bd (.ref i1) >>= _) _ _ _
  refine ae (D1.item k1 _ _ _ l1 (D1.frame _ _ _ st1 fun c hc o e=>hsa.extBut c o (fun q=>Z.a1 (q ▸ hc)) e) fun x hb tkb px stb hsb=>ak ?_)
  replace hsb:bj i1 ha hb:=hsb
  have hTOb:IsPair hb TO a b:=hsb.extBut _ _ Z.O1 (hsa.extBut _ _ Z.zTO hTO)
  refine ae (c8 hTOb rfl (ae (gd hTOb fun hc hTOc hsc=>?_)))
  replace hTOc:IsPair hc TO x b:=hTOc
  replace hsc:bj TO hb hc:=hsc
  refine ae (iV (ak (ae (ae (gO ?_))))); show wpAny _ _ (bd (.ref i2) >>= _) _ _ _
  refine ae (D2.item k2 _ _ _ l2 (D2.frame _ _ _ st2 fun c hcf o e=>hsc.extBut c o (fun q=>Z.b2 (q ▸ hcf)) (hsb.extBut c o (fun q=>Z.b3 (q ▸ hcf)) (hsa.extBut c o (fun q=>Z.b1 (q ▸ hcf)) e))) fun y hd tkd py std hsd=>ak ?_)
  replace hsd:bj i2 hc hd:=hsd
  have hTOd:IsPair hd TO x b:=hsd.extBut _ _ Z.O2 hTOc
  refine ae (c8 hTOd rfl (ae (gd hTOd fun he hTOe hse=>?_)))
  replace hTOe:IsPair he TO x y:=hTOe
  replace hse:bj TO hd he:=hse
  refine ae (iV (ak (ak ?_))); refine ae (c8 hTOe rfl (ae (gt ?_)))
  have hsz:he.objs.size=hp.objs.size:=by rw [hse.1,hsd.1,hsc.1,hsb.1,hsa.1]
  have hze:IsZ he z TI TO .ellipsis f1:=hse.extBut _ _ Z.zTO.symm (hsd.extBut _ _ Z.z2.symm (hsc.extBut _ _ Z.zTO.symm (hsb.extBut _ _ Z.z1.symm hza)))
  have kk:∀ c o,c≠z→c≠TO→c≠i1→c≠i2→hp.get? c=some o→he.get? c=some o:=fun c o c1 c2 c3 c4 e=>hse.extBut _ _ c2 (hsd.extBut _ _ c4 (hsc.extBut _ _ c2 (hsb.extBut _ _ c3 (hsa.extBut _ _ c1 e))))
  have st1e:S1 (k1+1) he:=D1.frame _ _ _ stb fun c hcf o e=>hse.extBut c o (fun q=>Z.a2 (q ▸ hcf)) (hsd.extBut c o (fun q=>Z.a3 (q ▸ hcf)) (hsc.extBut c o (fun q=>Z.a2 (q ▸ hcf)) e))
  have st2e:S2 (k2+1) he:=D2.frame _ _ _ std fun c hcf o e=>hse.extBut c o (fun q=>Z.b2 (q ▸ hcf)) e
  have zlt:z < he.objs.size:=aJ hze
  show wpAny _ _ (cG (.ref z) (.ref he.objs.size) >>= _) _ _ _
  refine ae ?_
  unfold cG; have hzf:IsZ (he.push { cls:=.type "tuple",data:=.seq #[x,y] }) z TI TO .ellipsis f1:=ai _ hze
  refine ae (bG hzf (by simp) fun h7 hz7 hs7=>?_)
  replace hz7:IsZ h7 z TI TO (rawInt he.objs.size) f1:=hz7
  refine bG hz7 (by simp) fun h8 hz8 hs8=>ak ⟨_,rfl,?_⟩
  replace hz8:IsZ h8 z TI TO (rawInt he.objs.size) (.bool false):=hz8
  have up:∀ c o,c≠z→he.get? c=some o→h8.get? c=some o:=fun c o c1 e=>hs8.extBut _ _ c1 (hs7.extBut _ _ c1 (ai _ e))
  have hT8:IsPair h8 he.objs.size x y:=hs8.extBut _ _ (fz zlt) (hs7.extBut _ _ (fz zlt) (aI _ rfl))
  have hs8':h8.objs.size=he.objs.size+1:=by rw [hs8.1,hs7.1,bL]
  show Q (.ref he.objs.size) _
  rw [hsz] at hz8 hT8 hs8' ⊢
  exact hQ x y h8 tkd _ _ _ _ px py hz8 ⟨.inr ⟨_,_,rfl⟩,_,rfl⟩ (up _ _ Z.zTI (kk _ _ Z.zTI Z.TT Z.T1 Z.T2 hTI)) (up _ _ Z.zTO hTOe) (D1.frame _ _ _ st1e fun c hcf o e=>up c o (fun q=>Z.a1 (q ▸ hcf)) e) (D2.frame _ _ _ st2e fun c hcf o e=>up c o (fun q=>Z.b1 (q ▸ hcf)) e) hT8 hs8' fun c o c1 c2 c3 c4 e=>up c o c1 (kk c o c1 c2 c3 c4 e)
 ·simp only [bn,if_false]; replace hs0:bj z hp h0:=hs0
  rw [show (#[bb i1,bb i2]:Array Value) = [bb i1,bb i2].toArray from rfl]
  simp only [jH,et,gr]
  refine ae (ae (ae (bQ ?_))); show wpAny _ _ (bd (.ref i1) >>= _) _ _ _
  refine ae (D1.item k1 _ _ _ l1 (D1.frame _ _ _ st1 fun c hc o e=>hs0.extBut c o (fun q=>Z.a1 (q ▸ hc)) e) fun x hb tkb px stb hsb=>ak (ak ?_))
  replace hsb:bj i1 h0 hb:=hsb
  refine ae (ae (bQ ?_)); show wpAny _ _ (bd (.ref i2) >>= _) _ _ _
  refine ae (D2.item k2 _ _ _ l2 (D2.frame _ _ _ st2 fun c hcf o e=>hsb.extBut c o (fun q=>Z.b3 (q ▸ hcf)) (hs0.extBut c o (fun q=>Z.b1 (q ▸ hcf)) e)) fun y hd tkd py std hsd=>ak (ak (ak ?_)))
  replace hsd:bj i2 hb hd:=hsd
  show wpAny _ _ (newTuple [x,y] >>= _) _ _ _
  refine ae (gt (ak ⟨_,rfl,?_⟩))
  have hsz:hd.objs.size=hp.objs.size:=by rw [hsd.1,hsb.1,hs0.1]
  have kk:∀ c o,c≠z→c≠TO→c≠i1→c≠i2→hp.get? c=some o→hd.get? c=some o:=fun c o c1 c2 c3 c4 e=>hsd.extBut _ _ c4 (hsb.extBut _ _ c3 (hs0.extBut _ _ c1 e))
  have hzd:IsZ hd z TI TO f0 (.bool true):=hsd.extBut _ _ Z.z2.symm (hsb.extBut _ _ Z.z1.symm hz0)
  have hTOd:IsPair hd TO a b:=hsd.extBut _ _ Z.O2 (hsb.extBut _ _ Z.O1 (hs0.extBut _ _ Z.zTO hTO))
  have st1d:S1 (k1+1) hd:=D1.frame _ _ _ stb fun c hcf o e=>hsd.extBut c o (fun q=>Z.a3 (q ▸ hcf)) e
  have up:∀ c o,hd.get? c=some o→(hd.push { cls:=.type "tuple",data:=.seq #[x,y] }).get? c=some o:=fun c o e=>ai _ e
  have hT8:IsPair (hd.push { cls:=.type "tuple",data:=.seq #[x,y] }) hd.objs.size x y:=aI _ rfl
  have hs8':(hd.push { cls:=.type "tuple",data:=.seq #[x,y] }).objs.size=hd.objs.size+1:=bL ..
  show Q (.ref hd.objs.size) _
  rw [hsz] at hT8 hs8' ⊢
  exact hQ x y _ tkd _ _ _ _ px py (up _ _ hzd) ⟨hf.1,_,rfl⟩ (up _ _ (kk _ _ Z.zTI Z.TT Z.T1 Z.T2 hTI)) (up _ _ hTOd) (D1.frame _ _ _ st1d fun c _ o e=>up c o e) (D2.frame _ _ _ std fun c _ o e=>up c o e) hT8 hs8' fun c o c1 c2 c3 c4 e=>up c o (kk c o c1 c2 c3 c4 e)
theorem zkI {z TI TO i1 i2:Addr} {fp1 fp2:List Addr} {n1 n2 k1 k2:Nat} {P1 P2:Nat→Value→Prop} {S1 S2:Nat→Heap→Prop} {f0 f1 a b:Value} {Q:Fin→Shared→Prop} (D1:Draws prog w A i1 fp1 n1 P1 S1) (D2:Draws prog w A i2 fp2 n2 P2 S2) (Z:Zap z TI TO i1 i2 fp1 fp2)
  (hz:IsZ s.heap z TI TO f0 f1) (hf:ZF f0 f1) (hTI:IsPair s.heap TI (.ref i1) (.ref i2)) (hTO:IsPair s.heap TO a b) (st1:S1 k1 s.heap) (st2:S2 k2 s.heap) (l1:k1=n1∨(k1 < n1∧k2=n2))
  (hE:∀ h' tk e,(∀ c o,c≠z→c≠TO→c≠i1→c≠i2→s.heap.get? c=some o→h'.get? c=some o)→(∃ o,h'.get? e=some o∧o.cls = .type "StopIteration")→E (.ref e) { s with heap:=h',toks:=tk }):wpAny (model prog w) A (Builtin.«zip.__next__» ⟨[.ref z],[]⟩) Q E s:=by
 obtain⟨hp,g,d,tk0,os⟩:=s
 have nz:∀ {h:Heap} {e:Addr} {o:Obj} {x y:Value},IsZ h z TI TO x y→h.get? e=some o→o.cls = .type "StopIteration"→e≠z:=fun h1 h2 h3 q=>by subst q; rw [h1] at h2; cases h2; simp at h3
 show wpAny _ _ (field (.ref z) 2 >>= _) _ _ _; refine ae (br hz rfl (x:=.bool false) rfl ?_); show wpAny _ _ (field (.ref z) 3 >>= _) _ _ _
 refine ae (br hz rfl (x:=.ref TI) rfl ?_); refine ae (c8 hTI rfl ?_)
 show wpAny _ _ (bP (.ref z) >>= _) _ _ _; refine ae (zkH hz hf ?_ fun h0 hz0 hs0=>?_)
 ·simp only [if_true]
  refine ae (cg (ae (br hz rfl (x:=.ref TO) rfl ?_)))
  refine ae (bG hz (by simp) fun ha hza hsa=>?_)
  replace hza:IsZ ha z TI TO .ellipsis f1:=hza
  replace hsa:bj z hp ha:=hsa
  refine ae ?_
  simp only [j7,ko,et,gr]; refine ae (ae (gO ?_)); show wpAny _ _ (bd (.ref i1) >>= _) _ _ _
  have st1a:S1 k1 ha:=D1.frame _ _ _ st1 fun c hc o e=>hsa.extBut c o (fun q=>Z.a1 (q ▸ hc)) e
  rcases l1 with rfl | ⟨l1,rfl⟩
  ·refine ae (D1.done _ _ _ st1a fun hb e hsb ⟨oe,hoe,hce⟩=>?_)
   have hzb:IsZ hb z TI TO .ellipsis f1:=hsb _ _ Z.z1.symm hza
   exact bG hzb (by simp) fun h3 _ hs3=>hE h3 tk0 e (fun c o c1 _ c3 _ x=>hs3.extBut _ _ c1 (hsb _ _ c3 (hsa.extBut _ _ c1 x))) ⟨oe,hs3.extBut _ _ (nz hzb hoe hce) hoe,hce⟩
  ·refine ae (D1.item k1 _ _ _ l1 st1a fun x hb tkb px stb hsb=>ak ?_)
   replace hsb:bj i1 ha hb:=hsb
   have hTOb:IsPair hb TO a b:=hsb.extBut _ _ Z.O1 (hsa.extBut _ _ Z.zTO hTO)
   refine ae (c8 hTOb rfl (ae (gd hTOb fun hc hTOc hsc=>?_)))
   replace hsc:bj TO hb hc:=hsc
   refine ae (iV (ak (ae (ae (gO ?_))))); show wpAny _ _ (bd (.ref i2) >>= _) _ _ _
   refine ae (D2.done _ _ _ (D2.frame _ _ _ st2 fun c hcf o e=>hsc.extBut c o (fun q=>Z.b2 (q ▸ hcf)) (hsb.extBut c o (fun q=>Z.b3 (q ▸ hcf)) (hsa.extBut c o (fun q=>Z.b1 (q ▸ hcf)) e))) fun hd e hsd ⟨oe,hoe,hce⟩=>?_)
   have hzd:IsZ hd z TI TO .ellipsis f1:=hsd _ _ Z.z2.symm (hsc.extBut _ _ Z.zTO.symm (hsb.extBut _ _ Z.z1.symm hza))
   exact bG hzd (by simp) fun h3 _ hs3=>hE h3 tkb e (fun c o c1 c2 c3 c4 x=>hs3.extBut _ _ c1 (hsd _ _ c4 (hsc.extBut _ _ c2 (hsb.extBut _ _ c3 (hsa.extBut _ _ c1 x))))) ⟨oe,hs3.extBut _ _ (nz hzd hoe hce) hoe,hce⟩
 ·simp only [bn,if_false]; replace hs0:bj z hp h0:=hs0
  rw [show (#[bb i1,bb i2]:Array Value) = [bb i1,bb i2].toArray from rfl]
  simp only [jH,et,gr]
  refine ae (ae (ae (bQ ?_))); show wpAny _ _ (bd (.ref i1) >>= _) _ _ _
  have st1a:S1 k1 h0:=D1.frame _ _ _ st1 fun c hc o e=>hs0.extBut c o (fun q=>Z.a1 (q ▸ hc)) e
  rcases l1 with rfl | ⟨l1,rfl⟩
  ·exact ae (D1.done _ _ _ st1a fun hb e hsb he=>hE hb tk0 e (fun c o c1 _ c3 _ x=>hsb _ _ c3 (hs0.extBut _ _ c1 x)) he)
  ·refine ae (D1.item k1 _ _ _ l1 st1a fun x hb tkb px stb hsb=>ak (ak ?_))
   replace hsb:bj i1 h0 hb:=hsb
   refine ae (ae (bQ ?_)); show wpAny _ _ (bd (.ref i2) >>= _) _ _ _
   exact ae (D2.done _ _ _ (D2.frame _ _ _ st2 fun c hcf o e=>hsb.extBut c o (fun q=>Z.b3 (q ▸ hcf)) (hs0.extBut c o (fun q=>Z.b1 (q ▸ hcf)) e)) fun hd e hsd he=>hE hd tkb e (fun c o c1 _ c3 c4 x=>hsd _ _ c4 (hsb.extBut _ _ c3 (hs0.extBut _ _ c1 x))) he)
theorem zmi {e z TI TO i1 i2:Addr} {fp1 fp2:List Addr} {n1 n2 i:Nat} {P1 P2:Nat→Value→Prop} {S1 S2:Nat→Heap→Prop} {f0 f1 a b old:Value} {Q:Option Value→Shared→Prop} (D1:Draws prog w A.in1.in1 i1 fp1 n1 P1 S1) (D2:Draws prog w A.in1.in1 i2 fp2 n2 P2 S2) (Z:Zap z TI TO i1 i2 fp1 fp2)
  (he:IsEnum s.heap e z i old) (ez:e≠z) (eT:e≠TI) (eO:e≠TO) (e1:e≠i1) (e2:e≠i2) (ef1:e∉fp1) (ef2:e∉fp2)
  (hz:IsZ s.heap z TI TO f0 f1) (hf:ZF f0 f1) (hTI:IsPair s.heap TI (.ref i1) (.ref i2)) (hTO:IsPair s.heap TO a b) (st1:S1 i s.heap) (st2:S2 i s.heap) (l1:i < n1) (l2:i < n2)
  (hQ:∀ x y h' tk g0 g1 a' b',P1 i x→P2 i y→IsEnumOut h' e z ((i:Int)+1) (.ref s.heap.objs.size) (s.heap.objs.size+1)→IsZ h' z TI TO g0 g1→ZF g0 g1→IsPair h' TI (.ref i1) (.ref i2)→IsPair h' TO a' b'→S1 (i+1) h'→S2 (i+1) h'→IsPair h' s.heap.objs.size x y →
   IsPair h' (s.heap.objs.size+1) (.int i tk) (.ref s.heap.objs.size)→h'.objs.size=s.heap.objs.size+2 →
   (∀ c o,c≠e→c≠z→c≠TO→c≠i1→c≠i2→s.heap.get? c=some o→h'.get? c=some o)→Q (some (.ref (s.heap.objs.size+1))) { s with heap:=h',toks:=tk+1 }):wpAny (model prog w) A (pyNext (.ref e)) Q E s:=by
 have hT:s.TypeIs (.ref e) "enumerate":=⟨_,he,rfl⟩; have hTz:s.TypeIs (.ref z) "zip":=⟨_,hz,rfl⟩
 unfold pyNext
 refine ae (cU (bh (name:=bN "__next__") hT eK (bu eK hT iW ?_ (iA _))))
 obtain⟨hp,g,d,tk0,os⟩:=s
 show wpAny _ _ (field (.ref e) 2 >>= _) _ _ _; refine ae (br he rfl (x:=.ref z) rfl (ae ?_))
 unfold bd; refine ae (bh (name:=bN "__next__") hTz dn (bu dn hTz fZ ?_ (fQ _)))
 refine ziD D1 D2 Z hz hf hTI hTO st1 st2 l1 l2 fun x y h1 tk g0 g1 a' b' px py hz1 hf1 hTI1 hTO1 st1' st2' hp1 hsz1 kk=>ak ?_
 have he1:IsEnum h1 e z i old:=kk _ _ ez eO e1 e2 he
 have elt:e < hp.objs.size:=aJ he
 show wpAny _ _ (field (.ref e) 3 >>= _) _ _ ⟨h1,g,d,tk,os⟩; refine ae (br he1 rfl (x:=rawInt i) rfl ?_)
 show wpAny _ _ (field (.ref e) 4 >>= _) _ _ ⟨h1,g,d,tk,os⟩; refine ae (br he1 rfl (x:=.none) rfl ?_)
 show wpAny _ _ (mkInt i >>= _) _ _ ⟨h1,g,d,tk,os⟩; refine ae (wpAny_mkInt ?_)
 show wpAny _ _ (setField (.ref e) 3 (rawInt ((i:Int)+1)) >>= _) _ _ ⟨h1,g,d,tk+1,os⟩; refine ae (bG he1 (by simp) fun h2 he2 hs2=>?_)
 replace hs2:bj e h1 h2:=hs2
 replace he2:IsEnum h2 e z ((i:Int)+1) old:=he2
 show wpAny _ _ (setField (.ref e) 4 .none >>= _) _ _ ⟨h2,g,d,tk+1,os⟩; refine ae (bG he2 (by simp) fun h3 he3 hs3=>?_)
 replace hs3:bj e h2 h3:=hs3
 replace he3:IsEnum h3 e z ((i:Int)+1) old:=he3
 show wpAny _ _ (newTuple [.int i tk,.ref hp.objs.size] >>= _) _ _ ⟨h3,g,d,tk+1,os⟩; refine ae (gt ?_)
 have z3:h3.objs.size=hp.objs.size+1:=by rw [hs3.1,hs2.1]; exact hsz1
 rw [z3]
 have he4:IsEnum (h3.push { cls:=.type "tuple",data:=.seq #[.int i tk,.ref hp.objs.size] }) e z ((i:Int)+1) old:=ai _ he3
 have ht4:=aI h3 (o:={ cls:=.type "tuple",data:=.seq #[.int i tk,.ref hp.objs.size] }) rfl
 rw [z3] at ht4
 have k4:∀ c o,c≠e→h1.get? c=some o→(h3.push { cls:=.type "tuple",data:=.seq #[.int i tk,.ref hp.objs.size] }).get? c=some o:=fun c o ce x=>ai _ (hs3.extBut c o ce (hs2.extBut c o ce x))
 have z4:(h3.push { cls:=.type "tuple",data:=.seq #[.int i tk,.ref hp.objs.size] }).objs.size=hp.objs.size+2:=by rw [bL,z3]
 generalize h3.push { cls:=.type "tuple",data:=.seq #[.int i tk,.ref hp.objs.size] }=h4 at he4 ht4 k4 z4 ⊢
 show wpAny _ _ (bP (.ref e) >>= _) _ _ ⟨h4,g,d,tk+1,os⟩
 refine ae ?_
 unfold bP; refine ae (br he4 rfl (x:=.none) rfl (ak ?_))
 simp only [if_true]; refine ae (cg (ae (br he4 rfl (x:=old) rfl ?_)))
 refine ae (bG he4 (by simp) fun h5 he5 hs5=>?_)
 replace hs5:bj e h4 h5:=hs5
 replace he5:IsEnum h5 e z ((i:Int)+1) (.ref hp.objs.size):=he5
 show wpAny _ _ (cG (.ref e) (.ref (hp.objs.size+1)) >>= _) _ _ ⟨h5,g,d,tk+1,os⟩
 refine ae ?_
 unfold cG; refine ae (bG he5 (by simp) fun h6 he6 hs6=>?_)
 replace hs6:bj e h5 h6:=hs6
 replace he6:IsEnumOut h6 e z ((i:Int)+1) (.ref hp.objs.size) (hp.objs.size+1):=he6
 refine bG he6 (by simp) fun h7 he7 hs7=>?_
 replace hs7:bj e h6 h7:=hs7
 replace he7:IsEnumOut h7 e z ((i:Int)+1) (.ref hp.objs.size) (hp.objs.size+1):=he7
 have up:∀ c o,c≠e→h4.get? c=some o→h7.get? c=some o:=fun c o ce x=>hs7.extBut c o ce (hs6.extBut c o ce (hs5.extBut c o ce x))
 have z7:h7.objs.size=hp.objs.size+2:=by rw [hs7.1,hs6.1,hs5.1,z4]
 refine ae (iV (ak ⟨_,rfl,ak ?_⟩))
 exact hQ x y h7 tk g0 g1 a' b' px py he7 (up _ _ ez.symm (k4 _ _ ez.symm hz1)) hf1 (up _ _ eT.symm (k4 _ _ eT.symm hTI1)) (up _ _ eO.symm (k4 _ _ eO.symm hTO1))
  (D1.frame _ _ _ st1' fun c hc o x=>up c o (fun q=>ef1 (q ▸ hc)) (k4 c o (fun q=>ef1 (q ▸ hc)) x)) (D2.frame _ _ _ st2' fun c hc o x=>up c o (fun q=>ef2 (q ▸ hc)) (k4 c o (fun q=>ef2 (q ▸ hc)) x))
  (up _ _ (fz elt) (k4 _ _ (fz elt) hp1)) (up _ _ (fz (eE elt)) ht4) z7 fun c o ce cz cO c1 c2 x=>up c o ce (k4 c o ce (kk c o cz cO c1 c2 x))
theorem zn2 {e z TI TO i1 i2:Addr} {fp1 fp2:List Addr} {n1 n2 k:Nat} {i:Int} {P1 P2:Nat→Value→Prop} {S1 S2:Nat→Heap→Prop} {f0 f1 a b old:Value} {Q:Option Value→Shared→Prop} (D1:Draws prog w A.in1.in1 i1 fp1 n1 P1 S1) (D2:Draws prog w A.in1.in1 i2 fp2 n2 P2 S2) (Z:Zap z TI TO i1 i2 fp1 fp2)
  (he:IsEnum s.heap e z i old) (hz:IsZ s.heap z TI TO f0 f1) (hf:ZF f0 f1) (hTI:IsPair s.heap TI (.ref i1) (.ref i2)) (hTO:IsPair s.heap TO a b) (st1:S1 k s.heap) (st2:S2 k s.heap) (l1:k=n1∨(k < n1∧k=n2))
  (hQ:∀ h' tk,(∀ c o,c≠z→c≠TO→c≠i1→c≠i2→s.heap.get? c=some o→h'.get? c=some o)→Q none { s with heap:=h',toks:=tk }):wpAny (model prog w) A (pyNext (.ref e)) Q E s:=by
 have hT:s.TypeIs (.ref e) "enumerate":=⟨_,he,rfl⟩; have hTz:s.TypeIs (.ref z) "zip":=⟨_,hz,rfl⟩
 unfold pyNext
 refine ae (cU (bh (name:=bN "__next__") hT eK (bu eK hT iW ?_ (iA _))))
 show wpAny _ _ (field (.ref e) 2 >>= _) _ _ _; refine ae (br he rfl (x:=.ref z) rfl (ae ?_))
 unfold bd; refine ae (bh (name:=bN "__next__") hTz dn (bu dn hTz fZ ?_ (fQ _)))
 refine zkI D1 D2 Z hz hf hTI hTO st1 st2 l1 fun h' tk x kk ⟨o,ho,hc⟩=>?_
 exact ae (eZ (T:="StopIteration") (b:=true) ⟨o,ho,hc⟩ gp (ak (hQ h' tk kk)))
end
def znq (l:Addr):Obj:={ cls:=.type "list_iterator",data:=.fields #[.ref l,.int 0 0] }
def zf3 (x y:Value):Obj:={ cls:=.type "tuple",data:=.seq #[x,y] }
def zoU (a b:Addr):Obj:={ cls:=.type "zip",data:=.fields #[.none,.bool false,.bool false,.ref a,.ref b] }
abbrev zt2 (h:Heap) (l1 l2:Addr):Heap:=(h.push (zcl l1)).push (znq l2)
abbrev zt4 (h:Heap) (l1 l2:Addr):Heap:=((zt2 h l1 l2).push (zf3 (.ref h.objs.size) (.ref (h.push (zcl l1)).objs.size))).push (zf3 .none .none)
abbrev zt5 (h:Heap) (l1 l2:Addr):Heap:=(zt4 h l1 l2).push (zoU (zt2 h l1 l2).objs.size ((zt2 h l1 l2).push (zf3 (.ref h.objs.size) (.ref (h.push (zcl l1)).objs.size))).objs.size)
theorem zg1 (l1 l2:Addr) (xs ys:Array Value):Meets (Builtin.«zip.__new__» ⟨[.type "zip",.ref l1,.ref l2],[]⟩) (fun _ R s=>s.heap.IsTuple l1 xs∧s.heap.IsList l2 ys∧R (.ok (.ret (.ref (zt4 s.heap l1 l2).objs.size))) { s with heap:=zt5 s.heap l1 l2 }) :=
 .of_wp fun prog w A R s h=>by
  obtain⟨hp,g,d,tk,os⟩:=s; obtain⟨hl1,hl2,h⟩:=h; have hsub:=sub_zip
  have hL1:Heap.IsTuple (jW ⟨hp,g,d,tk,os⟩) l1 xs:=hl1
  have hL2:Heap.IsList (jW ⟨hp.push { cls:=.type "tuple_iterator",data:=.fields #[.ref l1,.int 0 0] },g,d,tk,os⟩) l2 ys:=Heap.IsList.push hl2 _
  wp_walk using gB hL1,gS hL2
  exact⟨_,rfl,h⟩
section
variable {prog:Program} {w:World} {A:Around} {E:Value→Shared→Prop} {s:Shared}
theorem zer {l1 l2:Addr} {xs ys:Array Value} {Q:Value→Shared→Prop} (hl1:s.heap.IsTuple l1 xs) (hl2:s.heap.IsList l2 ys)
  (h:∀ h' n,n=s.heap.objs.size→IsZ h' (n+4) (n+2) (n+3) .none (.bool false)→IsPair h' (n+2) (.ref n) (.ref (n+1))→IsPair h' (n+3) .none .none→h'.IsTupleIter n l1 0→h'.IsListIter (n+1) l2 0→h'.objs.size=n+5 →
   (∀ c o,s.heap.get? c=some o→h'.get? c=some o)→Q (.ref (n+4)) { s with heap:=h' }):wpAny (model prog w) A (call (.type "zip") [.ref l1,.ref l2]) Q E s:=by
 refine jG F.called_zip (by decide) (F.typeCall_zip_2 _ _) (F.newCall_zip_2 _ _) (fun obj=>F.args_object_init_3 obj _ _) F.entry_zip_new (zg1 l1 l2 xs ys) ⟨hl1,hl2,?_⟩
 have z1:(s.heap.push (zcl l1)).objs.size=s.heap.objs.size+1:=bL ..
 have z2:(zt2 s.heap l1 l2).objs.size=s.heap.objs.size+2:=by rw [bL,z1]
 have z3:((zt2 s.heap l1 l2).push (zf3 (.ref s.heap.objs.size) (.ref (s.heap.push (zcl l1)).objs.size))).objs.size=s.heap.objs.size+3:=by rw [bL,z2]
 have z4:(zt4 s.heap l1 l2).objs.size=s.heap.objs.size+4:=by rw [bL,z3]
 have g5:=aI (zt4 s.heap l1 l2) (o:=zoU (zt2 s.heap l1 l2).objs.size ((zt2 s.heap l1 l2).push (zf3 (.ref s.heap.objs.size) (.ref (s.heap.push (zcl l1)).objs.size))).objs.size) rfl
 have g4:(zt5 s.heap l1 l2).get? _=some _:=ai _ (aI ((zt2 s.heap l1 l2).push (zf3 (.ref s.heap.objs.size) (.ref (s.heap.push (zcl l1)).objs.size))) (o:=zf3 .none .none) rfl)
 have g3:(zt5 s.heap l1 l2).get? _=some _:=ai _ (ai _ (aI (zt2 s.heap l1 l2) (o:=zf3 (.ref s.heap.objs.size) (.ref (s.heap.push (zcl l1)).objs.size)) rfl))
 have g2:(zt5 s.heap l1 l2).get? _=some _:=ai _ (ai _ (ai _ (aI (s.heap.push (zcl l1)) (o:=znq l2) rfl)))
 have g1:(zt5 s.heap l1 l2).get? s.heap.objs.size=some (zcl l1):=ai _ (ai _ (ai _ (ai _ (aI _ rfl))))
 have z5:(zt5 s.heap l1 l2).objs.size=s.heap.objs.size+5:=by rw [bL,z4]
 have k5:∀ c o,s.heap.get? c=some o→(zt5 s.heap l1 l2).get? c=some o:=fun c o x=>ai _ (ai _ (ai _ (ai _ (ai _ x))))
 show _∧_
 rw [z4] at g5 ⊢
 rw [z3] at g4
 rw [z2] at g3
 rw [z1] at g2
 refine⟨⟨_,g5,rfl⟩,h _ _ rfl ?_ ?_ g4 ⟨_,g1,rfl,rfl⟩ ⟨_,g2,rfl,rfl⟩ z5 k5⟩
 ·have:IsZ (zt5 s.heap l1 l2) (s.heap.objs.size+4) (zt2 s.heap l1 l2).objs.size ((zt2 s.heap l1 l2).push (zf3 (.ref s.heap.objs.size) (.ref (s.heap.push (zcl l1)).objs.size))).objs.size .none (.bool false):=g5
  rw [z2,z3] at this
  exact this
 ·have:IsPair (zt5 s.heap l1 l2) (s.heap.objs.size+2) (.ref s.heap.objs.size) (.ref (s.heap.push (zcl l1)).objs.size):=g3
  rw [z1] at this
  exact this
end
open AutoSeq1 (wpAny_loadPart') in
theorem zg2 (z TI TO:Addr) (f0:Value):Meets (Builtin.«enumerate.__new__» ⟨[.type "enumerate",.ref z],[]⟩) (fun _ R s=>IsZip s.heap z TI TO f0∧R (.ok (.ret (.ref s.heap.objs.size))) { s with heap:=s.heap.push (zkt z) }) :=
 .of_wp fun prog w A R s h=>by
  obtain⟨hp,g,d,tk,os⟩:=s; obtain⟨hz,h⟩:=h
  have hZ:IsZip (jW ⟨hp,g,d,tk,os⟩) z TI TO f0:=hz
  have hsub:=sub_enumerate; wp_walk using cB hz
  refine wpAny_stack_any fun st=>ak ?_; split
  ·rename_i c _ _ _ _ _; cases (c == ja "enumerate") <;> (wp_walk using cB hz,fY hZ; exact⟨_,rfl,h⟩)
  ·wp_walk using cB hz,fY hZ; exact⟨_,rfl,h⟩
theorem zhW {prog:Program} {w:World} {A:Around} {E:Value→Shared→Prop} {s:Shared} {z TI TO:Addr} {f0:Value} {Q:Value→Shared→Prop} (hz:IsZip s.heap z TI TO f0)
  (h:∀ h',IsEnum h' s.heap.objs.size z 0 .none→h'.objs.size=s.heap.objs.size+1→(∀ b o,s.heap.get? b=some o→h'.get? b=some o)→Q (.ref s.heap.objs.size) { s with heap:=h' }):wpAny (model prog w) A (call (.type "enumerate") [.ref z]) Q E s:=by
 refine jG F.called_enumerate (by decide) (F.typeCall_enumerate_1 _) (F.newCall_enumerate_1 _) (fun obj=>jf obj _) F.entry_enumerate_new (zg2 z TI TO f0) ⟨hz,?_⟩
 have he:=aI s.heap (o:=zkt z) rfl
 exact⟨⟨_,he,rfl⟩,h _ he (bL ..) fun b o x=>ai _ x⟩
end PySem
end
section
namespace L2
open PySem PySem.Spec PyProof.Rows
def zmj (Sq1 Sq2:Hp→Addr→List V→Prop) (a b:Addr):It :=
 ⟨fun i H=>∃ xs ys x y,Sq1 H a xs∧Sq2 H b ys∧xs[i]? = some x∧ys[i]? = some y,
  fun i H x H'=>∃ T1 T2 u v,H T1=none∧H T2=none∧T1≠T2∧x = .ref T2∧H'=upd (upd H T1 (.tup [u,v])) T2 (.tup [.int i,.ref T1])∧(∀ xs,Sq1 H a xs→xs[i]? = some u)∧∀ ys,Sq2 H b ys→ys[i]? = some v,
  fun i H=>∃ xs ys,Sq1 H a xs∧Sq2 H b ys∧xs.length=i⟩
abbrev zes (n:Nat):List Addr:=[n+5,n+4,n+2,n+3,n,n+1]
abbrev zn3 (n a b:Nat) (i:Nat) (h:Heap):Prop:=(∃ old,IsEnum h (n+5) (n+4) i old)∧(∃ f0 f1,IsZ h (n+4) (n+2) (n+3) f0 f1∧ZF f0 f1)∧IsPair h (n+2) (.ref n) (.ref (n+1))∧(∃ u v,IsPair h (n+3) u v)∧h.IsTupleIter n a i∧h.IsListIter (n+1) b i
theorem nq {x y:Nat} (h:x≠y):@Ne Addr x y:=h
theorem nl {x y:Nat} (h:x < y):@LT.lt Nat _ x y:=h
theorem nm2 {c x y:Nat} (h1:c≠x) (h2:c≠y):¬ @Membership.mem Addr (List Addr) _ [x,y] c:=fun h=>by
 rcases aD.mp h with e | e
 ·exact h1 e
 ·exact h2 (a7.mp e)
theorem zcB {n a b:Nat} (ha:a < n) (hb:b < n):Zap (n+4) (n+2) (n+3) n (n+1) [n,a] [n+1,b] :=
 ⟨nq (by lia),nq (by lia),nq (by lia),nq (by lia),nq (by lia),nq (by lia),nq (by lia),nq (by lia),nq (by lia),nq (by lia),nm2 (by lia) (by lia),nm2 (by lia) (by lia),nm2 (by lia) (by lia),nm2 (by lia) (by lia),nm2 (by lia) (by lia),nm2 (by lia) (by lia)⟩
theorem zmk {P:Program} {w:World} {K:ag} {es:List Expr} {k:Nat} {pos:Pos} (a b n:Nat) (ha:a < n) (hb:b < n):Turn P w K (.Tuple es k pos) (zmj (SqT K) (SqL K) a b) (zes n) (n+5) (zn3 n a b) where
 mem:=by simp
 obj:=fun i h st c hc=>by
  obtain⟨⟨old,h0⟩,⟨f0,f1,h1,_⟩,h2,⟨u,v,h3⟩,⟨o4,e4,_,d4⟩,⟨o5,e5,_,d5⟩⟩:=st
  simp only [zes,aD,aR,or_false] at hc
  rcases hc with z | z | z | z | z | z <;> subst z
  ·exact⟨_,h0,fun v z=>by cases z⟩
  ·exact⟨_,h1,fun v z=>by cases z⟩
  ·exact⟨_,h2,fun v z=>by cases z⟩
  ·exact⟨_,h3,fun v z=>by cases z⟩
  ·exact⟨_,e4,fun v z=>by rw [d4] at z; cases z⟩
  ·exact⟨_,e5,fun v z=>by rw [d5] at z; cases z⟩
 keep:=fun i h h' st kk=>by
  obtain⟨⟨old,h0⟩,⟨f0,f1,h1,hf⟩,h2,⟨u,v,h3⟩,h4,h5⟩:=st
  exact⟨⟨old,kk _ (by simp) _ h0⟩,⟨f0,f1,kk _ (by simp) _ h1,hf⟩,kk _ (by simp) _ h2,⟨u,v,kk _ (by simp) _ h3⟩,h4.at fun o eo=>kk _ (by simp) o eo,h5.at fun o eo=>kk _ (by simp) o eo⟩
 item:=by
  intro X hP hw hK hc i pins s σ H E I hf st hg
  subst hP hw hK
  obtain⟨xs,ys,x,y,hq1,hq2,hx,hy⟩:=hg
  obtain⟨⟨old,h0⟩,⟨f0,f1,h1,hzf⟩,h2,⟨u0,v0,h3⟩,h4,h5⟩:=st
  obtain⟨its1,rv1,p1,hz1⟩:=I.tuple hq1
  obtain⟨its2,rv2,p2,hz2⟩:=I.list hq2
  obtain⟨u,hu,ru⟩:=rv1.get hx
  obtain⟨v,hv,rv⟩:=rv2.get hy
  have hes:n+5 < s.heap.objs.size:=aJ h0
  have hh:X.A.in1.in1.handled=none:=by simp [I.ok.hd hc]
  have hlt1:i < its1.toArray.size:=by have:=(az.mp hu).1; simpa using this
  have hlt2:i < its2.toArray.size:=by have:=(az.mp hv).1; simpa using this
  refine zmi (Draws.tuple hh n a (nq (by lia)) its1.toArray) (fb hh (n+1) b (nq (by lia)) its2.toArray) (zcB ha hb) h0 (nq (by lia)) (nq (by lia)) (nq (by lia)) (nq (by lia)) (nq (by lia)) (nm2 (by lia) (by lia)) (nm2 (by lia) (by lia)) h1 hzf h2 h3 ⟨h4,(show s.heap.IsTuple a its1.toArray from p1)⟩ ⟨h5,p2.isList⟩ hlt1 hlt2
   fun x' y' h' tk g0 g1 a' b' px py eo ez ezf e2 e3 t4 t5 pp pe hsz kk=>?_
  have eu:x'=u:=by
   have e1:its1[i]? = some x':=by simpa using px
   rw [hu] at e1; exact (aO e1).symm
  have ev:y'=v:=by
   have e1:its2[i]? = some y':=by simpa using py
   rw [hv] at e1; exact (aO e1).symm
  subst eu ev
  have ch:∀ c∈[n+5,n+4,n+3,n,n+1],c∈zes n:=fun c hc'=>by
   simp only [zes,aD,aR,or_false] at hc' ⊢
   rcases hc' with z | z | z | z | z <;> subst z <;> simp
  have k1:∀ c o,c∉[n+5,n+4,n+3,n,n+1]→s.heap.get? c=some o→h'.get? c=some o:=fun c o hc' eo=>by
   simp only [aD,aR,or_false,not_or] at hc'
   exact kk c o hc'.1 hc'.2.1 hc'.2.2.1 hc'.2.2.2.1 hc'.2.2.2.2 eo
  have th1:∀ c∈[n+5,n+4,n+3,n,n+1],∃ o,h'.get? c=some o:=fun c hc'=>by
   simp only [aD,aR,or_false] at hc'
   rcases hc' with z | z | z | z | z <;> subst z
   ·exact⟨_,eo⟩
   ·exact⟨_,ez⟩
   ·exact⟨_,e3⟩
   ·obtain⟨o,e,_⟩:=t4.1; exact⟨o,e⟩
   ·obtain⟨o,e,_⟩:=t5.1; exact⟨o,e⟩
  have I1:Inv X pins σ (upd H s.heap.objs.size (.tup [x,y])) { s with heap:=h',toks:=tk+1 } :=
   I.turnedNew k1 (fun c hc'=>hf c (ch c hc')) th1 (af _) ⟨zaJ,_,.cons ru (.cons rv .nil),zbK pp⟩
  have hn2:H (s.heap.objs.size+1)=none:=I.hok.fresh (gz _)
  have hn2':upd H s.heap.objs.size (.tup [x,y]) (s.heap.objs.size+1)=none:=by rw [zq (ij _)]; exact hn2
  obtain⟨_,a1,a2,a3,a4,a5⟩:=I.fpOk (H':=H) (gz s.heap.objs.size) hn2
  have I1':Inv X pins σ (upd (upd H s.heap.objs.size (.tup [x,y])) (s.heap.objs.size+1) (.tup [.int i,.ref s.heap.objs.size])) { s with heap:=h',toks:=tk+1 } :=
   I1.track hn2' (aZ I.sz (gz _)) (dW a1) a4 a5 ⟨zaJ,_,.cons ⟨tk,rfl⟩ (.cons rfl .nil),zbK pe⟩
  refine⟨_,rfl,gM eo fun h'' he'' hs''=>?_⟩
  have fr:∀ c∈zes n,upd (upd H s.heap.objs.size (.tup [x,y])) (s.heap.objs.size+1) (.tup [.int i,.ref s.heap.objs.size]) c=none:=fun c hc'=>by
   have hlt:c < s.heap.objs.size:=by
    simp only [zes,aD,aR,or_false] at hc'
    rcases hc' with z | z | z | z | z | z <;> subst z <;> exact nl (by lia)
   rw [zq (bt (eE hlt)),zq (bt hlt)]
   exact (hf c hc').1
  have I2:Inv X pins σ (upd (upd H s.heap.objs.size (.tup [x,y])) (s.heap.objs.size+1) (.tup [.int i,.ref s.heap.objs.size])) { s with heap:=h'',toks:=tk+1 } :=
   Inv.turnedL (s:={ s with heap:=h',toks:=tk+1 }) (ch:=[n+5]) (t':=tk+1) I1' (fun c o hc' eo=>hs''.extBut c o (by simpa using hc') eo) (fun c hc'=>by
    have z:c=n+5:=by simpa using hc'
    subst z
    exact⟨fr _ (by simp),(hf _ (by simp)).2⟩) (fun c hc'=>by
    have z:c=n+5:=by simpa using hc'
    subst z
    exact⟨_,he''⟩)
  have up:∀ c o,c≠n+5→h'.get? c=some o→h''.get? c=some o:=fun c o hc' e=>hs''.extBut c o hc' e
  exact⟨.ref (s.heap.objs.size+1),_,I2,rfl,⟨_,_,x,y,I.fresh,hn2,bt (j3 _),rfl,rfl,fun zs hz=>by rw [I.tuple_inj hz hq1]; exact hx,fun zs hz=>by rw [I.list_inj hz hq2]; exact hy⟩,
   ⟨⟨_,by simpa using he''⟩,⟨g0,g1,up _ _ (nq (by lia)) ez,ezf⟩,up _ _ (nq (by lia)) e2,⟨_,_,up _ _ (nq (by lia)) e3⟩,t4.1.at fun o e=>up _ o (nq (by lia)) e,t5.1.at fun o e=>up _ o (nq (by lia)) e⟩,fr⟩
 done:=by
  intro X hP hw hK hc i pins s σ H E I hf st hg
  subst hP hw hK
  obtain⟨xs,ys,hq1,hq2,hx⟩:=hg
  obtain⟨⟨old,h0⟩,⟨f0,f1,h1,hzf⟩,h2,⟨u0,v0,h3⟩,h4,h5⟩:=st
  obtain⟨its1,rv1,p1,hz1⟩:=I.tuple hq1
  obtain⟨its2,rv2,p2,hz2⟩:=I.list hq2
  have hh:X.A.in1.in1.handled=none:=by simp [I.ok.hd hc]
  have hl1:=rv1.length
  refine zn2 (Draws.tuple hh n a (nq (by lia)) its1.toArray) (fb hh (n+1) b (nq (by lia)) its2.toArray) (zcB ha hb) h0 h1 hzf h2 h3 ⟨h4,(show s.heap.IsTuple a its1.toArray from p1)⟩ ⟨h5,p2.isList⟩ (.inl (by rw [aj]; lia)) fun h' tk kk=>⟨rfl,?_⟩
  have sub:∀ c∈[n+4,n+3,n,n+1],c∈zes n:=fun c hc'=>by
   simp only [zes,aD,aR,or_false] at hc' ⊢
   rcases hc' with z | z | z | z <;> subst z <;> simp
  have k1:∀ c o,c∉[n+4,n+3,n,n+1]→s.heap.get? c=some o→h'.get? c=some o:=fun c o hc' e=>by
   simp only [aD,aR,or_false,not_or] at hc'
   exact kk c o hc'.1 hc'.2.1 hc'.2.2.1 hc'.2.2.2 e
  have nit:∀ d u',H d=some u'→d∉[n+4,n+3,n,n+1]:=fun d u' e' hd=>by rw [(hf d (sub d hd)).1] at e'; cases e'
  refine I.step (g':=s.gens) (d':=s.drawn) (t':=tk) (ch:=[n+4,n+3,n,n+1]) (fun c hc'=>?_) (fun c o _ _ hcc e _=>k1 c o hcc e) (fun c o _ _ hcc e _=>⟨o.slots,k1 c o hcc e⟩) (fun _ _ _ _ n=>n)
   (fun c o hcc e=>⟨o,k1 c o hcc e⟩) (fun _ _ e=>e) (fun _ _ _ e=>e) (fun c ps e=>⟨#[],by rw [e]; simp⟩) (fun m hm=>?_) (fun c u e=>?_) I.bare
  ·obtain⟨_,a1,_,a3,a4,a5⟩:=hf c (sub c hc')
   exact⟨a3,a1,a4,a5⟩
  ·obtain⟨o,es',ep,ho,r⟩:=hm
   exact⟨o,es',ep,k1 _ o (fun z=>(hf _ (sub _ z)).2.1 rfl) ho,r⟩
  ·refine (I.hok c u e).stay (fun d v' hd q=>k1 d v' ?_ q) (fun _ q=>q) fun _ _ q=>q
   rcases hd with z | z
   ·rw [z]; exact nit c u e
   ·exact nit d _ z
 self:=fun _ _ _ _ _ st h=>by
  obtain⟨⟨old,he⟩,_⟩:=st
  exact fP he h
def iEZ (Sq1 Sq2:Hp→Addr→List V→Prop) (ta:TA):TI:=fun σ H R=>ta σ H fun vs H1=>∃ a b xs ys,vs = [.ref a,.ref b]∧Sq1 H1 a xs∧Sq2 H1 b ys∧R (zmj Sq1 Sq2 a b) H1
theorem zhX {X:Cx} {es:List Expr} {k:Nat} {tpos p p2 pos pos2:Pos} {a b:Expr} {ta:TA} (hg:Gl X "enumerate") (hm:X.mg "enumerate" = none) (hg2:Gl X "zip") (hm2:X.mg "zip" = none) (ha:PA X [a,b] ta) (hs:starEach [a,b] X.env = [(false,eval a X.env),(false,eval b X.env)]:=by rfl) (hs2:starEach [b] X.env = [(false,eval b X.env)]:=by rfl)
  (hs3:starEach [.Call (.Name "zip" p2) [a,b] [] pos2] X.env = [(false,eval (.Call (.Name "zip" p2) [a,b] [] pos2) X.env)]:=by rfl) :
  PI X (.Tuple es k tpos) (.Call (.Name "enumerate" p) [.Call (.Name "zip" p2) [a,b] [] pos2] [] pos) (iEZ (SqT X.K) (SqL X.K) ta):=by
 intro pins s σ H R I h
 refine Call_ (zbx I hg hm boot_enumerate (bq ?_ hs3 rfl))
 rw [hs3]
 show wpAny _ _ (spliced ((false,eval (.Call (.Name "zip" p2) [a,b] [] pos2) X.env) :: [])) _ _ s
 refine er ?_
 refine Call_ (zbx I hg2 hm2 j4 (bq (thn (ha pos2 pins s σ H _ I h) fun us s1 ⟨vs,H1,I1,r1,q1⟩=>?_) (by rw [hs,hs2]) (by rw [hs2]; rfl)))
 obtain⟨l1,l2,xs,ys,e,hq1,hq2,q⟩:=q1
 subst e
 cases r1 with
 | cons r rr =>
  cases rr with
  | cons r' rr =>
   cases rr
   cases r
   cases r'
   obtain⟨its1,rv1,pl1,hz1⟩:=I1.tuple hq1
   obtain⟨its2,rv2,pl2,hz2⟩:=I1.list hq2
   have hlt1:l1 < s1.heap.objs.size:=by obtain⟨_,e,_⟩:=pl1; exact aJ e
   have hlt2:l2 < s1.heap.objs.size:=by obtain⟨_,_,e,_⟩:=pl2; exact aJ e
   refine zer (show s1.heap.IsTuple l1 its1.toArray from pl1) pl2.isList fun h' n hn b1 b2 b3 b4 b5 b6 kk=>?_
   refine fO ?_
   refine zhW b1 fun h2 he hsz kk2=>?_
   have I2:Inv X pins σ H1 { s1 with heap:=h2 }:=I1.kept (t':=s1.toks) fun c o e=>kk2 c o (kk c o e)
   refine fP he ?_; have e5:h'.objs.size=n+5:=b6
   have he':IsEnum h2 (n+5) (n+4) 0 .none:=by rw [← e5]; exact he
   refine⟨_,zes n,zn3 n l1 l2,zmj (SqT X.K) (SqL X.K) l1 l2,H1,rfl,I2,?_,⟨⟨_,he'⟩,⟨_,_,kk2 _ _ b1,.inl rfl,_,rfl⟩,kk2 _ _ b2,⟨_,_,kk2 _ _ b3⟩,b4.at fun o e=>kk2 _ o e,b5.at fun o e=>kk2 _ o e⟩,fun c hc=>?_,q⟩
   ·show Turn X.prog X.w X.K (.Tuple es k tpos) (zmj (SqT X.K) (SqL X.K) l1 l2) (zes n) h'.objs.size (zn3 n l1 l2)
    rw [e5]
    exact zmk l1 l2 n (by rw [hn]; exact hlt1) (by rw [hn]; exact hlt2)
   ·have hle:s1.heap.objs.size≤c:=by
     simp only [zes,aD,aR,or_false] at hc
     rw [← hn]
     rcases hc with z | z | z | z | z | z <;> subst z
     all_goals first | exact im _ _ | exact af _
    exact I1.fpOk hle (I1.hok.fresh hle)
end L2
end
section
namespace L2
open PySem PySem.Spec PyProof.Rows
theorem zhY {K:ag} {i j:Nat}:∀ (x:V) (σ:St) (H:Hp) (Q Q':St→Hp→Prop),(∀ σ' H',Q σ' H'→Q' σ' H')→zgJ K 2 (zb0 (zaT i) (zb0 (zaT j) zhE)) x σ H Q→zgJ K 2 (zb0 (zaT i) (zb0 (zaT j) zhE)) x σ H Q':=fun x σ H Q Q' hq ⟨a,xs,e1,h1,h2,v,r,e3,v2,r2,e4,e5,h⟩=>⟨a,xs,e1,h1,h2,v,r,e3,v2,r2,e4,e5,hq _ _ h⟩
end L2
end
section
namespace My
open PySem L2 PyProof.Rows
section
variable {K:ag}
def zpA (H:Hp):V→Option (List V)
 | .ref a=>match H a with
  | some (.lst xs)=>some xs
  | _=>none
 | _=>none
def zbh (H:Hp) (c tt:Addr) (p k:Int) (pl:List Int):Prop:=H c=some (.tup [.int p,.int k,.ref tt])∧H tt=some (.tup (pl.map V.int))
theorem zbh.same {H H':Hp} {c tt:Addr} {p k:Int} {pl:List Int} (s:zt H H') (h:zbh H c tt p k pl):zbh H' c tt p k pl:=⟨s _ _ h.1,s _ _ h.2⟩
def enc:Option Int→V
 | none=>.non
 | some i=>.int i
def zfy (p:Int) (pl:List Int) (rw:List (Option Int)) (poly:List Int) (j:Nat):Bool:=match pl[j]?,rw[j]? with
 | some x,some (some i)=>decide (i=zl p x poly)
 | _,_=>false
def zdp (p:Int) (pl:List Int) (rw:List (Option Int)) (poly:List Int) (n:Nat):List Int:=((aL n).filter (zfy p pl rw poly)).map fun (j:Nat)=>(j:Int)
theorem zfz {p:Int} {pl:List Int} {rw:List (Option Int)} {poly:List Int} {n:Nat}:zdp p pl rw poly (n+1)=zdp p pl rw poly n++if zfy p pl rw poly n then [(n:Int)] else []:=by
 unfold zdp
 rw [cC,cq,ar]
 congr 1
 by_cases h:zfy p pl rw poly n=true
 ·rw [if_pos h]; simp [h]
 ·rw [if_neg h]; simp [h]
theorem zg3 (p:Int) (pl:List Int) (rw:List (Option Int)) (poly:List Int) (n:Nat):(zdp p pl rw poly n).length≤n:=by
 unfold zdp
 rw [ab]
 exact aZ (c9 _ _) (by rw [aT]; exact af _)
theorem ziE {rw:List (Option Int)} {j:Nat} {x:V} (h:(rw.map enc)[j]? = some x):∃ o,x=enc o∧rw[j]? = some o:=by
 rw [ah] at h
 cases e:rw[j]? with
 | none=>rw [e] at h; cases h
 | some c=>rw [e] at h; exact⟨c,(aO h).symm,rfl⟩
def hide (H:Hp) (a:Addr):Hp:=fun b=>if b=a then none else H b
theorem zkJ (H:Hp) (a:Addr):zt (hide H a) H:=fun b o e=>by
 unfold hide at e
 split at e
 ·cases e
 ·exact e
theorem zdZ {H:Hp} {a b:Addr} {o:HO} (h:H b=some o) (hne:b≠a):hide H a b=some o:=by unfold hide; rw [if_neg hne]; exact h
end
end My
end
section
namespace My
open PySem L2 PyProof.Rows
section
variable {K:ag}
def zml (K:ag):Sp:=fun vs H Q _=>∃ (c tt ra po:Addr) (p k:Int) (pl poly:List Int) (rw:List (Option Int)),vs = [.ref c,.ref ra,.ref po]∧zbh H c tt p k pl∧H ra=some (.lst (rw.map enc))∧rw.length=pl.length∧H po=some (.tup (poly.map V.int))∧0 < p∧p≤97∧(∀ x∈pl,0≤x∧x < p)∧pl.length≤100 ∧
 ∀ (l:Addr) (H':Hp),H l=none→zt H H'→H' l=some (.lst ((zdp p pl rw poly pl.length).map V.int))→Q (.ref l) H'
theorem zkK (o:Option Int) (z:Int):znK (enc o) (.int z)=true:=by cases o <;> rfl
theorem zkL {p:Int} {pl:List Int} {rw:List (Option Int)} {poly:List Int} {j:Nat} {x:Int} {o:Option Int} (hx:pl[j]? = some x) (ho:rw[j]? = some o):zfy p pl rw poly j=decide (enc o = .int (zl p x poly)):=by
 unfold zfy
 rw [hx,ho]
 cases o with
 | none=>rfl
 | some i=>simp [enc]
def zaz (rw:List (Option Int)) (n:Nat):List Int:=((aL n).filter fun j=>(rw[j]?.getD none).isSome).map fun (j:Nat)=>(j:Int)
theorem zet {rw:List (Option Int)} {n:Nat}:zaz rw (n+1)=zaz rw n++if (rw[n]?.getD none).isSome=true then [(n:Int)] else []:=by
 unfold zaz
 rw [cC,cq,ar]
 congr 1
 by_cases h:(rw[n]?.getD none).isSome=true
 ·rw [if_pos h]; simp [h]
 ·rw [if_neg h]; simp [h]
theorem zf4 (rw:List (Option Int)) (n:Nat):(zaz rw n).length≤n:=by
 unfold zaz
 rw [ab]
 exact aZ (c9 _ _) (by rw [aT]; exact af _)
end
end My
end
section
namespace PySem
section
variable {prog:Program} {w:World} {A:Around} {E:Value→Shared→Prop} {s:Shared}
theorem ziF {z TI TO i1 i2:Addr} {fp1 fp2:List Addr} {n1 n2 k1 k2:Nat} {P1 P2:Nat→Value→Prop} {S1 S2:Nat→Heap→Prop} {f0 f1 a b:Value} {Q:Option Value→Shared→Prop} (D1:Draws prog w A.in1 i1 fp1 n1 P1 S1) (D2:Draws prog w A.in1 i2 fp2 n2 P2 S2) (Z:Zap z TI TO i1 i2 fp1 fp2)
  (hz:IsZ s.heap z TI TO f0 f1) (hf:ZF f0 f1) (hTI:IsPair s.heap TI (.ref i1) (.ref i2)) (hTO:IsPair s.heap TO a b) (st1:S1 k1 s.heap) (st2:S2 k2 s.heap) (l1:k1 < n1) (l2:k2 < n2)
  (hQ:∀ x y h' tk g0 g1 a' b',P1 k1 x→P2 k2 y→IsZ h' z TI TO g0 g1→ZF g0 g1→IsPair h' TI (.ref i1) (.ref i2)→IsPair h' TO a' b'→S1 (k1+1) h'→S2 (k2+1) h'→IsPair h' s.heap.objs.size x y→h'.objs.size=s.heap.objs.size+1 →
   (∀ c o,c≠z→c≠TO→c≠i1→c≠i2→s.heap.get? c=some o→h'.get? c=some o)→Q (some (.ref s.heap.objs.size)) { s with heap:=h',toks:=tk }):wpAny (model prog w) A (pyNext (.ref z)) Q E s:=by
 have hTz:s.TypeIs (.ref z) "zip":=⟨_,hz,rfl⟩
 unfold pyNext
 refine ae (cU (bh (name:=bN "__next__") hTz dn (bu dn hTz fZ ?_ (fQ _))))
 exact ziD D1 D2 Z hz hf hTI hTO st1 st2 l1 l2 fun x y h1 tk g0 g1 a' b' px py hz1 hf1 hTI1 hTO1 st1' st2' hp1 hsz1 kk=>ak (hQ x y h1 tk g0 g1 a' b' px py hz1 hf1 hTI1 hTO1 st1' st2' hp1 hsz1 kk)
theorem zkM {z TI TO i1 i2:Addr} {fp1 fp2:List Addr} {n1 n2 k1 k2:Nat} {P1 P2:Nat→Value→Prop} {S1 S2:Nat→Heap→Prop} {f0 f1 a b:Value} {Q:Option Value→Shared→Prop} (D1:Draws prog w A.in1 i1 fp1 n1 P1 S1) (D2:Draws prog w A.in1 i2 fp2 n2 P2 S2) (Z:Zap z TI TO i1 i2 fp1 fp2)
  (hz:IsZ s.heap z TI TO f0 f1) (hf:ZF f0 f1) (hTI:IsPair s.heap TI (.ref i1) (.ref i2)) (hTO:IsPair s.heap TO a b) (st1:S1 k1 s.heap) (st2:S2 k2 s.heap) (l1:k1=n1∨(k1 < n1∧k2=n2))
  (hQ:∀ h' tk,(∀ c o,c≠z→c≠TO→c≠i1→c≠i2→s.heap.get? c=some o→h'.get? c=some o)→Q none { s with heap:=h',toks:=tk }):wpAny (model prog w) A (pyNext (.ref z)) Q E s:=by
 have hTz:s.TypeIs (.ref z) "zip":=⟨_,hz,rfl⟩
 unfold pyNext
 refine ae (cU (bh (name:=bN "__next__") hTz dn (bu dn hTz fZ ?_ (fQ _))))
 refine zkI D1 D2 Z hz hf hTI hTO st1 st2 l1 fun h' tk x kk ⟨o,ho,hc⟩=>?_
 exact ae (eZ (T:="StopIteration") (b:=true) ⟨o,ho,hc⟩ gp (ak (hQ h' tk kk)))
theorem zf5 {z TI TO:Addr} {f0 f1:Value} {Q:Value→Shared→Prop} (hz:IsZ s.heap z TI TO f0 f1) (h:Q (.ref z) s):wpAny (model prog w) A (pyIter (.ref z)) Q E s:=by
 have hT:s.TypeIs (.ref z) "zip":=⟨_,hz,rfl⟩; refine gW hT F.slot_zip_iter (bu F.slot_zip_iter hT F.entry_zip_iter ?_ (F.args_zip_iter_1 _))
 show wpAny _ _ (ret (.ref z)) _ _ s; exact ak ⟨_,rfl,"zip",_,hT,F.slot_zip_next.lookup,h⟩
theorem zoV {elts:List Expr} {x1} {pos:Pos} {z TI TO T:Addr} {f0 f1:Value} {Q:Unit→Shared→Prop} (hz:IsZ s.heap z TI TO f0 f1) (hf:ZF f0 f1)
  (hQ:∀ h' g0,IsZ h' z TI TO g0 f1→ZF g0 f1→bj z s.heap h'→Q () { s with heap:=h' }):wpAny (model prog w) A (letOwnedTupleGo (.Tuple elts x1 pos) (.ref z) (.ref T)) Q E s:=by
 unfold letOwnedTupleGo; refine ae (wpAny_load hz ?_)
 show wpAny _ _ (if _ then _ else _) Q E s
 split
 ·refine ae (cg ?_); show wpAny _ _ (setField (.ref z) 0 .none) Q E s
  exact bG hz (by simp) fun h' hz' hs'=>hQ h' .none hz' ⟨.inl rfl,hf.2⟩ hs'
 ·exact ak (hQ s.heap f0 hz hf ⟨rfl,fun _ _=>rfl⟩)
end
end PySem
namespace L2
open PySem PySem.Spec PyProof.Rows
def zn4 (Sq1 Sq2:Hp→Addr→List V→Prop) (a b:Addr):It :=
 ⟨(zju Sq1 Sq2 a b).go,(zju Sq1 Sq2 a b).yld,fun i H=>∃ xs ys,Sq1 H a xs∧Sq2 H b ys∧(xs.length=i∨(i < xs.length∧ys.length=i))⟩
abbrev zbY (n:Nat):List Addr:=[n+4,n+2,n+3,n,n+1]
abbrev zoW (n a b:Nat) (i:Nat) (h:Heap):Prop:=(∃ f0 f1,IsZ h (n+4) (n+2) (n+3) f0 f1∧ZF f0 f1)∧IsPair h (n+2) (.ref n) (.ref (n+1))∧(∃ u v,IsPair h (n+3) u v)∧h.IsTupleIter n a i∧h.IsListIter (n+1) b i
theorem zkN {P:Program} {w:World} {K:ag} {es:List Expr} {k:Nat} {pos:Pos} (a b n:Nat) (ha:a < n) (hb:b < n):Turn P w K (.Tuple es k pos) (zn4 (SqT K) (SqL K) a b) (zbY n) (n+4) (zoW n a b) where
 mem:=by simp
 obj:=fun i h st c hc=>by
  obtain⟨⟨f0,f1,h1,_⟩,h2,⟨u,v,h3⟩,⟨o4,e4,_,d4⟩,⟨o5,e5,_,d5⟩⟩:=st
  simp only [zbY,aD,aR,or_false] at hc
  rcases hc with z | z | z | z | z <;> subst z
  ·exact⟨_,h1,fun v z=>by cases z⟩
  ·exact⟨_,h2,fun v z=>by cases z⟩
  ·exact⟨_,h3,fun v z=>by cases z⟩
  ·exact⟨_,e4,fun v z=>by rw [d4] at z; cases z⟩
  ·exact⟨_,e5,fun v z=>by rw [d5] at z; cases z⟩
 keep:=fun i h h' st kk=>by
  obtain⟨⟨f0,f1,h1,hf⟩,h2,⟨u,v,h3⟩,h4,h5⟩:=st
  exact⟨⟨f0,f1,kk _ (by simp) _ h1,hf⟩,kk _ (by simp) _ h2,⟨u,v,kk _ (by simp) _ h3⟩,h4.at fun o eo=>kk _ (by simp) o eo,h5.at fun o eo=>kk _ (by simp) o eo⟩
 item:=by
  intro X hP hw hK hc i pins s σ H E I hf st hg
  subst hP hw hK
  obtain⟨xs,ys,x,y,hq1,hq2,hx,hy⟩:=hg
  obtain⟨⟨f0,f1,h1,hzf⟩,h2,⟨u0,v0,h3⟩,h4,h5⟩:=st
  obtain⟨its1,rv1,p1,hz1⟩:=I.tuple hq1
  obtain⟨its2,rv2,p2,hz2⟩:=I.list hq2
  obtain⟨u,hu,ru⟩:=rv1.get hx
  obtain⟨v,hv,rv⟩:=rv2.get hy
  have hes:n+4 < s.heap.objs.size:=aJ h1
  have hh:X.A.in1.handled=none:=by simp [I.ok.hd hc]
  have hlt1:i < its1.toArray.size:=by have:=(az.mp hu).1; simpa using this
  have hlt2:i < its2.toArray.size:=by have:=(az.mp hv).1; simpa using this
  refine ziF (Draws.tuple hh n a (nq (by lia)) its1.toArray) (fb hh (n+1) b (nq (by lia)) its2.toArray) (zcB ha hb) h1 hzf h2 h3 ⟨h4,(show s.heap.IsTuple a its1.toArray from p1)⟩ ⟨h5,p2.isList⟩ hlt1 hlt2
   fun x' y' h' tk g0 g1 a' b' px py ez ezf e2 e3 t4 t5 pp hsz kk=>?_
  have eu:x'=u:=by
   have e1:its1[i]? = some x':=by simpa using px
   rw [hu] at e1; exact (aO e1).symm
  have ev:y'=v:=by
   have e1:its2[i]? = some y':=by simpa using py
   rw [hv] at e1; exact (aO e1).symm
  subst eu ev
  have ch:∀ c∈[n+4,n+3,n,n+1],c∈zbY n:=fun c hc'=>by
   simp only [zbY,aD,aR,or_false] at hc' ⊢
   rcases hc' with z | z | z | z <;> subst z <;> simp
  have k1:∀ c o,c∉[n+4,n+3,n,n+1]→s.heap.get? c=some o→h'.get? c=some o:=fun c o hc' eo=>by
   simp only [aD,aR,or_false,not_or] at hc'
   exact kk c o hc'.1 hc'.2.1 hc'.2.2.1 hc'.2.2.2 eo
  have th1:∀ c∈[n+4,n+3,n,n+1],∃ o,h'.get? c=some o:=fun c hc'=>by
   simp only [aD,aR,or_false] at hc'
   rcases hc' with z | z | z | z <;> subst z
   ·exact⟨_,ez⟩
   ·exact⟨_,e3⟩
   ·obtain⟨o,e,_⟩:=t4.1; exact⟨o,e⟩
   ·obtain⟨o,e,_⟩:=t5.1; exact⟨o,e⟩
  have I1:Inv X pins σ (upd H s.heap.objs.size (.tup [x,y])) { s with heap:=h',toks:=tk } :=
   I.turnedNew k1 (fun c hc'=>hf c (ch c hc')) th1 (af _) ⟨zaJ,_,.cons ru (.cons rv .nil),zbK pp⟩
  refine⟨_,rfl,zoV (s:={ s with heap:=h',toks:=tk }) ez ezf fun h'' g2 hz'' hzf'' hs''=>?_⟩
  have fr:∀ c∈zbY n,upd H s.heap.objs.size (.tup [x,y]) c=none:=fun c hc'=>by
   have hlt:c < s.heap.objs.size:=by
    simp only [zbY,aD,aR,or_false] at hc'
    rcases hc' with z | z | z | z | z <;> subst z <;> exact nl (by lia)
   rw [zq (bt hlt)]
   exact (hf c hc').1
  have I2:Inv X pins σ (upd H s.heap.objs.size (.tup [x,y])) { s with heap:=h'',toks:=tk } :=
   Inv.turnedL (s:={ s with heap:=h',toks:=tk }) (ch:=[n+4]) (t':=tk) I1 (fun c o hc' eo=>hs''.extBut c o (by simpa using hc') eo) (fun c hc'=>by
    have z:c=n+4:=by simpa using hc'
    subst z
    exact⟨fr _ (by simp),(hf _ (by simp)).2⟩) (fun c hc'=>by
    have z:c=n+4:=by simpa using hc'
    subst z
    exact⟨_,hz''⟩)
  have up:∀ c o,c≠n+4→h'.get? c=some o→h''.get? c=some o:=fun c o hc' e=>hs''.extBut c o hc' e
  exact⟨.ref s.heap.objs.size,_,I2,rfl,⟨_,x,y,I.fresh,rfl,rfl,fun zs hz=>by rw [I.tuple_inj hz hq1]; exact hx,fun zs hz=>by rw [I.list_inj hz hq2]; exact hy⟩,
   ⟨⟨g2,g1,hz'',hzf''⟩,up _ _ (nq (by lia)) e2,⟨_,_,up _ _ (nq (by lia)) e3⟩,t4.1.at fun o e=>up _ o (nq (by lia)) e,t5.1.at fun o e=>up _ o (nq (by lia)) e⟩,fr⟩
 done:=by
  intro X hP hw hK hc i pins s σ H E I hf st hg
  subst hP hw hK
  obtain⟨xs,ys,hq1,hq2,hx⟩:=hg
  obtain⟨⟨f0,f1,h1,hzf⟩,h2,⟨u0,v0,h3⟩,h4,h5⟩:=st
  obtain⟨its1,rv1,p1,hz1⟩:=I.tuple hq1
  obtain⟨its2,rv2,p2,hz2⟩:=I.list hq2
  have hh:X.A.in1.handled=none:=by simp [I.ok.hd hc]
  have hl1:=rv1.length
  have hl2:=rv2.length
  refine zkM (Draws.tuple hh n a (nq (by lia)) its1.toArray) (fb hh (n+1) b (nq (by lia)) its2.toArray) (zcB ha hb) h1 hzf h2 h3 ⟨h4,(show s.heap.IsTuple a its1.toArray from p1)⟩ ⟨h5,p2.isList⟩ (by rw [aj,aj]; lia) fun h' tk kk=>⟨rfl,?_⟩
  have sub:∀ c∈[n+4,n+3,n,n+1],c∈zbY n:=fun c hc'=>by
   simp only [zbY,aD,aR,or_false] at hc' ⊢
   rcases hc' with z | z | z | z <;> subst z <;> simp
  have k1:∀ c o,c∉[n+4,n+3,n,n+1]→s.heap.get? c=some o→h'.get? c=some o:=fun c o hc' e=>by
   simp only [aD,aR,or_false,not_or] at hc'
   exact kk c o hc'.1 hc'.2.1 hc'.2.2.1 hc'.2.2.2 e
  have nit:∀ d u',H d=some u'→d∉[n+4,n+3,n,n+1]:=fun d u' e' hd=>by rw [(hf d (sub d hd)).1] at e'; cases e'
  refine I.step (g':=s.gens) (d':=s.drawn) (t':=tk) (ch:=[n+4,n+3,n,n+1]) (fun c hc'=>?_) (fun c o _ _ hcc e _=>k1 c o hcc e) (fun c o _ _ hcc e _=>⟨o.slots,k1 c o hcc e⟩) (fun _ _ _ _ n=>n)
   (fun c o hcc e=>⟨o,k1 c o hcc e⟩) (fun _ _ e=>e) (fun _ _ _ e=>e) (fun c ps e=>⟨#[],by rw [e]; simp⟩) (fun m hm=>?_) (fun c u e=>?_) I.bare
  ·obtain⟨_,a1,_,a3,a4,a5⟩:=hf c (sub c hc')
   exact⟨a3,a1,a4,a5⟩
  ·obtain⟨o,es',ep,ho,r⟩:=hm
   exact⟨o,es',ep,k1 _ o (fun z=>(hf _ (sub _ z)).2.1 rfl) ho,r⟩
  ·refine (I.hok c u e).stay (fun d v' hd q=>k1 d v' ?_ q) (fun _ q=>q) fun _ _ q=>q
   rcases hd with z | z
   ·rw [z]; exact nit c u e
   ·exact nit d _ z
 self:=fun _ _ _ _ _ st h=>by
  obtain⟨⟨f0,f1,hz,_⟩,_⟩:=st
  exact zf5 hz h
def iZq (Sq1 Sq2:Hp→Addr→List V→Prop) (ta:TA):TI:=fun σ H R=>ta σ H fun vs H1=>∃ a b xs ys,vs = [.ref a,.ref b]∧Sq1 H1 a xs∧Sq2 H1 b ys∧R (zn4 Sq1 Sq2 a b) H1
theorem zkO {X:Cx} {es:List Expr} {k:Nat} {tpos p pos:Pos} {a b:Expr} {ta:TA} (hg:Gl X "zip") (hm:X.mg "zip" = none) (ha:PA X [a,b] ta) (hs:starEach [a,b] X.env = [(false,eval a X.env),(false,eval b X.env)]:=by rfl) (hs2:starEach [b] X.env = [(false,eval b X.env)]:=by rfl) :
  PI X (.Tuple es k tpos) (.Call (.Name "zip" p) [a,b] [] pos) (iZq (SqT X.K) (SqL X.K) ta):=by
 intro pins s σ H R I h
 refine Call_ (zbx I hg hm j4 (bq (thn (ha pos pins s σ H _ I h) fun us s1 ⟨vs,H1,I1,r1,q1⟩=>?_) (by rw [hs,hs2]) (by rw [hs2]; rfl)))
 obtain⟨l1,l2,xs,ys,e,hq1,hq2,q⟩:=q1
 subst e
 cases r1 with
 | cons r rr =>
  cases rr with
  | cons r' rr =>
   cases rr
   cases r
   cases r'
   obtain⟨its1,rv1,pl1,hz1⟩:=I1.tuple hq1
   obtain⟨its2,rv2,pl2,hz2⟩:=I1.list hq2
   have hlt1:l1 < s1.heap.objs.size:=by obtain⟨_,e,_⟩:=pl1; exact aJ e
   have hlt2:l2 < s1.heap.objs.size:=by obtain⟨_,_,e,_⟩:=pl2; exact aJ e
   refine zer (show s1.heap.IsTuple l1 its1.toArray from pl1) pl2.isList fun h' n hn b1 b2 b3 b4 b5 b6 kk=>?_
   have I2:Inv X pins σ H1 { s1 with heap:=h' }:=I1.kept (t':=s1.toks) kk
   refine zf5 b1 ?_
   refine⟨_,zbY n,zoW n l1 l2,zn4 (SqT X.K) (SqL X.K) l1 l2,H1,rfl,I2,zkN l1 l2 n (by rw [hn]; exact hlt1) (by rw [hn]; exact hlt2),⟨⟨_,_,b1,.inl rfl,_,rfl⟩,b2,⟨_,_,b3⟩,b4,b5⟩,fun c hc=>?_,q⟩
   have hle:s1.heap.objs.size≤c:=by
    simp only [zbY,aD,aR,or_false] at hc
    rw [← hn]
    rcases hc with z | z | z | z | z <;> subst z
    all_goals first | exact im _ _ | exact af _
   exact I1.fpOk hle (I1.hok.fresh hle)
end L2
end
section
namespace L2
open PySem PySem.Spec PyProof.Rows
end L2
end
section
namespace L2
open PySem PySem.Spec PyProof.Rows
end L2
end
section
namespace L2
open PySem PySem.Spec PyProof.Rows
end L2
end
section
namespace L2
open PySem PySem.Spec PyProof.Rows
end L2
end
section
namespace L2
open PySem PySem.Spec PyProof.Rows
section
variable {P:Program} {w:World} {outer:List Env} {H H':Hp} {h h' B:Heap} {e C:Addr}
theorem zn5 {o:HO} {a:Addr} (x:zao P w H h a o):∃ ob,h.get? a=some ob:=by
 cases o with
 | lst xs=>obtain⟨_,_,_,_,e⟩:=x; exact⟨_,e⟩
 | tup xs=>obtain⟨_,_,_,o,e,_⟩:=x; exact⟨_,e⟩
 | dK kvs=>obtain⟨_,_,_,_,o,_,_,e,_⟩:=x; exact⟨_,e⟩
 | dT kvs=>obtain⟨_,_,_,_,o,_,_,e,_⟩:=x; exact⟨_,e⟩
 | set S n=>obtain⟨o,_,_,_,e,_⟩:=x; exact⟨_,e⟩
 | ins C dx fs=>obtain⟨_,_,_,e,_⟩:=x; exact⟨_,e⟩
 | own y=>obtain⟨_,e⟩:=x; exact⟨_,e⟩
 | xd fs=>obtain⟨_,⟨_,_,_,e,_⟩,_⟩:=x; exact⟨_,e⟩
 | rng lo hi=>obtain⟨_,_,_,e⟩:=x; exact⟨_,e⟩
 | frz ob u=>obtain⟨e,_⟩:=x; exact⟨_,e⟩
 | tbl ps=>exact⟨_,(show h.get? a=some _ from x)⟩
 | met f y=>exact⟨_,(show h.get? a=some _ from x)⟩
 | ext φ=>obtain⟨_,⟨_,e⟩,_⟩:=x; exact⟨_,e⟩
end
end L2
end
section
namespace L2
open PySem PySem.Spec PyProof.Rows
end L2
end
section
namespace L2
open PySem PySem.Spec PyProof.Rows
end L2
end
section
namespace L2
open PySem PySem.Spec PyProof.Rows
end L2
end
section
namespace L2
open PySem PySem.Spec PyProof.Rows
end L2
end
section
namespace L2
open PySem PySem.Spec PyProof.Rows
section
variable {κ:Type} [DecidableEq κ]
def zcU (kvs:List (κ×V)) (k:κ):Option V:=(kvs.find? fun kv=>decide (kv.1=k)).map (·.2)
def putK (kvs:List (κ×V)) (k:κ) (v:V):List (κ×V) :=
 if (kvs.any fun kv=>decide (kv.1=k))=true then kvs.map (fun kv=>if kv.1=k then (kv.1,v) else kv) else kvs++[(k,v)]
theorem zeu {p:κ×V} {r:List (κ×V)} {k:κ} (e:p.1=k):zcU (p :: r) k=some p.2:=by simp [zcU,eA,e]
theorem zew {p:κ×V} {r:List (κ×V)} {k:κ} (e:¬ p.1=k):zcU (p :: r) k=zcU r k:=by simp [zcU,eA,e]
theorem zex (k:κ):∀ kvs:List (κ×V),(kvs.any fun kv=>decide (kv.1=k))=(zcU kvs k).isSome
 | []=>rfl
 | p :: r=>by
  rw [gP]
  by_cases e:p.1=k
  ·simp only [zeu e,decide_eq_true e,Bool.true_or,jF]
  ·rw [zew e,decide_eq_false e,Bool.false_or]; exact zex k r
theorem zcr (kvs:List (κ×V)) (k:κ) (v:V):(putK kvs k v).length≤kvs.length+1:=by
 unfold putK
 split
 ·rw [ab]; lia
 ·rw [ao,aX,iL]; lia
theorem zkP {kvs:List (κ×V)} {k:κ} (v:V) (h:zcU kvs k=none):putK kvs k v=kvs++[(k,v)]:=by
 unfold putK
 rw [zex,h]
 exact if_neg (by decide)
theorem zgG.isSome_eq {o:Option V} {u:Option Value} (r:zgG o u):o.isSome=u.isSome:=by
 cases o with
 | none=>cases u with
  | none=>rfl
  | some _=>exact (show False from r).elim
 | some _=>cases u with
  | none=>exact (show False from r).elim
  | some _=>rfl
theorem zgG.getD {o:Option V} {u:Option Value} {d:V} {d':Value} (r:zgG o u) (rd:RelV d d'):RelV (o.getD d) (u.getD d'):=by
 cases o with
 | none=>cases u with
  | none=>exact rd
  | some _=>exact (show False from r).elim
 | some _=>cases u with
  | none=>exact (show False from r).elim
  | some _=>exact r
theorem KV.val {kvs:List (κ×V)} {vs:List (κ×Value)} (r:KV kvs vs) (k:κ):zgG (zcU kvs k) (valueAt vs k):=by
 unfold KV at r
 induction r with
 | nil=>exact h9
 | @cons p q ps qs h t ih =>
  obtain⟨h1,h2⟩:=h
  by_cases e:p.1=k
  ·have e':q.1=k:=h1.symm.trans e
   have b:valueAt (q :: qs) k=some q.2:=by simp [valueAt,eA,e']
   rw [zeu e,b]; exact h2
  ·have e':¬ q.1=k:=fun z=>e (h1.trans z)
   have b:valueAt (q :: qs) k=valueAt qs k:=by simp [valueAt,eA,e']
   rw [zew e,b]; exact ih
theorem KV.any {kvs:List (κ×V)} {vs:List (κ×Value)} (r:KV kvs vs) (k:κ):(kvs.any fun kv=>decide (kv.1=k))=vs.any fun kv=>decide (kv.1=k):=by
 unfold KV at r
 induction r with
 | nil=>rfl
 | cons h t ih=>rw [gP,gP,ih,h.1]
theorem KV.repl {kvs:List (κ×V)} {vs:List (κ×Value)} (r:KV kvs vs) (k:κ) {y:V} {u:Value} (ry:RelV y u) :
  KV (kvs.map fun kv=>if kv.1=k then (kv.1,y) else kv) (vs.map fun kv=>if kv.1=k then (kv.1,u) else kv):=by
 unfold KV at r ⊢
 induction r with
 | nil=>exact .nil
 | @cons p q ps qs h t ih =>
  rw [aU,aU]
  refine .cons ?_ ih
  obtain⟨h1,h2⟩:=h
  by_cases e:p.1=k
  ·rw [if_pos e,if_pos (h1.symm.trans e)]; exact⟨h1,ry⟩
  ·rw [if_neg e,if_neg (fun z=>e (h1.trans z))]; exact⟨h1,h2⟩
theorem KV.put {kvs:List (κ×V)} {vs:List (κ×Value)} (r:KV kvs vs) (k:κ) {y:V} {u:Value} (ry:RelV y u):KV (putK kvs k y) (stored vs k u):=by
 unfold putK stored
 rw [r.any k]
 by_cases e:(vs.any fun kv=>decide (kv.1=k))=true
 ·rw [if_pos e,if_pos e]; exact r.repl k ry
 ·rw [if_neg e,if_neg e]; exact bI r ⟨rfl,ry⟩
theorem KV.length {kvs:List (κ×V)} {vs:List (κ×Value)} (r:KV kvs vs):kvs.length=vs.length:=be r
end
theorem zkQ {P:Program} {w:World} {k:Key} {u:Value} (r:RelV (kV k) u):(zan P w).is k u=true:=by
 cases k with
 | inl i=>obtain⟨t,e⟩:=(show ∃ t,u=iF i t from r); subst e; exact zgE P w i t
 | inr x=>obtain⟨t,e⟩:=(show ∃ t,u=kD x t from r); subst e; exact zgF P w x t
theorem zfA {P:Program} {w:World}:∀ {ks:List Key} {us:List Value},zL (ks.map kV) us→ItemsAre (zan P w) ks us
 | [],_,r=>by rw [fC] at r; cases r; exact .nil
 | k :: ks,_,r=>by
  rw [aU] at r
  cases r with
  | cons h t=>exact .cons (zkQ h) (zfA t)
abbrev KT (H:Hp):List (List Key×V)→List (List Key×Addr×Value)→Prop:=Paired fun p q=>p.1=q.1∧H q.2.1=some (.tup (p.1.map kV))∧RelV p.2 q.2.2
theorem KT.val {H:Hp} {kvs:List (List Key×V)} {xs:List (List Key×Addr×Value)} (r:KT H kvs xs) (k:List Key):zgG (zcU kvs k) ((atKey xs k).map (·.2)):=by
 induction r with
 | nil=>exact h9
 | @cons p q ps qs h t ih =>
  obtain⟨h1,_,h2⟩:=h
  by_cases e:p.1=k
  ·have e':q.1=k:=h1.symm.trans e
   have b:atKey (q :: qs) k=some q.2:=by simp [atKey,eA,e']
   rw [zeu e,b]; exact h2
  ·have e':¬ q.1=k:=fun z=>e (h1.trans z)
   have b:atKey (q :: qs) k=atKey qs k:=by simp [atKey,eA,e']
   rw [zew e,b]; exact ih
theorem KT.repl {H:Hp} {kvs:List (List Key×V)} {xs:List (List Key×Addr×Value)} (r:KT H kvs xs) (k:List Key) {y:V} {u:Value} (ry:RelV y u) :
  KT H (kvs.map fun kv=>if kv.1=k then (kv.1,y) else kv) (xs.map (putAt k u)):=by
 induction r with
 | nil=>exact .nil
 | @cons p q ps qs h t ih =>
  rw [aU,aU]
  refine .cons ?_ ih
  obtain⟨h1,h2,h3⟩:=h
  unfold putAt
  by_cases e:p.1=k
  ·rw [if_pos e,if_pos (h1.symm.trans e)]; exact⟨h1,h2,ry⟩
  ·rw [if_neg e,if_neg (fun z=>e (h1.trans z))]; exact⟨h1,h2,h3⟩
theorem KT.put {H:Hp} {kvs:List (List Key×V)} {xs:List (List Key×Addr×Value)} (r:KT H kvs xs) (k:List Key) {b:Addr} {y:V} {u:Value} (hb:H b=some (.tup (k.map kV))) (ry:RelV y u) :
  KT H (putK kvs k y) (storedH xs k b u):=by
 have e:(kvs.any fun kv=>decide (kv.1=k))=(atKey xs k).isSome:=by
  rw [zex,(r.val k).isSome_eq,Option.isSome_map]
 unfold putK storedH
 rw [e]
 by_cases q:(atKey xs k).isSome=true
 ·rw [if_pos q,if_pos q]; exact r.repl k ry
 ·rw [if_neg q,if_neg q]; exact bI r ⟨rfl,hb,ry⟩
theorem KT.keeps {H H':Hp} {kvs:List (List Key×V)} {xs:List (List Key×Addr×Value)} (r:KT H kvs xs) (ht:∀ b ys,H b=some (.tup ys)→H' b=some (.tup ys)):KT H' kvs xs :=
 Paired.mapP r fun _ _ z=>⟨z.1,ht _ _ z.2.1,z.2.2⟩
section
variable {P:Program} {w:World} {H:Hp} {h:Heap} {a:Addr}
theorem znr {u:HO} (ok:HOk P w H h) (e:Rd H a u):zao P w H h a u:=e.ok ok
theorem zkR {kvs:List (Key×V)} (ok:HOk P w H h) (e:Rd H a (.dK kvs)):kvs.length≤sizeLine∧(a == sysModules)=false∧∃ vs,KV kvs vs∧h.DictOf (zan P w) a vs :=
 show zao P w H h a (.dK kvs) from znr ok e
theorem zoX {kvs:List (Key×V)} (ok:HOk P w H h) (e:H a=some (.dK kvs)):kvs.length≤sizeLine∧(a == sysModules)=false∧∃ vs,KV kvs vs∧h.DictOf (zan P w) a vs:=zkR ok (.inl e)
theorem zf6 {ks:List Key} (ok:HOk P w H h) (e:H a=some (.tup (ks.map kV))):(tupleKind (zan P w)).is h ks a:=by
 obtain⟨_,its,r,o,h1,h2,n,h3⟩:=(show zao P w H h a (.tup (ks.map kV)) from ok a _ e)
 exact⟨o,its.toArray,n,h1,h2,h3,by simpa using zfA r⟩
theorem zkS {kvs:List (List Key×V)} (ok:HOk P w H h) (e:Rd H a (.dT kvs)):kvs.length≤sizeLine∧(a == sysModules)=false ∧
  ∃ xs,KT H kvs xs∧h.DictOfH (tupleKind (zan P w)) a xs:=by
 obtain⟨z,y,xs,r,o,es,ep,h1,h2,h3,h4,h5⟩:=(show zao P w H h a (.dT kvs) from znr ok e)
 refine⟨z,y,xs,r,o,es,ep,h1,h2,h3,h4,fun x hx=>?_,h5⟩
 have all:∀ {l:List (List Key×V)} {m:List (List Key×Addr×Value)},KT H l m→∀ x∈m,(tupleKind (zan P w)).is h x.1 x.2.1:=by
  intro l m q
  induction q with
  | nil=>intro x hx; exact nomatch hx
  | @cons p q ps qs hq t ih =>
   intro x hx
   rcases aD.mp hx with e | hx
   ·subst e
    exact zf6 ok (by rw [← hq.1]; exact hq.2.1)
   ·exact ih x hx
 exact all r x hx
theorem zns {kvs:List (List Key×V)} (ok:HOk P w H h) (e:H a=some (.dT kvs)):kvs.length≤sizeLine∧(a == sysModules)=false ∧
  ∃ xs,KT H kvs xs∧h.DictOfH (tupleKind (zan P w)) a xs:=zkS ok (.inl e)
end
def zoY (H:Hp) (a:Addr) (y:V) (r:Option V):Prop :=
 (∃ kvs k,Rd H a (.dK kvs)∧y=kV k∧r=zcU kvs k)∨∃ kvs k b,Rd H a (.dT kvs)∧y = .ref b∧H b=some (.tup (k.map kV))∧r=zcU kvs k
def zkT (H:Hp) (a:Addr) (y v:V) (H':Hp):Prop :=
 (∃ kvs k,H a=some (.dK kvs)∧y=kV k∧kvs.length < sizeLine∧H'=upd H a (.dK (putK kvs k v))) ∨
 ∃ kvs k b,H a=some (.dT kvs)∧y = .ref b∧H b=some (.tup (k.map kV))∧kvs.length < sizeLine∧H'=upd H a (.dT (putK kvs k v))
theorem zkT.t {H:Hp} {a b:Addr} {kvs:List (List Key×V)} {k:List Key} {v:V} (e:H a=some (.dT kvs)) (eb:H b=some (.tup (k.map kV))) (hl:kvs.length < sizeLine) :
  zkT H a (.ref b) v (upd H a (.dT (putK kvs k v))):=.inr ⟨kvs,k,b,e,rfl,eb,hl,rfl⟩
section
variable {X:Cx} {pins:List (Addr×Obj)} {σ:St} {H:Hp} {s:Shared} {a:Addr} {y v:V} {u r:Value} {o:Option V} {A:Around} {E:Value→Shared→Prop}
theorem Inv.big (I:Inv X pins σ H s):sysModules < s.heap.objs.size:=by
 have h:mainGlobals < s.heap.objs.size:=(I.mod.glob.keeps I.bk).lt
 exact Nat.lt_trans (by decide) h
theorem zf7 {h':Heap} {t':Nat} {ob:HO} (I:Inv X pins σ H s) (mu:Mut (H a)) (hs:bj a s.heap h') (he:∃ q,h'.get? a=some q) (new:zao X.prog X.w (upd H a ob) h' a ob) :
  Inv X pins σ (upd H a ob) { s with heap:=h',toks:=t' } :=
 I.write (x:=a) (e:=a) mu (.inl rfl) (fun b q hb z=>(hs.2 b hb).trans z) he new
theorem zn6 {P:Program} {w:World} {H':Hp} {h':Heap} {kvs:List (Key×V)} {vs:List (Key×Value)} (z:kvs.length≤sizeLine) (hd:(a == sysModules)=false) (rel:KV kvs vs) (dd:h'.DictOf (zan P w) a vs) :
  zao P w H' h' a (.dK kvs):=⟨z,hd,vs,rel,dd⟩
theorem zjF {H':Hp} {Q:Unit→Shared→Prop} (hu:A.units+1 < cLine) (I:Inv X pins σ H s) (g:zkT H a y v H') (ry:RelV y u) (rv:RelV v r) (h:∀ s',Inv X pins σ H' s'→Q () s') :
  wpAny (model X.prog X.w) A (setItem (.ref a) u r) Q E s:=by
 rcases g with ⟨kvs,k,e,ey,l,eH⟩ | ⟨kvs,k,b,e,ey,eb,l,eH⟩
 ·subst ey eH
  obtain⟨z,hd,vs,rel,dd⟩:=zoX I.hok e
  have hz:vs.length≤sizeLine:=by rw [← rel.length]; exact z
  have hl:(putK kvs k v).length≤sizeLine:=by have:=zcr kvs k v; lia
  refine wpAny_setItem_pairs (hsz:=hz) (zkQ ry) dd fun h' dd' hs=>h _ ?_
  have he:∃ q,h'.get? a=some q:=let ⟨q,_,_,hq,_⟩:=dd'; ⟨q,hq⟩
  exact zf7 I (by rw [e]; exact h9) hs he (zn6 hl hd (rel.put k rv) dd')
 ·subst ey eH
  cases (show u=bb b from ry)
  obtain⟨z,hd,xs,rel,dd⟩:=zns I.hok e
  have hz:xs.length≤sizeLine:=by rw [← be rel]; exact z
  have hl:(putK kvs k v).length≤sizeLine:=by have:=zcr kvs k v; lia
  refine wpAny_setItem_heap (hsz:=hz) (gF hu) (zf6 I.hok eb) dd fun h' dd' hs=>h _ ?_
  obtain⟨q,es,ep,hq,h2,h3,h4,_,h5⟩:=dd'
  refine zf7 I (by rw [e]; exact h9) hs ⟨q,hq⟩ ⟨hl,hd,_,(rel.put k eb rv).keeps fun c ys ec=>?_,q,es,ep,hq,h2,h3,h4,h5⟩
  rw [zq (zni ec e (fun z=>nomatch z))]
  exact ec
end
def zoZ (td ty tv:TE):TS:=fun D σ H=>tv σ H fun v H1=>td σ H1 fun x H2=>ty σ H2 fun y H3=>∃ a H4,x = .ref a∧zkT H3 a y v H4∧D.nx σ H4
section
variable {X:Cx} {o i e value:Expr} {pos pos' tpos:Pos} {td ty tv:TE}
theorem zmm (hu:X.A.units+1 < cLine) (ho:PE X o td) (hi:PE X i ty) (hv:PE X value tv) (hs:swapsWith value (some (.Subscript o i pos')) pos.line X.env=pure false) :
  PS X (.Assign [.Subscript o i pos'] value pos) (zoZ td ty tv):=by
 intro pins s σ H D I h
 refine wpAny_Assign_Subscript (thn (hv pins s σ H _ I h) fun r s1 ⟨v,H1,I1,rv,q1⟩=>thn (ho pins s1 σ H1 _ I1 q1) fun u s2 ⟨x,H2,I2,rx,q2⟩=>thn (hi pins s2 σ H2 _ I2 q2) fun iv s3 ⟨y,H3,I3,ry,a,H4,ex,g,q3⟩=>?_) hs
 subst ex
 obtain rfl:u=bb a:=rx
 exact zjF hu I3 g ry rv fun s4 I4=>⟨σ,H4,I4,q3⟩
end
theorem zg4 {P:Program} {w:World} {H:Hp} (h:Heap) (hb:sysModules < h.objs.size):zao P w H (h.push { cls:=.type "dict",data:=.dict #[] }) h.objs.size (.dT []) :=
 ⟨aY _,beq_eq_false_iff_ne.mpr (dW (bt hb)),[],.nil,_,#[],0,aI _ rfl,⟨rfl,rfl,rfl⟩,rfl,rfl,List.nodup_nil⟩
def zn7:TE:=fun _ H Q=>∀ p,H p=none→Q (.ref p) (upd H p (.dT []))
section
variable {X:Cx} {pos:Pos}
theorem zkU:PE X (.Dict [] [] pos) zn7:=fun pins s σ H Q I h =>
 wpAny_Dict_empty ⟨.ref s.heap.objs.size,_,I.laid (a:=s.heap.objs.size) (o:=.dT []) (t':=s.toks) (fun _ _ q=>ai _ q) (af _) (zg4 s.heap I.big),rfl,h _ (I.hok.fresh (af _))⟩
end
structure M2 (X:Cx) (o:Expr) (m:Str) (apos:Pos) (e f:Expr) (cpos:Pos):Prop where
 base:attributeBase o m X.env (eval o X.env)=eval o X.env
 few:((backTo cpos (starEach [e,f] X.env)).all (fun x=>!x.1) && (backToKw cpos (keywordEach [] X.env)).all (fun x=>x.1.isSome)
  && decide (([e,f]:List Expr).length+([]:List Keyword).length+(if ([]:List Keyword).isEmpty then 0 else 1) < 30))=true
 line:(apos.endLine == cpos.line)=true
 trees:backTo cpos (starEach [e,f] X.env) = [(false,eval e X.env),(false,eval f X.env)]
def IsD (H:Hp) (a:Addr):Prop:=(∃ kvs,Rd H a (.dK kvs))∨∃ kvs,Rd H a (.dT kvs)
theorem zn8 {X:Cx} {pins:List (Addr×Obj)} {σ:St} {H:Hp} {s:Shared} {a:Addr} (I:Inv X pins σ H s) (d:IsD H a) :
  s.TypeIs (.ref a) "dict"∧(∀ b,bb a = .ref b→∃ ob,s.heap.get? b=some ob∧ob.dict=none)∧(a == sysModules)=false:=by
 rcases d with ⟨kvs,e⟩ | ⟨kvs,e⟩
 ·obtain⟨_,hd,vs,_,dd⟩:=zkR I.hok e
  refine⟨dd.typeIs,fun b q=>?_,hd⟩
  cases q
  obtain⟨ob,_,_,h1,h2,_⟩:=dd
  exact⟨ob,h1,h2.2.1⟩
 ·obtain⟨_,hd,xs,_,dd⟩:=zkS I.hok e
  refine⟨dd.typeIs,fun b q=>?_,hd⟩
  cases q
  obtain⟨ob,_,_,h1,h2,_⟩:=dd
  exact⟨ob,h1,h2.2.1⟩
section
variable {X:Cx} {pins:List (Addr×Obj)} {σ:St} {H:Hp} {s:Shared} {a:Addr} {y d:V} {u r:Value} {o:Option V} {A:Around} {E:Value→Shared→Prop}
theorem zn9 {Q:Value→Shared→Prop} (hu:A.units+1 < cLine) (I:Inv X pins σ H s) (g:zoY H a y o) (ry:RelV y u) (rd:RelV d r) (h:∀ w' s',Inv X pins σ H s'→RelV (o.getD d) w'→Q w' s') :
  wpAny (model X.prog X.w) A (call (.builtin "dict.get") [.ref a,u,r]) Q E s:=by
 rcases g with ⟨kvs,k,e,ey,l⟩ | ⟨kvs,k,b,e,ey,eb,l⟩
 ·subst ey
  obtain⟨z,hd,vs,rel,dd⟩:=zkR I.hok e
  refine call_meetsIn f9 dd.typeIs iX (iB _ _ _) (meets_dict_get_default (zan X.prog X.w) a (zkQ ry) hd r) ⟨_,dd.mapOf,h _ _ (I.tok _) ?_⟩
  rw [l]
  exact (rel.val k).getD rd
 ·subst ey
  cases (show u=bb b from ry)
  obtain⟨z,hd,xs,rel,dd⟩:=zkS I.hok e
  refine call_meetsIn f9 dd.typeIs iX (iB _ _ _) (meetsH_dict_get_default (tupleKind (zan X.prog X.w)) a b hd r) ⟨gF hu,k,xs,zf6 I.hok eb,dd,h _ _ (I.tok _) ?_⟩
  rw [l]
  exact (rel.val k).getD rd
end
def zoa (td ty tx:TE):TE:=fun σ H Q=>td σ H fun x H1=>∃ a,x = .ref a∧IsD H1 a∧ty σ H1 fun y H2=>tx σ H2 fun z H3=>∃ o,zoY H3 a y o∧Q (o.getD z) H3
section
variable {X:Cx} {o e f:Expr} {apos cpos:Pos} {td ty tx:TE}
theorem zkV (hu:X.A.units+1 < cLine) (ho:PE X o td) (he:PE X e ty) (hf:PE X f tx) (m:M2 X o "get" apos e f cpos):PE X (.Call (.Attribute o "get" apos) [e,f] [] cpos) (zoa td ty tx):=by
 intro pins s σ H Q I h
 refine wpAny_Call_method m.base m.few m.line PySem.F.plainAttrs_dict f9 PySem.F.type_dict_get (thn (ho pins s σ H _ I h) fun u s1 ⟨x,H1,I1,rx,a,ex,d,q1⟩=>?_)
 subst ex
 obtain rfl:u=bb a:=rx
 obtain⟨t1,t2,_⟩:=zn8 I1 d
 refine⟨t1,t2,?_⟩
 rw [m.trees]
 refine iS rfl (jc (er (thn (he pins s1 σ H1 _ I1 q1) fun iv s2 ⟨y,H2,I2,ry,q2⟩ =>
  er (thn (hf pins s2 σ H2 _ I2 q2) fun fv s3 ⟨z,H3,I3,rz,ov,g,q3⟩=>fO ?_))))
 exact zn9 hu I3 g ry rz fun w' s4 I4 rw'=>⟨_,H3,I4,rw',q3⟩
end
end L2
end
section
namespace L2
open PySem PySem.Spec PyProof.Rows
theorem zg5:∀ {ns:List Int} {us:List Value},zL (ns.map V.int) us→∃ ps:List (Int×Tok),us=ps.map (fun p=>iF p.1 p.2)∧ps.map (·.1)=ns
 | [],_,r=>by cases r; exact⟨[],rfl,rfl⟩
 | n :: ns,_,r=>by
  cases r with
  | cons r1 r2 =>
   obtain⟨ps,e1,e2⟩:=zg5 r2
   obtain⟨t,rfl⟩:=r1
   exact⟨(n,t) :: ps,by rw [e1]; rfl,by rw [← e2]; rfl⟩
theorem zjG {X:Cx} (hc:X.calm=true):zbM X (.builtin "sum") (fun xs H Q=>∃ (p:Addr) (ns:List Int),xs = [.ref p]∧SqL X.K H p (ns.map V.int)∧Q (.int ns.sum) H):=by
 intro pins s σ H xs us Q I r h
 obtain⟨p,ns,rfl,hq,q⟩:=h
 obtain⟨u,rfl,rx⟩:=vals1 r
 cases rx
 obtain⟨its,rv,pl,hz⟩:=I.list hq
 obtain⟨ps,e1,e2⟩:=zg5 rv
 subst e1 e2
 have hl:s.heap.IsList p (intItems ps.toArray):=by
  have:=pl.isList
  simpa [intItems] using this
 refine sum_intListG (xs:=ps.toArray) (by simp [I.ok.hd hc]) hl fun h' tk t' kk=>⟨.int (ps.map (·.1)).sum,H,I.kept kk,⟨t',?_⟩,q⟩
 rw [preSum_eq,aK (by simp)]
end L2
namespace PySem
open PyProof.Rows
end PySem
namespace L2
open PySem PySem.Spec PyProof.Rows
end L2
end
section
namespace L2
open PySem PySem.Spec PyProof.Rows
end L2
namespace My
open PySem L2 PyProof.Rows
section
variable {K:ag}
structure RowAt (K:ag) (H:Hp) (r:Addr) (n:Nat) (rw:List (Option Int)):Prop where
 at':SqL K H r (rw.map enc)
 len:rw.length=n
end
end My
end
section
namespace Srt
open PySem PyProof.Rows
def Vk (val:Keyed→Int) (xs:Array Keyed) (i:Nat):Int:=match xs[i]? with
 | some p=>val p
 | none=>0
theorem z9 {val:Keyed→Int} {xs ys:Array Keyed} {i j:Nat} (h:xs[i]? = ys[j]?):Vk val xs i=Vk val ys j:=by unfold Vk; rw [h]
theorem zW {val:Keyed→Int} {xs:Array Keyed} {i:Nat} {p:Keyed} (h:xs[i]? = some p):Vk val xs i=val p:=by unfold Vk; rw [h]
def SIn (val:Keyed→Int) (xs:Array Keyed) (lo hi:Nat):Prop:=∀ i j,lo≤i→i≤j→j < hi→Vk val xs i≤Vk val xs j
def DIn (val:Keyed→Int) (xs:Array Keyed) (lo hi:Nat):Prop:=∀ i j,lo≤i→i≤j→j < hi→Vk val xs j≤Vk val xs i
structure SB (κ:SortKind) (a₀:Array Keyed) (st:SortSt):Prop where
 perm:(arrOf st).Perm a₀
 kind:kindOf st=κ
 failed:failedOf st=none
theorem SB.size {κ:SortKind} {a₀:Array Keyed} {st:SortSt} (h:SB κ a₀ st):(arrOf st).size=a₀.size:=h.perm.size_eq
theorem SB.mem {κ:SortKind} {a₀:Array Keyed} {st:SortSt} (h:SB κ a₀ st) {i:Nat} (hi:i < a₀.size):∃ p,(arrOf st)[i]? = some p∧p∈a₀.toList:=by
 (have hi':i < (arrOf st).size:=by rw [h.size]; exact hi)
 exact⟨(arrOf st)[i],getElem?_pos _ i hi',(fe.mp h.perm).mem_iff.mp (by simp)⟩
structure SF (κ:SortKind) (a₀:Array Keyed) (lo:Nat) (st₀ st:SortSt):Prop where
 b:SB κ a₀ st
 low:∀ k,k < lo→(arrOf st)[k]? = (arrOf st₀)[k]?
 pend:pendingOf st=pendingOf st₀
theorem SF.refl {κ:SortKind} {a₀:Array Keyed} {lo:Nat} {st:SortSt} (h:SB κ a₀ st):SF κ a₀ lo st st:=⟨h,fun _ _=>rfl,rfl⟩
theorem SF.setArr {κ:SortKind} {a₀:Array Keyed} {lo:Nat} {st₀ st:SortSt} (h:SF κ a₀ lo st₀ st) {xs:Array Keyed} (hp:xs.Perm (arrOf st)) (hl:∀ k,k < lo→xs[k]? = (arrOf st)[k]?):SF κ a₀ lo st₀ (setArr st xs) :=
 ⟨⟨hp.trans h.b.perm,h.b.kind,h.b.failed⟩,fun k hk=>(hl k hk).trans (h.low k hk),h.pend⟩
section
variable {prog:Program} {w:World} {A:Around} {E:Value→Shared→Prop} {s:Shared} {a₀:Array Keyed} {κ:SortKind} {val:Keyed→Int}
def Cmp (prog:Program) (w:World) (A:Around) (s:Shared) (κ:SortKind) (val:Keyed→Int) (a₀:Array Keyed):Prop :=
 ∀ x y,x∈a₀.toList→y∈a₀.toList→∀ (Q:Bool→Shared→Prop) (E:Value→Shared→Prop),Q (decide (val x < val y)) s→wpAny (model prog w) A (keyLt' κ x.1 y.1) Q E s
theorem zkW {st:SortSt} {x y:Keyed} {Q:Option Bool→SortSt→Prop} (hC:Cmp prog w A s κ val a₀) (hk:kindOf st=κ) (hx:x∈a₀.toList) (hy:y∈a₀.toList) (h:Q (some (decide (val x < val y))) st) :
  wpS (model prog w) A E s (lt' x y) Q st:=by
 rw [lt'_eq]
 refine au (eQ ?_)
 rw [hk]
 refine au (gu (cU (hC x y hx hy _ _ ⟨rfl,?_⟩)))
 exact aw h
theorem zU {st:SortSt} {arr:Array Keyed} {i:Nat} {p:Keyed} {Q:Keyed→SortSt→Prop} (hi:arr[i]? = some p) (h:Q p st):wpS (model prog w) A E s (elem' arr i) Q st:=by
 rw [elem'_eq,hi]
 exact aw h
theorem zey {st:SortSt} {i j:Nat} {Q:Option Bool→SortSt→Prop} (hC:Cmp prog w A s κ val a₀) (hB:SB κ a₀ st) (hi:i < a₀.size) (hj:j < a₀.size) (h:Q (some (decide (Vk val (arrOf st) i < Vk val (arrOf st) j))) st) :
  (wpS (model prog w) A E s (ltAt' i j) Q st):=by
 obtain⟨x,ex,mx⟩:=hB.mem hi
 obtain⟨y,ey,my⟩:=hB.mem hj
 rw [ltAt'_eq]
 refine au (eQ ?_)
 (show wpS _ _ _ _ (do let x ← elem' (arrOf st) i; let y ← elem' (arrOf st) j; lt' x y) Q st)
 refine au (zU ex (au (zU ey (zkW hC hB.kind mx my ?_))))
 rw [zW ex,zW ey] at h
 exact h
theorem ziG {st:SortSt} {i j:Nat} {Q:Unit→SortSt→Prop} (h:Q () (setArr st (mirror (arrOf st) i j ((j - i) / 2)))) :
  (wpS (model prog w) A E s (reverseSlice' i j) Q st):=by
 ((rw [reverseSlice'_eq]; exact dH h))
theorem zez {xs:Array Keyed} {i j:Nat} (hj:j≤xs.size) (k:Nat):Vk val (mirror xs i j ((j - i) / 2)) k=if i≤k∧k < j then Vk val xs (i+j - 1 - k) else Vk val xs k:=by
 (have e:=jt (i:=i) hj k)
 by_cases h1:i≤k∧k < j
 ·rw [if_pos h1] at e ⊢; exact z9 e
 ·rw [if_neg h1] at e ⊢; exact z9 e
theorem zbs {xs:Array Keyed} {i j:Nat} (hj:j≤xs.size) (heq:∀ k,i≤k→k < j→Vk val xs k=Vk val xs (j - 1)) (k:Nat):Vk val (mirror xs i j ((j - i) / 2)) k=Vk val xs k:=by
 rw [zez hj]
 split
 ·(rw [heq _ (by lia) (by lia),heq k (by lia) (by lia)])
 ·rfl
theorem zcd {xs:Array Keyed} {lo i j:Nat} (hj:j≤xs.size) (hi:lo≤i):∀ k,k < lo→(mirror xs i j ((j - i) / 2))[k]? = xs[k]?:=fun k hk=>by
 rw [jt hj,if_neg (by lia)]
theorem zhZ {xs:Array Keyed} {lo src d:Nat} (hs:src < xs.size) (hd:d≤src) (hl:lo≤src - d):∀ k,k < lo→(bubble xs src d)[k]? = xs[k]?:=fun k hk=>by
 rw [getElem?_bubble hs d hd,if_neg (by lia),if_neg (by lia)]
def zkX (lo a nrem:Nat):StateT SortSt Sem AscSt :=
 forIn [a:nrem] ((none,a):AscSt) fun _ st=>do
  let x ← ltAt' (lo+st.snd) (lo+st.snd - 1)
  match x with
  | some smaller=>if smaller=true then pure (fL (none,st.snd)) else pure (cn (none,st.snd+1))
  | _=>pure (fL (some none,st.snd))
def zg6 (lo n nrem:Nat):StateT SortSt Sem (Option Nat):=do
 reverseSlice' lo (lo+n)
 let st ← zkX lo n nrem
 match st.fst with
 | some r=>pure r
 | none=>pure (some st.snd)
def ziH (lo n nrem:Nat):StateT SortSt Sem DescSt :=
 forIn [n:nrem] ((none,n,0):DescSt) fun _ st=>do
  let x ← ltAt' (lo+st.snd.fst) (lo+st.snd.fst - 1)
  match x with
  | some smaller =>
   if smaller=true then
    if st.snd.snd > 0 then do
     reverseSlice' (lo+st.snd.fst - (st.snd.snd+1)) (lo+st.snd.fst)
     pure (cn (none,st.snd.fst+1,0))
    else pure (cn (none,st.snd.fst+1,0))
   else do
    let x ← ltAt' (lo+st.snd.fst - 1) (lo+st.snd.fst)
    match x with
    | some larger =>
     if larger=true then pure (fL (none,st.snd.fst,st.snd.snd))
     else pure (cn (none,st.snd.fst+1,st.snd.snd+1))
    | _=>pure (fL (some none,st.snd.fst,st.snd.snd))
  | _=>pure (fL (some none,st.snd.fst,st.snd.snd))
def zg7 (lo n nrem:Nat):StateT SortSt Sem (Option Nat):=do
 liftM (rule "list.sort.descending-run"); let st ← ziH lo (n+1) nrem
 match st.fst with
 | some r=>pure r
 | none =>
  if st.snd.snd > 0 then do
   reverseSlice' (lo+st.snd.fst - (st.snd.snd+1)) (lo+st.snd.fst)
   zg6 lo st.snd.fst nrem
  else zg6 lo st.snd.fst nrem
theorem zf8 (lo nrem:Nat):countRun' lo nrem=(do
  let st ← zkX lo 1 nrem
  match st.fst with
  | some r=>pure r
  | none =>
   if (st.snd == nrem)=true then pure (some st.snd)
   else if st.snd > 1 then do
    let x ← ltAt' lo (lo+st.snd - 1)
    match x with
    | some rose=>if rose=true then pure (some st.snd) else do
      reverseSlice' lo (lo+st.snd)
      zg7 lo st.snd nrem
    | _=>pure none
   else zg7 lo st.snd nrem):=by
 rw [countRun'_eq]
 unfold zg7 zg6 ziH zkX
 dsimp only
 refine congrArg (bind _) ?_
 funext c
 obtain⟨r,n⟩:=c
 cases r with
 | some r=>rfl
 | none =>
  dsimp only
  split
  ·rfl
  ·split
   ·congr 1
    funext x
    cases x with
    | none=>rfl
    | some rose =>
     dsimp only
     split
     ·rfl
     ·congr 1
      funext _r
      congr 1; funext _u; congr 1; congr 1; funext s2; obtain⟨r2,n2,q2⟩:=s2
      cases r2 with
      | some r2=>rfl
      | none =>
       dsimp only
       split
       ·congr 1; funext _v; congr 1; funext _w; congr 1; funext s3; obtain⟨r3,n3⟩:=s3; cases r3 <;> rfl
       ·congr 1; funext _w; congr 1; funext s3; obtain⟨r3,n3⟩:=s3; cases r3 <;> rfl
   ·congr 1; funext _u; congr 1; congr 1; funext s2; obtain⟨r2,n2,q2⟩:=s2
    cases r2 with
    | some r2=>rfl
    | none =>
     dsimp only
     split
     ·congr 1; funext _v; congr 1; funext _w; congr 1; funext s3; obtain⟨r3,n3⟩:=s3; cases r3 <;> rfl
     ·congr 1; funext _w; congr 1; funext s3; obtain⟨r3,n3⟩:=s3; cases r3 <;> rfl
theorem znt {st₀ st:SortSt} {lo a nrem:Nat} {Q:AscSt→SortSt→Prop} (hC:Cmp prog w A s κ val a₀) (hn:lo+nrem≤a₀.size) (ha:1≤a) (han:a≤nrem) (hB:SF κ a₀ lo st₀ st)
  (hs:SIn val (arrOf st) lo (lo+a))
  (h:∀ n,a≤n→n≤nrem→SIn val (arrOf st) lo (lo+n)→(n=nrem∨Vk val (arrOf st) (lo+n) < Vk val (arrOf st) (lo+n - 1))→Q (none,n) st) :
  wpS (model prog w) A E s (zkX lo a nrem) Q st:=by
 unfold zkX
 refine bV (I:=fun x c st'=>st'=st∧c=(none,x)∧SIn val (arrOf st) lo (lo+x)) ?step ?fin ⟨rfl,rfl,hs⟩
 case fin =>
  rintro c st' ⟨rfl,rfl,hs'⟩
  (rw [show max a nrem=nrem by lia] at hs' ⊢)
  (exact h nrem han (af _) hs' (.inl rfl))
 case step =>
  (rintro x c st' hax hxn ⟨rfl,rfl,hs'⟩)
  dsimp only
  refine au (zey hC hB.b (by lia) (by lia) ?_)
  by_cases hless:Vk val (arrOf st') (lo+x) < Vk val (arrOf st') (lo+x - 1)
  ·(simp only [hless,decide_true,if_true])
   (exact aw (h x hax (by lia) hs' (.inr hless)))
  ·(simp only [hless,decide_false,bn,if_false])
   refine aw ⟨rfl,rfl,fun i j hli hij hj=>?_⟩
   by_cases hjx:j < lo+x
   ·exact hs' i j hli hij hjx
   ·have hj':j=lo+x:=by lia
    subst hj'
    by_cases hi':i=lo+x
    ·(subst hi'; exact bH _)
    ·exact bW (hs' i (lo+x - 1) hli (by lia) (by lia)) (Int.not_lt.mp hless)
theorem zkY {st₀ st:SortSt} {lo n nrem:Nat} {Q:Option Nat→SortSt→Prop} (hC:Cmp prog w A s κ val a₀) (hn:lo+nrem≤a₀.size) (h1:1≤n) (hnn:n≤nrem) (hB:SF κ a₀ lo st₀ st)
  (hs:DIn val (arrOf st) lo (lo+n)) (h:∀ m st',SF κ a₀ lo st₀ st'→1≤m→m≤nrem→SIn val (arrOf st') lo (lo+m)→Q (some m) st') :
  wpS (model prog w) A E s (zg6 lo n nrem) Q st:=by
 unfold zg6
 have hsz:lo+n≤(arrOf st).size:=by rw [hB.b.size]; lia
 refine au (ziG ?_)
 have hB':=hB.setArr (iY (arrOf st) lo (lo+n) ((lo+n - lo) / 2)) (zcd hsz (af _))
 refine au (znt hC hn h1 hnn hB' ?_ fun m hm1 hm2 hsm _=>aw (h m _ hB' (by lia) hm2 hsm))
 intro i j hli hij hj
 show Vk val (mirror (arrOf st) lo (lo+n) ((lo+n - lo) / 2)) i≤Vk val (mirror (arrOf st) lo (lo+n) ((lo+n - lo) / 2)) j
 rw [zez hsz,zez hsz,if_pos (by lia),if_pos (by lia)]
 exact hs _ _ (by lia) (by lia) (by lia)
theorem zob {st₀ st:SortSt} {lo n nrem:Nat} {Q:DescSt→SortSt→Prop} (hC:Cmp prog w A s κ val a₀) (hn:lo+nrem≤a₀.size) (h1:1≤n) (hnn:n≤nrem) (hB:SF κ a₀ lo st₀ st)
  (hs:DIn val (arrOf st) lo (lo+n))
  (h:∀ m neq st',SF κ a₀ lo st₀ st'→n≤m→m≤nrem→DIn val (arrOf st') lo (lo+m)→neq+1≤m→(∀ i,lo+m - (neq+1)≤i→i < lo+m→Vk val (arrOf st') i=Vk val (arrOf st') (lo+m - 1))→Q (none,m,neq) st') :
  wpS (model prog w) A E s (ziH lo n nrem) Q st:=by
 unfold ziH
 refine bV (I:=fun x c st'=>∃ neq,c=(none,x,neq)∧SF κ a₀ lo st₀ st'∧DIn val (arrOf st') lo (lo+x)∧neq+1≤x ∧
   (∀ i,lo+x - (neq+1)≤i→i < lo+x→Vk val (arrOf st') i=Vk val (arrOf st') (lo+x - 1))) ?step ?fin ⟨0,rfl,hB,hs,by lia,fun i h1 h2=>by congr 1; lia⟩
 case fin =>
  (rintro c st' ⟨neq,rfl,hB',hs',hq,he⟩)
  (rw [show max n nrem=nrem by lia] at hs' hq he ⊢)
  (exact h nrem neq st' hB' hnn (af _) hs' hq he)
 case step =>
  (rintro x c st' hax hxn ⟨neq,rfl,hB',hs',hq,he⟩)
  dsimp only
  have hsz:lo+x≤(arrOf st').size:=by rw [hB'.b.size]; lia
  refine au (zey hC hB'.b (by lia) (by lia) ?_)
  by_cases hless:Vk val (arrOf st') (lo+x) < Vk val (arrOf st') (lo+x - 1)
  ·(simp only [hless,decide_true,if_true])
   have step1:∀ xs:Array Keyed,(∀ k,Vk val xs k=Vk val (arrOf st') k)→DIn val xs lo (lo+(x+1)):=by
    intro xs hk i j hli hij hj
    rw [hk,hk]
    by_cases hjx:j < lo+x
    ·exact hs' i j hli hij hjx
    ·have hj':j=lo+x:=by lia
     subst hj'
     by_cases hi':i=lo+x
     ·(subst hi'; exact bH _)
     ·exact bW (eR hless) (hs' i (lo+x - 1) hli (by lia) (by lia))
   by_cases hneq:neq > 0
   ·rw [if_pos hneq]
    refine au (ziG (aw ⟨0,rfl,hB'.setArr (iY _ _ _ _) (zcd hsz (by lia)),step1 _ (zbs hsz he),by lia,fun i h1 h2=>by congr 1; lia⟩))
   ·rw [if_neg hneq]
    (exact aw ⟨0,rfl,hB',step1 _ (fun _=>rfl),by lia,fun i h1 h2=>by congr 1; lia⟩)
  ·(simp only [hless,decide_false,bn,if_false])
   refine au (zey hC hB'.b (by lia) (by lia) ?_)
   by_cases hlarger:Vk val (arrOf st') (lo+x - 1) < Vk val (arrOf st') (lo+x)
   ·(simp only [hlarger,decide_true,if_true])
    (exact aw (h x neq st' hB' hax (by lia) hs' hq he))
   ·(simp only [hlarger,decide_false,bn,if_false])
    have heqx:Vk val (arrOf st') (lo+x)=Vk val (arrOf st') (lo+x - 1):=by lia
    refine aw ⟨neq+1,rfl,hB',fun i j hli hij hj=>?_,by lia,fun i h1 h2=>?_⟩
    ·by_cases hjx:j < lo+x
     ·exact hs' i j hli hij hjx
     ·have hj':j=lo+x:=by lia
      subst hj'
      by_cases hi':i=lo+x
      ·(subst hi'; exact bH _)
      ·rw [heqx]; exact hs' i (lo+x - 1) hli (by lia) (by lia)
    ·rw [show lo+(x+1) - 1=lo+x by lia]
     by_cases hix:i=lo+x
     ·subst hix; rfl
     ·(rw [heqx]; exact he i (by lia) (by lia))
theorem ziI {st₀ st:SortSt} {lo n nrem:Nat} {Q:Option Nat→SortSt→Prop} (hC:Cmp prog w A s κ val a₀) (hn:lo+nrem≤a₀.size) (hnn:n+1≤nrem) (hB:SF κ a₀ lo st₀ st)
  (hs:DIn val (arrOf st) lo (lo+(n+1))) (h:∀ m st',SF κ a₀ lo st₀ st'→1≤m→m≤nrem→SIn val (arrOf st') lo (lo+m)→Q (some m) st') :
  wpS (model prog w) A E s (zg7 lo n nrem) Q st:=by
 unfold zg7
 (refine au (gu (cg ⟨rfl,?_⟩)))
 refine au (zob hC hn (by lia) hnn hB hs fun m neq st' hB' hm1 hm2 hs' hq he=>?_)
 dsimp only
 have hsz:lo+m≤(arrOf st').size:=by rw [hB'.b.size]; lia
 by_cases hneq:neq > 0
 ·rw [if_pos hneq]
  refine au (ziG (zkY hC hn (by lia) hm2 (hB'.setArr (iY _ _ _ _) (zcd hsz (by lia))) ?_ h))
  intro i j hli hij hj
  show Vk val (mirror (arrOf st') _ _ _) j≤Vk val (mirror (arrOf st') _ _ _) i
  rw [zbs hsz he,zbs hsz he]
  exact hs' i j hli hij hj
 ·rw [if_neg hneq]
  exact zkY hC hn (by lia) hm2 hB' hs' h
theorem zmn {st₀ st:SortSt} {lo nrem:Nat} {Q:Option Nat→SortSt→Prop} (hC:Cmp prog w A s κ val a₀) (hn:lo+nrem≤a₀.size) (h1:1≤nrem) (hB:SF κ a₀ lo st₀ st)
  (h:∀ m st',SF κ a₀ lo st₀ st'→1≤m→m≤nrem→SIn val (arrOf st') lo (lo+m)→Q (some m) st') :
  wpS (model prog w) A E s (countRun' lo nrem) Q st:=by
 rw [zf8]
 refine au (znt hC hn (af 1) h1 hB (fun i j hli hij hj=>(by
   have e:i=j:=by lia
   rw [e]
   exact bH _)) fun n hn1 hn2 hsn hor=>?_)
 dsimp only
 by_cases hnn:n=nrem
 ·(rw [if_pos (by simpa using hnn)])
  (exact aw (h n st hB hn1 hn2 hsn))
 ·(rw [if_neg (by simpa using hnn)])
  have hlt:Vk val (arrOf st) (lo+n) < Vk val (arrOf st) (lo+n - 1):=hor.resolve_left hnn
  by_cases hgt:n > 1
  ·rw [if_pos hgt]
   refine au (zey hC hB.b (by lia) (by lia) ?_)
   by_cases hrose:Vk val (arrOf st) lo < Vk val (arrOf st) (lo+n - 1)
   ·(simp only [hrose,decide_true,if_true])
    (exact aw (h n st hB hn1 hn2 hsn))
   ·(simp only [hrose,decide_false,bn,if_false])
    have hsz:lo+n≤(arrOf st).size:=by rw [hB.b.size]; lia
    have hall:∀ k,lo≤k→k < lo+n→Vk val (arrOf st) k=Vk val (arrOf st) (lo+n - 1):=by
     intro k hk0 hk
     have a1:=hsn lo k (af _) hk0 hk
     have a2:=hsn k (lo+n - 1) hk0 (by lia) (by lia)
     lia
    refine au (ziG (ziI hC hn (by lia) (hB.setArr (iY _ _ _ _) (zcd hsz (af _))) ?_ h))
    intro i j hli hij hj
    show Vk val (mirror (arrOf st) _ _ _) j≤Vk val (mirror (arrOf st) _ _ _) i
    rw [zbs hsz hall,zbs hsz hall]
    by_cases hjn:j < lo+n
    ·(rw [hall i (by lia) (by lia),hall j (by lia) hjn]; exact bH _)
    ·have hj':j=lo+n:=by lia
     subst hj'
     by_cases hi':i=lo+n
     ·(subst hi'; exact bH _)
     ·(rw [hall i (by lia) (by lia)]; exact eR hlt)
  ·rw [if_neg hgt]
   have hn1':n=1:=by lia
   subst hn1'
   refine ziI hC hn (by lia) hB ?_ h
   intro i j hli hij hj
   by_cases hi':i=j
   ·(subst hi'; exact bH _)
   ·have hi0:i=lo:=by lia
    have hj1:j=lo+1:=by lia
    subst hi0; subst hj1
    exact eR hlt
theorem zg8 {xs:Array Keyed} {src d:Nat} (hs:src < xs.size) (hd:d≤src) (k:Nat) :
  Vk val (bubble xs src d) k=if k=src - d then Vk val xs src else if src - d < k∧k≤src then Vk val xs (k - 1) else Vk val xs k:=by
 (have e:=getElem?_bubble hs d hd k)
 by_cases h1:k=src - d
 ·rw [if_pos h1] at e ⊢; exact z9 e
 ·rw [if_neg h1] at e ⊢
  (by_cases h2:src - d < k∧k≤src)
  ·rw [if_pos h2] at e ⊢; exact z9 e
  ·rw [if_neg h2] at e ⊢; exact z9 e
theorem zo0 {st₀ st:SortSt} {lo n ok:Nat} {Q:Bool→SortSt→Prop} (hC:Cmp prog w A s κ val a₀) (hn:lo+n≤a₀.size) (hok:ok≤n) (hB:SF κ a₀ lo st₀ st) (hs:SIn val (arrOf st) lo (lo+ok))
  (h:∀ st',SF κ a₀ lo st₀ st'→SIn val (arrOf st') lo (lo+n)→Q true st'):wpS (model prog w) A E s (binarySort' lo n ok) Q st:=by
 rw [binarySort'_eq]
 refine au (cZ (bV (I:=fun k c st'=>c=(none,())∧SF κ a₀ lo st₀ st'∧SIn val (arrOf st') lo (lo+min k n))
  (Q:=fun c st'=>c=(none,())∧SF κ a₀ lo st₀ st'∧SIn val (arrOf st') lo (lo+n)) ?step ?fin ?init) ?post)
 case post =>
  rintro c st' ⟨rfl,hB',hs'⟩
  (exact aw (h st' hB' hs'))
 case init =>
  refine⟨rfl,hB,fun i j hli hij hj=>?_⟩
  by_cases h1:ok=0
  ·have e:i=j:=by lia
   rw [e]; exact bH _
  ·exact hs i j hli hij (by lia)
 case fin =>
  rintro c st' ⟨hc,hB',hs'⟩
  refine⟨hc,hB',?_⟩
  (rwa [show min (max (max ok 1) n) n=n by lia] at hs')
 case step =>
  (rintro k c st' hak hkn ⟨rfl,hB',hs'⟩)
  (rw [show min k n=k by lia] at hs')
  have hk:lo+k < a₀.size:=(by lia); refine au (cZ (bV (I:=fun x c st''=>st''=st'∧∃ l r,c=(none,l,r)∧l≤r∧r≤k∧r - l≤k - x ∧
    (∀ i,i < l→Vk val (arrOf st') (lo+i)≤Vk val (arrOf st') (lo+k))∧(∀ i,r≤i→i < k→Vk val (arrOf st') (lo+k) < Vk val (arrOf st') (lo+i)))
   (Q:=fun c st''=>st''=st'∧∃ l r,c=(none,l,r)∧l≤k∧(∀ i,i < l→Vk val (arrOf st') (lo+i)≤Vk val (arrOf st') (lo+k))∧(∀ i,l≤i→i < k→Vk val (arrOf st') (lo+k) < Vk val (arrOf st') (lo+i))) ?istep ?ifin ?iinit) ?ipost)
  case iinit=>(exact⟨rfl,0,k,rfl,by lia,by lia,by lia,fun i hi=>by lia,fun i h1 h2=>by lia⟩)
  case ifin =>
   (rintro c st'' ⟨rfl,l,r,rfl,hlr,hrk,hm,hlo,hhi⟩)
   have:l=r:=by lia
   subst this
   (exact⟨rfl,l,l,rfl,hrk,hlo,hhi⟩)
  case istep =>
   (rintro x c st'' _ hxk ⟨rfl,l,r,rfl,hlr,hrk,hm,hlo,hhi⟩)
   dsimp only
   by_cases hge:l≥r
   ·rw [if_pos hge]
    have:l=r:=by lia
    subst this
    (exact aw ⟨rfl,l,l,rfl,hrk,hlo,hhi⟩)
   ·rw [if_neg hge]
    refine au (zey hC hB'.b hk (by lia) ?_)
    by_cases hless:Vk val (arrOf st'') (lo+k) < Vk val (arrOf st'') (lo+(l+r) / 2)
    ·(simp only [hless,decide_true,if_true])
     (refine aw ⟨rfl,l,(l+r) / 2,rfl,by lia,by lia,by lia,hlo,fun i h1 h2=>?_⟩)
     exact Int.lt_of_lt_of_le hless (hs' _ _ (by lia) (by lia) (by lia))
    ·(simp only [hless,decide_false,bn,if_false])
     (refine aw ⟨rfl,(l+r) / 2+1,r,rfl,by lia,by lia,by lia,fun i h1=>?_,hhi⟩)
     exact bW (hs' (lo+i) (lo+(l+r) / 2) (by lia) (by lia) (by lia)) (Int.not_lt.mp hless)
  case ipost =>
   (rintro c st'' ⟨rfl,l,r,rfl,hlk,hlo,hhi⟩)
   show wpS _ _ _ _ (do moveDown' (lo+k) (lo+l); pure (cn (none,()))) _ _
   rw [moveDown'_eq]
   have hks:lo+k < (arrOf st'').size:=by rw [hB'.b.size]; exact hk
   refine au (dH (aw ⟨rfl,hB'.setArr (bubble_perm _ _ _) (zhZ hks (by lia) (by lia)),?_⟩))
   (rw [show min (k+1) n=k+1 by lia])
   intro i j hli hij hj
   show Vk val (bubble (arrOf st'') (lo+k) (lo+k - (lo+l))) i≤Vk val (bubble (arrOf st'') (lo+k) (lo+k - (lo+l))) j
   rw [zg8 hks (by lia),zg8 hks (by lia),show lo+k - (lo+k - (lo+l))=lo+l by lia]
   have hlo':∀ i,lo≤i→i < lo+l→Vk val (arrOf st'') i≤Vk val (arrOf st'') (lo+k):=fun i h1 h2=>by
    have:=hlo (i - lo) (by lia)
    rwa [show lo+(i - lo)=i by lia] at this
   have hhi':∀ i,lo+l≤i→i < lo+k→Vk val (arrOf st'') (lo+k) < Vk val (arrOf st'') i:=fun i h1 h2=>by
    have:=hhi (i - lo) (by lia) (by lia)
    rwa [show lo+(i - lo)=i by lia] at this
   repeat' split
   all_goals first
    | (exfalso; lia)
    | exact bH _
    | exact hlo' _ (by lia) (by lia)
    | exact eR (hhi' _ (by lia) (by lia))
    | exact hs' _ _ (by lia) (by lia) (by lia)
end
end Srt
end
section
namespace Srt
open PySem PyProof.Rows
def zmo:Bool→Keyed→Array Keyed→Nat→Nat→Nat→StateT SortSt Sem (Option Nat):=sortPriv% PySem.Builtin.gallop
def zkZ:Array Keyed→Array Keyed→StateT SortSt Sem (Array Keyed):=sortPriv% PySem.Builtin.mergeLo
def zk0:Array Keyed→Array Keyed→StateT SortSt Sem (Array Keyed):=sortPriv% PySem.Builtin.mergeHi
def zcQ:Nat→StateT SortSt Sem Unit:=sortPriv% PySem.Builtin.setMinGallop
theorem zf9 {M:Model} {A:Around} {E:Value→Shared→Prop} {s:Shared} {α:Type} {m:StateT SortSt Sem α} {Q:α→SortSt→Prop} {st:SortSt} (h:wpAny M A (m st) (fun r s'=>s'=s∧Q r.1 r.2) E s):wpS M A E s m Q st:=h
theorem zga {M:Model} {A:Around} {E:Value→Shared→Prop} {s:Shared} {α:Type} {m:StateT SortSt Sem α} {Q:α→SortSt→Prop} {st:SortSt} (h:wpS M A E s m Q st):wpAny M A (m st) (fun r s'=>s'=s∧Q r.1 r.2) E s:=h
section
variable {prog:Program} {w:World} {A:Around} {E:Value→Shared→Prop} {s:Shared} {a₀:Array Keyed} {κ:SortKind} {val:Keyed→Int}
def bB (val:Keyed→Int) (left:Bool) (key:Keyed) (arr:Array Keyed) (base i:Nat):Bool:=if left then decide (Vk val arr (base+i) < val key) else !decide (val key < Vk val arr (base+i))
theorem zc7 {left:Bool} {key:Keyed} {arr:Array Keyed} {base n i j:Nat} (hs:SIn val arr base (base+n)) (hij:i≤j) (hj:j < n) (h:bB val left key arr base j=true):bB val left key arr base i=true:=by
 have:=hs (base+i) (base+j) (by lia) (by lia) (by lia)
 unfold bB at h ⊢
 cases left <;> simp at h ⊢ <;> lia
theorem s_beyond {st:SortSt} {left:Bool} {key:Keyed} {arr:Array Keyed} {base i:Nat} {Q:Option Bool→SortSt→Prop} {p:Keyed} (hC:Cmp prog w A s κ val a₀) (hk:kindOf st=κ) (hkey:key∈a₀.toList) (he:arr[base+i]? = some p) (hp:p∈a₀.toList)
  (h:Q (some (bB val left key arr base i)) st):wpS (model prog w) A E s (do
   let x ← elem' arr (base+i)
   if left then lt' x key else do
    let r ← lt' key x
    return r.map (!·)) Q st:=by
 refine au (zU he ?_)
 unfold bB at h
 rw [zW he] at h
 cases left with
 | true=>exact zkW hC hk hp hkey h
 | false=>exact au (zkW hC hk hkey hp (aw h))
abbrev zmp:=Option (Option Nat)×Nat×Nat
theorem zk1 {st:SortSt} {left:Bool} {key:Keyed} {arr:Array Keyed} {base n lo hi:Nat} {f:Nat→zmp→StateT SortSt Sem (ForInStep zmp)} (hs:SIn val arr base (base+n)) (hlh:lo≤hi) (hhn:hi≤n)
  (h1:∀ i,i < lo→bB val left key arr base i=true) (h2:∀ i,hi≤i→i < n→bB val left key arr base i=false)
  (hf:∀ (x l r:Nat) (R:ForInStep zmp→SortSt→Prop),r≤n→(l≥r→R (.done (none,l,r)) st)→(l < r→R (if bB val left key arr base (l+(r - l) / 2)=true then .yield (none,l+(r - l) / 2+1,r) else .yield (none,l,l+(r - l) / 2)) st)→wpS (model prog w) A E s (f x (none,l,r)) R st) :
  wpS (model prog w) A E s (forIn [0:n] ((none,lo,hi):zmp) f) (fun c st'=>st'=st∧∃ l,c=(none,l,l)∧l≤n∧(∀ i,i < l→bB val left key arr base i=true)∧(∀ i,l≤i→i < n→bB val left key arr base i=false)) st:=by
 refine bV (I:=fun x c st'=>st'=st∧∃ l r,c=(none,l,r)∧l≤r∧r≤n∧r - l≤n - x∧(∀ i,i < l→bB val left key arr base i=true)∧(∀ i,r≤i→i < n→bB val left key arr base i=false)) ?step ?fin ⟨rfl,lo,hi,rfl,hlh,hhn,by lia,h1,h2⟩
 case fin =>
  rintro c st' ⟨rfl,l,r,rfl,hlr,hrn,hm,a1,a2⟩
  have:l=r:=by lia
  subst this
  exact⟨rfl,l,rfl,hrn,a1,a2⟩
 case step =>
  rintro x c st' _ hxn ⟨rfl,l,r,rfl,hlr,hrn,hm,a1,a2⟩
  refine hf x l r _ hrn (fun hge=>?_) (fun hlt=>?_)
  ·have:l=r:=by lia
   subst this
   exact⟨rfl,l,rfl,hrn,a1,a2⟩
  ·cases hb:bB val left key arr base (l+(r - l) / 2) with
   | true =>
    rw [if_pos rfl]
    exact⟨rfl,l+(r - l) / 2+1,r,rfl,by lia,hrn,by lia,fun i hi=>zc7 hs (by lia) (by lia) hb,a2⟩
   | false =>
    rw [if_neg (by decide)]
    refine⟨rfl,l,l+(r - l) / 2,rfl,by lia,by lia,by lia,a1,fun i hi hin=>?_⟩
    cases e:bB val left key arr base i with
    | false=>rfl
    | true=>rw [zc7 hs hi hin e] at hb; cases hb
theorem zbt {st:SortSt} {left:Bool} {key:Keyed} {arr:Array Keyed} {base n hint:Nat} {Q:Option Nat→SortSt→Prop} (hC:Cmp prog w A s κ val a₀) (hk:kindOf st=κ) (hkey:key∈a₀.toList)
  (ha:∀ i,i < n→∃ p,arr[base+i]? = some p∧p∈a₀.toList) (hs:SIn val arr base (base+n)) (hh:hint < n)
  (h:∀ k,k≤n→(∀ i,i < k→bB val left key arr base i=true)→(∀ i,k≤i→i < n→bB val left key arr base i=false)→Q (some k) st) :
  wpS (model prog w) A E s (zmo left key arr base n hint) Q st:=by
 refine zf9 ?_
 wp_delta
 wp_delta
 refine zga ?_
 dsimp only
 obtain⟨p,ep,mp⟩:=ha hint hh
 refine au (s_beyond hC hk hkey ep mp ?_)
 dsimp only
 have up:∀ {i j:Nat},i≤j→j < n→bB val left key arr base i=false→bB val left key arr base j=false:=fun {i j} hij hj h=>by
  cases e:bB val left key arr base j with
  | false=>rfl
  | true=>rw [zc7 hs hij hj e] at h; cases h
 cases hr:bB val left key arr base hint with
 | true =>
  simp only [if_true]
  refine au (cZ (bV (I:=fun x c st'=>st'=st∧∃ l o,c=(none,l,o)∧l < o∧x+1≤o∧hint+l < n∧bB val left key arr base (hint+l)=true)
   (Q:=fun c st'=>st'=st∧∃ l o,c=(none,l,o)∧l < o∧hint+l < n∧bB val left key arr base (hint+l)=true∧(hint+o < n→bB val left key arr base (hint+o)=false)) ?step ?fin ⟨rfl,0,1,rfl,by lia,by lia,hh,hr⟩) ?post)
  case fin =>
   rintro c st' ⟨rfl,l,o,rfl,hlo,hx,hl,hb⟩
   exact⟨rfl,l,o,rfl,hlo,hl,hb,fun z=>by lia⟩
  case step =>
   rintro x c st' _ hxn ⟨rfl,l,o,rfl,hlo,hx,hl,hb⟩
   dsimp only
   by_cases hge:o≥n - hint
   ·rw [if_pos hge]
    exact aw ⟨rfl,l,o,rfl,hlo,hl,hb,fun z=>by lia⟩
   ·rw [if_neg hge]
    obtain⟨p,ep,mp⟩:=ha (hint+o) (by lia)
    refine au (s_beyond hC hk hkey ep mp ?_)
    dsimp only
    cases hb2:bB val left key arr base (hint+o) with
    | true =>
     rw [if_neg (by decide)]
     exact aw ⟨rfl,o,2*o+1,rfl,by lia,by lia,by lia,hb2⟩
    | false =>
     rw [if_pos (by decide)]
     exact aw ⟨rfl,l,o,rfl,hlo,hl,hb,fun _=>hb2⟩
  case post =>
   rintro c st' ⟨rfl,l,o,rfl,hlo,hl,hb,hb2⟩
   dsimp only
   refine au (cZ (zk1 (val:=val) (left:=left) (key:=key) (arr:=arr) (base:=base) hs (by lia) (by lia) (fun i hi=>zc7 hs (by lia) hl hb) (fun i hi hin=>(by
    by_cases ho:hint+o < n
    ·exact up (by lia) hin (hb2 ho)
    ·lia)) (fun x l' r' R hrn k1 k2=>?_)) ?_)
   ·dsimp only
    by_cases hge:l'≥r'
    ·rw [if_pos hge]
     exact aw (k1 hge)
    ·rw [if_neg hge]
     obtain⟨p,ep,mp⟩:=ha (l'+(r' - l') / 2) (by lia)
     refine au (s_beyond hC hk hkey ep mp ?_)
     have k3:=k2 (by lia)
     dsimp only
     cases hb3:bB val left key arr base (l'+(r' - l') / 2) with
     | true=>rw [hb3] at k3; rw [if_pos rfl] at k3 ⊢; exact aw k3
     | false=>rw [hb3] at k3; rw [if_neg (by decide)] at k3 ⊢; exact aw k3
   ·rintro c st'' ⟨rfl,l,rfl,hl,b1,b2⟩
    exact aw (h l hl b1 b2)
 | false =>
  (simp only [bn,if_false])
  refine au (cZ (bV (I:=fun x c st'=>st'=st∧∃ l o,c=(none,l,o)∧l < o∧x+1≤o∧l≤hint∧bB val left key arr base (hint - l)=false)
   (Q:=fun c st'=>st'=st∧∃ l o,c=(none,l,o)∧l < o∧l≤hint∧bB val left key arr base (hint - l)=false∧(o≤hint→bB val left key arr base (hint - o)=true)) ?step ?fin ⟨rfl,0,1,rfl,by lia,by lia,by lia,hr⟩) ?post)
  case fin =>
   rintro c st' ⟨rfl,l,o,rfl,hlo,hx,hl,hb⟩
   exact⟨rfl,l,o,rfl,hlo,hl,hb,fun z=>by lia⟩
  case step =>
   rintro x c st' _ hxn ⟨rfl,l,o,rfl,hlo,hx,hl,hb⟩
   dsimp only
   by_cases hge:o≥hint+1
   ·rw [if_pos hge]
    exact aw ⟨rfl,l,o,rfl,hlo,hl,hb,fun z=>by lia⟩
   ·rw [if_neg hge]
    obtain⟨p,ep,mp⟩:=ha (hint - o) (by lia)
    refine au (s_beyond hC hk hkey ep mp ?_)
    dsimp only
    cases hb2:bB val left key arr base (hint - o) with
    | false =>
     rw [if_neg (by decide)]
     exact aw ⟨rfl,o,2*o+1,rfl,by lia,by lia,by lia,hb2⟩
    | true =>
     rw [if_pos rfl]
     exact aw ⟨rfl,l,o,rfl,hlo,hl,hb,fun _=>hb2⟩
  case post =>
   rintro c st' ⟨rfl,l,o,rfl,hlo,hl,hb,hb2⟩
   dsimp only
   refine au (cZ (zk1 (val:=val) (left:=left) (key:=key) (arr:=arr) (base:=base) hs (by lia) (by lia) (fun i hi=>(by
    by_cases ho:o≤hint
    ·exact zc7 hs (by lia) (by lia) (hb2 ho)
    ·lia)) (fun i hi hin=>up hi hin hb) (fun x l' r' R hrn k1 k2=>?_)) ?_)
   ·dsimp only
    by_cases hge:l'≥r'
    ·rw [if_pos hge]
     exact aw (k1 hge)
    ·rw [if_neg hge]
     obtain⟨p,ep,mp⟩:=ha (l'+(r' - l') / 2) (by lia)
     refine au (s_beyond hC hk hkey ep mp ?_)
     have k3:=k2 (by lia)
     dsimp only
     cases hb3:bB val left key arr base (l'+(r' - l') / 2) with
     | true=>rw [hb3] at k3; rw [if_pos rfl] at k3 ⊢; exact aw k3
     | false=>rw [hb3] at k3; rw [if_neg (by decide)] at k3 ⊢; exact aw k3
   ·rintro c st'' ⟨rfl,l,rfl,hl,b1,b2⟩
    exact aw (h l hl b1 b2)
end
end Srt
end
section
namespace Srt
open PySem PyProof.Rows
abbrev zak (st:SortSt) (g:Nat):SortSt:=kq (kindOf st) (arrOf st) (pendingOf st) g (failedOf st)
theorem zdq (g:Nat):zcQ g=modify fun s=>zak s g:=rfl
def Le (val:Keyed→Int) (xs ys:List Keyed):Prop:=∀ x∈xs,∀ y∈ys,val x≤val y
def Ris (val:Keyed→Int) (xs:List Keyed):Prop:=xs.Pairwise fun x y=>val x≤val y
theorem zaw {val:Keyed→Int} {xs ys:List Keyed}:Ris val (xs++ys)↔Ris val xs∧Ris val ys∧Le val xs ys:=jg
structure MI (val:Keyed→Int) (T o l r:List Keyed):Prop where
 perm:(o++l++r).Perm T
 so:Ris val o
 sl:Ris val l
 sr:Ris val r
 ol:Le val o l
 or':Le val o r
def Good (val:Keyed→Int) (T res:List Keyed):Prop:=res.Perm T∧Ris val res
section
variable {val:Keyed→Int} {T o l l1 l2 r r1 r2:List Keyed}
theorem Le.left {xs ys zs:List Keyed} (h:Le val (xs++ys) zs):Le val xs zs:=fun x hx y hy=>h x (aS _ hx) y hy
theorem Le.right {xs ys zs:List Keyed} (h:Le val (xs++ys) zs):Le val ys zs:=fun x hx y hy=>h x (aG _ hx) y hy
theorem Le.app {xs ys zs:List Keyed} (h1:Le val xs zs) (h2:Le val ys zs):Le val (xs++ys) zs:=fun x hx y hy=>by
 rcases aW.mp hx with h | h
 ·exact h1 x h y hy
 ·exact h2 x h y hy
theorem Le.app' {xs ys zs:List Keyed} (h1:Le val xs ys) (h2:Le val xs zs):Le val xs (ys++zs):=fun x hx y hy=>by
 rcases aW.mp hy with h | h
 ·exact h1 x hx y h
 ·exact h2 x hx y h
theorem Le.sub {xs ys zs:List Keyed} (h1:Le val xs (ys++zs)):Le val xs ys∧Le val xs zs:=⟨fun x hx y hy=>h1 x hx y (aS _ hy),fun x hx y hy=>h1 x hx y (aG _ hy)⟩
theorem MI.takeA (h:MI val T o (l1++l2) r) (hle:Le val l1 r):MI val T (o++l1) l2 r:=by
 obtain⟨a1,a2,a3⟩:=zaw.mp h.sl
 obtain⟨b1,b2⟩:=h.ol.sub
 exact⟨by have:=h.perm; simpa [a8] using this,zaw.mpr ⟨h.so,a1,b1⟩,a2,h.sr,b2.app a3,h.or'.app hle⟩
theorem MI.takeB (h:MI val T o l (r1++r2)) (hle:Le val r1 l):MI val T (o++r1) l r2:=by
 obtain⟨a1,a2,a3⟩:=zaw.mp h.sr
 obtain⟨b1,b2⟩:=h.or'.sub
 refine⟨?_,zaw.mpr ⟨h.so,a1,b1⟩,h.sl,a2,h.ol.app hle,b2.app a3⟩
 refine fk ?_ h.perm
 have:(r1++l++r2).Perm (l++r1++r2):=List.perm_append_comm.append_right _
 simpa [a8] using this.append_left o
theorem MI.doneA (h:MI val T o l []):Good val T (o++l):=⟨by have:=h.perm; simpa using this,zaw.mpr ⟨h.so,h.sl,h.ol⟩⟩
theorem MI.doneB (h:MI val T o [] r):Good val T (o++r):=⟨by have:=h.perm; simpa using this,zaw.mpr ⟨h.so,h.sr,h.or'⟩⟩
theorem MI.last (h:MI val T o l r) (hle:Le val r l):Good val T (o++r++l):=by
 refine⟨fk ?_ h.perm,?_⟩
 ·rw [a8,a8]
  exact List.perm_append_comm.append_left o
 ·exact zaw.mpr ⟨zaw.mpr ⟨h.so,h.sr,h.or'⟩,h.sl,h.ol.app hle⟩
end
section
variable {val:Keyed→Int} {T:List Keyed} {a b out:Array Keyed} {ia ib:Nat}
abbrev MA (val:Keyed→Int) (T:List Keyed) (a b out:Array Keyed) (ia ib:Nat):Prop:=MI val T out.toList (a.toList.drop ia) (b.toList.drop ib)
theorem zd0 {xs:Array Keyed} {i:Nat} {p:Keyed} (h:xs[i]? = some p):xs.toList.drop i=p :: xs.toList.drop (i+1):=by
 have hi:i < xs.toList.length:=by
  have:=(cV.mp h).1
  simpa using this
 rw [cA hi]
 congr 1
 have:=(cV.mp h).2
 simpa using this
theorem zc8 {xs:Array Keyed} (h:SIn val xs 0 xs.size):∀ i,Ris val (xs.toList.drop i):=by
 have all:Ris val xs.toList:=by
  unfold Ris
  (rw [cD])
  intro i j hi hj hij
  (have hi':i < xs.size:=by simpa using hi)
  (have hj':j < xs.size:=by simpa using hj)
  have:=h i j (aY _) (by lia) hj'
  rw [zW (getElem?_pos xs i hi'),zW (getElem?_pos xs j hj')] at this
  simpa using this
 exact fun i=>eS (List.drop_sublist _ _) all
theorem zd1 {xs:Array Keyed} {i:Nat} {p q:Keyed} (h:SIn val xs 0 xs.size) (hp:xs[i]? = some p) (hq:q∈xs.toList.drop i):val p≤val q:=by
 have:=zc8 h i
 rw [zd0 hp] at this hq
 rcases (aD.mp hq) with rfl | hq
 ·exact bH _
 ·exact List.rel_of_pairwise_cons this hq
theorem MA.pushB {y x:Keyed} (h:MA val T a b out ia ib) (sa:SIn val a 0 a.size) (hy:b[ib]? = some y) (hx:a[ia]? = some x) (hle:val y≤val x):MA val T a b (out.push y) ia (ib+1):=by
 unfold MA at h ⊢
 rw [zd0 hy] at h
 have:=MI.takeB (r1:=[y]) h fun p hp q hq=>by
  rw [a7.mp hp]
  exact bW hle (zd1 sa hx hq)
 simpa using this
theorem MA.pushA {y x:Keyed} (h:MA val T a b out ia ib) (sb:SIn val b 0 b.size) (hy:b[ib]? = some y) (hx:a[ia]? = some x) (hle:val x≤val y):MA val T a b (out.push x) (ia+1) ib:=by
 unfold MA at h ⊢
 rw [zd0 hx] at h
 have:=MI.takeA (l1:=[x]) h fun p hp q hq=>by
  rw [a7.mp hp]
  exact bW hle (zd1 sb hy hq)
 simpa using this
theorem zk2 (xs:Array Keyed) (i k:Nat):xs.toList.drop i=(xs.extract i (i+k)).toList++xs.toList.drop (i+k):=by
 rw [dq]
 have:(xs.toList.extract i (i+k))=(xs.toList.drop i).take k:=by
  simp [de] <;> lia
 rw [this,← i5,b8]
theorem zd2 {xs:Array Keyed} {i k:Nat} {p:Keyed} (h:p∈(xs.extract i (i+k)).toList):∃ j,j < k∧xs[i+j]? = some p:=by
 have e0:(xs.extract i (i+k)).toList=(xs.toList.drop i).take k:=by
  rw [dq]
  simp [de] <;> lia
 rw [e0] at h
 (obtain⟨j,hj,e⟩:=eh h)
 have hj2:j < k∧j < (xs.toList.drop i).length:=by
  rw [aA] at hj
  lia
 refine⟨j,hj2.1,?_⟩
 rw [← bi,← eB,am hj2.2,← e,jP]
theorem MA.takeA {y:Keyed} {k:Nat} (h:MA val T a b out ia ib) (sb:SIn val b 0 b.size) (hy:b[ib]? = some y) (hle:∀ i,i < k→Vk val a (ia+i)≤val y):MA val T a b (out++a.extract ia (ia+k)) (ia+k) ib:=by
 unfold MA at h ⊢
 rw [zk2 a ia k] at h
 have:=MI.takeA h fun p hp q hq=>by
  obtain⟨j,hj,e⟩:=zd2 hp
  have:=hle j hj
  rw [zW e] at this
  exact bW this (zd1 sb hy hq)
 simpa using this
theorem MA.takeB {x:Keyed} {k:Nat} (h:MA val T a b out ia ib) (sa:SIn val a 0 a.size) (hx:a[ia]? = some x) (hle:∀ i,i < k→Vk val b (ib+i)≤val x):MA val T a b (out++b.extract ib (ib+k)) ia (ib+k):=by
 unfold MA at h ⊢
 rw [zk2 b ib k] at h
 have:=MI.takeB h fun p hp q hq=>by
  obtain⟨j,hj,e⟩:=zd2 hp
  have:=hle j hj
  rw [zW e] at this
  exact bW this (zd1 sa hx hq)
 simpa using this
theorem zcC (xs:Array Keyed) (i:Nat):(xs.extract i xs.size).toList=xs.toList.drop i:=by
 rw [dq]
 simp only [de]
 (exact aK (by simp))
theorem MA.doneB (h:MA val T a b out ia ib) (e:ib=b.size):Good val T (out++a.extract ia a.size++b.extract ib b.size).toList:=by
 unfold MA at h
 rw [show b.toList.drop ib = [] from cw (by simp [e])] at h
 have:=h.doneA
 rw [bJ,bJ,zcC,zcC,show b.toList.drop ib = [] from cw (by simp [e]),bO]
 exact this
theorem MA.doneA (h:MA val T a b out ia ib) (e:ia=a.size):Good val T (out++a.extract ia a.size++b.extract ib b.size).toList:=by
 unfold MA at h
 rw [show a.toList.drop ia = [] from cw (by simp [e])] at h
 have:=h.doneB
 rw [bJ,bJ,zcC,zcC,show a.toList.drop ia = [] from cw (by simp [e]),bO]
 exact this
theorem MA.last (h:MA val T a b out ia ib) (e:ia+1=a.size) (hl:∀ i,i < b.size→Vk val b i≤Vk val a (a.size - 1)):Good val T (out++b.extract ib b.size++a.extract ia a.size).toList:=by
 unfold MA at h
 have hx:a[ia]? = some (a[ia]'(by lia)):=getElem?_pos a ia (by lia)
 have:=h.last fun p hp q hq=>by
  rw [zd0 hx,show a.toList.drop (ia+1) = [] from cw (by simp [e])] at hq
  rw [a7.mp hq]
  obtain⟨j,hj,ej⟩:=eh (ge hp)
  have hj':j < b.size:=by simpa using hj
  have:=hl j hj'
  rw [zW (getElem?_pos b j hj'),show a.size - 1=ia by lia,zW hx] at this
  rw [← ej]
  simpa using this
 rw [bJ,bJ,zcC,zcC]
 exact this
end
end Srt
end
section
namespace Srt
open PySem PyProof.Rows
section
variable {prog:Program} {w:World} {A:Around} {E:Value→Shared→Prop} {s:Shared} {a₀:Array Keyed} {κ:SortKind} {val:Keyed→Int}
theorem zc9 {st:SortSt} {g:Nat} {Q:Unit→SortSt→Prop} (h:Q () (zak st g)):wpS (model prog w) A E s (zcQ g) Q st:=by
 rw [zdq]
 exact dH h
theorem zau {xs:Array Keyed} {i:Nat} (h:i < xs.size):∃ p,xs[i]? = some p∧p∈xs.toList:=⟨xs[i],getElem?_pos xs i h,by simp⟩
theorem zce {key:Keyed} {arr:Array Keyed} {base i:Nat} (h:bB val true key arr base i=true):Vk val arr (base+i) < val key:=by
 unfold bB at h
 simpa using h
theorem zda {key:Keyed} {arr:Array Keyed} {base i:Nat} (h:bB val false key arr base i=true):Vk val arr (base+i)≤val key:=by
 unfold bB at h
 simp at h
 lia
theorem zcV {key:Keyed} {arr:Array Keyed} {base i:Nat} (h:bB val true key arr base i=false):val key≤Vk val arr (base+i):=by
 unfold bB at h
 simp at h
 lia
theorem zd3 {key:Keyed} {arr:Array Keyed} {base i:Nat} (h:bB val false key arr base i=false):val key < Vk val arr (base+i):=by
 unfold bB at h
 simp at h
 exact h
theorem SIn.sub {xs:Array Keyed} {lo hi lo' hi':Nat} (h:SIn val xs lo hi) (h1:lo≤lo') (h2:hi'≤hi):SIn val xs lo' hi':=fun i j a b c=>h i j (by lia) b (by lia)
theorem zjH {st:SortSt} {a b:Array Keyed} {Q:Array Keyed→SortSt→Prop} (hC:Cmp prog w A s κ val a₀) (hk:kindOf st=κ) (ma:∀ p∈a.toList,p∈a₀.toList) (mb:∀ p∈b.toList,p∈a₀.toList)
  (sa:SIn val a 0 a.size) (sb:SIn val b 0 b.size) (h1:1≤a.size) (h2:1≤b.size) (hf:Vk val b 0≤Vk val a 0) (hl:∀ i,i < b.size→Vk val b i≤Vk val a (a.size - 1))
  (h:∀ out g,Good val (a.toList++b.toList) out.toList→Q out (zak st g)):wpS (model prog w) A E s (zkZ a b) Q st:=by
 refine zf9 ?_
 wp_delta
 wp_delta
 refine zga ?_
 (refine au (gu (cg ⟨rfl,?_⟩)))
 obtain⟨y0,ey0,my0⟩:=zau (xs:=b) (i:=0) (by lia)
 obtain⟨x0,ex0,mx0⟩:=zau (xs:=a) (i:=0) (by lia)
 refine au (zU ey0 ?_)
 have I0:MA val (a.toList++b.toList) a b #[] 0 0:=⟨by simp,gT,zc8 sa 0,zc8 sb 0,fun x hx=>by simp at hx,fun x hx=>by simp at hx⟩
 have I1:MA val (a.toList++b.toList) a b #[y0] 0 1:=I0.pushB sa ey0 ex0 (by rw [zW ey0,zW ex0] at hf; exact hf)
 dsimp only
 by_cases hb1:1=b.size
 ·rw [if_pos (by simpa using hb1)]
  exact aw (h _ (gallopOf st) (I1.doneB hb1))
 rw [if_neg (by simpa using hb1)]
 by_cases ha1:0+1=a.size
 ·rw [if_pos (by simpa using ha1)]
  exact aw (h _ (gallopOf st) (I1.last (by lia) hl))
 rw [if_neg (by simpa using ha1)]
 refine au (eQ ?_)
 refine au (cZ (bV (I:=fun x c st'=>∃ g out ia ib mg,st'=zak st g∧c=(none,out,ia,ib,mg)∧MA val (a.toList++b.toList) a b out ia ib∧ia+1 < a.size∧ib < b.size∧x+1≤ia+ib)
  (Q:=fun c st'=>∃ g r o,st'=zak st g∧c=(some r,o)∧Good val (a.toList++b.toList) r.toList) ?step ?fin ⟨gallopOf st,#[y0],0,1,gallopOf st,rfl,rfl,I1,by lia,by lia,by lia⟩) ?post)
 case post =>
  rintro c st' ⟨g,r,o,rfl,rfl,hG⟩
  exact aw (h _ g hG)
 case fin =>
  rintro c st' ⟨g,out,ia,ib,mg,rfl,rfl,hI,b1,b2,b3⟩
  lia
 case step =>
  rintro x c st' _ hx ⟨g,out,ia,ib,mg,rfl,rfl,hI,b1,b2,b3⟩
  dsimp only
  refine au (cZ (bV (I:=fun x c st'=>st'=zak st g∧∃ out' ia' ib' ac bc,c=(none,out',ia',ib',ac,bc)∧MA val (a.toList++b.toList) a b out' ia' ib'∧ia'+1 < a.size∧ib' < b.size∧ia+ib+x≤ia'+ib')
   (Q:=fun c st'=>st'=zak st g∧((∃ r o,c=(some r,o)∧Good val (a.toList++b.toList) r.toList)∨∃ out' ia' ib' ac bc,c=(none,out',ia',ib',ac,bc)∧MA val (a.toList++b.toList) a b out' ia' ib'∧ia'+1 < a.size∧ib' < b.size∧ia+ib+1≤ia'+ib')) ?step1 ?fin1 ⟨rfl,out,ia,ib,0,0,rfl,hI,b1,b2,by lia⟩) ?post1)
  case fin1 =>
   rintro c st' ⟨rfl,out',ia',ib',ac,bc,rfl,hI,b1,b2,b3⟩
   exact⟨rfl,.inr ⟨out',ia',ib',ac,bc,rfl,hI,b1,b2,by lia⟩⟩
  case step1 =>
   rintro x1 c st' _ hx1 ⟨rfl,out',ia',ib',ac,bc,rfl,hI,b1,b2,b3⟩
   dsimp only
   obtain⟨y,ey,my⟩:=zau (xs:=b) (i:=ib') (by lia)
   obtain⟨z,ez,mz⟩:=zau (xs:=a) (i:=ia') (by lia)
   refine au (zU ey (au (zU ez (au (zkW hC hk (mb y my) (ma z mz) ?_)))))
   dsimp only
   by_cases hyz:val y < val z
   ·rw [if_pos (by simpa using hyz)]
    refine au (zU ey ?_)
    have hI2:=hI.pushB sa ey ez (by lia)
    by_cases e1:ib'+1=b.size
    ·rw [if_pos (by simpa using e1)]
     exact aw ⟨rfl,.inl ⟨_,_,rfl,hI2.doneB e1⟩⟩
    rw [if_neg (by simpa using e1)]
    split
    ·exact aw ⟨rfl,.inr ⟨_,_,_,_,_,rfl,hI2,b1,by lia,by lia⟩⟩
    ·exact aw ⟨rfl,_,_,_,_,_,rfl,hI2,b1,by lia,by lia⟩
   ·rw [if_neg (by simpa using hyz)]
    refine au (zU ez ?_)
    have hI2:=hI.pushA sb ey ez (by lia)
    by_cases e1:ia'+1+1=a.size
    ·rw [if_pos (by simpa using e1)]
     exact aw ⟨rfl,.inl ⟨_,_,rfl,hI2.last e1 hl⟩⟩
    rw [if_neg (by simpa using e1)]
    split
    ·exact aw ⟨rfl,.inr ⟨_,_,_,_,_,rfl,hI2,by lia,b2,by lia⟩⟩
    ·exact aw ⟨rfl,_,_,_,_,_,rfl,hI2,by lia,b2,by lia⟩
  case post1 =>
   rintro c st' ⟨rfl,hc⟩
   rcases hc with ⟨r,o,rfl,hG⟩ | ⟨out1,ia1,ib1,ac1,bc1,rfl,hI1,c1,c2,c3⟩
   ·exact aw ⟨g,r,_,rfl,rfl,hG⟩
   dsimp only
   (refine au (gu (cg ⟨rfl,?_⟩)))
   refine au (cZ (bV (I:=fun x c st'=>∃ g out' ia' ib' mg ac bc,st'=zak st g∧c=(none,out',ia',ib',mg,ac,bc)∧MA val (a.toList++b.toList) a b out' ia' ib'∧ia'+1 < a.size∧ib' < b.size∧ia1+ib1≤ia'+ib')
    (Q:=fun c st'=>∃ g,st'=zak st g∧((∃ r o,c=(some r,o)∧Good val (a.toList++b.toList) r.toList)∨∃ out' ia' ib' mg ac bc,c=(none,out',ia',ib',mg,ac,bc)∧MA val (a.toList++b.toList) a b out' ia' ib'∧ia'+1 < a.size∧ib' < b.size∧ia1+ib1≤ia'+ib')) ?step2 ?fin2 ⟨g,out1,ia1,ib1,_,ac1,bc1,rfl,rfl,hI1,c1,c2,af _⟩) ?post2)
   case fin2 =>
    rintro c st' ⟨g,out',ia',ib',mg,ac,bc,rfl,rfl,hI,b1,b2,b3⟩
    exact⟨g,rfl,.inr ⟨out',ia',ib',mg,ac,bc,rfl,hI,b1,b2,b3⟩⟩
   case post2 =>
    rintro c st' ⟨g,rfl,hc⟩
    rcases hc with ⟨r,o,rfl,hG⟩ | ⟨out2,ia2,ib2,mg2,ac2,bc2,rfl,hI2,d1,d2,d3⟩
    ·exact aw ⟨g,r,_,rfl,rfl,hG⟩
    dsimp only
    refine au (zc9 (aw ⟨_,out2,ia2,ib2,_,rfl,rfl,hI2,d1,d2,by lia⟩))
   case step2 =>
    rintro x2 c st' _ hx2 ⟨g,out',ia',ib',mg',ac,bc,rfl,rfl,hI,b1,b2,b3⟩
    dsimp only
    obtain⟨y,ey,my⟩:=zau (xs:=b) (i:=ib') (by lia)
    by_cases hmg:mg' > 1
    all_goals
     first
      | rw [if_pos hmg]
      | rw [if_neg hmg]
     refine au (zc9 (au (zU ey (au (zbt hC hk (mb y my) (fun i hi=>(by
      obtain⟨p,ep,mp⟩:=zau (xs:=a) (i:=ia'+i) (by lia)
      exact⟨p,ep,ma p mp⟩)) (sa.sub (by lia) (by lia)) (by lia) fun k hk1 hk2 hk3=>?_)))))
     dsimp only
     have hI2:=hI.takeA (k:=k) sb ey fun i hi=>zda (hk2 i hi)
     by_cases hk0:k > 0
     ·rw [if_pos hk0]
      by_cases e1:ia'+k+1=a.size
      ·rw [if_pos (by simpa using e1)]
       exact aw ⟨_,rfl,.inl ⟨_,_,rfl,hI2.last e1 hl⟩⟩
      rw [if_neg (by simpa using e1)]
      by_cases e2:ia'+k=a.size
      ·rw [if_pos (by simpa using e2)]
       exact aw ⟨_,rfl,.inl ⟨_,_,rfl,hI2.doneA e2⟩⟩
      rw [if_neg (by simpa using e2)]
      refine au (zU ey ?_)
      obtain⟨z,ez,mz⟩:=zau (xs:=a) (i:=ia'+k) (by lia)
      have hI3:=hI2.pushB sa ey ez (by have:=zd3 (hk3 k (af _) (by lia)); rw [zW ez] at this; lia)
      by_cases e3:ib'+1=b.size
      ·rw [if_pos (by simpa using e3)]
       exact aw ⟨_,rfl,.inl ⟨_,_,rfl,hI3.doneB e3⟩⟩
      rw [if_neg (by simpa using e3)]
      refine au (zU ez (au (zbt hC hk (ma z mz) (fun i hi=>(by
       obtain⟨p,ep,mp⟩:=zau (xs:=b) (i:=ib'+1+i) (by lia)
       exact⟨p,ep,mb p mp⟩)) (sb.sub (by lia) (by lia)) (by lia) fun j hj1 hj2 hj3=>?_)))
      dsimp only
      have hI4:=hI3.takeB (k:=j) sa ez fun i hi=>eR (zce (hj2 i hi))
      by_cases hj0:j > 0
      ·rw [if_pos hj0]
       by_cases e4:ib'+1+j=b.size
       ·rw [if_pos (by simpa using e4)]
        exact aw ⟨_,rfl,.inl ⟨_,_,rfl,hI4.doneB e4⟩⟩
       rw [if_neg (by simpa using e4)]
       obtain⟨y2,ey2,my2⟩:=zau (xs:=b) (i:=ib'+1+j) (by lia)
       refine au (zU ez ?_)
       have hIc:=hI4.pushA sb ey2 ez (by have:=zcV (hj3 j (af _) (by lia)); rw [zW ey2] at this; exact this)
       by_cases e9:ia'+k+1+1=a.size
       ·rw [if_pos (by simpa using e9)]
        exact aw ⟨_,rfl,.inl ⟨_,_,rfl,hIc.last e9 hl⟩⟩
       rw [if_neg (by simpa using e9)]
       split
       ·exact aw ⟨_,rfl,.inr ⟨_,_,_,_,_,_,rfl,hIc,by lia,by lia,by lia⟩⟩
       ·exact aw ⟨_,_,_,_,_,_,_,rfl,rfl,hIc,by lia,by lia,by lia⟩
      ·rw [if_neg hj0]
       have hj00:j=0:=by lia
       subst hj00
       obtain⟨y2,ey2,my2⟩:=zau (xs:=b) (i:=ib'+1) (by lia)
       refine au (zU ez ?_)
       have hIc:=hI3.pushA sb ey2 ez (by have:=zcV (hj3 0 (af _) (by lia)); rw [fE,zW ey2] at this; exact this)
       by_cases e9:ia'+k+1+1=a.size
       ·rw [if_pos (by simpa using e9)]
        exact aw ⟨_,rfl,.inl ⟨_,_,rfl,hIc.last e9 hl⟩⟩
       rw [if_neg (by simpa using e9)]
       split
       ·exact aw ⟨_,rfl,.inr ⟨_,_,_,_,_,_,rfl,hIc,by lia,by lia,by lia⟩⟩
       ·exact aw ⟨_,_,_,_,_,_,_,rfl,rfl,hIc,by lia,by lia,by lia⟩
     ·rw [if_neg hk0]
      have hk00:k=0:=by lia
      subst hk00
      refine au (zU ey ?_)
      obtain⟨z,ez,mz⟩:=zau (xs:=a) (i:=ia') (by lia)
      have hI3:=hI.pushB sa ey ez (by have:=zd3 (hk3 0 (af _) (by lia)); rw [fE,zW ez] at this; lia)
      by_cases e3:ib'+1=b.size
      ·rw [if_pos (by simpa using e3)]
       exact aw ⟨_,rfl,.inl ⟨_,_,rfl,hI3.doneB e3⟩⟩
      rw [if_neg (by simpa using e3)]
      refine au (zU ez (au (zbt hC hk (ma z mz) (fun i hi=>(by
       obtain⟨p,ep,mp⟩:=zau (xs:=b) (i:=ib'+1+i) (by lia)
       exact⟨p,ep,mb p mp⟩)) (sb.sub (by lia) (by lia)) (by lia) fun j hj1 hj2 hj3=>?_)))
      dsimp only
      have hI4:=hI3.takeB (k:=j) sa ez fun i hi=>eR (zce (hj2 i hi))
      by_cases hj0:j > 0
      ·rw [if_pos hj0]
       by_cases e4:ib'+1+j=b.size
       ·rw [if_pos (by simpa using e4)]
        exact aw ⟨_,rfl,.inl ⟨_,_,rfl,hI4.doneB e4⟩⟩
       rw [if_neg (by simpa using e4)]
       obtain⟨y2,ey2,my2⟩:=zau (xs:=b) (i:=ib'+1+j) (by lia)
       refine au (zU ez ?_)
       have hIc:=hI4.pushA sb ey2 ez (by have:=zcV (hj3 j (af _) (by lia)); rw [zW ey2] at this; exact this)
       by_cases e9:ia'+1+1=a.size
       ·rw [if_pos (by simpa using e9)]
        exact aw ⟨_,rfl,.inl ⟨_,_,rfl,hIc.last e9 hl⟩⟩
       rw [if_neg (by simpa using e9)]
       split
       ·exact aw ⟨_,rfl,.inr ⟨_,_,_,_,_,_,rfl,hIc,by lia,by lia,by lia⟩⟩
       ·exact aw ⟨_,_,_,_,_,_,_,rfl,rfl,hIc,by lia,by lia,by lia⟩
      ·rw [if_neg hj0]
       have hj00:j=0:=by lia
       subst hj00
       obtain⟨y2,ey2,my2⟩:=zau (xs:=b) (i:=ib'+1) (by lia)
       refine au (zU ez ?_)
       have hIc:=hI3.pushA sb ey2 ez (by have:=zcV (hj3 0 (af _) (by lia)); rw [fE,zW ey2] at this; exact this)
       by_cases e9:ia'+1+1=a.size
       ·rw [if_pos (by simpa using e9)]
        exact aw ⟨_,rfl,.inl ⟨_,_,rfl,hIc.last e9 hl⟩⟩
       rw [if_neg (by simpa using e9)]
       split
       ·exact aw ⟨_,rfl,.inr ⟨_,_,_,_,_,_,rfl,hIc,by lia,by lia,by lia⟩⟩
       ·exact aw ⟨_,_,_,_,_,_,_,rfl,rfl,hIc,by lia,by lia,by lia⟩
end
end Srt
end
section
namespace Srt
open PySem PyProof.Rows
structure MH (val:Keyed→Int) (T l r o:List Keyed):Prop where
 perm:(l++r++o).Perm T
 so:Ris val o
 sl:Ris val l
 sr:Ris val r
 lo:Le val l o
 ro:Le val r o
section
variable {val:Keyed→Int} {T o l l1 l2 r r1 r2:List Keyed}
theorem MH.takeA (h:MH val T (l1++l2) r o) (hle:Le val r l2):MH val T l1 r (l2++o):=by
 obtain⟨a1,a2,a3⟩:=zaw.mp h.sl
 refine⟨?_,zaw.mpr ⟨a2,h.so,h.lo.right⟩,a1,h.sr,a3.app' h.lo.left,hle.app' h.ro⟩
 refine fk ?_ h.perm
 have:(r++l2).Perm (l2++r):=List.perm_append_comm
 have:=(this.append_left l1).append_right o
 simpa [a8] using this
theorem MH.takeB (h:MH val T l (r1++r2) o) (hle:Le val l r2):MH val T l r1 (r2++o):=by
 obtain⟨a1,a2,a3⟩:=zaw.mp h.sr
 exact⟨by have:=h.perm; simpa [a8] using this,zaw.mpr ⟨a2,h.so,h.ro.right⟩,h.sl,a1,hle.app' h.lo,a3.app' h.ro.left⟩
theorem MH.doneA (h:MH val T [] r o):Good val T (r++o):=⟨by have:=h.perm; simpa using this,zaw.mpr ⟨h.sr,h.so,h.ro⟩⟩
theorem MH.doneB (h:MH val T l [] o):Good val T (l++o):=⟨by have:=h.perm; simpa using this,zaw.mpr ⟨h.sl,h.so,h.lo⟩⟩
theorem MH.first (h:MH val T l r o) (hle:Le val r l):Good val T (r++l++o):=by
 refine⟨fk (List.perm_append_comm.append_right _) h.perm,?_⟩
 exact zaw.mpr ⟨zaw.mpr ⟨h.sr,h.sl,hle⟩,h.so,h.ro.app h.lo⟩
end
section
variable {val:Keyed→Int} {T:List Keyed} {a b out:Array Keyed} {na nb:Nat}
abbrev MB (val:Keyed→Int) (T:List Keyed) (a b out:Array Keyed) (na nb:Nat):Prop:=MH val T (a.toList.take na) (b.toList.take nb) out.toList.reverse
theorem ziJ {xs:Array Keyed} {n:Nat} {p:Keyed} (h:xs[n]? = some p):xs.toList.take (n+1)=xs.toList.take n++[p]:=by
 rw [List.take_succ,bi,h]
 rfl
theorem zg9 {xs:Array Keyed} (h:SIn val xs 0 xs.size) (i:Nat):Ris val (xs.toList.take i):=by
 have:=zc8 h 0
 rw [da] at this
 exact eS (bU _ _) this
theorem zeA {xs:Array Keyed} {n:Nat} {p:Keyed} (h:p∈xs.toList.take n):∃ j,j < n∧j < xs.size∧xs[j]? = some p:=by
 (obtain⟨j,hj,e⟩:=eh h)
 have hj2:j < n∧j < xs.toList.length:=by
  rw [aA] at hj
  lia
 refine⟨j,hj2.1,by simpa using hj2.2,?_⟩
 rw [← bi,am hj2.2,← e,jP]
theorem zd4 {xs:Array Keyed} {n:Nat} {p q:Keyed} (h:SIn val xs 0 xs.size) (hp:xs[n]? = some p) (hq:q∈xs.toList.take (n+1)):val q≤val p:=by
 obtain⟨j,hj,hjs,e⟩:=zeA hq
 have hn:=(cV.mp hp).1
 have:=h j n (aY _) (by lia) hn
 rw [zW e,zW hp] at this
 exact this
theorem MB.pushA {y x:Keyed} (h:MB val T a b out (na+1) nb) (sb:SIn val b 0 b.size) (hn:1≤nb) (hy:b[nb - 1]? = some y) (hx:a[na]? = some x) (hle:val y≤val x):MB val T a b (out.push x) na nb:=by
 unfold MB at h ⊢
 rw [ziJ hx] at h
 have:=MH.takeA h fun p hp q hq=>by
  rw [a7.mp hq]
  exact bW (zd4 sb hy (by rw [show nb - 1+1=nb by lia]; exact hp)) hle
 simpa using this
theorem MB.pushB {y x:Keyed} (h:MB val T a b out na (nb+1)) (sa:SIn val a 0 a.size) (hn:1≤na) (hy:b[nb]? = some y) (hx:a[na - 1]? = some x) (hle:val x≤val y):MB val T a b (out.push y) na nb:=by
 unfold MB at h ⊢
 rw [ziJ hy] at h
 have:=MH.takeB h fun p hp q hq=>by
  rw [a7.mp hq]
  exact bW (zd4 sa hx (by rw [show na - 1+1=na by lia]; exact hp)) hle
 simpa using this
theorem ziK (xs:Array Keyed) {i n:Nat} (h:i≤n):xs.toList.take n=xs.toList.take i++(xs.extract i n).toList:=by
 rw [dq]
 simp only [de]
 rw [← b8 i (xs.toList.take n),kz,cp h,List.drop_take]
theorem MB.takeA {y:Keyed} {at':Nat} (h:MB val T a b out na nb) (sb:SIn val b 0 b.size) (hat:at'≤na) (hn:1≤nb) (hy:b[nb - 1]? = some y) (hle:∀ i,at'≤i→i < na→val y≤Vk val a i):MB val T a b (out++(a.extract at' na).reverse) at' nb:=by
 unfold MB at h ⊢
 rw [ziK a hat] at h
 have:=MH.takeA h fun p hp q hq=>by
  have hq2:q∈(a.extract at' (at'+(na - at'))).toList:=by rw [show at'+(na - at')=na by lia]; exact hq
  obtain⟨j,hj,e⟩:=zd2 hq2
  have:=hle (at'+j) (by lia) (by lia)
  rw [zW e] at this
  exact bW (zd4 sb hy (by rw [show nb - 1+1=nb by lia]; exact hp)) this
 simpa using this
theorem MB.takeB {x:Keyed} {at':Nat} (h:MB val T a b out na nb) (sa:SIn val a 0 a.size) (hat:at'≤nb) (hn:1≤na) (hx:a[na - 1]? = some x) (hle:∀ i,at'≤i→i < nb→val x≤Vk val b i):MB val T a b (out++(b.extract at' nb).reverse) na at':=by
 unfold MB at h ⊢
 rw [ziK b hat] at h
 have:=MH.takeB h fun p hp q hq=>by
  have hq2:q∈(b.extract at' (at'+(nb - at'))).toList:=by rw [show at'+(nb - at')=nb by lia]; exact hq
  obtain⟨j,hj,e⟩:=zd2 hq2
  have:=hle (at'+j) (by lia) (by lia)
  rw [zW e] at this
  exact bW (zd4 sa hx (by rw [show na - 1+1=na by lia]; exact hp)) this
 simpa using this
theorem zb4 (xs:Array Keyed) (n:Nat):(xs.extract 0 n).toList=xs.toList.take n:=by
 rw [dq]
 simp [de]
theorem MB.doneA (h:MB val T a b out na nb) (e:na=0):Good val T (a.extract 0 na++b.extract 0 nb++out.reverse).toList:=by
 unfold MB at h
 subst e
 have:=MH.doneA h
 rw [bJ,bJ,zb4,zb4,dC,iI,gf]
 exact this
theorem MB.doneB (h:MB val T a b out na nb) (e:nb=0):Good val T (a.extract 0 na++b.extract 0 nb++out.reverse).toList:=by
 unfold MB at h
 subst e
 have:=MH.doneB h
 rw [bJ,bJ,zb4,zb4,dC,bO,gf]
 exact this
theorem MB.first (h:MB val T a b out na nb) (e:nb=1) (sa:SIn val a 0 a.size) (h2:1≤b.size) (hf:Vk val b 0≤Vk val a 0):Good val T (b.extract 0 nb++a.extract 0 na++out.reverse).toList:=by
 unfold MB at h
 subst e
 have:=MH.first h fun p hp q hq=>by
  obtain⟨j,hj,hjs,ej⟩:=zeA hp
  have hj0:j=0:=by lia
  subst hj0
  obtain⟨i,hi,his,ei⟩:=zeA hq
  have:=sa 0 i (aY _) (aY _) his
  rw [zW ei] at this
  rw [zW ej] at hf
  lia
 rw [bJ,bJ,zb4,zb4,gf]
 exact this
end
section
variable {prog:Program} {w:World} {A:Around} {E:Value→Shared→Prop} {s:Shared} {a₀:Array Keyed} {κ:SortKind} {val:Keyed→Int}
theorem zjI {st:SortSt} {a b:Array Keyed} {Q:Array Keyed→SortSt→Prop} (hC:Cmp prog w A s κ val a₀) (hk:kindOf st=κ) (ma:∀ p∈a.toList,p∈a₀.toList) (mb:∀ p∈b.toList,p∈a₀.toList)
  (sa:SIn val a 0 a.size) (sb:SIn val b 0 b.size) (h1:1≤a.size) (h2:1≤b.size) (hf:Vk val b 0≤Vk val a 0) (hl:∀ i,i < b.size→Vk val b i≤Vk val a (a.size - 1))
  (h:∀ out g,Good val (a.toList++b.toList) out.toList→Q out (zak st g)):wpS (model prog w) A E s (zk0 a b) Q st:=by
 refine zf9 ?_
 wp_delta
 wp_delta
 refine zga ?_
 (refine au (gu (cg ⟨rfl,?_⟩)))
 obtain⟨x0,ex0,mx0⟩:=zau (xs:=a) (i:=a.size - 1) (by lia)
 obtain⟨y0,ey0,my0⟩:=zau (xs:=b) (i:=b.size - 1) (by lia)
 refine au (zU ex0 ?_)
 have I0:MB val (a.toList++b.toList) a b #[] (a.size - 1+1) b.size:=by
  refine⟨?_,gT,zg9 sa _,zg9 sb _,fun x _ y hy=>by simp at hy,fun x _ y hy=>by simp at hy⟩
  rw [show a.size - 1+1=a.size by lia,aK (by simp),aK (by simp)]
  simp
 have I1:MB val (a.toList++b.toList) a b #[x0] (a.size - 1) b.size:=I0.pushA sb h2 ey0 ex0 (by have:=hl (b.size - 1) (by lia); rw [zW ey0,zW ex0] at this; exact this)
 dsimp only
 by_cases ha1:a.size - 1=0
 ·rw [if_pos (by simpa using ha1)]
  exact aw (h _ (gallopOf st) (I1.doneA ha1))
 rw [if_neg (by simpa using ha1)]
 by_cases hb1:b.size=1
 ·rw [if_pos (by simpa using hb1)]
  exact aw (h _ (gallopOf st) (I1.first hb1 sa h2 hf))
 rw [if_neg (by simpa using hb1)]
 refine au (eQ ?_)
 refine au (cZ (bV (I:=fun x c st'=>∃ g out na nb mg,st'=zak st g∧c=(none,na,nb,out,mg)∧MB val (a.toList++b.toList) a b out na nb∧1≤na∧2≤nb∧na≤a.size∧nb≤b.size∧x+na+nb+1≤a.size+b.size)
  (Q:=fun c st'=>∃ g r o,st'=zak st g∧c=(some r,o)∧Good val (a.toList++b.toList) r.toList) ?step ?fin ⟨gallopOf st,#[x0],a.size - 1,b.size,gallopOf st,rfl,rfl,I1,by lia,by lia,by lia,by lia,by lia⟩) ?post)
 case post =>
  rintro c st' ⟨g,r,o,rfl,rfl,hG⟩
  exact aw (h _ g hG)
 case fin =>
  rintro c st' ⟨g,out,na,nb,mg,rfl,rfl,hI,b1,b2,b3⟩
  lia
 case step =>
  rintro x c st' _ hx ⟨g,out,na,nb,mg,rfl,rfl,hI,b1,b2,b4,b5,b3⟩
  dsimp only
  refine au (cZ (bV (I:=fun x c st'=>st'=zak st g∧∃ out' na' nb' ac bc,c=(none,na',nb',out',ac,bc)∧MB val (a.toList++b.toList) a b out' na' nb'∧1≤na'∧2≤nb'∧na'≤a.size∧nb'≤b.size∧x+na'+nb'≤na+nb)
   (Q:=fun c st'=>st'=zak st g∧((∃ r o,c=(some r,o)∧Good val (a.toList++b.toList) r.toList)∨∃ out' na' nb' ac bc,c=(none,na',nb',out',ac,bc)∧MB val (a.toList++b.toList) a b out' na' nb'∧1≤na'∧2≤nb'∧na'≤a.size∧nb'≤b.size∧1+na'+nb'≤na+nb)) ?step1 ?fin1 ⟨rfl,out,na,nb,0,0,rfl,hI,b1,b2,b4,b5,by lia⟩) ?post1)
  case fin1 =>
   rintro c st' ⟨rfl,out',na',nb',ac,bc,rfl,hI,b1,b2,b4,b5,b3⟩
   exact⟨rfl,.inr ⟨out',na',nb',ac,bc,rfl,hI,b1,b2,b4,b5,by lia⟩⟩
  case step1 =>
   rintro x1 c st' _ hx1 ⟨rfl,out',na',nb',ac,bc,rfl,hI,b1,b2,b4,b5,b3⟩
   dsimp only
   obtain⟨n1,rfl⟩:∃ n1,na'=n1+1:=⟨na' - 1,by lia⟩
   obtain⟨m1,rfl⟩:∃ m1,nb'=m1+1:=⟨nb' - 1,by lia⟩
   simp only [cH]
   obtain⟨y,ey,my⟩:=zau (xs:=b) (i:=m1) (by lia)
   obtain⟨z,ez,mz⟩:=zau (xs:=a) (i:=n1) (by lia)
   refine au (zU ey (au (zU ez (au (zkW hC hk (mb y my) (ma z mz) ?_)))))
   dsimp only
   by_cases hyz:val y < val z
   ·rw [if_pos (by simpa using hyz)]
    refine au (zU ez ?_)
    have hI2:=hI.pushA sb (by lia) ey ez (by lia)
    by_cases e1:n1=0
    ·rw [if_pos (by simpa using e1)]
     exact aw ⟨rfl,.inl ⟨_,_,rfl,hI2.doneA e1⟩⟩
    rw [if_neg (by simpa using e1)]
    split
    ·exact aw ⟨rfl,.inr ⟨_,_,_,_,_,rfl,hI2,by lia,by lia,by lia,by lia,by lia⟩⟩
    ·exact aw ⟨rfl,_,_,_,_,_,rfl,hI2,by lia,by lia,by lia,by lia,by lia⟩
   ·rw [if_neg (by simpa using hyz)]
    refine au (zU ey ?_)
    have hI2:=hI.pushB sa (by lia) ey ez (by lia)
    by_cases e1:m1=1
    ·rw [if_pos (by simpa using e1)]
     exact aw ⟨rfl,.inl ⟨_,_,rfl,hI2.first e1 sa h2 hf⟩⟩
    rw [if_neg (by simpa using e1)]
    split
    ·exact aw ⟨rfl,.inr ⟨_,_,_,_,_,rfl,hI2,by lia,by lia,by lia,by lia,by lia⟩⟩
    ·exact aw ⟨rfl,_,_,_,_,_,rfl,hI2,by lia,by lia,by lia,by lia,by lia⟩
  case post1 =>
   rintro c st' ⟨rfl,hc⟩
   rcases hc with ⟨r,o,rfl,hG⟩ | ⟨out1,na1,nb1,ac1,bc1,rfl,hI1,c1,c2,c4,c5,c3⟩
   ·exact aw ⟨g,r,_,rfl,rfl,hG⟩
   dsimp only
   (refine au (gu (cg ⟨rfl,?_⟩)))
   refine au (cZ (bV (I:=fun x c st'=>∃ g out' na' nb' mg ac bc,st'=zak st g∧c=(none,na',nb',out',mg,ac,bc)∧MB val (a.toList++b.toList) a b out' na' nb'∧1≤na'∧2≤nb'∧na'≤a.size∧nb'≤b.size∧na'+nb'≤na1+nb1)
    (Q:=fun c st'=>∃ g,st'=zak st g∧((∃ r o,c=(some r,o)∧Good val (a.toList++b.toList) r.toList)∨∃ out' na' nb' mg ac bc,c=(none,na',nb',out',mg,ac,bc)∧MB val (a.toList++b.toList) a b out' na' nb'∧1≤na'∧2≤nb'∧na'≤a.size∧nb'≤b.size∧na'+nb'≤na1+nb1)) ?step2 ?fin2 ⟨g,out1,na1,nb1,_,ac1,bc1,rfl,rfl,hI1,c1,c2,c4,c5,af _⟩) ?post2)
   case fin2 =>
    rintro c st' ⟨g,out',na',nb',mg,ac,bc,rfl,rfl,hI,b1,b2,b4,b5,b3⟩
    exact⟨g,rfl,.inr ⟨out',na',nb',mg,ac,bc,rfl,hI,b1,b2,b4,b5,b3⟩⟩
   case post2 =>
    rintro c st' ⟨g,rfl,hc⟩
    rcases hc with ⟨r,o,rfl,hG⟩ | ⟨out2,na2,nb2,mg2,ac2,bc2,rfl,hI2,d1,d2,d4,d5,d3⟩
    ·exact aw ⟨g,r,_,rfl,rfl,hG⟩
    dsimp only
    refine au (zc9 (aw ⟨_,out2,na2,nb2,_,rfl,rfl,hI2,d1,d2,d4,d5,by lia⟩))
   case step2 =>
    rintro x2 c st' _ hx2 ⟨g,out',na',nb',mg',ac,bc,rfl,rfl,hI,b1,b2,b4,b5,b3⟩
    dsimp only
    obtain⟨m1,rfl⟩:∃ m1,nb'=m1+1:=⟨nb' - 1,by lia⟩
    simp only [cH]
    obtain⟨y,ey,my⟩:=zau (xs:=b) (i:=m1) (by lia)
    by_cases hmg:mg' > 1
    all_goals
     first
      | rw [if_pos hmg]
      | rw [if_neg hmg]
     refine au (zc9 (au (zU ey (au (zbt hC hk (mb y my) (fun i hi=>(by
      obtain⟨p,ep,mp⟩:=zau (xs:=a) (i:=0+i) (by lia)
      exact⟨p,ep,ma p mp⟩)) (sa.sub (by lia) (by lia)) (by lia) fun k hk1 hk2 hk3=>?_)))))
     dsimp only
     have hI2:=hI.takeA (at':=k) sb hk1 (by lia) ey fun i h1 h2=>eR (by have:=zd3 (hk3 i h1 h2); rwa [dm] at this)
     by_cases hk0:na' - k > 0
     ·rw [if_pos hk0]
      by_cases e1:k=0
      ·rw [if_pos (by simpa using e1)]
       exact aw ⟨_,rfl,.inl ⟨_,_,rfl,hI2.doneA e1⟩⟩
      rw [if_neg (by simpa using e1)]
      obtain⟨n1,rfl⟩:∃ n1,k=n1+1:=⟨k - 1,by lia⟩
      simp only [cH]
      refine au (zU ey ?_)
      obtain⟨z,ez,mz⟩:=zau (xs:=a) (i:=n1) (by lia)
      have hI3:=hI2.pushB sa (by lia) ey (show a[n1+1 - 1]? = some z by rw [cH]; exact ez) (by have:=zda (hk2 n1 (by lia)); rw [dm,zW ez] at this; exact this)
      by_cases e3:m1=1
      ·rw [if_pos (by simpa using e3)]
       exact aw ⟨_,rfl,.inl ⟨_,_,rfl,hI3.first e3 sa h2 hf⟩⟩
      rw [if_neg (by simpa using e3)]
      refine au (zU ez (au (zbt hC hk (ma z mz) (fun i hi=>(by
       obtain⟨p,ep,mp⟩:=zau (xs:=b) (i:=0+i) (by lia)
       exact⟨p,ep,mb p mp⟩)) (sb.sub (by lia) (by lia)) (by lia) fun j hj1 hj2 hj3=>?_)))
      dsimp only
      have hI4:=hI3.takeB (at':=j) sa hj1 (by lia) (show a[n1+1 - 1]? = some z by rw [cH]; exact ez) fun i h1 h2=>(by have:=zcV (hj3 i h1 h2); rwa [dm] at this)
      by_cases hj0:m1 - j > 0
      ·rw [if_pos hj0]
       by_cases e4:j=1
       ·rw [if_pos (by simpa using e4)]
        exact aw ⟨_,rfl,.inl ⟨_,_,rfl,hI4.first e4 sa h2 hf⟩⟩
       rw [if_neg (by simpa using e4)]
       by_cases e5:j=0
       ·rw [if_pos (by simpa using e5)]
        exact aw ⟨_,rfl,.inl ⟨_,_,rfl,hI4.doneB e5⟩⟩
       rw [if_neg (by simpa using e5)]
       obtain⟨y2,ey2,my2⟩:=zau (xs:=b) (i:=j - 1) (by lia)
       refine au (zU ez ?_)
       have hIc:=hI4.pushA sb (by lia) ey2 ez (by have:=zce (hj2 (j - 1) (by lia)); rw [dm,zW ey2] at this; lia)
       by_cases e9:n1=0
       ·rw [if_pos (by simpa using e9)]
        exact aw ⟨_,rfl,.inl ⟨_,_,rfl,hIc.doneA e9⟩⟩
       rw [if_neg (by simpa using e9)]
       split
       ·exact aw ⟨_,rfl,.inr ⟨_,_,_,_,_,_,rfl,hIc,by lia,by lia,by lia,by lia,by lia⟩⟩
       ·exact aw ⟨_,_,_,_,_,_,_,rfl,rfl,hIc,by lia,by lia,by lia,by lia,by lia⟩
      ·rw [if_neg hj0]
       have hjm:j=m1:=by lia
       subst hjm
       obtain⟨y2,ey2,my2⟩:=zau (xs:=b) (i:=j - 1) (by lia)
       refine au (zU ez ?_)
       have hIc:=hI3.pushA sb (by lia) ey2 ez (by have:=zce (hj2 (j - 1) (by lia)); rw [dm,zW ey2] at this; lia)
       by_cases e9:n1=0
       ·rw [if_pos (by simpa using e9)]
        exact aw ⟨_,rfl,.inl ⟨_,_,rfl,hIc.doneA e9⟩⟩
       rw [if_neg (by simpa using e9)]
       split
       ·exact aw ⟨_,rfl,.inr ⟨_,_,_,_,_,_,rfl,hIc,by lia,by lia,by lia,by lia,by lia⟩⟩
       ·exact aw ⟨_,_,_,_,_,_,_,rfl,rfl,hIc,by lia,by lia,by lia,by lia,by lia⟩
     ·rw [if_neg hk0]
      have hkn:k=na':=by lia
      subst hkn
      obtain⟨n1,rfl⟩:∃ n1,k=n1+1:=⟨k - 1,by lia⟩
      simp only [cH]
      refine au (zU ey ?_)
      obtain⟨z,ez,mz⟩:=zau (xs:=a) (i:=n1) (by lia)
      have hI3:=hI.pushB sa (by lia) ey (show a[n1+1 - 1]? = some z by rw [cH]; exact ez) (by have:=zda (hk2 n1 (by lia)); rw [dm,zW ez] at this; exact this)
      by_cases e3:m1=1
      ·rw [if_pos (by simpa using e3)]
       exact aw ⟨_,rfl,.inl ⟨_,_,rfl,hI3.first e3 sa h2 hf⟩⟩
      rw [if_neg (by simpa using e3)]
      refine au (zU ez (au (zbt hC hk (ma z mz) (fun i hi=>(by
       obtain⟨p,ep,mp⟩:=zau (xs:=b) (i:=0+i) (by lia)
       exact⟨p,ep,mb p mp⟩)) (sb.sub (by lia) (by lia)) (by lia) fun j hj1 hj2 hj3=>?_)))
      dsimp only
      have hI4:=hI3.takeB (at':=j) sa hj1 (by lia) (show a[n1+1 - 1]? = some z by rw [cH]; exact ez) fun i h1 h2=>(by have:=zcV (hj3 i h1 h2); rwa [dm] at this)
      by_cases hj0:m1 - j > 0
      ·rw [if_pos hj0]
       by_cases e4:j=1
       ·rw [if_pos (by simpa using e4)]
        exact aw ⟨_,rfl,.inl ⟨_,_,rfl,hI4.first e4 sa h2 hf⟩⟩
       rw [if_neg (by simpa using e4)]
       by_cases e5:j=0
       ·rw [if_pos (by simpa using e5)]
        exact aw ⟨_,rfl,.inl ⟨_,_,rfl,hI4.doneB e5⟩⟩
       rw [if_neg (by simpa using e5)]
       obtain⟨y2,ey2,my2⟩:=zau (xs:=b) (i:=j - 1) (by lia)
       refine au (zU ez ?_)
       have hIc:=hI4.pushA sb (by lia) ey2 ez (by have:=zce (hj2 (j - 1) (by lia)); rw [dm,zW ey2] at this; lia)
       by_cases e9:n1=0
       ·rw [if_pos (by simpa using e9)]
        exact aw ⟨_,rfl,.inl ⟨_,_,rfl,hIc.doneA e9⟩⟩
       rw [if_neg (by simpa using e9)]
       split
       ·exact aw ⟨_,rfl,.inr ⟨_,_,_,_,_,_,rfl,hIc,by lia,by lia,by lia,by lia,by lia⟩⟩
       ·exact aw ⟨_,_,_,_,_,_,_,rfl,rfl,hIc,by lia,by lia,by lia,by lia,by lia⟩
      ·rw [if_neg hj0]
       have hjm:j=m1:=by lia
       subst hjm
       obtain⟨y2,ey2,my2⟩:=zau (xs:=b) (i:=j - 1) (by lia)
       refine au (zU ez ?_)
       have hIc:=hI3.pushA sb (by lia) ey2 ez (by have:=zce (hj2 (j - 1) (by lia)); rw [dm,zW ey2] at this; lia)
       by_cases e9:n1=0
       ·rw [if_pos (by simpa using e9)]
        exact aw ⟨_,rfl,.inl ⟨_,_,rfl,hIc.doneA e9⟩⟩
       rw [if_neg (by simpa using e9)]
       split
       ·exact aw ⟨_,rfl,.inr ⟨_,_,_,_,_,_,rfl,hIc,by lia,by lia,by lia,by lia,by lia⟩⟩
       ·exact aw ⟨_,_,_,_,_,_,_,rfl,rfl,hIc,by lia,by lia,by lia,by lia,by lia⟩
end
end Srt
end
section
namespace Srt
open PySem PyProof.Rows
def wb (sa:Nat) (l:List (Keyed×Nat)) (xs:Array Keyed):Array Keyed:=l.foldl (fun a (p,j)=>a.setIfInBounds (sa+j) p) xs
theorem zk3 (sa:Nat):∀ (l:List Keyed) (n:Nat) (xs:Array Keyed) (k:Nat),sa+n+l.length≤xs.size→(wb sa (l.zipIdx n) xs)[k]? = if sa+n≤k∧k < sa+n+l.length then l[k - (sa+n)]? else xs[k]?
 | [],n,xs,k,h=>by
  rw [if_neg (by simp only [iL]; lia)]
  rfl
 | p :: l,n,xs,k,h=>by
  have hl:(p :: l).length=l.length+1:=rfl
  rw [hl] at h ⊢
  show (wb sa (l.zipIdx (n+1)) (xs.setIfInBounds (sa+n) p))[k]? = _
  rw [zk3 sa l (n+1) _ k (by rw [Array.size_setIfInBounds]; lia)]
  by_cases h1:sa+(n+1)≤k∧k < sa+(n+1)+l.length
  ·rw [if_pos h1,if_pos (by lia),show k - (sa+n)=k - (sa+(n+1))+1 by lia,cr]
  ·rw [if_neg h1,Array.getElem?_setIfInBounds]
   by_cases h2:sa+n=k
   ·rw [if_pos h2,if_pos (by lia),if_pos (by lia),show k - (sa+n)=0 by lia]
    rfl
   ·rw [if_neg h2,if_neg (by lia)]
theorem zmq {sa:Nat} {m xs:Array Keyed} (h:sa+m.size≤xs.size):(wb sa m.toList.zipIdx xs).toList=xs.toList.take sa++m.toList++xs.toList.drop (sa+m.size):=by
 have hm:m.toList.length=m.size:=by simp
 have hx:xs.toList.length=xs.size:=by simp
 refine eF fun k=>?_
 rw [bi,zk3 sa m.toList 0 xs k (by rw [hm]; lia),hm,fE]
 by_cases h1:k < sa
 ·rw [if_neg (by lia),a8,bp (by rw [aA]; lia),bD h1,bi]
 ·by_cases h2:k < sa+m.size
  ·rw [if_pos (by lia),a8,bR (by rw [aA]; lia),aA,hx,show min sa xs.size=sa by lia,bp (by lia)]
  ·rw [if_neg (by lia),bR (by rw [ao,aA]; lia),ao,aA,hx,show min sa xs.size=sa by lia,hm,eB,show sa+m.size+(k - (sa+m.size))=k by lia,bi]
theorem zjJ (xs:List Keyed) {i j k:Nat} (h1:i≤j) (h2:j≤k):xs=xs.take i++((xs.drop i).take (j - i)++(xs.drop j).take (k - j))++xs.drop k:=by
 have e1:xs.drop i=(xs.drop i).take (j - i)++xs.drop j:=by
  have:=(b8 (j - i) (xs.drop i)).symm
  rwa [i5,show i+(j - i)=j by lia] at this
 have e2:xs.drop j=(xs.drop j).take (k - j)++xs.drop k:=by
  have:=(b8 (k - j) (xs.drop j)).symm
  rwa [i5,show j+(k - j)=k by lia] at this
 have e0:=(b8 i xs).symm
 rw [e1,e2] at e0
 rw [a8,a8]
 exact e0
theorem zdb (xs:Array Keyed) (i j:Nat):(xs.extract i j).toList=(xs.toList.drop i).take (j - i):=by
 rw [dq]
theorem zmr {sa sb e:Nat} {m xs:Array Keyed} (h1:sa≤sb) (h2:sb≤e) (h3:e≤xs.size) (hp:m.toList.Perm ((xs.extract sa sb).toList++(xs.extract sb e).toList)):(wb sa m.toList.zipIdx xs).Perm xs:=by
 have hms:m.size=e - sa:=by
  have:=hp.length_eq
  rw [ao,zdb,zdb,aA,aA,bK,bK] at this
  have hx:xs.toList.length=xs.size:=by simp
  have hm:m.toList.length=m.size:=by simp
  lia
 rw [fe,zmq (by lia),show sa+m.size=e by lia]
 refine fk ((hp.append_left _).append_right _) ?_
 rw [zdb,zdb,← zjJ xs.toList h1 h2]
section
variable {prog:Program} {w:World} {A:Around} {E:Value→Shared→Prop} {s:Shared} {a₀:Array Keyed} {κ:SortKind} {val:Keyed→Int}
theorem zcW {xs:Array Keyed} {i j k:Nat} (h:k < j - i) (hj:j≤xs.size):(xs.extract i j)[k]? = xs[i+k]?:=by
 rw [← bi,zdb,bD h,eB,bi]
theorem zdc {xs:Array Keyed} {i j:Nat} (hj:j≤xs.size):(xs.extract i j).size=j - i:=by rw [Array.size_extract,cp hj]
theorem ziL {xs:Array Keyed} {i j:Nat} (hj:j≤xs.size) (h:SIn val xs i j):SIn val (xs.extract i j) 0 (xs.extract i j).size:=by
 rw [zdc hj]
 intro p q _ hpq hq
 rw [z9 (zcW (by lia) hj),z9 (zcW hq hj)]
 exact h _ _ (by lia) (by lia) (by lia)
theorem zd5 {xs:Array Keyed} {i j:Nat} (hj:j≤xs.size) {p:Keyed} (h:p∈(xs.extract i j).toList):∃ k,i≤k∧k < j∧xs[k]? = some p:=by
 obtain⟨k,hk,e⟩:=eh h
 have hk':k < j - i:=by
  rwa [bw,zdc hj] at hk
 refine⟨i+k,by lia,by lia,?_⟩
 rw [← zcW hk' hj,← bi,am hk,e]
theorem zjK {st:SortSt} {i sa na pw sb nb pw2:Nat} {Q:Bool→SortSt→Prop} (hC:Cmp prog w A s κ val a₀) (hB:SB κ a₀ st) (e1:(pendingOf st)[i]? = some (sa,na,pw)) (e2:(pendingOf st)[i+1]? = some (sb,nb,pw2))
  (hsb:sb=sa+na) (hna:1≤na) (hnb:1≤nb) (hsz:sb+nb≤a₀.size) (sA:SIn val (arrOf st) sa (sa+na)) (sB:SIn val (arrOf st) sb (sb+nb))
  (h:∀ st',SB κ a₀ st'→pendingOf st'=((pendingOf st).setIfInBounds i (sa,na+nb,pw)).eraseIdxIfInBounds (i+1)→(∀ k,(k < sa∨sb+nb≤k)→(arrOf st')[k]? = (arrOf st)[k]?)→SIn val (arrOf st') sa (sb+nb)→Q true st') :
  wpS (model prog w) A E s (mergeAt' i) Q st:=by
 refine zf9 ?_
 wp_delta
 wp_delta
 refine zga ?_
 refine au (eQ ?_)
 rw [e1,e2]
 dsimp only
 have hsize:=hB.size
 obtain⟨y0,ey0,my0⟩:=hB.mem (i:=sb) (by lia)
 generalize hst1:(sortPriv% PySem.Builtin.SortState.mk) (kindOf st) (arrOf st) (((pendingOf st).setIfInBounds i (sa,na+nb,pw)).eraseIdxIfInBounds (i+1)) (gallopOf st) (failedOf st)=st1
 have hB1:SB κ a₀ st1:=by subst hst1; exact⟨hB.perm,hB.kind,hB.failed⟩
 have hp1:pendingOf st1=((pendingOf st).setIfInBounds i (sa,na+nb,pw)).eraseIdxIfInBounds (i+1):=by subst hst1; rfl
 have ha1:arrOf st1=arrOf st:=by subst hst1; rfl
 have memA:∀ n,n < a₀.size→∃ p,(arrOf st)[n]? = some p∧p∈a₀.toList:=fun n hn=>hB.mem hn
 refine au (show wpS _ _ _ _ (set st1) _ st from dH (f:=fun _=>st1) ?_)
 refine au (zU ey0 (au (zbt (arr:=arrOf st) hC hB1.kind my0 (fun j hj=>memA (sa+j) (by lia)) sA (by lia) fun k hk1 hk2 hk3=>?_)))
 dsimp only
 have lowA:∀ j,sa≤j→j < sa+k→Vk val (arrOf st) j≤Vk val (arrOf st) sb:=fun j h1 h2=>by
  have:=zda (hk2 (j - sa) (by lia))
  rwa [show sa+(j - sa)=j by lia,← zW (val:=val) ey0] at this
 by_cases hk0:na - k=0
 ·rw [if_pos (by simpa using hk0)]
  refine aw (h st1 hB1 hp1 (fun _ _=>by rw [ha1]) ?_)
  rw [ha1]
  intro p q h1 h2 h3
  by_cases hq:q < sa+na
  ·exact sA p q h1 h2 hq
  ·by_cases hp:p < sa+na
   ·exact bW (lowA p h1 (by lia)) (sB sb q (by lia) (by lia) h3)
   ·exact sB p q (by lia) h2 h3
 rw [if_neg (by simpa using hk0)]
 have elast:sa+k+(na - k) - 1=sa+na - 1:=by lia
 rw [elast]
 obtain⟨x0,ex0,mx0⟩:=hB.mem (i:=sa+na - 1) (by lia)
 refine au (zU ex0 (au (zbt (arr:=arrOf st) hC hB1.kind mx0 (fun j hj=>memA (sb+j) (by lia)) sB (by lia) fun m hm1 hm2 hm3=>?_)))
 dsimp only
 have highB:∀ j,sb+m≤j→j < sb+nb→Vk val (arrOf st) (sa+na - 1)≤Vk val (arrOf st) j:=fun j h1 h2=>by
  have:=zcV (hm3 (j - sb) (by lia) (by lia))
  rwa [show sb+(j - sb)=j by lia,← zW (val:=val) ex0] at this
 have lowB:∀ j,sb≤j→j < sb+m→Vk val (arrOf st) j < Vk val (arrOf st) (sa+na - 1):=fun j h1 h2=>by
  have:=zce (hm2 (j - sb) (by lia))
  rwa [show sb+(j - sb)=j by lia,← zW (val:=val) ex0] at this
 by_cases hm0:m=0
 ·rw [if_pos (by simpa using hm0)]
  refine aw (h st1 hB1 hp1 (fun _ _=>by rw [ha1]) ?_)
  rw [ha1]
  intro p q h1 h2 h3
  by_cases hq:q < sa+na
  ·exact sA p q h1 h2 hq
  ·by_cases hp:p < sa+na
   ·exact bW (sA p (sa+na - 1) h1 (by lia) (by lia)) (highB q (by lia) h3)
   ·exact sB p q (by lia) h2 h3
 rw [if_neg (by simpa using hm0)]
 have zx:(arrOf st).size=a₀.size:=hsize
 have z1:=zdc (xs:=arrOf st) (i:=sa+k) (j:=sb) (by lia)
 have z2:=zdc (xs:=arrOf st) (i:=sb) (j:=sb+m) (by lia)
 have hf:Vk val ((arrOf st).extract sb (sb+m)) 0≤Vk val ((arrOf st).extract (sa+k) sb) 0:=by
  rw [z9 (zcW (by lia) (by lia)),z9 (zcW (xs:=arrOf st) (i:=sa+k) (j:=sb) (k:=0) (by lia) (by lia))]
  have:=zd3 (hk3 k (af _) (by lia))
  rw [← zW (val:=val) ey0] at this
  simp only [fE] at this ⊢
  lia
 have hl:∀ j,j < ((arrOf st).extract sb (sb+m)).size→Vk val ((arrOf st).extract sb (sb+m)) j≤Vk val ((arrOf st).extract (sa+k) sb) (((arrOf st).extract (sa+k) sb).size - 1):=by
  intro j hj
  rw [z2] at hj
  rw [z1,z9 (zcW (by lia) (by lia)),z9 (zcW (xs:=arrOf st) (i:=sa+k) (j:=sb) (by lia) (by lia))]
  have:=lowB (sb+j) (by lia) (by lia)
  rw [show sa+k+(sb - (sa+k) - 1)=sa+na - 1 by lia]
  lia
 have fin:∀ (out:Array Keyed) (g:Nat),Good val (((arrOf st).extract (sa+k) sb).toList++((arrOf st).extract sb (sb+m)).toList) out.toList →
   wpS (model prog w) A E s (do
    modify fun s=>setArr s (out.toList.zipIdx.foldl (fun a (p,j)=>a.setIfInBounds (sa+k+j) p) (arrOf s))
    let s' ← get
    pure (failedOf s').isNone) Q (zak st1 g):=by
  intro out g hG
  refine au (dH (au (eQ ?_)))
  have hms:out.size=sb+m - (sa+k):=by
   have:=hG.1.length_eq
   rw [ao] at this
   have e1:out.toList.length=out.size:=by simp
   have e2:((arrOf st).extract (sa+k) sb).toList.length=sb - (sa+k):=by rw [bw,z1]
   have e3:((arrOf st).extract sb (sb+m)).toList.length=sb+m - sb:=by rw [bw,z2]
   lia
  have hperm:=zmr (xs:=arrOf st) (sa:=sa+k) (sb:=sb) (e:=sb+m) (by lia) (by lia) (by lia) hG.1
  have hat:∀ n,(wb (sa+k) out.toList.zipIdx (arrOf st))[n]? = if sa+k≤n∧n < sb+m then out[n - (sa+k)]? else (arrOf st)[n]?:=fun n=>by
   have:=zk3 (sa+k) out.toList 0 (arrOf st) n (by rw [bw]; lia)
   rw [bw,fE,hms,show sa+k+(sb+m - (sa+k))=sb+m by lia,bi] at this
   exact this
  have hfn:(failedOf (setArr (zak st1 g) (wb (sa+k) out.toList.zipIdx (arrOf st)))).isNone=true:=by
   show (failedOf st1).isNone=true
   rw [hB1.failed]
   rfl
  have harr:arrOf (zak st1 g)=arrOf st:=ha1
  show wpS _ _ _ _ (pure (failedOf (setArr (zak st1 g) (wb (sa+k) out.toList.zipIdx (arrOf (zak st1 g))))).isNone) Q (setArr (zak st1 g) (wb (sa+k) out.toList.zipIdx (arrOf (zak st1 g))))
  rw [harr,hfn]
  refine aw (h _ ⟨hperm.trans hB.perm,hB1.kind,hB1.failed⟩ hp1 (fun n hn=>?_) ?_)
  ·show (wb (sa+k) out.toList.zipIdx (arrOf st))[n]? = _
   rw [hat,if_neg (by lia)]
  ·show SIn val (wb (sa+k) out.toList.zipIdx (arrOf st)) sa (sb+nb)
   have hin:∀ n,sa+k≤n→n < sb+m→∃ q,sa+k≤q∧q < sb+m∧Vk val (wb (sa+k) out.toList.zipIdx (arrOf st)) n=Vk val (arrOf st) q:=fun n h1 h2=>by
    have ho:n - (sa+k) < out.size:=by lia
    have ho2:out[n - (sa+k)]? = some out[n - (sa+k)]:=getElem?_pos out _ ho
    have hmem:out[n - (sa+k)]∈((arrOf st).extract (sa+k) sb).toList++((arrOf st).extract sb (sb+m)).toList:=hG.1.mem_iff.mp (by simp)
    have hv:Vk val (wb (sa+k) out.toList.zipIdx (arrOf st)) n=val out[n - (sa+k)]:=zW (by rw [hat,if_pos ⟨h1,h2⟩,ho2])
    rcases aW.mp hmem with hmem | hmem
    ·obtain⟨q,q1,q2,q3⟩:=zd5 (by lia) hmem
     exact⟨q,q1,by lia,by rw [hv,zW q3]⟩
    ·obtain⟨q,q1,q2,q3⟩:=zd5 (by lia) hmem
     exact⟨q,by lia,q2,by rw [hv,zW q3]⟩
   have hout:∀ n,¬ (sa+k≤n∧n < sb+m)→Vk val (wb (sa+k) out.toList.zipIdx (arrOf st)) n=Vk val (arrOf st) n:=fun n hn=>z9 (by rw [hat,if_neg hn])
   intro p q h1 h2 h3
   by_cases hp:p < sa+k
   ·rw [hout p (by lia)]
    by_cases hq:q < sa+k
    ·rw [hout q (by lia)]
     exact sA p q h1 h2 (by lia)
    ·have key:∀ q',sa+k≤q'→q' < sb+nb→Vk val (arrOf st) p≤Vk val (arrOf st) q':=fun q' a1 a2=>by
      by_cases hq':q' < sb
      ·exact sA p q' h1 (by lia) (by lia)
      ·exact bW (lowA p h1 hp) (sB sb q' (by lia) (by lia) a2)
     by_cases hq2:q < sb+m
     ·obtain⟨q',q1,q2,q3⟩:=hin q (by lia) hq2
      rw [q3]
      exact key q' q1 (by lia)
     ·rw [hout q (by lia)]
      exact key q (by lia) h3
   ·by_cases hp2:p < sb+m
    ·by_cases hq2:q < sb+m
     ·have ho1:p - (sa+k) < out.size:=by lia
      have ho2:q - (sa+k) < out.size:=by lia
      rw [zW (p:=out[p - (sa+k)]) (by rw [hat,if_pos (by lia)]; exact getElem?_pos out _ ho1),zW (p:=out[q - (sa+k)]) (by rw [hat,if_pos (by lia)]; exact getElem?_pos out _ ho2)]
      by_cases hpq:p=q
      ·subst hpq
       exact bH _
      ·have:=cD.mp hG.2 (p - (sa+k)) (q - (sa+k)) (by simpa using ho1) (by simpa using ho2) (by lia)
       simpa using this
     ·obtain⟨p',p1,p2,p3⟩:=hin p (by lia) hp2
      rw [p3,hout q (by lia)]
      by_cases hp':p' < sb
      ·exact bW (sA p' (sa+na - 1) (by lia) (by lia) (by lia)) (highB q (by lia) h3)
      ·exact sB p' q (by lia) (by lia) h3
    ·rw [hout p (by lia),hout q (by lia)]
     exact sB p q (by lia) h2 h3
 have ma:∀ p∈((arrOf st).extract (sa+k) sb).toList,p∈a₀.toList:=fun p hp=>by
  obtain⟨q,q1,q2,q3⟩:=zd5 (by lia) hp
  obtain⟨p',e,m'⟩:=memA q (by lia)
  rw [q3] at e
  cases e
  exact m'
 have mb:∀ p∈((arrOf st).extract sb (sb+m)).toList,p∈a₀.toList:=fun p hp=>by
  obtain⟨q,q1,q2,q3⟩:=zd5 (by lia) hp
  obtain⟨p',e,m'⟩:=memA q (by lia)
  rw [q3] at e
  cases e
  exact m'
 have ss1:=ziL (val:=val) (xs:=arrOf st) (i:=sa+k) (j:=sb) (by lia) (sA.sub (by lia) (by lia))
 have ss2:=ziL (val:=val) (xs:=arrOf st) (i:=sb) (j:=sb+m) (by lia) (sB.sub (by lia) (by lia))
 by_cases hle:na - k≤m
 ·rw [if_pos hle]
  exact au (zjH (a:=(arrOf st).extract (sa+k) sb) (b:=(arrOf st).extract sb (sb+m)) hC hB1.kind ma mb ss1 ss2 (by lia) (by lia) hf hl fin)
 ·rw [if_neg hle]
  exact au (zjI (a:=(arrOf st).extract (sa+k) sb) (b:=(arrOf st).extract sb (sb+m)) hC hB1.kind ma mb ss1 ss2 (by lia) (by lia) hf hl fin)
end
end Srt
end
section
namespace Srt
open PySem PyProof.Rows
def Runs (val:Keyed→Int) (xs:Array Keyed):List (Nat×Nat×Nat)→Nat→Nat→Prop
 | [],lo,hi=>lo=hi
 | (s,n,_) :: r,lo,hi=>s=lo∧1≤n∧SIn val xs lo (lo+n)∧Runs val xs r (lo+n) hi
section
variable {val:Keyed→Int}
theorem Runs.le {xs:Array Keyed}:∀ {p:List (Nat×Nat×Nat)} {lo hi:Nat},Runs val xs p lo hi→lo+p.length≤hi
 | [],lo,hi,h=>by
  have h:lo=hi:=h
  simp only [iL]
  lia
 | (s,n,w) :: r,lo,hi,h=>by
  obtain⟨_,h1,_,h2⟩:=h
  have:=h2.le
  simp only [aX]
  lia
theorem Runs.append {xs:Array Keyed}:∀ {p q:List (Nat×Nat×Nat)} {lo hi:Nat},Runs val xs (p++q) lo hi↔∃ mid,Runs val xs p lo mid∧Runs val xs q mid hi
 | [],q,lo,hi=>⟨fun h=>⟨lo,rfl,h⟩,fun ⟨mid,h1,h2⟩=>by
   have h1:lo=mid:=h1
   subst h1
   exact h2⟩
 | (s,n,w) :: p,q,lo,hi=>by
  constructor
  ·rintro⟨h1,h2,h3,h4⟩
   obtain⟨mid,h5,h6⟩:=Runs.append.mp h4
   exact⟨mid,⟨h1,h2,h3,h5⟩,h6⟩
  ·rintro⟨mid,⟨h1,h2,h3,h5⟩,h6⟩
   exact⟨h1,h2,h3,Runs.append.mpr ⟨mid,h5,h6⟩⟩
theorem Runs.keep {xs ys:Array Keyed}:∀ {p:List (Nat×Nat×Nat)} {lo hi:Nat},Runs val xs p lo hi→(∀ k,lo≤k→k < hi→ys[k]? = xs[k]?)→Runs val ys p lo hi
 | [],lo,hi,h,_=>h
 | (s,n,w) :: p,lo,hi,h,e=>by
  obtain⟨h1,h2,h3,h4⟩:=h
  have:=h4.le
  refine⟨h1,h2,fun i j a b c=>?_,h4.keep fun k a b=>e k (by lia) b⟩
  rw [z9 (e i (by lia) (by lia)),z9 (e j (by lia) (by lia))]
  exact h3 i j a b c
theorem zk4 {α:Type} (p q:List α) (x y v:α):((p++x :: y :: q).toArray.setIfInBounds p.length v).eraseIdxIfInBounds (p.length+1)=(p++v :: q).toArray:=by
 simp [Array.eraseIdxIfInBounds]
 rw [List.eraseIdx_append_of_length_le (by lia),show p.length+1 - p.length=1 by lia]
 rfl
theorem zha {α:Type} (q:List α) (z:α) (f:α→α):(q++[z]).toArray.modify ((q++[z]).toArray.size - 1) f=(q++[f z]).toArray:=by
 apply Array.ext'
 simp
 induction q with
 | nil=>rfl
 | cons a q ih =>
  show (a :: (q++[z])).modify (q.length+1) f=a :: (q++[f z])
  rw [List.modify_succ_cons,ih]
theorem ziM {xs:Array Keyed} {p:List (Nat×Nat×Nat)} {n:Nat} (hl:p.length≤1) (hn:1≤n) (h:Runs val xs p 0 n):SIn val xs 0 n:=by
 match p,hl,h with
 | [],_,h =>
  have h:0=n:=h
  lia
 | [(a,b,c)],_,h =>
  obtain⟨_,_,h3,h4⟩:=h
  have h4:0+b=n:=h4
  rw [← h4]
  exact h3
 | _ :: _ :: _,hl,_=>simp at hl
theorem zjL {α:Type} {p:List α} {j:Nat} (h:j+2≤p.length):∃ pre x y post,p=pre++x :: y :: post∧pre.length=j:=by
 refine⟨p.take j,p[j],p[j+1],p.drop (j+2),?_,by rw [aA]; lia⟩
 have e1:=(b8 j p).symm
 rw [cA (show j < p.length by lia),cA (show j+1 < p.length by lia)] at e1
 exact e1
end
section
variable {prog:Program} {w:World} {A:Around} {E:Value→Shared→Prop} {s:Shared} {a₀:Array Keyed} {κ:SortKind} {val:Keyed→Int}
theorem zeB {st:SortSt} {pre post:List (Nat×Nat×Nat)} {x y:Nat×Nat×Nat} {hi:Nat} {Q:Bool→SortSt→Prop} (hC:Cmp prog w A s κ val a₀) (hB:SB κ a₀ st) (hp:pendingOf st=(pre++x :: y :: post).toArray) (hR:Runs val (arrOf st) (pre++x :: y :: post) 0 hi) (hhi:hi≤a₀.size)
  (h:∀ st' v,SB κ a₀ st'→pendingOf st'=(pre++v :: post).toArray→(∀ k,hi≤k→(arrOf st')[k]? = (arrOf st)[k]?)→Runs val (arrOf st') (pre++v :: post) 0 hi→Q true st') :
  wpS (model prog w) A E s (mergeAt' pre.length) Q st:=by
 obtain⟨sa,na,pw⟩:=x
 obtain⟨sb,nb,pw2⟩:=y
 obtain⟨mid,r1,r2⟩:=Runs.append.mp hR
 obtain⟨rfl,q1,q2,rfl,q4,q5,r3⟩:=r2
 have hle:=r3.le
 refine zjK (i:=pre.length) (sa:=sa) (na:=na) (pw:=pw) (sb:=sa+na) (nb:=nb) (pw2:=pw2) hC hB (by rw [hp]; simp) (by rw [hp]; simp) rfl q1 q4 (by lia) q2 q5 fun st' hB' hp' hk hs=>?_
 refine h st' (sa,na+nb,pw) hB' (by rw [hp',hp,zk4]) (fun k hk'=>hk k (by lia)) ?_
 refine Runs.append.mpr ⟨sa,r1.keep fun k _ b=>hk k (by lia),rfl,by lia,?_,?_⟩
 ·rw [← Nat.add_assoc]
  exact hs
 ·rw [← Nat.add_assoc]
  exact r3.keep fun k a b=>hk k (by lia)
theorem zms {n:Nat} {c:Prop} [Decidable c] (h:¬ n≤1):(if c then n - 2 - 1 else n - 2)+2≤n:=by
 by_cases hc:c
 ·rw [if_pos hc]
  lia
 ·rw [if_neg hc]
  lia
theorem zk5 {st:SortSt} {p:List (Nat×Nat×Nat)} {j hi:Nat} {Q:Bool→SortSt→Prop} (hj:j+2≤p.length) (hC:Cmp prog w A s κ val a₀) (hB:SB κ a₀ st) (hp:pendingOf st=p.toArray) (hR:Runs val (arrOf st) p 0 hi) (hhi:hi≤a₀.size)
  (h:∀ st' p',SB κ a₀ st'→pendingOf st'=p'.toArray→Runs val (arrOf st') p' 0 hi→p'.length+1=p.length→Q true st'):wpS (model prog w) A E s (mergeAt' j) Q st:=by
 obtain⟨pre,x,y,post,rfl,rfl⟩:=zjL hj
 exact zeB hC hB hp hR hhi fun st' v a b _ d=>h st' _ a b d (by simp only [ao,aX]; lia)
theorem zoc {st:SortSt} {Q:Unit→SortSt→Prop} (hC:Cmp prog w A s κ val a₀) (hB:SB κ a₀ st) (hp:pendingOf st = #[]) (h2:1≤a₀.size)
  (h:∀ st',SB κ a₀ st'→SIn val (arrOf st') 0 a₀.size→Q () st'):wpS (model prog w) A E s sortRuns' Q st:=by
 rw [sortRuns'_eq]
 refine au (eQ ?_)
 dsimp only
 rw [hB.size]
 generalize minRun' a₀.size a₀.size 0=mr
 refine au (cZ (bV (I:=fun x c st'=>∃ lo p,c=(none,lo)∧SB κ a₀ st'∧pendingOf st'=p.toArray∧Runs val (arrOf st') p 0 lo∧lo≤a₀.size∧min x a₀.size≤lo)
  (Q:=fun c st'=>∃ p,c=(none,a₀.size)∧SB κ a₀ st'∧pendingOf st'=p.toArray∧Runs val (arrOf st') p 0 a₀.size) ?step ?fin ⟨0,[],rfl,hB,hp,rfl,by lia,by lia⟩) ?post)
 case fin =>
  rintro c st' ⟨lo,p,rfl,hB',hp',hR,hlo,hx⟩
  have:lo=a₀.size:=by lia
  subst this
  exact⟨p,rfl,hB',hp',hR⟩
 case step =>
  rintro x c st' _ hx ⟨lo,p,rfl,hB',hp',hR,hlo,hxl⟩
  dsimp only
  by_cases hge:lo≥a₀.size
  ·rw [if_pos hge]
   have:lo=a₀.size:=by lia
   subst this
   exact aw ⟨p,rfl,hB',hp',hR⟩
  rw [if_neg hge]
  refine au (zmn hC (by lia) (by lia) (SF.refl hB') fun m st1 hF1 hm1 hm2 hs1=>?_)
  dsimp only
  by_cases hmr:m < mr
  ·rw [if_pos hmr]
   (refine au (gu (cg ⟨rfl,?_⟩)))
   refine au (zo0 hC (by lia) (by lia) hF1 hs1 fun st2 hF2 hs2=>?_)
   rw [if_neg (by decide)]
   have hn1:1≤min (a₀.size - lo) mr:=by lia
   have hn2:lo+min (a₀.size - lo) mr≤a₀.size:=by lia
   generalize min (a₀.size - lo) mr=n at hs2 hn1 hn2 ⊢
   refine au (eQ ?_)
   have hp1:pendingOf st2=p.toArray:=hF2.pend.trans hp'
   have hR1:Runs val (arrOf st2) p 0 lo:=hR.keep fun k _ b=>hF2.low k b
   rcases eU p with rfl | ⟨q,z,rfl⟩
   ·rw [hp1]
    show wpS _ _ _ _ (do
     modify fun s=>setPending s ((pendingOf s).push (lo,n,0)); pure (cn (none,lo+n))) _ _
    refine au (dH (aw ⟨lo+n,[(lo,n,0)],rfl,⟨hF2.b.perm,hF2.b.kind,hF2.b.failed⟩,?_,?_,by lia,by lia⟩))
    ·show (pendingOf st2).push _=_
     rw [hp1]
     rfl
    ·have h0:0=lo:=hR1
     subst h0
     exact⟨rfl,hn1,hs2,rfl⟩
   obtain⟨s1,n1,w1⟩:=z
   rw [hp1,db,show ((q++[(s1,n1,w1)]).toArray).back? = some (s1,n1,w1) by simp]
   rw [db] at hp1 hR1
   dsimp only
   generalize power' a₀.size (2*s1+n1) (2*s1+n1+n1+n) a₀.size=pw
   refine au (cZ (bV (I:=fun _ c st'=>c=(none,())∧∃ q' z,SB κ a₀ st'∧pendingOf st'=(q'++[z]).toArray∧Runs val (arrOf st') (q'++[z]) 0 lo∧(∀ k,lo≤k→(arrOf st')[k]? = (arrOf st2)[k]?))
    (Q:=fun c st'=>c=(none,())∧∃ q' z,SB κ a₀ st'∧pendingOf st'=(q'++[z]).toArray∧Runs val (arrOf st') (q'++[z]) 0 lo∧(∀ k,lo≤k→(arrOf st')[k]? = (arrOf st2)[k]?)) ?_ (fun _ _ hh=>hh) ⟨rfl,q,(s1,n1,w1),hF2.b,hp1,hR1,fun _ _=>rfl⟩) ?_)
   ·rintro x2 c st2 _ hx2 ⟨rfl,q',z,hB2,hp2,hR2,hk2⟩
    refine au (eQ ?_)
    rcases eU q' with rfl | ⟨q2,y,rfl⟩
    ·rw [hp2,if_neg (by simp)]
     exact aw ⟨rfl,[],z,hB2,hp2,hR2,hk2⟩
    rw [db,a8] at hp2 hR2
    have esz:(pendingOf st2).size - 2=q2.length:=by rw [hp2]; simp
    have eel:(if (pendingOf st2).size > 1 then (pendingOf st2)[(pendingOf st2).size - 2]? else none)=some y:=by
     rw [if_pos (by rw [hp2]; simp),esz,hp2]
     simp
    rw [eel]
    obtain⟨y1,y2,y3⟩:=y
    dsimp only
    by_cases ho:y3≤pw
    ·rw [if_pos ho]
     exact aw ⟨rfl,q2++[(y1,y2,y3)],z,hB2,by rw [hp2,a8],by rw [a8]; exact hR2,hk2⟩
    ·rw [if_neg ho,esz]
     refine au (zeB hC hB2 hp2 hR2 (by lia) fun st3 v hB3 hp3 hk3 hR3=>?_)
     rw [if_neg (by decide)]
     exact aw ⟨rfl,q2,v,hB3,hp3,hR3,fun k hk=>(hk3 k hk).trans (hk2 k hk)⟩
   ·rintro c st2 ⟨rfl,q',z,hB2,hp2,hR2,hk2⟩
    obtain⟨z1,z2,z3⟩:=z
    dsimp only
    refine au (dH (au (dH (aw ⟨lo+n,q'++[(z1,z2,pw),(lo,n,0)],rfl,⟨hB2.perm,hB2.kind,hB2.failed⟩,?_,?_,by lia,by lia⟩))))
    ·show ((pendingOf st2).modify ((pendingOf st2).size - 1) fun x=>(x.fst,x.2.fst,pw)).push (lo,n,0)=_
     rw [hp2,zha]
     simp
    ·show Runs val (arrOf st2) _ _ _
     obtain⟨mid,r1,r2⟩:=Runs.append.mp hR2
     obtain⟨e1,e2,e3,e4⟩:=r2
     have e4:mid+z2=lo:=e4
     refine Runs.append.mpr ⟨mid,r1,e1,e2,e3,e4.symm,hn1,?_,?_⟩
     ·intro i j a1 a2 a3
      rw [z9 (hk2 i (by lia)),z9 (hk2 j (by lia))]
      exact hs2 i j (by lia) a2 (by lia)
     ·show mid+z2+n=lo+n
      lia
  ·rw [if_neg hmr]
   have hn2:lo+m≤a₀.size:=by lia
   refine au (eQ ?_)
   have hp1:pendingOf st1=p.toArray:=hF1.pend.trans hp'
   have hR1:Runs val (arrOf st1) p 0 lo:=hR.keep fun k _ b=>hF1.low k b
   rcases eU p with rfl | ⟨q,z,rfl⟩
   ·rw [hp1]
    show wpS _ _ _ _ (do
     modify fun s=>setPending s ((pendingOf s).push (lo,m,0))
     pure (cn (none,lo+m))) _ _
    refine au (dH (aw ⟨lo+m,[(lo,m,0)],rfl,⟨hF1.b.perm,hF1.b.kind,hF1.b.failed⟩,?_,?_,by lia,by lia⟩))
    ·show (pendingOf st1).push _=_
     rw [hp1]
     rfl
    ·have h0:0=lo:=hR1
     subst h0
     exact⟨rfl,hm1,hs1,rfl⟩
   obtain⟨s1,n1,w1⟩:=z
   rw [hp1,db,show ((q++[(s1,n1,w1)]).toArray).back? = some (s1,n1,w1) by simp]
   rw [db] at hp1 hR1
   dsimp only
   generalize power' a₀.size (2*s1+n1) (2*s1+n1+n1+m) a₀.size=pw
   refine au (cZ (bV (I:=fun _ c st'=>c=(none,())∧∃ q' z,SB κ a₀ st'∧pendingOf st'=(q'++[z]).toArray∧Runs val (arrOf st') (q'++[z]) 0 lo∧(∀ k,lo≤k→(arrOf st')[k]? = (arrOf st1)[k]?))
    (Q:=fun c st'=>c=(none,())∧∃ q' z,SB κ a₀ st'∧pendingOf st'=(q'++[z]).toArray∧Runs val (arrOf st') (q'++[z]) 0 lo∧(∀ k,lo≤k→(arrOf st')[k]? = (arrOf st1)[k]?)) ?_ (fun _ _ hh=>hh) ⟨rfl,q,(s1,n1,w1),hF1.b,hp1,hR1,fun _ _=>rfl⟩) ?_)
   ·rintro x2 c st2 _ hx2 ⟨rfl,q',z,hB2,hp2,hR2,hk2⟩
    refine au (eQ ?_)
    rcases eU q' with rfl | ⟨q2,y,rfl⟩
    ·rw [hp2,if_neg (by simp)]
     exact aw ⟨rfl,[],z,hB2,hp2,hR2,hk2⟩
    rw [db,a8] at hp2 hR2
    have esz:(pendingOf st2).size - 2=q2.length:=by rw [hp2]; simp
    have eel:(if (pendingOf st2).size > 1 then (pendingOf st2)[(pendingOf st2).size - 2]? else none)=some y:=by
     rw [if_pos (by rw [hp2]; simp),esz,hp2]
     simp
    rw [eel]
    obtain⟨y1,y2,y3⟩:=y
    dsimp only
    by_cases ho:y3≤pw
    ·rw [if_pos ho]
     exact aw ⟨rfl,q2++[(y1,y2,y3)],z,hB2,by rw [hp2,a8],by rw [a8]; exact hR2,hk2⟩
    ·rw [if_neg ho,esz]
     refine au (zeB hC hB2 hp2 hR2 (by lia) fun st3 v hB3 hp3 hk3 hR3=>?_)
     rw [if_neg (by decide)]
     exact aw ⟨rfl,q2,v,hB3,hp3,hR3,fun k hk=>(hk3 k hk).trans (hk2 k hk)⟩
   ·rintro c st2 ⟨rfl,q',z,hB2,hp2,hR2,hk2⟩
    obtain⟨z1,z2,z3⟩:=z
    dsimp only
    refine au (dH (au (dH (aw ⟨lo+m,q'++[(z1,z2,pw),(lo,m,0)],rfl,⟨hB2.perm,hB2.kind,hB2.failed⟩,?_,?_,by lia,by lia⟩))))
    ·show ((pendingOf st2).modify ((pendingOf st2).size - 1) fun x=>(x.fst,x.2.fst,pw)).push (lo,m,0)=_
     rw [hp2,zha]
     simp
    ·show Runs val (arrOf st2) _ _ _
     obtain⟨mid,r1,r2⟩:=Runs.append.mp hR2
     obtain⟨e1,e2,e3,e4⟩:=r2
     have e4:mid+z2=lo:=e4
     refine Runs.append.mpr ⟨mid,r1,e1,e2,e3,e4.symm,hm1,?_,?_⟩
     ·intro i j a1 a2 a3
      rw [z9 (hk2 i (by lia)),z9 (hk2 j (by lia))]
      exact hs1 i j (by lia) a2 (by lia)
     ·show mid+z2+m=lo+m
      lia
 case post =>
  rintro c st1 ⟨p,rfl,hB1,hp1,hR1⟩
  dsimp only
  have hpl:=hR1.le
  refine au (cZ (bV (I:=fun x c st'=>c=(none,())∧∃ p,SB κ a₀ st'∧pendingOf st'=p.toArray∧Runs val (arrOf st') p 0 a₀.size∧p.length≤max 1 (a₀.size - x))
   (Q:=fun c st'=>c=(none,())∧SB κ a₀ st'∧SIn val (arrOf st') 0 a₀.size) ?_ ?_ ⟨rfl,p,hB1,hp1,hR1,by lia⟩) ?_)
  ·rintro x c st2 _ hx ⟨rfl,p2,hB2,hp2,hR2,hl2⟩
   refine au (eQ ?_)
   have hsz:(pendingOf st2).size=p2.length:=by rw [hp2]; simp
   rw [hsz]
   by_cases hle:p2.length≤1
   ·rw [if_pos hle]
    exact aw ⟨rfl,hB2,ziM hle h2 hR2⟩
   rw [if_neg hle]
   refine au (zk5 (p:=p2) (zms hle) hC hB2 hp2 hR2 (af _) fun st3 p3 hB3 hp3 hR3 hl3=>?_)
   rw [if_neg (by decide)]
   exact aw ⟨rfl,p3,hB3,hp3,hR3,by lia⟩
  ·rintro c st2 ⟨rfl,p2,hB2,hp2,hR2,hl2⟩
   exact⟨rfl,hB2,ziM (by lia) h2 hR2⟩
  ·rintro c st2 ⟨rfl,hB2,hS⟩
   exact aw (h st2 hB2 hS)
end
end Srt
end
section
namespace Srt
open PySem PyProof.Rows
def num (B:Int):List Int→Int
 | []=>0
 | n :: r=>n*B ^ r.length+num B r
theorem num_rng {B:Int} (hB:1≤B):∀ {ns:List Int},(∀ n∈ns,0≤n∧n < B)→0≤num B ns∧num B ns < B ^ ns.length
 | [],_=>by simp [num]
 | n :: r,h=>by
  obtain⟨h1,h2⟩:=num_rng hB (ns:=r) fun m hm=>h m (av _ hm)
  obtain⟨a,b⟩:=h n (by simp)
  have hp:0 < B ^ r.length:=Int.pow_pos (by lia)
  have e:B ^ (n :: r).length=B ^ r.length*B:=by rw [aX,fF]
  show 0≤n*B ^ r.length+num B r∧n*B ^ r.length+num B r < _
  rw [e]
  have h3:0≤n*B ^ r.length:=kA a (by lia)
  have h4:n*B ^ r.length≤(B - 1)*B ^ r.length:=dr (by lia) (by lia)
  have h5:(B - 1)*B ^ r.length=B ^ r.length*B - B ^ r.length:=by rw [Int.sub_mul,gA,d8]
  lia
def zhb:List Int→List Int→Bool
 | [],[]=>false
 | [],_ :: _=>true
 | _ :: _,[]=>false
 | x :: xs,y :: ys=>if x=y then zhb xs ys else decide (x < y)
theorem zcD (x y:Int) (xs ys:List Int):zhb (x :: xs) (y :: ys)=if x=y then zhb xs ys else decide (x < y):=rfl
theorem ziN {B:Int} (hB:1≤B):∀ {ms ns:List Int},ms.length=ns.length→(∀ n∈ms,0≤n∧n < B)→(∀ n∈ns,0≤n∧n < B)→zhb ms ns=decide (num B ms < num B ns)
 | [],[],_,_,_=>by simp [zhb,num]
 | [],_ :: _,h,_,_=>by simp at h
 | _ :: _,[],h,_,_=>by simp at h
 | m :: ms,n :: ns,hl,h1,h2=>by
  have hl':ms.length=ns.length:=by simpa using hl
  have ih:=ziN hB hl' (fun x hx=>h1 x (av _ hx)) (fun x hx=>h2 x (av _ hx))
  obtain⟨a1,a2⟩:=num_rng hB fun x hx=>h1 x (av m hx)
  obtain⟨b1,b2⟩:=num_rng hB fun x hx=>h2 x (av n hx)
  rw [zcD]
  show _=decide (m*B ^ ms.length+num B ms < n*B ^ ns.length+num B ns)
  rw [hl'] at a2 ⊢
  have hp:0 < B ^ ns.length:=Int.pow_pos (by lia)
  by_cases e:m=n
  ·rw [if_pos e,ih,e]
   rw [cm]
   simp only [decide_eq_true_eq]
   lia
  ·rw [if_neg e,cm]
   simp only [decide_eq_true_eq]
   have key:∀ x y:Int,x < y→x*B ^ ns.length+B ^ ns.length≤y*B ^ ns.length:=fun x y hxy=>by
    have:=dr (show x+1≤y by lia) (show 0≤B ^ ns.length by lia)
    rw [Int.add_mul,gA] at this
    exact this
   constructor
   ·intro h
    have:=key m n h
    lia
   ·intro h
    rcases jQ m n with h3 | h3 | h3
    ·exact h3
    ·exact absurd h3 e
    ·have:=key n m h3
     lia
section
variable {prog:Program} {w:World} {A:Around} {E:Value→Shared→Prop} {s:Shared}
theorem ziO {Q:Bool→Shared→Prop} {fin:Bool}:∀ {xs ys:List Value} {ms ns:List Int} (i:Nat),IntsAre xs ms→IntsAre ys ns→ms.length=ns.length→Q (if ms=ns then fin else zhb ms ns) s→PySem.W.KatLex prog w A true fin Q (xs.zip ys) i s
 | [],[],[],[],i,_,_,_,h=>PySem.W.kat_nil (by simpa using h)
 | _ :: _,_,[],_,_,hx,_,_,_=>by cases hx
 | [],_,_ :: _,_,_,hx,_,_,_=>by cases hx
 | _,[],_,_ :: _,_,_,hy,_,_=>by cases hy
 | _,_ :: _,_,[],_,_,hy,_,_=>by cases hy
 | x :: xs,y :: ys,m :: ms,n :: ns,i,hx,hy,hl,h=>by
  cases hx with
  | cons _ t hx =>
   cases hy with
   | cons _ u hy =>
    refine PySem.W.kat_cons (wpAny_eqBool_int ?_)
    by_cases e:m=n
    ·rw [show (m == n)=true by simpa using e]
     refine PySem.W.kat_yes (ziO (i+1) hx hy (by simpa using hl) ?_)
     subst e
     rw [zcD,if_pos rfl] at h
     simpa using h
    ·rw [show (m == n)=false by simpa using e]
     have hne:¬ (m :: ms=n :: ns):=fun z=>e (jm z).1
     rw [if_neg hne,zcD,if_neg e] at h
     refine PySem.W.kat_no ?_
     by_cases hi:i=0
     ·subst hi
      exact oneLt_int h
     ·have hb:(true && i == 0)=false:=by simp [hi]
      rw [hb]
      exact PySem.W.kat_one _ _ (wpAny_lt_int h)
end
end Srt
end
section
namespace PySem
open PyProof.Rows
def zdO (h:Heap) (d:Addr) (es:Array DictEntry) (ep:Nat):Prop:=∃ o,h.get? d=some o∧o.ExactDict∧o.data = .dict es ep
theorem zdO.at' {h h':Heap} {d:Addr} {es:Array DictEntry} {ep:Nat} (x:zdO h d es ep) (e:∀ o,h.get? d=some o→h'.get? d=some o):zdO h' d es ep:=let ⟨o,ho,r⟩:=x; ⟨o,e _ ho,r⟩
theorem zdO.typeIs {s:Shared} {d:Addr} {es:Array DictEntry} {ep:Nat} (x:zdO s.heap d es ep):s.TypeIs (.ref d) "dict":=let ⟨o,ho,hc,_⟩:=x; ⟨o,ho,hc.1⟩
section
variable {prog:Program} {w:World} {A:Around} {E:Value→Shared→Prop} {s:Shared} {it d:Addr} {i ep:Nat} {es:Array DictEntry}
theorem zhc {Q:Value→Shared→Prop} (hd:(d == sysModules)=false) (hm:zdO s.heap d es ep) (hQ:Q (.ref s.heap.objs.size) { s with heap:=s.heap.push { cls:=.type "dict_keyiterator",data:=.fields #[.ref d,.int 0 0,.int es.size 0,.int ep 0] } }):wpAny (model prog w) A (pyIter (.ref d)) Q E s:=by
 have hT:=hm.typeIs
 obtain⟨o,ho,hc,hdat⟩:=id hm
 refine gW hT j8 (bu j8 hT F.entry_dict_iter ?_ (F.args_dict_iter_1 _)); unfold Builtin.«dict.__iter__» Builtin.Dict.dictSlotNone
 refine ae (ae (i6 hT ?_)); show wpAny _ _ (pure (bb d)) _ _ s
 refine ak ?_; show wpAny _ _ (i7 d >>= _) _ _ s; unfold i7
 rw [if_neg (show ¬ ((d == sysModules)=true) by rw [hd]; decide)]
 refine ae (ak (ae (g7 ho hdat (ae (iM ho hdat (ae (bM (ak ⟨_,rfl,"dict_keyiterator",_,⟨_,aI _ rfl,rfl⟩,F.slot_dict_keyiterator_next.lookup,?_⟩))))))))
 simpa [rawInt] using hQ
theorem zhd {e:DictEntry} {Q:Option Value→Shared→Prop} (hit:s.heap.IsKeyIter it d i es.size ep) (hm:zdO s.heap d es ep) (he:es[i]? = some e)
  (hQ:∀ h',h'.IsKeyIter it d (i+1) es.size ep→bj it s.heap h'→Q (some e.key) { s with heap:=h' }):wpAny (model prog w) A (pyNext (.ref it)) Q E s:=by
 (obtain⟨o,ho,hc,hd⟩:=id hit)
 obtain⟨od,hod,hcd,hdd⟩:=id hm
 have hlt:i < es.size:=(cV.mp he).1
 have hown:gv "dict_keyiterator" = false:=by decide +kernel
 unfold pyNext; refine ae (cU (bh (name:=bN "__next__") hit.typeIs dD (bu dD hit.typeIs gj ?_ (gg _))))
 refine ae (ak (ae (ae (ae (dA hit.typeIs (ak (ae (wpAny_fieldsOf ho hd ?_))))))))
 simp only [hown,bn,if_false]; show wpAny _ _ (if (bb d == dE)=true then _ else _) _ _ s
 rw [if_neg (show ¬ ((bb d == dE)=true) from fun z=>aN z)]
 refine ae (ak (ae (g7 hod hdd ?_)))
 rw [if_neg (show ¬ ((((es.size:Nat):Int) != ((es.size:Nat):Int))=true) by simp)]
 refine ae (ak (ae (iM hod hdd ?_)))
 rw [if_neg (by simp)]; refine ak ?_
 simp only [show ¬ ((i:Int) < 0) by lia,if_false,bm,he]
 refine ae (ae (dA hit.typeIs (ak (ae (i8 hit.typeIs ?_)))))
 show wpAny _ _ (setField (.ref it) 1 (rawInt ((i:Int)+1)) >>= _) _ _ s; refine ae (dX ho hd (by simp) ?_)
 have hit':(s.heap.update it (gN (·.setIfInBounds 1 (rawInt ((i:Int)+1))))).IsKeyIter it d (i+1) es.size ep:=⟨_,dN _ ho (eJ (c7 hd _)),(gV ..).trans hc,by rw [c7 hd]; simp [rawInt]⟩
 refine ae (bQ (ae (i8 (s:={ s with heap:=s.heap.update it (gN (·.setIfInBounds 1 (rawInt ((i:Int)+1)))) }) hit'.typeIs ?_)))
 show wpAny _ _ (pure e.key) _ _ _; exact ak (ak ⟨_,rfl,ak (hQ _ hit' (cN ..))⟩)
theorem ziP {Q:Option Value→Shared→Prop} (hh:A.handled=none) (hit:s.heap.IsKeyIter it d i es.size ep) (hm:zdO s.heap d es ep) (he:es.size≤i) (hQ:∀ h',jU it s.heap h'→Q none { s with heap:=h' }):wpAny (model prog w) A (pyNext (.ref it)) Q E s:=by
 (obtain⟨o,ho,hc,hd⟩:=id hit)
 obtain⟨od,hod,hcd,hdd⟩:=id hm
 have hown:gv "dict_keyiterator" = false:=by decide +kernel
 unfold pyNext; refine ae (cU (bh (name:=bN "__next__") hit.typeIs dD (bu dD hit.typeIs gj ?_ (gg _))))
 refine ae (ak (ae (ae (ae (dA hit.typeIs (ak (ae (wpAny_fieldsOf ho hd ?_))))))))
 simp only [hown,bn,if_false]; show wpAny _ _ (if (bb d == dE)=true then _ else _) _ _ s
 rw [if_neg (show ¬ ((bb d == dE)=true) from fun z=>aN z)]
 refine ae (ak (ae (g7 hod hdd ?_)))
 rw [if_neg (show ¬ ((((es.size:Nat):Int) != ((es.size:Nat):Int))=true) by simp)]
 refine ae (ak (ae (iM hod hdd ?_)))
 rw [if_neg (by simp)]; refine ak ?_
 simp only [show ¬ ((i:Int) < 0) by lia,if_false,bm,Array.getElem?_eq_none he]
 refine ae (ae (dA hit.typeIs (ak ?_)))
 show wpAny _ _ (setField (.ref it) 0 .none >>= _) _ _ s; refine ae (dX ho hd (by simp) ?_)
 show wpAny _ _ (newExc (.type "StopIteration") [] >>= _) _ _ _; simp only [newExc,newTuple]
 refine ae (ae (bM (ae (m:=firstArgMember _ _) (dG (a:=dE) (by first | rfl | (simp only [firstArgMember]; rfl)) (bM ?_ (by size_fits)))) (by size_fits)))
 simp only [raiseNew]; refine ae (jk ?_); rw [show A.in1.handled=none from hh]
 refine ae (ak (jV ?_)); refine ae (eZ (T:="StopIteration") (b:=true) ⟨_,aI _ rfl,rfl⟩ gp ?_)
 (exact ak (hQ _ (((cN ..).extBut.push _).push _)))
theorem zjM (hh:A.handled=none) (I d:Addr) (hne:d≠I) (es:Array DictEntry) (ep:Nat) :
  Walks prog w A I [I,d] [I] es.size (fun i v=>∃ e,es[i]? = some e∧v=e.key) (fun i h=>h.IsKeyIter I d i es.size ep∧zdO h d es ep) where
 sub:=(fun b hb=>by simp at hb; simp [hb])
 frame:=(fun _ _ _ st hk=>⟨st.1.at fun o e=>hk I (by simp) o e,st.2.at' fun o e=>hk d (by simp) o e⟩)
 item:=fun i s Q E hi st hQ=>zhd st.1 st.2 (getElem?_pos es i hi) fun h' hit' hs'=>hQ _ h' s.toks ⟨es[i],getElem?_pos es i hi,rfl⟩ ⟨hit',st.2.at' fun o e=>hs'.extBut d o hne e⟩ fun b o hb e=>hs'.extBut b o (fun h=>hb (by simp [h])) e
 done:=fun s Q E st hQ=>ziP hh st.1 st.2 (af _) fun h' he'=>hQ h' s.toks fun b o hb e=>he' b o (fun h=>hb (by simp [h])) e
 self:=(fun _ _ _ _ st hQ=>jh st.1 hQ)
theorem zmt (lo:(d == sysModules)=false):PySem.W.KdlSrc prog w "dict" d d es.size (fun i v=>∃ e,es[i]? = some e∧v=e.key) (fun h=>zdO h d es ep) where
 type:=fun _ hm=>hm.typeIs
 there:=fun _ hm=>let ⟨_,ho,_⟩:=hm; ⟨aJ ho,aJ ho⟩
 keep:=(fun _ _ hm hk=>hm.at' fun o e=>hk d (.inl rfl) o e)
 notList:=by decide
 notTuple:=by decide
 hint:=fun _ _ _ _ hm hq=>PySem.W.kdl_hint_dict hm.typeIs hq
 iter:=fun _ _ hh hm=>⟨_,_,(fun _ _ hq=>zhc lo hm hq),zjM hh _ d (by obtain⟨_,ho,_⟩:=id hm; exact bt (aJ ho)) es ep,⟨⟨_,aI _ rfl,rfl,rfl⟩,hm.at' fun o e=>ai _ e⟩⟩
end
end PySem
end
section
namespace Srt
open PySem PyProof.Rows
section
variable {prog:Program} {w:World} {A:Around} {E:Value→Shared→Prop} {s:Shared} {κ:SortKind} {val:Keyed→Int}
theorem zdr {vs:List Value} {p:Keyed} (h:p∈(pairsOf vs).toList):p.1∈vs∧p.2=p.1:=by
 rw [i9] at h
 obtain⟨i,hi,e⟩:=eh h
 rw [List.getElem_zip] at e
 rw [← e]
 exact⟨f6 _,rfl⟩
theorem zod {vs:List Value} {xs:Array Keyed} (hp:xs.Perm (pairsOf vs)) (hs:SIn val xs 0 (pairsOf vs).size):(xs.map (·.2)).toList.Perm vs∧(xs.map (·.2)).toList.Pairwise fun x y=>val (x,x)≤val (y,y):=by
 (have hl:xs.toList.Perm (vs.zip vs):=by rw [← i9]; exact fe.mp hp)
 have hm:∀ p∈xs.toList,p=(p.2,p.2):=fun p hp'=>by
  have:=zdr (by rw [i9]; exact hl.mem_iff.mp hp')
  exact jZ this.2.symm rfl
 constructor
 ·rw [j9]
  refine (hl.map (·.2)).trans ?_
  rw [show (vs.zip vs).map (·.2)=vs from List.map_snd_zip (af _)]
 ·rw [j9,dz,cD]
  intro i j hi hj hij
  (have hi':i < xs.size:=by simpa using hi)
  (have hj':j < xs.size:=by simpa using hj)
  have h1:=hs i j (aY _) (by lia) (by rw [← hp.size_eq]; exact hj')
  rw [zW (getElem?_pos xs i hi'),zW (getElem?_pos xs j hj')] at h1
  have e1:=hm xs.toList[i] (f6 _)
  have e2:=hm xs.toList[j] (f6 _)
  rw [← e1,← e2]
  simpa using h1
theorem zjN {a:Addr} {vs:List Value} {n:Nat} {P:PySem.Fin→Shared→Prop} (ho:s.heap.get? a=some (seqObj "list" vs.toArray n)) (hlen:vs.length≤sizeLine)
  (hkind:∀ h',(∀ b o,b≠a→s.heap.get? b=some o→h'.get? b=some o)→2≤vs.length→∀ (Q:SortKind→Shared→Prop) (E:Value→Shared→Prop),Q κ { s with heap:=h' }→wpAny (model prog w) A (keyKind' vs.toArray) Q E { s with heap:=h' })
  (hcmp:∀ h',(∀ b o,b≠a→s.heap.get? b=some o→h'.get? b=some o)→Cmp prog w A { s with heap:=h' } κ val (pairsOf vs))
  (h:∀ out:Array Value,out.toList.Perm vs→(out.toList.Pairwise fun x y=>val (x,x)≤val (y,y))→P (.done (.ret .none)) { s with heap:=sortedHeap s.heap a vs out }):wpAny (model prog w) A (Builtin.«list.sort» ⟨[.ref a],[]⟩) P E s:=by
 rw [list_sort_plain]
 (have ha:a < s.heap.objs.size:=aJ ho)
 have hz:vs.toArray.size=vs.length:=aj
 refine ae (listItems_at ho rfl (ae (jn ho rfl ?_ (hsz:=by rw [hz]; exact hlen))))
 (obtain⟨e1,ho1⟩:∃ e1,(s.heap.update a (dj fun _=>#[])).get? a=some (seqObj "list" #[] e1):=⟨_,get?_update_seq ho (fun _=>#[])⟩)
 refine ae (jX ho1 rfl (ae (gt (ae (wpAny_newList (bQ ?_))) (hsz:=hlen))))
 have ho6:(((s.heap.update a (dj fun _=>#[])).push (seqObj "tuple" vs.toArray 0)).push (seqObj "list" #[] 0)).get? a=some (seqObj "list" #[] e1):=ai _ (ai _ ho1)
 have hk6:∀ b o,b≠a→s.heap.get? b=some o→(((s.heap.update a (dj fun _=>#[])).push (seqObj "tuple" vs.toArray 0)).push (seqObj "list" #[] 0)).get? b=some o:=fun b o hb e=>ai _ (ai _ ((Heap.get?_update_ne _ _ _ _ hb).trans e))
 (show wpAny (model prog w) A _ P E { s with heap:=((s.heap.update a (dj fun _=>#[])).push (seqObj "tuple" vs.toArray 0)).push (seqObj "list" #[] 0) })
 dsimp only
 have hcm:=hcmp _ hk6
 have fin:∀ st':SortSt,SB κ (pairsOf vs) st'∨(arrOf st'=pairsOf vs∧failedOf st'=none)→SIn val (arrOf st') 0 (pairsOf vs).size →
   P (.done (.ret .none)) { s with heap:=sortedHeap s.heap a vs ((arrOf st').map (·.2)) }:=fun st' hB hs=>by
  have hp:(arrOf st').Perm (pairsOf vs):=by
   rcases hB with hB | hB
   ·exact hB.perm
   ·rw [hB.1]
  obtain⟨b1,b2⟩:=zod hp hs
  exact h _ b1 b2
 (by_cases h2:vs.toArray.size < 2)
 ·rw [if_pos h2,if_pos h2]
  refine ae (ak ?_); rw [StateT.run_pure]; refine ae (ak ?_)
  dsimp only
  refine ae (jX ho6 rfl (ae (jn ho6 rfl ?_ (hsz2:=by rw [kB]; show (pairsOf vs).size≤_; rw [io]; lia))))
  (simp only [bne_self_eq_false,bn,if_false])
  refine ak (fin (kq general' (vs.toArray.zip vs.toArray) #[] 7 none) (.inr ⟨rfl,rfl⟩) fun i j _ hij hj=>?_)
  have e:i=j:=by rw [io] at hj; lia
  rw [e]
  exact bH _
 ·rw [if_neg h2,if_neg h2]
  refine ae (hkind _ hk6 (by lia) _ _ ?_)
  refine ae (cS (zoc (a₀:=pairsOf vs) (κ:=κ) (val:=val) (st:=kq κ (vs.toArray.zip vs.toArray) #[] 7 none) (Q:=fun _ st'=>SB κ (pairsOf vs) st'∧SIn val (arrOf st') 0 (pairsOf vs).size)
   hcm ⟨Array.Perm.refl _,rfl,rfl⟩ rfl (by rw [io]; lia) fun st' a1 a2=>⟨a1,a2⟩) ?_ fun _ _ e=>e)
  rintro⟨⟨⟩,st'⟩ s' ⟨rfl,hB,hs⟩
  dsimp only
  refine ae (jX ho6 rfl (ae (jn ho6 rfl ?_ (hsz2:=aZ (Nat.le_of_eq ((kB ..).trans (hB.perm.size_eq.trans (io _)))) (by lia)))))
  rw [hB.failed]
  (simp only [bne_self_eq_false,bn,if_false])
  exact ak (fin st' (.inl hB) hs)
theorem zjO {v:Value} {vs:List Value} {Q:Value→Shared→Prop} (hlen:vs.length≤sizeLine)
  (hcol:∀ R:List Value→Shared→Prop,(∀ (h':Heap) (tk:Nat),(∀ b o,s.heap.get? b=some o→h'.get? b=some o)→R vs { s with heap:=h',toks:=tk })→wpAny (model prog w) A.in1 (collect v) R E s)
  (hkind:∀ s',(∀ b o,s.heap.get? b=some o→s'.heap.get? b=some o)→2≤vs.length→∀ (A':Around) (Q:SortKind→Shared→Prop) (E:Value→Shared→Prop),Q κ s'→wpAny (model prog w) A' (keyKind' vs.toArray) Q E s')
  (hcmp:∀ s' A',(∀ b o,s.heap.get? b=some o→s'.heap.get? b=some o)→Cmp prog w A' s' κ val (pairsOf vs))
  (h:∀ (h':Heap) (tk:Nat) (out:Array Value) (e:Nat) (D:Addr),(∀ b o,s.heap.get? b=some o→h'.get? b=some o)→(∀ b o,s.heap.get? b=some o→b < D)→h'.get? D=some (seqObj "list" out e)→out.toList.Perm vs→(out.toList.Pairwise fun x y=>val (x,x)≤val (y,y))→Q (.ref D) { s with heap:=h',toks:=tk }) :
  wpAny (model prog w) A (call (.builtin "sorted") [v]) Q E s:=by
 refine Calls.call_function_entry kind_sorted plain_sorted entry_sorted (args_sorted1 _) ?_; unfold Builtin.«sorted»
 refine ae (m:=checkCount "sorted" 1 1 _) (ak (ae (cS (hcol (fun us s'=>us=vs∧∃ (h':Heap) (tk:Nat),s' = { s with heap:=h',toks:=tk }∧∀ b o,s.heap.get? b=some o→h'.get? b=some o) fun h' tk k=>⟨rfl,h',tk,rfl,k⟩) ?_ fun _ _ e=>e)))
 rintro us s' ⟨rfl,h1,tk,rfl,kk⟩
 refine ae (wpAny_newList ?_ (hsz:=hlen))
 have hoL:(h1.push (seqObj "list" us.toArray 0)).get? h1.objs.size=some (seqObj "list" us.toArray 0):=aI _ rfl
 have kn:∀ b o,s.heap.get? b=some o→b≠h1.objs.size:=fun b o e=>bt (aJ (kk b o e))
 refine ae (bQ (bu slot_list_sort ⟨_,hoL,rfl⟩ entry_list_sort (zjN (κ:=κ) (val:=val) hoL hlen (fun h' hk h2 Q E hq=>hkind _ (fun b o e=>hk b o (kn b o e) (ai _ (kk b o e))) h2 _ Q E hq) (fun h' hk=>hcmp _ _ fun b o e=>hk b o (kn b o e) (ai _ (kk b o e))) fun out a1 a2=>⟨_,rfl,?_⟩) (args_list_sort _)))
 obtain⟨e,he⟩:=sortedHeap_at (out:=out) hoL
 refine ak ⟨_,rfl,h _ tk out e h1.objs.size (fun b o x=>?_) (fun b o x=>aJ (kk _ _ x)) he a1 a2⟩
 rw [sortedHeap_old (kn b o x) (by rw [bL]; exact eE (aJ (kk _ _ x)))]
 exact ai _ (kk _ _ x)
end
end Srt
end
section
namespace L2
open PySem PySem.Spec PyProof.Rows PySem.Builtin.Str
end L2
end
section
namespace L2
open PySem PySem.Spec PyProof.Rows PySem.Builtin.Str
theorem Inv.above {X:Cx} {pins:List (Addr×Obj)} {σ:St} {H:Hp} {s:Shared} {h':Heap} {tk:Nat} {D:Addr} {o:HO} (I:Inv X pins σ H s) (k:∀ b o,s.heap.get? b=some o→h'.get? b=some o) (hD:∀ b o,s.heap.get? b=some o→b < D)
  (new:zao X.prog X.w (upd H D o) h' D o):H D=none∧Inv X pins σ (upd H D o) { s with heap:=h',toks:=tk }:=by
 have hn:H D=none:=by
  cases e:H D with
  | none=>rfl
  | some u =>
   obtain⟨ob,z⟩:=zn5 (I.hok D u e)
   exact absurd (hD D ob z) (cu _)
 have hL:X.env.locals < D:=by
  obtain⟨m,⟨o,es,ep,ho,_⟩,_⟩:=I.loc
  exact hD _ _ ho
 have I1:Inv X pins σ H { s with heap:=h',toks:=tk }:=I.kept k
 refine⟨hn,I1.track hn (fw (gG I.ok.above hL)) (bt hL) (fun x c e z=>?_) (fun p hp z=>?_) new⟩
 ·obtain⟨v,oc,q,_⟩:=I.cell x c e
  exact absurd (hD c oc q) (by rw [z]; exact cu _)
 ·exact absurd (hD p.1 _ (I.pin p hp).1) (by rw [z]; exact cu _)
end L2
end
section
namespace L2
open PySem PySem.Spec PyProof.Rows Srt
def zk6 (xs:List V):List Int:=xs.filterMap fun x=>match x with
 | .int n=>some n
 | _=>none
theorem zjP (ns:List Int):zk6 (ns.map V.int)=ns:=by
 unfold zk6
 rw [jA]
 induction ns with
 | nil=>rfl
 | cons n ns ih =>
  rw [ff]
  simp only [Function.comp]
  rw [ih]
def zdd (H:Hp) (v:Value):List Int:=match v with
 | .ref a=>(match H a with
  | some (.tup xs)=>zk6 xs
  | _=>[])
 | _=>[]
theorem zeC {H:Hp} {a:Addr} {ns:List Int} (h:H a=some (.tup (ns.map V.int))):zdd H (.ref a)=ns:=by
 unfold zdd
 simp only [h]
 exact zjP ns
def zmu (H:Hp) (k:Nat) (B:Int) (ps:List (Addr×List Int)):Prop:=∀ q∈ps,H q.1=some (.tup (q.2.map V.int))∧q.2.length=k∧∀ n∈q.2,0≤n∧n < B
theorem zde:∀ (ps:List (Addr×List Int)),zL (ps.map fun q=>V.ref q.1) (ps.map fun q=>bb q.1)
 | []=>.nil
 | q :: ps=>.cons rfl (zde ps)
section
variable {X:Cx} {pins:List (Addr×Obj)} {σ:St} {H:Hp} {s:Shared} {k:Nat} {B:Int} {ps:List (Addr×List Int)}
theorem zgb (I:Inv X pins σ H s) {q:Addr×List Int} (h:H q.1=some (.tup (q.2.map V.int))):∃ o its n,s.heap.get? q.1=some o∧o.cls = .type "tuple"∧o.data = .seq its n∧IntsAre its.toList q.2:=by
 obtain⟨its,r,⟨o,ho,hc,n,hd⟩,hz⟩:=I.tuple (SqT.of h)
 exact⟨o,its.toArray,n,ho,hc,hd,by simpa using intsAre_of r⟩
theorem zoe (I:Inv X pins σ H s) (hT:zmu H k B ps) (hk:1≤k) {s':Shared} (kk:∀ b o,s.heap.get? b=some o→s'.heap.get? b=some o):∃ fs:List Value,PySem.W.KatTups s'.heap (ps.map fun q=>bb q.1) fs∧fs.length=ps.length∧∀ v∈fs,∃ n t,v=iF n t:=by
 induction ps with
 | nil=>exact⟨[],trivial,rfl,fun v hv=>by cases hv⟩
 | cons q ps ih =>
  obtain⟨fs,h1,h2,h3⟩:=ih fun q' hq'=>hT q' (av _ hq')
  obtain⟨hq,hl,_⟩:=hT q (by simp)
  obtain⟨o,its,n,ho,hc,hd,hi⟩:=zgb I hq
  have hlen:=hi.length
  obtain⟨m,ms,e⟩:∃ m ms,q.2=m :: ms:=by
   cases e:q.2 with
   | nil=>rw [e] at hl; simp at hl; lia
   | cons m ms=>exact⟨m,ms,rfl⟩
  rw [e] at hi
  cases e2:its.toList with
  | nil=>rw [e2] at hi; cases hi
  | cons f fr =>
   rw [e2] at hi
   cases hi with
   | cons _ t hi =>
    refine⟨.int m t :: fs,kM (kk _ _ ho) hc hd ?_ h1,by simp [h2],fun v hv=>?_⟩
    ·rw [← bi,e2]
     rfl
    ·rcases (aD.mp hv) with rfl | hv
     ·exact⟨m,t,rfl⟩
     ·exact h3 v hv
theorem zfB:∀ ms:List Int,zhb ms ms=false
 | []=>rfl
 | m :: ms=>by rw [zcD,if_pos rfl,zfB ms]
theorem zof (I:Inv X pins σ H s) (hT:zmu H k B ps) (hB:1≤B) {s':Shared} {A':Around} (kk:∀ b o,s.heap.get? b=some o→s'.heap.get? b=some o) :
  Cmp X.prog X.w A' s' (tuples' true) (fun p=>num B (zdd H p.1)) (pairsOf (ps.map fun q=>bb q.1)):=by
 intro x y hx hy Q E hQ
 obtain⟨qx,mx,ex⟩:=aE.mp (zdr hx).1
 obtain⟨qy,my,ey⟩:=aE.mp (zdr hy).1
 obtain⟨hx1,hx2,hx3⟩:=hT qx mx
 obtain⟨hy1,hy2,hy3⟩:=hT qy my
 obtain⟨ox,ix,nx,gx,cx,dx,ax⟩:=zgb I hx1
 obtain⟨oy,iy,ny,gy,cy,dy,ay⟩:=zgb I hy1
 have ev:decide ((fun p:Keyed=>num B (zdd H p.1)) x < (fun p:Keyed=>num B (zdd H p.1)) y)=zhb qx.2 qy.2:=by
  rw [ziN hB (hx2.trans hy2.symm) hx3 hy3,← zeC hx1,← zeC hy1]
  simp only [ex,ey]
 rw [ev] at hQ
 rw [← ex,← ey]
 refine PySem.W.kat_lt (kk _ _ gx) dx (kk _ _ gy) dy (ziO 0 ax ay (hx2.trans hy2.symm) ?_)
 have hsz:decide (ix.size < iy.size)=false:=by
  have e1:=ax.length
  have e2:=ay.length
  rw [bw] at e1 e2
  exact decide_eq_false (by lia)
 rw [hsz]
 by_cases e:qx.2=qy.2
 ·rw [if_pos e]
  rw [e,zfB] at hQ
  exact hQ
 ·rw [if_neg e]
  exact hQ
theorem zk7 (hT:zmu H k B ps) {out:Array Value} (hp:out.toList.Perm (ps.map fun q=>bb q.1)) (hs:out.toList.Pairwise fun x y=>num B (zdd H x)≤num B (zdd H y)) :
  ∃ ps':List (Addr×List Int),ps'.Perm ps∧(ps'.Pairwise fun a b=>num B a.2≤num B b.2)∧out.toList=ps'.map fun q=>bb q.1:=by
 let g:Value→Addr×List Int:=fun v=>match v with
  | .ref a=>(a,zdd H (.ref a))
  | _=>(0,[])
 have hg:∀ q∈ps,g (.ref q.1)=q:=fun q hq=>jZ rfl (zeC (hT q hq).1)
 have hv:∀ v∈out.toList,∃ q∈ps,v = .ref q.1:=fun v hv=>by
  obtain⟨q,hq,e⟩:=aE.mp (hp.mem_iff.mp hv)
  exact⟨q,hq,e.symm⟩
 refine⟨out.toList.map g,?_,?_,?_⟩
 ·refine (hp.map g).trans ?_
  rw [bv]
  have:ps.map (g ∘ fun q=>bb q.1)=ps:=by
   conv=>rhs; rw [← jY ps]
   exact cj fun q hq=>hg q hq
  rw [this]
 ·rw [dz]
  refine fG (fun {x y} hx hy h=>?_) hs
  obtain⟨q,hq,rfl⟩:=hv x hx
  obtain⟨q',hq',rfl⟩:=hv y hy
  exact h
 ·rw [bv]
  conv=>lhs; rw [← jY out.toList]
  refine cj fun v hv'=>?_
  obtain⟨q,hq,rfl⟩:=hv v hv'
  rfl
end
theorem zjQ {M:Model} {h:Heap} {n:Int} {t:Tok}:PySem.W.Looks M h (typeOf (.int n t)) (.type "int"):=PySem.W.Looks.of_pure rfl
theorem zmv {X:Cx} {pins:List (Addr×Obj)} {σ:St} {H:Hp} {s:Shared} {d:Addr} {kvs:List (List Key×V)} {mss:List (List Int)} (I:Inv X pins σ H s) (hd:H d=some (.dT kvs)) (hk:kvs.map (·.1)=mss.map (·.map cM)) :
  (d == sysModules)=false∧kvs.length≤sizeLine∧∃ (ps:List (Addr×List Int)) (es:Array DictEntry) (ep:Nat),zdO s.heap d es ep∧es.toList.map (·.key)=(ps.map fun q=>bb q.1)∧ps.map (·.2)=mss∧∀ q∈ps,H q.1=some (.tup (q.2.map V.int)):=by
 obtain⟨hz,hs,xs,hp,o,es,ep,ho,hx,he,hes,hnd⟩:=I.hok d _ hd
 refine⟨hs,hz,?_⟩
 have key:∀ {kvs:List (List Key×V)} {xs:List (List Key×Addr×Value)} {mss:List (List Int)},Paired (fun (p:List Key×V) (q:List Key×Addr×Value)=>p.1=q.1∧H q.2.1=some (.tup (p.1.map kV))∧RelV p.2 q.2.2) kvs xs→kvs.map (·.1)=mss.map (·.map cM) →
   ∃ ps:List (Addr×List Int),xs.map (fun x=>bb x.2.1)=(ps.map fun q=>bb q.1)∧ps.map (·.2)=mss∧∀ q∈ps,H q.1=some (.tup (q.2.map V.int)):=by
  intro kvs xs mss hp
  induction hp generalizing mss with
  | nil =>
   intro e
   cases mss with
   | nil=>exact⟨[],rfl,rfl,fun q hq=>by cases hq⟩
   | cons m mss=>simp at e
  | @cons x y l1 l2 h1 h2 ih =>
   intro e
   cases mss with
   | nil=>simp at e
   | cons m mss =>
    rw [aU,aU] at e
    obtain⟨e1,e2⟩:=jm e
    obtain⟨ps,a1,a2,a3⟩:=ih e2
    obtain⟨_,h12,_⟩:=h1
    refine⟨(y.2.1,m) :: ps,by rw [aU,aU,a1],by rw [aU,a2],fun q hq=>?_⟩
    rcases (aD.mp hq) with rfl | hq
    ·rw [h12,e1,bv]
     rfl
    ·exact a3 q hq
 obtain⟨ps,a1,a2,a3⟩:=key hp hk
 refine⟨ps,es,ep,⟨o,ho,hx,he⟩,?_,a2,a3⟩
 rw [hes,bv,← a1]
 rfl
theorem zgc {X:Cx} (hc:X.calm=true):zbM X (.builtin "sorted") (fun xs H Q=>∃ (d:Addr) (k:Nat) (B:Int) (kvs:List (List Key×V)) (mss:List (List Int)),xs = [.ref d]∧H d=some (.dT kvs)∧kvs.map (·.1)=mss.map (·.map cM)∧(∀ ms∈mss,ms.length=k∧∀ n∈ms,0≤n∧n < B)∧1≤k∧1≤B ∧
  ∀ (l:Addr) (ps':List (Addr×List Int)),H l=none→(ps'.map (·.2)).Perm mss→(ps'.Pairwise fun a b=>num B a.2≤num B b.2)→(∀ q∈ps',H q.1=some (.tup (q.2.map V.int)))→Q (.ref l) (upd H l (.lst (ps'.map fun q=>V.ref q.1)))):=by
 intro pins s σ H xs us Q I r h
 obtain⟨d,k,B,kvs,mss,rfl,hd,hkm,hrg,hk,hB,q⟩:=h
 obtain⟨u,rfl,rx⟩:=vals1 r
 cases rx
 obtain⟨hs,hz,ps,es,ep,hraw,hek,hps,hH⟩:=zmv I hd hkm
 have hT:zmu H k B ps:=fun q' hq'=>⟨hH q' hq',hrg q'.2 (by rw [← hps]; exact fg hq')⟩
 have hlp:ps.length=kvs.length:=by
  have e1:=congrArg eC hps
  have e2:=congrArg eC hkm
  rw [ab] at e1
  rw [ab,ab] at e2
  lia
 have hes:es.size=ps.length:=by
  have:=congrArg eC hek
  rw [ab,ab,bw] at this
  exact this
 refine zjO (vs:=ps.map fun q=>bb q.1) (κ:=tuples' true) (val:=fun p=>num B (zdd H p.1)) (by rw [ab]; lia) (fun R hR=>?_) (fun s' kk h2 A' Q' E' hq'=>?_) (fun s' A' kk=>zof I hT hB kk) fun h' tk out e D kk hD hlst hp hs=>?_
 ·refine PySem.W.kdu_collect (zmt (es:=es) (ep:=ep) hs) (by simp [I.ok.hd hc]) hraw (by lia) fun h' tk acc kk hacc=>?_
  have:acc.toList=ps.map fun q=>bb q.1:=by
   rw [← hek]
   refine eF fun j=>?_
   by_cases hj:j < es.size
   ·have hja:j < acc.size:=by rw [hacc.1]; exact hj
    obtain⟨e',h1,h2⟩:=hacc.2 j acc[j] (getElem?_pos acc j hja)
    rw [bi,getElem?_pos acc j hja,ah,bi,h1,h2]
    rfl
   ·rw [b7 (by rw [bw,hacc.1]; lia),b7 (by rw [ab,bw]; lia)]
  rw [this]
  exact hR h' tk kk
 ·obtain⟨fs,k1,k2,k3⟩:=zoe I hT hk kk
  exact PySem.W.kat_kind (T:=.type "int") k1 (by rw [ab] at h2; lia) (fun v hv=>by obtain⟨n,t,rfl⟩:=k3 v hv; exact zjQ) rfl hq'
 ·obtain⟨ps',p1,p2,p3⟩:=zk7 hT hp hs
  have hl:=p1.length_eq
  obtain⟨hn,I2⟩:=I.above (tk:=tk) (D:=D) (o:=.lst (ps'.map fun q=>V.ref q.1)) kk hD ⟨by rw [ab]; lia,ps'.map fun q=>bb q.1,e,zde ps',by rw [← p3]; exact hlst⟩
  exact⟨.ref D,_,I2,rfl,q D ps' hn (by rw [← hps]; exact p1.map _) p2 fun q' hq'=>(hT q' (p1.mem_iff.mp hq')).1⟩
end L2
end
section
namespace L2
open PySem PySem.Spec PyProof.Rows
section
variable {X:Cx} {elt t1 i1 t2 i2:Expr} {f1 f2:List Expr} {scope:Scope} {pos:Pos} {N':List Str} {ix:List (Option Nat)} {js1 js2:List Nat} {g1 g2:TG} {ts1 ts2:TT} {te:TE} {wi1 wi2:TI}
theorem zk8 (hc:X.calm=true) (gs2:GS js2 g2) (hi2:∀ s₃ H₃ ex pins,PI (zI X N' scope s₃ H₃ ex pins) t2 i2 wi2)
  (hg2:∀ s₃ H₃ ex pins,PG (zI X N' scope s₃ H₃ ex pins) t2 g2) (ht2:∀ s₃ H₃ ex pins,zc4 (zI X N' scope s₃ H₃ ex pins) f2 ts2) (he:∀ s₃ H₃ ex pins,PE (zI X N' scope s₃ H₃ ex pins) elt te)
  (hs2:∀ s₃ H₃ ex pins x,foldedSetIterable i2 (zI X N' scope s₃ H₃ ex pins).env x=pure x) :
  ∀ s₃ H₃ ex pins D,PM (zI X N' scope s₃ H₃ ex pins) D js2 ((fun D env=>zis (.ListComp elt [⟨t1,i1,f1,0⟩,⟨t2,i2,f2,0⟩] scope pos) i2 1 (.ref D) env) D (zI X N' scope s₃ H₃ ex pins).env) (ziu wi2 g2 ts2 (zit te)):=by
 intro s₃ H₃ ex pins D
 have h:=znT (Y:=zI X N' scope s₃ H₃ ex pins) (D:=D) (js:=js2) (js':=[]) (elt:=elt) (gens:=[⟨t1,i1,f1,0⟩,⟨t2,i2,f2,0⟩]) (scope:=scope) (pos:=pos) (d:=1) (p:=i2.pos) hc rfl gs2 (fun _ _ z=>by cases z) (hi2 s₃ H₃ ex pins) (hg2 s₃ H₃ ex pins) (ht2 s₃ H₃ ex pins) (zhP rfl (he s₃ H₃ ex pins)) rfl (fun it=>znU it D _) (hs2 s₃ H₃ ex pins)
 rw [bO] at h
 exact h
theorem ziQ (SC:CompSc X N' ix scope) (hc:X.calm=true) (gs1:GS js1 g1) (gs2:GS js2 g2) (hdis:∀ j∈js1,j∉js2) (hjs:∀ j∈js1++js2,ix[j]? = some none) (hi1:PI X t1 i1 wi1)
  (hg1:∀ s₃ H₃ ex pins,PG (zI X N' scope s₃ H₃ ex pins) t1 g1) (ht1:∀ s₃ H₃ ex pins,zc4 (zI X N' scope s₃ H₃ ex pins) f1 ts1) (hi2:∀ s₃ H₃ ex pins,PI (zI X N' scope s₃ H₃ ex pins) t2 i2 wi2)
  (hg2:∀ s₃ H₃ ex pins,PG (zI X N' scope s₃ H₃ ex pins) t2 g2) (ht2:∀ s₃ H₃ ex pins,zc4 (zI X N' scope s₃ H₃ ex pins) f2 ts2) (he:∀ s₃ H₃ ex pins,PE (zI X N' scope s₃ H₃ ex pins) elt te)
  (hs:∀ x,foldedSetIterable i1 X.env x=pure x:=by intro _; rfl) (hs2:∀ s₃ H₃ ex pins x,foldedSetIterable i2 (zI X N' scope s₃ H₃ ex pins).env x=pure x:=by intros; rfl) :
  PE X (.ListComp elt [⟨t1,i1,f1,0⟩,⟨t2,i2,f2,0⟩] scope pos) (zfX ix wi1 g1 ts1 (ziu wi2 g2 ts2 (zit te))) :=
 zgO SC hc gs1 hdis hjs hi1 hg1 ht1 (zk8 hc gs2 hi2 hg2 ht2 he hs2) (fun it D env=>zkq it D env) hs
theorem zh0 {i:Nat} {x:Str} {pos' spos:Pos} (hN:X.N.Nodup) (hxi:X.N[i]? = some x) (hx:Loc X.env.scope x) (SC:CompSc X N' ix scope) (hc:X.calm=true) (gs1:GS js1 g1) (gs2:GS js2 g2) (hdis:∀ j∈js1,j∉js2) (hjs:∀ j∈js1++js2,ix[j]? = some none) (hi1:PI X t1 i1 wi1)
  (hg1:∀ s₃ H₃ ex pins,PG (zI X N' scope s₃ H₃ ex pins) t1 g1) (ht1:∀ s₃ H₃ ex pins,zc4 (zI X N' scope s₃ H₃ ex pins) f1 ts1) (hi2:∀ s₃ H₃ ex pins,PI (zI X N' scope s₃ H₃ ex pins) t2 i2 wi2)
  (hg2:∀ s₃ H₃ ex pins,PG (zI X N' scope s₃ H₃ ex pins) t2 g2) (ht2:∀ s₃ H₃ ex pins,zc4 (zI X N' scope s₃ H₃ ex pins) f2 ts2) (he:∀ s₃ H₃ ex pins,PE (zI X N' scope s₃ H₃ ex pins) elt te)
  (hsw:swapsWith (.ListComp elt [⟨t1,i1,f1,0⟩,⟨t2,i2,f2,0⟩] scope pos) (some (.Name x pos')) spos.line X.env=pure true:=by rfl)
  (hs:∀ x,foldedSetIterable i1 X.env x=pure x:=by intro _; rfl) (hs2:∀ s₃ H₃ ex pins x,foldedSetIterable i2 (zI X N' scope s₃ H₃ ex pins).env x=pure x:=by intros; rfl) (hf:X.fn x=true∨X.env.scope.names.lookup x=some .local:=by first | exact .inl rfl | exact .inr rfl | assumption) :
  PS X (.Assign [.Name x pos'] (.ListComp elt [⟨t1,i1,f1,0⟩,⟨t2,i2,f2,0⟩] scope pos) spos) (zhF (zfX ix wi1 g1 ts1 (ziu wi2 g2 ts2 (zit te))) (zaT i)) :=
 zdH hN hxi hx SC hc gs1 hdis hjs hi1 hg1 ht1 (zk8 hc gs2 hi2 hg2 ht2 he hs2) (fun it D env=>zkq it D env) hsw hs hf
end
theorem zfC {J:It} {n:Nat} {g:TG} {ts:TT} {tm:TM} {σ0:St} {Q:List V→Hp→Prop} {ys:List V} {H:Hp} (Pv:Nat→List V→Hp→Prop) (h0:Pv 0 ys H) (hgo:∀ i ys H,i < n→Pv i ys H→J.go i H) (hst:∀ ys H,Pv n ys H→J.stop n H)
  (hs:∀ i x ys H H',i < n→Pv i ys H→J.yld i H x H'→g x σ0 H' fun σ2 H2=>ts σ2 H2 fun b H3=>if b=true then tm ys σ2 H3 (Pv (i+1)) else Pv (i+1) ys H3)
  (hd:∀ ys H,Pv n ys H→Q ys H):cIn g ts tm σ0 J Q ys H:=by
 refine⟨fun i m ys H=>m=n - i∧i≤n∧Pv i ys H,⟨n,by simp,aY _,h0⟩,?_⟩
 rintro i m ys H ⟨rfl,hi,p⟩
 by_cases hlt:i < n
 ·exact .inr ⟨hgo i ys H hlt p,Pv (i+1),fun ys' H' p'=>⟨n - (i+1),by lia,rfl,hlt,p'⟩,fun x H' y=>hs i x ys H H' hlt p y⟩
 ·have e:i=n:=by lia
  subst e
  exact .inl ⟨hst ys H p,hd ys H p⟩
end L2
end
section
namespace L2
open PySem PySem.Spec PyProof.Rows
end L2
end
section
namespace L2
open PySem PySem.Spec PyProof.Rows
def zog (sc:Scope) (x:Str):Bool:=match sc.names.lookup x with
 | some .local=>true
 | some .cell=>true
 | some .free=>true
 | _=>false
theorem zmw {sc:Scope} {x:Str} (h:zog sc x=true):Vis sc x:=by
 unfold zog at h
 unfold Vis
 cases e:sc.names.lookup x with
 | none=>rw [e] at h; cases h
 | some k=>cases k <;> simp_all
def pvB (N:List Str) (sc:Scope) (i:Nat) (x:Str):Bool:=decide (N[i]? = some x) && zog sc x && !(x == ("__debug__" : Str)) && !(x == ("__classdict__" : Str))
theorem pvx {X:Cx} (i:Nat) {x:Str} {pos:Pos} (h:pvB X.N X.env.scope i x=true):PE X (.Name x pos) (zoz i):=by
 unfold pvB at h
 simp only [dY,Bool.not_eq_true',decide_eq_true_eq] at h
 exact znA h.1.1.1 (zmw h.1.1.2) h.1.2 h.2
end L2
end
section
namespace My
open PySem L2 PyProof.Rows
def nxt {α:Type} (xs:List α) (c:Nat×List α):List (Nat×List α):=(aL (xs.length - c.1)).map fun j=>(c.1+j+1,c.2++xs[c.1+j]?.toList)
def chs {α:Type} (xs:List α):Nat→List (Nat×List α)
 | 0=>[(0,[])]
 | m+1=>(chs xs m).flatMap (nxt xs)
theorem zgd {α:Type} (xs:List α) (c:Nat×List α):(nxt xs c).length=xs.length - c.1:=by unfold nxt; rw [ab,aT]
theorem zmx {α:Type} {xs:List α} {c:Nat×List α} {j:Nat} {x:α} (h:xs[c.1+j]? = some x):(nxt xs c)[j]? = some (c.1+j+1,c.2++[x]):=by
 have hj:j < xs.length - c.1:=by
  have:=(az.mp h).1
  lia
 unfold nxt
 rw [ah,bZ hj]
 simp [h]
theorem ziR:∀ r:Nat,((aL r).map fun j=>2 ^ (r - j - 1)).sum+1=2 ^ r
 | 0=>rfl
 | r+1=>by
  rw [iU,aU,cY,bv]
  have e:((aL r).map ((fun j=>2 ^ (r+1 - j - 1)) ∘ Nat.succ))=(aL r).map fun j=>2 ^ (r - j - 1):=cj fun j _=>by
   show 2 ^ (r+1 - (j+1) - 1)=2 ^ (r - j - 1)
   congr 1
   lia
  rw [e]
  have:=ziR r
  rw [Nat.pow_succ]
  show 2 ^ (r+1 - 0 - 1)+_+1=_
  rw [show r+1 - 0 - 1=r from by lia]
  lia
def pot {α:Type} (n:Nat) (cs:List (Nat×List α)):Nat:=(cs.map fun c=>2 ^ (n - c.1)).sum
theorem zmy {α:Type} (xs:List α) (c:Nat×List α):pot xs.length (nxt xs c)≤2 ^ (xs.length - c.1):=by
 unfold pot nxt
 rw [bv]
 have e:((aL (xs.length - c.1)).map ((fun c:Nat×List α=>2 ^ (xs.length - c.1)) ∘ fun j=>(c.1+j+1,c.2++xs[c.1+j]?.toList)))=(aL (xs.length - c.1)).map fun j=>2 ^ (xs.length - c.1 - j - 1):=cj fun j _=>by
  show 2 ^ (xs.length - (c.1+j+1))=_
  congr 1
  lia
 rw [e]
 have:=ziR (xs.length - c.1)
 lia
theorem zhe {α:Type} (xs:List α):∀ cs:List (Nat×List α),pot xs.length (cs.flatMap (nxt xs))≤pot xs.length cs
 | []=>af _
 | c :: cs=>by
  have h1:=zmy xs c
  have h2:=zhe xs cs
  rw [fR]
  unfold pot at h1 h2 ⊢
  rw [ar,kr,aU,cY]
  lia
theorem ziS {α:Type} (n:Nat):∀ cs:List (Nat×List α),cs.length≤pot n cs
 | []=>af _
 | c :: cs=>by
  have h:=ziS n cs
  have:0 < 2 ^ (n - c.1):=Nat.pos_of_ne_zero (by simp)
  unfold pot at h ⊢
  rw [aU,cY,aX]
  lia
theorem ziT {α:Type} (xs:List α):∀ m,pot xs.length (chs xs m)≤2 ^ xs.length
 | 0=>by
  unfold chs pot
  simp
 | m+1=>aZ (zhe xs (chs xs m)) (ziT xs m)
theorem zmz {α:Type} (xs:List α) (m:Nat):(chs xs m).length≤2 ^ xs.length:=aZ (ziS _ _) (ziT xs m)
theorem zds {α:Type} {xs:List α} (m:Nat) (h:xs.length≤16):(chs xs m).length≤65536:=aZ (zmz xs m) (aZ (Nat.pow_le_pow_right (by decide) h) (by decide))
theorem zjR {α β:Type} {f:α→List β} {l:List α} {i j:Nat} {c:α} (hc:l[i]? = some c) (hj:j < (f c).length):((l.take i).flatMap f).length+j < (l.flatMap f).length:=by
 have e:l.flatMap f=(l.take i).flatMap f++(f c++(l.drop (i+1)).flatMap f):=by
  conv=>lhs; rw [zeq hc]
  rw [cP,fR]
 rw [e,ao,ao]
 lia
theorem zjS {α β:Type} {f:α→List β} {l:List α} {i:Nat} {c:α} (hc:l[i]? = some c):(l.take (i+1)).flatMap f=(l.take i).flatMap f++f c:=by
 rw [take_snoc hc,cP,fR,List.flatMap_nil,bO]
theorem zoh {α:Type} {xs:List α}:∀ {m:Nat} {c:Nat×List α},c∈chs xs m→c.1≤xs.length
 | 0,c,h=>by
  unfold chs at h
  rw [a7] at h
  subst h
  exact aY _
 | m+1,c,h=>by
  unfold chs at h
  obtain⟨c',_,hc⟩:=c6.mp h
  unfold nxt at hc
  obtain⟨j,hj,rfl⟩:=aE.mp hc
  have:=bF.mp hj
  show c'.1+j+1≤xs.length
  lia
theorem zhf {α:Type} {xs:List α}:∀ {m:Nat} {c:Nat×List α},c∈chs xs m→c.2.length≤m
 | 0,c,h=>by
  unfold chs at h
  rw [a7] at h
  subst h
  exact af _
 | m+1,c,h=>by
  unfold chs at h
  obtain⟨c',hm,hc⟩:=c6.mp h
  have:=zhf hm
  unfold nxt at hc
  obtain⟨j,hj,rfl⟩:=aE.mp hc
  show (c'.2++xs[c'.1+j]?.toList).length≤m+1
  rw [ao]
  have:xs[c'.1+j]?.toList.length≤1:=by cases xs[c'.1+j]? <;> simp
  lia
theorem Paired.get {α β:Type} {F:α→β→Prop}:∀ {l₁:List α} {l₂:List β},Paired F l₁ l₂→∀ {i:Nat} {a:α},l₁[i]? = some a→∃ b,l₂[i]? = some b∧F a b
 | _,_,.nil,i,a,h=>by simp at h
 | _,_,.cons r t,0,a,h=>by
  (simp only [fN,g8] at h)
  subst h
  exact⟨_,rfl,r⟩
 | _,_,.cons r t,i+1,a,h=>by
  rw [cr] at h
  obtain⟨b,hb,f⟩:=Paired.get t h
  exact⟨b,by rw [cr]; exact hb,f⟩
def zmA (H:Hp) (t:Addr) (c:Nat×List V):Prop:=∃ L,H t=some (.tup [.int (c.1:Int),.ref L])∧H L=some (.lst c.2)
theorem zmA.same {H H':Hp} (s:zt H H') {t:Addr} {c:Nat×List V} (h:zmA H t c):zmA H' t c:=let ⟨L,h1,h2⟩:=h; ⟨L,s _ _ h1,s _ _ h2⟩
def zeD (H:Hp):List Addr→List (Nat×List V)→Prop:=Paired (zmA H)
theorem zeD.same {H H':Hp} (s:zt H H') {ts:List Addr} {cs:List (Nat×List V)} (h:zeD H ts cs):zeD H' ts cs:=cI (fun _ _ z=>z.same s) h
def zhg (H:Hp):List Addr→List (List V)→Prop:=Paired fun l pk=>H l=some (.lst pk)
theorem zhg.same {H H':Hp} (s:zt H H') {ts:List Addr} {cs:List (List V)} (h:zhg H ts cs):zhg H' ts cs:=cI (fun _ _ z=>s _ _ z) h
def zh1 (K:ag):Sp:=fun vs H Q _=>∃ (a:Addr) (m:Nat) (xs:List V),vs = [.ref a,.int (m:Int)]∧SqL K H a xs∧xs.length≤16∧m≤1000 ∧
 ∀ (l:Addr) (ls:List Addr) (H':Hp),H l=none→zt H H'→H' l=some (.lst (ls.map V.ref))→zhg H' ls ((chs xs m).map (·.2))→Q (.ref l) H'
end My
end
section
namespace My
open PySem L2 PyProof.Rows
def quo (p r:Int):List Int→List Int
 | []=>[]
 | [_]=>[]
 | _ :: d :: cs=>zl p r (d :: cs) :: quo p r (d :: cs)
theorem ziU (p r:Int):∀ (c:Int) (cs:List Int),(quo p r (c :: cs)).length=cs.length
 | _,[]=>rfl
 | _,d :: cs=>by
  show (quo p r (d :: cs)).length+1=cs.length+1
  rw [ziU p r d cs]
theorem zk9 {p r x:Int}:∀ d:List Int,Cg p (zl p x d - zl p r d) ((x - r)*zl p x (quo p r d))
 | []=>Cg.of_eq (by show (0:Int) - 0=(x - r)*0; lia)
 | [c]=>by
  have h1:Cg p (zl p x [c]) (c+x*0):=zN p x c []
  have h2:Cg p (zl p r [c]) (c+r*0):=zN p r c []
  refine (h1.sub h2).trans (Cg.of_eq ?_)
  show c+x*0 - (c+r*0)=(x - r)*0
  lia
 | c :: d :: cs=>by
  have h1:=zN p x c (d :: cs)
  have h2:=zN p r c (d :: cs)
  have ih:=zk9 (p:=p) (r:=r) (x:=x) (d :: cs)
  have h3:Cg p (zl p x (quo p r (c :: d :: cs))) (zl p r (d :: cs)+x*zl p x (quo p r (d :: cs))):=zN p x _ _
  have h4:=(Cg.refl p (x - r)).mul h3
  have h5:=(Cg.refl p x).mul ih
  refine (h1.sub h2).trans (Cg.symm (h4.trans ?_))
  refine (Cg.of_eq (show _=(x - r)*zl p r (d :: cs)+x*((x - r)*zl p x (quo p r (d :: cs))) by grind)).trans ?_
  refine ((Cg.refl p ((x - r)*zl p r (d :: cs))).add h5.symm).trans (Cg.of_eq (by grind))
theorem zhh {p r:Int}:∀ d:List Int,Cg p (zl p r d) 0→(∀ c∈quo p r d,Cg p c 0)→∀ c∈d,Cg p c 0
 | [],_,_,c,hc=>by cases hc
 | [a],h,_,c,hc=>by
  obtain rfl:c=a:=by simpa using hc
  have h1:Cg p (zl p r [c]) (c+r*0):=zN p r c []
  exact ((Cg.of_eq (by lia)).trans h1.symm).trans h
 | a :: d :: cs,h,hq,c,hc=>by
  have h0:Cg p (zl p r (d :: cs)) 0:=hq _ aF
  rcases (aD.mp hc) with rfl | hc
  ·have h1:=zN p r c (d :: cs)
   have h2:=(Cg.refl p r).mul h0
   have h3:=(h1.symm.trans h).sub h2
   exact (Cg.of_eq (by lia)).trans (h3.trans (Cg.of_eq (by lia)))
  ·exact zhh (d :: cs) h0 (fun c hc=>hq c (av _ hc)) c hc
theorem zdt {p a y:Int} (hp:p∈zm) (ha0:a % p≠0) (h:Cg p (a*y) 0):Cg p y 0:=by
 have rp:=zp hp
 have g0:=aH a (show p≠0 by lia)
 have g1:=aC a (show 0 < p by lia)
 have hi:=zf0 hp (h:=a % p) (by lia) g1
 have h1:Cg p (inv p (a % p)*(a % p)*y) (1*y):=hi.mul (Cg.refl p y)
 have h2:Cg p (inv p (a % p)*(a % p)*y) (inv p (a % p)*(a*y)):=by
  have:=((Cg.refl p (inv p (a % p))).mul (Cg.emod p a)).mul (Cg.refl p y)
  exact this.trans (Cg.of_eq (by grind))
 have h3:=(Cg.refl p (inv p (a % p))).mul h
 exact (Cg.of_eq (by lia)).trans (h1.symm.trans (h2.trans (h3.trans (Cg.of_eq (by lia)))))
theorem zcf {p:Int} (hp:p∈zm):∀ (n:Nat) (d xs:List Int),d.length=n→n≤xs.length→xs.Nodup→(∀ x∈xs,0≤x∧x < p)→(∀ x∈xs,Cg p (zl p x d) 0)→∀ c∈d,Cg p c 0
 | 0,d,xs,hd,_,_,_,_,c,hc=>by
  rw [iC] at hd
  subst hd
  cases hc
 | n+1,d,[],hd,hx,_,_,_,c,hc=>by simp at hx
 | n+1,[],r :: xs,hd,hx,_,_,_,c,hc=>by cases hc
 | n+1,a :: cs,r :: xs,hd,hx,hnd,hrg,hz,c,hc=>by
  have rp:=zp hp
  obtain⟨r0,r1⟩:=hrg r aF
  have hr:=hz r aF
  refine zhh (a :: cs) hr (zcf hp n (quo p r (a :: cs)) xs (by rw [ziU]; simpa using hd) (by simpa using hx) (dM.mp hnd).2 (fun x h=>hrg x (av _ h)) fun x h=>?_) c hc
  obtain⟨x0,x1⟩:=hrg x (av _ h)
  have hne:x≠r:=fun e=>(dM.mp hnd).1 (e ▸ h)
  have he:=zk9 (p:=p) (r:=r) (x:=x) (a :: cs)
  have h0:=(hz x (av _ h)).sub hr
  refine zdt hp (a:=x - r) (fun e=>?_) (he.symm.trans (h0.trans (Cg.of_eq (by lia))))
  have:Cg p x r:=by
   have h1:Cg p (x - r) 0:=Cg.of_mod (by rw [e]; simp)
   have h2:=h1.add (Cg.refl p r)
   exact (Cg.of_eq (by lia)).trans (h2.trans (Cg.of_eq (by lia)))
  exact hne (this.eq x0 x1 r0 r1)
theorem zdf {p x:Int}:∀ {a b:List Int},a.length=b.length→Cg p (zl p x (bf (· - ·) a b)) (zl p x a - zl p x b)
 | [],[],_=>Cg.of_eq rfl
 | c :: a,d :: b,h=>by
  have ih:=zdf (p:=p) (x:=x) (a:=a) (b:=b) (by simpa using h)
  have h1:=zN p x c a
  have h2:=zN p x d b
  have h3:Cg p (zl p x (bf (· - ·) (c :: a) (d :: b))) (c - d+x*zl p x (bf (· - ·) a b)):=zN p x (c - d) _
  refine h3.trans (((Cg.refl p (c - d)).add ((Cg.refl p x).mul ih)).trans (Cg.symm ((h1.sub h2).trans (Cg.of_eq (by grind)))))
 | [],_ :: _,h=>by simp at h
 | _ :: _,[],h=>by simp at h
theorem zhi {p:Int}:∀ {a b:List Int},a.length=b.length→(∀ c∈a,0≤c∧c < p)→(∀ c∈b,0≤c∧c < p)→(∀ c∈bf (· - ·) a b,Cg p c 0)→a=b
 | [],[],_,_,_,_=>rfl
 | c :: a,d :: b,h,ha,hb,hz=>by
  obtain⟨c0,c1⟩:=ha c aF
  obtain⟨d0,d1⟩:=hb d aF
  have h1:Cg p (c - d) 0:=hz _ aF
  have h2:Cg p c d:=(Cg.of_eq (by lia)).trans ((h1.add (Cg.refl p d)).trans (Cg.of_eq (by lia)))
  rw [h2.eq c0 c1 d0 d1,zhi (by simpa using h) (fun c hc=>ha c (av _ hc)) (fun c hc=>hb c (av _ hc)) (fun c hc=>hz c (av _ hc))]
 | [],_ :: _,h,_,_,_=>by simp at h
 | _ :: _,[],h,_,_,_=>by simp at h
theorem zhj {p:Int} (hp:p∈zm) {a b xs:List Int} (hl:a.length=b.length) (hx:a.length≤xs.length) (hnd:xs.Nodup) (hrg:∀ x∈xs,0≤x∧x < p) (ha:∀ c∈a,0≤c∧c < p) (hb:∀ c∈b,0≤c∧c < p)
  (he:∀ x∈xs,zl p x a=zl p x b):a=b:=by
 refine zhi hl ha hb (zcf hp a.length _ xs (by rw [eg]; lia) hx hnd hrg fun x h=>?_)
 refine (zdf hl).trans (Cg.of_eq ?_)
 rw [he x h]
 lia
theorem zge {p:Int} (hp:p∈zm) {pk:List (Int×Int)} (hP:Pts p pk) {q:List Int} (hl:q.length=pk.length) (hq:∀ c∈q,0≤c∧c < p) (hh:∀ a∈pk,zl p a.1 q=a.2):q=thr p pk:=by
 obtain⟨h1,h2,h3⟩:=zdo hp hP
 refine zhj hp (xs:=pk.map (·.1)) (by lia) (by rw [ab]; lia) hP.nd (fun x hx=>?_) hq h2 fun x hx=>?_
 ·obtain⟨a,ha,rfl⟩:=aE.mp hx
  exact⟨(hP.rg a ha).1,(hP.rg a ha).2.1⟩
 ·obtain⟨a,ha,rfl⟩:=aE.mp hx
  rw [hh a ha,h3 a ha]
theorem Pts.sub {p:Int} {pk pts:List (Int×Int)} (h:Pts p pts) (hs:pk.Sublist pts):Pts p pk:=⟨(hs.map _).nodup h.nd,fun q hq=>h.rg q (hs.subset hq)⟩
theorem ziV {α:Type} {xs:List α}:∀ {m:Nat} {c:Nat×List α},c∈chs xs m→c.2.Sublist (xs.take c.1)∧c.2.length=m∧c.1≤xs.length
 | 0,c,h=>by
  unfold chs at h
  rw [a7] at h
  subst h
  exact⟨ip _,rfl,aY _⟩
 | m+1,c,h=>by
  unfold chs at h
  obtain⟨c',hm,hc⟩:=c6.mp h
  obtain⟨h1,h2,h3⟩:=ziV hm
  unfold nxt at hc
  obtain⟨j,hj,rfl⟩:=aE.mp hc
  (have hj':=bF.mp hj)
  have hlt:c'.1+j < xs.length:=by lia
  have e:xs[c'.1+j]? = some xs[c'.1+j]:=am hlt
  dsimp only
  rw [e]
  refine⟨?_,by rw [ao,h2]; rfl,by lia⟩
  rw [take_snoc e]
  refine List.Sublist.append (h1.trans ?_) (List.Sublist.refl _)
  have:xs.take c'.1=(xs.take (c'.1+j)).take c'.1:=by rw [kz]; congr 1; lia
  rw [this]
  exact bU _ _
theorem sub_one {α:Type} {l:List α} {x:α} (h:l.Sublist [x]):l = []∨l = [x]:=by
 cases h with
 | cons _ h=>exact .inl (iq.mp h)
 | cons_cons _ h=>exact .inr (by rw [iq.mp h])
theorem zd6 {α:Type} {xs:List α}:∀ {m n:Nat} {pk:List α},pk.Sublist (xs.take n)→pk.length=m→∃ s,s≤n∧(s,pk)∈chs xs m
 | 0,n,pk,h,hl=>by
  rw [iC] at hl
  subst hl
  exact⟨0,aY _,by unfold chs; exact a7.mpr rfl⟩
 | m+1,0,pk,h,hl=>by
  rw [dC] at h
  rw [iq.mp h] at hl
  simp at hl
 | m+1,n+1,pk,h,hl=>by
  cases e:xs[n]? with
  | none =>
   have:xs.take (n+1)=xs.take n:=by
    have:=List.getElem?_eq_none_iff.mp e
    rw [aK (by lia),aK this]
   rw [this] at h
   obtain⟨s,h1,h2⟩:=zd6 (m:=m+1) (n:=n) h hl
   exact⟨s,by lia,h2⟩
  | some x =>
   rw [take_snoc e] at h
   obtain⟨l1,l2,rfl,h1,h2⟩:=List.sublist_append_iff.mp h
   rcases (sub_one h2) with rfl | rfl
   ·rw [bO] at hl ⊢
    obtain⟨s,a1,a2⟩:=zd6 (m:=m+1) (n:=n) h1 hl
    exact⟨s,by lia,a2⟩
   ·obtain⟨s,a1,a2⟩:=zd6 (m:=m) (n:=n) h1 (by simpa using hl)
    refine⟨n+1,af _,?_⟩
    unfold chs
    refine c6.mpr ⟨(s,l1),a2,?_⟩
    have hlt:=(az.mp e).1
    unfold nxt
    refine aE.mpr ⟨n - s,bF.mpr (by show n - s < xs.length - s; lia),?_⟩
    have es:s+(n - s)=n:=by lia
    dsimp only
    rw [es,e]
    rfl
theorem zgf {α:Type} {xs pk:List α} {m:Nat}:pk∈(chs xs m).map (·.2)↔pk.Sublist xs∧pk.length=m:=by
 constructor
 ·intro h
  obtain⟨c,hc,rfl⟩:=aE.mp h
  obtain⟨h1,h2,h3⟩:=ziV hc
  exact⟨h1.trans (bU _ _),h2⟩
 ·rintro⟨h1,h2⟩
  obtain⟨s,_,hs⟩:=zd6 (xs:=xs) (n:=xs.length) (by rw [bo]; exact h1) h2
  exact aE.mpr ⟨_,hs,rfl⟩
def hit (p:Int) (q:List Int) (a:Int×Int):Bool:=decide (zl p a.1 q=a.2)
def hits (p:Int) (q:List Int) (pts:List (Int×Int)):Nat:=(pts.filter (hit p q)).length
def IsP (p:Int) (k:Nat) (q:List Int):Prop:=q.length=k∧∀ c∈q,0≤c∧c < p
theorem zh2 {p:Int} (hp:p∈zm) {pts:List (Int×Int)} (hP:Pts p pts) {q:List Int} {k t n:Nat} (hq:IsP p k q) (hk:k≤t) (hn:pts.length≤n+(t - k)) (ht:t≤hits p q pts) :
  ∃ pk,pk∈(chs (pts.take n) k).map (·.2)∧q=thr p pk:=by
 have hsplit:hits p q pts=((pts.take n).filter (hit p q)).length+((pts.drop n).filter (hit p q)).length:=by
  unfold hits
  conv=>lhs; rw [← b8 n pts]
  rw [cq,ao]
 have hd:=c9 (hit p q) (pts.drop n)
 rw [bK] at hd
 have hk':k≤((pts.take n).filter (hit p q)).length:=by lia
 have hs:(((pts.take n).filter (hit p q)).take k).Sublist (pts.take n):=(bU _ _).trans (cQ)
 have hl:(((pts.take n).filter (hit p q)).take k).length=k:=by rw [aA]; lia
 refine⟨_,zgf.mpr ⟨hs,hl⟩,zge hp (hP.sub (hs.trans (bU _ _))) (by rw [hl]; exact hq.1) hq.2 fun a ha=>?_⟩
 have:=(bz.mp ((bU _ _).subset ha)).2
 simpa [hit] using this
theorem ziW {p:Int} (hp:p∈zm) {pts pk:List (Int×Int)} (hP:Pts p pts) {k:Nat} (h:pk∈(chs pts k).map (·.2)):IsP p k (thr p pk):=by
 obtain⟨h1,h2⟩:=zgf.mp h
 obtain⟨a,b,_⟩:=zdo hp (hP.sub h1)
 exact⟨a.trans h2,b⟩
def hps:List Int→List (Option Int)→List (Int×Int)
 | x :: pl,some y :: rw=>(x,y) :: hps pl rw
 | _ :: pl,none :: rw=>hps pl rw
 | _,_=>[]
theorem zdg:∀ {pl:List Int} {rw:List (Option Int)} {i:Nat} {x:Int} {o:Option Int},pl[i]? = some x→rw[i]? = some o→hps (pl.take (i+1)) (rw.take (i+1))=hps (pl.take i) (rw.take i)++(match o with | some y=>[(x,y)] | none=>[])
 | [],_,i,x,o,h,_=>by simp at h
 | _ :: _,[],i,x,o,_,h=>by simp at h
 | a :: pl,b :: rw,0,x,o,h1,h2=>by
  simp only [fN,g8] at h1 h2
  subst h1 h2
  cases b <;> rfl
 | a :: pl,b :: rw,i+1,x,o,h1,h2=>by
  rw [cr] at h1 h2
  have ih:=zdg h1 h2
  cases b with
  | none=>exact ih
  | some y =>
   show (a,y) :: hps (pl.take (i+1)) (rw.take (i+1))=(a,y) :: hps (pl.take i) (rw.take i)++_
   rw [ih]
   rfl
theorem zbO:∀ (pl:List Int) (rw:List (Option Int)),(hps pl rw).length≤pl.length
 | [],rw=>by unfold hps; simp
 | a :: pl,[]=>by unfold hps; simp
 | a :: pl,none :: rw=>by
  have:=zbO pl rw
  show (hps pl rw).length≤pl.length+1
  lia
 | a :: pl,some y :: rw=>by
  have:=zbO pl rw
  show (hps pl rw).length+1≤pl.length+1
  lia
theorem zcE:∀ {pl:List Int} {rw:List (Option Int)} {a:Int×Int},a∈hps pl rw→a.1∈pl∧some a.2∈rw
 | [],_,a,h=>by unfold hps at h; cases h
 | _ :: _,[],a,h=>by unfold hps at h; cases h
 | x :: pl,none :: rw,a,h=>by
  obtain⟨h1,h2⟩:=zcE (pl:=pl) (rw:=rw) h
  exact⟨av _ h1,av _ h2⟩
 | x :: pl,some y :: rw,a,h=>by
  rcases (aD.mp h) with rfl | h
  ·exact⟨aF,aF⟩
  ·obtain⟨h1,h2⟩:=zcE (pl:=pl) (rw:=rw) h
   exact⟨av _ h1,av _ h2⟩
theorem zgg:∀ (pl:List Int) (rw:List (Option Int)),((hps pl rw).map (·.1)).Sublist pl
 | [],_=>by unfold hps; exact ip _
 | _ :: _,[]=>by unfold hps; exact ip _
 | x :: pl,none :: rw=>(zgg pl rw).cons _
 | x :: pl,some y :: rw=>(zgg pl rw).cons_cons _
theorem zd7 {p:Int} {pl:List Int} {rw:List (Option Int)} (h1:pl.Nodup) (h2:∀ x∈pl,0≤x∧x < p) (h3:∀ z,some z∈rw→0≤z∧z < p):Pts p (hps pl rw) :=
 ⟨(zgg pl rw).nodup h1,fun q hq=>⟨(h2 _ (zcE hq).1).1,(h2 _ (zcE hq).1).2,(h3 _ (zcE hq).2).1,(h3 _ (zcE hq).2).2⟩⟩
theorem zhk {p:Int} {pl:List Int} {rw:List (Option Int)} {q:List Int} (hl:rw.length=pl.length):∀ n,n≤pl.length→(zdp p pl rw q n).length=hits p q (hps (pl.take n) (rw.take n))
 | 0,_=>by simp [zdp,hits,hps]
 | n+1,hn=>by
  have ih:=zhk (p:=p) (q:=q) hl n (by lia)
  have e1:pl[n]? = some pl[n]:=am (by lia)
  have e2:rw[n]? = some rw[n]:=am (by lia)
  rw [zfz,ao,ih,zdg e1 e2]
  unfold hits
  rw [cq,ao]
  congr 1
  unfold zfy
  rw [e1,e2]
  cases rw[n] with
  | none=>rfl
  | some y =>
   show (if decide (y=zl p pl[n] q)=true then [(n:Int)] else []).length=([(pl[n],y)].filter (hit p q)).length
   by_cases e:y=zl p pl[n] q
   ·rw [bS (by simp [hit,e])]
    simp [e]
   ·rw [bT (by simp [hit]; exact fun z=>e z.symm)]
    simp [e]
theorem zgh {p:Int} {pl:List Int} {rw:List (Option Int)} {q:List Int} (hl:rw.length=pl.length):(zdp p pl rw q pl.length).length=hits p q (hps pl rw):=by
 have:=zhk (p:=p) (q:=q) hl pl.length (af _)
 rw [bo,aK (by lia)] at this
 exact this
def zjT (p:Int) (k:Nat) (qs:List (List Int)):Prop:=(∀ q∈qs,IsP p k q)∧qs.Pairwise fun a b=>Srt.num p a < Srt.num p b
theorem ziX {B:Int} (hB:1≤B):∀ {a b:List Int},a.length=b.length→(∀ n∈a,0≤n∧n < B)→(∀ n∈b,0≤n∧n < B)→Srt.num B a=Srt.num B b→a=b
 | [],[],_,_,_,_=>rfl
 | c :: a,d :: b,h,ha,hb,e=>by
  have h':a.length=b.length:=by simpa using h
  have ra:=Srt.num_rng hB (ns:=a) fun n hn=>ha n (av _ hn)
  have rb:=Srt.num_rng hB (ns:=b) fun n hn=>hb n (av _ hn)
  have e':c*B ^ a.length+Srt.num B a=d*B ^ b.length+Srt.num B b:=e
  rw [← h'] at e' rb
  generalize B ^ a.length=M at e' ra rb
  have hM:0 < M:=by lia
  have hcd:c=d:=by
   have e2:(c - d)*M=Srt.num B b - Srt.num B a:=by
    rw [Int.sub_mul]
    lia
   rcases (jQ c d) with hlt | heq | hgt
   ·have:(c - d)*M≤(-1)*M:=dr (by lia) (by lia)
    lia
   ·exact heq
   ·have:1*M≤(c - d)*M:=dr (by lia) (by lia)
    lia
  subst hcd
  rw [ziX hB h' (fun n hn=>ha n (av _ hn)) (fun n hn=>hb n (av _ hn)) (by lia)]
 | [],_ :: _,h,_,_,_=>by simp at h
 | _ :: _,[],h,_,_,_=>by simp at h
theorem zmB {p:Int} (hp:1≤p) {k:Nat} {qs:List (List Int)} (h1:∀ q∈qs,IsP p k q) (h2:qs.Nodup) (h3:qs.Pairwise fun a b=>Srt.num p a≤Srt.num p b):zjT p k qs:=by
 refine⟨h1,?_⟩
 have h4:=h3.and h2
 refine fG (fun {a b} ha hb h=>?_) h4
 have hne:Srt.num p a≠Srt.num p b:=fun e=>h.2 (ziX hp ((h1 a ha).1.trans (h1 b hb).1.symm) (h1 a ha).2 (h1 b hb).2 e)
 have:=h.1
 lia
theorem zjT.filter {p:Int} {k:Nat} {qs:List (List Int)} (f:List Int→Bool) (h:zjT p k qs):zjT p k (qs.filter f):=⟨fun q hq=>h.1 q (bz.mp hq).1,h.2.filter f⟩
end My
end
section
namespace My
open PySem L2 PyProof.Rows
def sm:Nat→(Nat→Int)→Int
 | 0,_=>0
 | n+1,f=>sm n f+f n
theorem zae {f g:Nat→Int}:∀ {n:Nat},(∀ i,i < n→f i=g i)→sm n f=sm n g
 | 0,_=>rfl
 | n+1,h=>by
  show sm n f+f n=sm n g+g n
  rw [zae (n:=n) fun i hi=>h i (by lia),h n (by lia)]
theorem zfD {p:Int} {f g:Nat→Int}:∀ {n:Nat},(∀ i,i < n→Cg p (f i) (g i))→Cg p (sm n f) (sm n g)
 | 0,_=>Cg.refl _ _
 | n+1,h=>(zfD (n:=n) fun i hi=>h i (by lia)).add (h n (by lia))
theorem zh3 {f g:Nat→Int}:∀ n:Nat,sm n (fun i=>f i+g i)=sm n f+sm n g
 | 0=>rfl
 | n+1=>by
  show sm n (fun i=>f i+g i)+(f n+g n)=sm n f+f n+(sm n g+g n)
  rw [zh3 n]
  lia
theorem zcg {c:Int} {f:Nat→Int}:∀ n:Nat,sm n (fun i=>c*f i)=c*sm n f
 | 0=>by show (0:Int)=c*0; lia
 | n+1=>by
  show sm n (fun i=>c*f i)+c*f n=c*(sm n f+f n)
  rw [zcg n,Int.mul_add]
theorem zbD {f:Nat→Int}:∀ {n:Nat},(∀ i,i < n→f i=0)→sm n f=0
 | 0,_=>rfl
 | n+1,h=>by
  show sm n f+f n=0
  rw [zbD (n:=n) fun i hi=>h i (by lia),h n (by lia)]
  rfl
theorem zh4 {f:Nat→Int} {j:Nat}:∀ {n:Nat},j < n→(∀ i,i < n→i≠j→f i=0)→sm n f=f j
 | 0,hj,_=>by lia
 | n+1,hj,h=>by
  show sm n f+f n=f j
  by_cases e:j=n
  ·subst e
   rw [zbD fun i hi=>h i (by lia) (by lia)]
   lia
  ·rw [zh4 (n:=n) (by lia) fun i hi hne=>h i (by lia) hne,h n (by lia) (by lia)]
   lia
theorem zgi {f:Nat→Int}:∀ n:Nat,sm (n+1) f=f 0+sm n (fun i=>f (i+1))
 | 0=>by show (0:Int)+f 0=f 0+0; lia
 | n+1=>by
  show sm (n+1) f+f (n+1)=f 0+(sm n (fun i=>f (i+1))+f (n+1))
  rw [zgi n]
  lia
theorem zgj {f:Nat→Nat→Int} (m:Nat):∀ n:Nat,sm n (fun i=>sm m (fun j=>f i j))=sm m (fun j=>sm n fun i=>f i j)
 | 0=>(zbD fun _ _=>rfl).symm
 | n+1=>by
  show sm n (fun i=>sm m (fun j=>f i j))+sm m (fun j=>f n j)=sm m (fun j=>sm n (fun i=>f i j)+f n j)
  rw [zgj m n,← zh3]
theorem zd8 {f:Nat→Int} {m:Nat}:∀ {n:Nat},m≤n→(∀ i,m≤i→i < n→f i=0)→sm n f=sm m f
 | 0,h,_=>by rw [show m=0 by lia]
 | n+1,h,hz=>by
  by_cases e:m=n+1
  ·rw [e]
  ·show sm n f+f n=_
   rw [zd8 (n:=n) (by lia) fun i h1 h2=>hz i h1 (by lia),hz n (by lia) (by lia)]
   lia
def gl (w:List Int) (y:Nat):Int:=w.getD y 0
theorem zbP {w:List Int} {y:Nat} {c:Int} (h:w[y]? = some c):gl w y=c:=by
 unfold gl
 rw [aM,h]
 rfl
theorem zaY {w:List Int} {y:Nat} (h:w.length≤y):gl w y=0:=by
 unfold gl
 rw [aM,b7 h]
 rfl
theorem zbi {w:List Int} {y:Nat} (h:y < w.length):w[y]? = some (gl w y):=by
 rw [am h,zbP (am h)]
theorem zeE {w:List Int} {p:Int} (hp:0 < p) (h:∀ c∈w,0≤c∧c < p) (y:Nat):0≤gl w y∧gl w y < p:=by
 by_cases hy:y < w.length
 ·exact h _ (aB (zbi hy))
 ·rw [zaY (by lia)]
  lia
theorem zoi {f:Int→Int} {w:List Int} {y:Nat} (h:y < w.length):gl (w.map f) y=f (gl w y):=zbP (by rw [ah,zbi h]; rfl)
theorem zla {f:Int→Int→Int} {v w:List Int} {y:Nat} (h:y < v.length) (h':y < w.length):gl (bf f v w) y=f (gl v y) (gl w y):=zbP (by rw [i4,zbi h,zbi h'])
theorem zlb {v w:List Int} (hl:v.length=w.length) (h:∀ y,y < v.length→gl v y=gl w y):v=w:=by
 refine eF fun y=>?_
 by_cases hy:y < v.length
 ·rw [zbi hy,zbi (by lia),h y hy]
 ·rw [b7 (by lia),b7 (by lia)]
theorem ziY {p x:Int}:∀ q:List Int,Cg p (zl p x q) (sm q.length fun i=>gl q i*x ^ i)
 | []=>Cg.refl _ _
 | c :: q=>by
  refine (zN p x c q).trans ?_
  rw [aX,zgi]
  have e:sm q.length (fun i=>gl (c :: q) (i+1)*x ^ (i+1))=x*sm q.length (fun i=>gl q i*x ^ i):=by
   rw [← zcg]
   refine zae fun i _=>?_
   show gl q i*x ^ (i+1)=_
   rw [fF]
   grind
  rw [e]
  refine Cg.add (Cg.of_eq ?_) ((Cg.refl p x).mul (ziY q))
  show c=c*x ^ 0
  rw [jI,jT]
theorem zbb {p x:Int} {q:List Int} {n:Nat} (h:q.length≤n):Cg p (zl p x q) (sm n fun i=>gl q i*x ^ i):=by
 rw [zd8 h fun i h1 _=>by rw [zaY h1,dI]]
 exact ziY q
def vx (vs:List (List Int)) (i x:Nat):Int:=gl (vs.getD i []) x
def Rel (p:Int) (L N:Nat) (vs:List (List Int)) (u:Nat→Int):Prop:=∀ x,x < L→Cg p (u x) (sm N fun i=>u (L+i)*vx vs i x)
theorem Rel.sub {p:Int} {L N:Nat} {vs:List (List Int)} {u w r:Nat→Int} (hu:Rel p L N vs u) (hw:Rel p L N vs w) (t:Int) (hr:∀ y,y < L+N→Cg p (r y) (u y - t*w y)):Rel p L N vs r:=fun x hx=>by
 refine (hr x (by lia)).trans (((hu x hx).sub ((Cg.refl p t).mul (hw x hx))).trans ?_)
 have e:sm N (fun i=>u (L+i)*vx vs i x) - t*sm N (fun i=>w (L+i)*vx vs i x)=sm N (fun i=>(u (L+i) - t*w (L+i))*vx vs i x):=by
  rw [show ∀ a b:Int,a - t*b=a+(-t)*b by intros; grind,← zcg,← zh3]
  exact zae fun i _=>by grind
 rw [e]
 exact zfD fun i hi=>(hr (L+i) (by lia)).symm.mul (Cg.refl _ _)
structure Ech (p:Int) (L N m:Nat) (vs:List (List Int)) (cl:List (Nat×List Int)):Prop where
 ln:cl.length=m
 one:∀ (j:Nat) (a:Nat×List Int),cl[j]? = some a→a.1 < L∧a.2.length=L+N∧(∀ c∈a.2,0≤c∧c < p)∧Rel p L N vs (gl a.2)∧gl a.2 a.1=1∧∀ i,j < i→i < N→gl a.2 (L+i)=0
 up:∀ (j j':Nat) (a a':Nat×List Int),cl[j]? = some a→cl[j']? = some a'→j < j'→gl a'.2 a.1=0
 ii:∀ u:Nat→Int,Rel p L N vs u→(∀ i,m≤i→i < N→Cg p (u (L+i)) 0)→(∀ a∈cl,Cg p (u a.1) 0)→∀ i,i < N→Cg p (u (L+i)) 0
theorem Ech.start (p:Int) (L N:Nat) (vs:List (List Int)):Ech p L N 0 vs [] where
 ln:=rfl
 one:=fun _ _ h=>by simp at h
 up:=fun _ _ _ _ h=>by simp at h
 ii:=fun u _ h _ i hi=>h i (aY _) hi
structure Wh (p:Int) (L N m:Nat) (vs:List (List Int)) (cl:List (Nat×List Int)) (w:List Int):Prop where
 ln:w.length=L+N
 rg:∀ c∈w,0≤c∧c < p
 rel:Rel p L N vs (gl w)
 top:gl w (L+m)=1
 up:∀ j,m < j→j < N→gl w (L+j)=0
 z:∀ a∈cl,gl w a.1=0
theorem zhl {p:Int} (hp:p∈zm) {L N m:Nat} {vs:List (List Int)} {v:List Int} (hm:m < N) (hv:vs[m]? = some v) (hl:v.length=L) (hr:∀ c∈v,0≤c∧c < p):Wh p L N m vs [] ((v++ap N 0).set (L+m) 1):=by
 have rp:=zp hp
 have hlow:∀ y,y < L→gl ((v++ap N 0).set (L+m) 1) y=gl v y:=fun y hy=>zbP (by
  rw [dR (by lia),bp (by lia),zbi (by lia)])
 have htop:gl ((v++ap N 0).set (L+m) 1) (L+m)=1:=zbP (by
  rw [fS (by rw [ao,aQ]; lia)])
 have hz:∀ j,j < N→j≠m→gl ((v++ap N 0).set (L+m) 1) (L+j)=0:=fun j hj hne=>zbP (by
  rw [dR (by lia),bR (by lia),cK]
  rw [if_pos (by lia)])
 refine⟨by rw [fj,ao,aQ,hl],fun c hc=>?_,fun x hx=>?_,htop,fun j h1 h2=>hz j h2 (by lia),fun a ha=>by cases ha⟩
 ·rcases fm hc with h | rfl
  ·rcases (aW.mp h) with h | h
   ·exact hr c h
   ·rw [d9 h]; lia
  ·lia
 ·rw [hlow x hx,zh4 (j:=m) hm fun i hi hne=>by rw [hz i hi hne,dI],htop,gA]
  unfold vx
  rw [aM,hv]
  exact Cg.refl _ _
theorem ziZ {p:Int} (hp:p∈zm) {L N m i:Nat} {vs:List (List Int)} {cl:List (Nat×List Int)} {w:List Int} {a:Nat×List Int} (E:Ech p L N m vs cl) (hm:m < N) (ha:cl[i]? = some a) (W:Wh p L N m vs (cl.take i) w) :
  Wh p L N m vs (cl.take (i+1)) (bf (fun x y=>(x - gl w a.1*y) % p) w a.2):=by
 have rp:=zp hp
 obtain⟨a1,a2,a3,a4,a5,a6⟩:=E.one i a ha
 have him:i < m:=by rw [← E.ln]; exact (az.mp ha).1
 have hg:∀ y,y < L+N→gl (bf (fun x y=>(x - gl w a.1*y) % p) w a.2) y=(gl w y - gl w a.1*gl a.2 y) % p:=fun y hy=>zla (by rw [W.ln]; exact hy) (by lia)
 refine⟨by rw [eg,W.ln,a2,Nat.min_self],fun c hc=>?_,W.rel.sub a4 (gl w a.1) fun y hy=>by rw [hg y hy]; exact Cg.emod _ _,?_,fun j h1 h2=>?_,fun b hb=>?_⟩
 ·obtain⟨x,y,rfl⟩:=zel hc
  exact⟨aH _ (by lia),aC _ (by lia)⟩
 ·rw [hg _ (by lia),W.top,a6 m him hm,cR,jJ]
  exact ck (by lia) (by lia)
 ·rw [hg _ (by lia),W.up j h1 h2,a6 j (by lia) h2,cR]
  rfl
 ·rw [take_snoc ha] at hb
  rcases (aW.mp hb) with hb | hb
  ·obtain⟨j,hj⟩:=cJ hb
   have hji:j < i:=by
    have:=(az.mp hj).1
    rw [aA] at this
    lia
   have hj':cl[j]? = some b:=by rw [bD hji] at hj; exact hj
   have hb1:=(E.one j b hj').1
   rw [hg _ (by lia),W.z b hb,E.up j i b a hj' ha hji,cR]
   rfl
  ·obtain rfl:b=a:=by simpa using hb
   rw [hg _ (by lia),a5,jT,Int.sub_self]
   rfl
theorem zhm {p:Int} (hp:p∈zm) {L N m:Nat} {vs:List (List Int)} {cl:List (Nat×List Int)} {w:List Int} {ld:Nat} (E:Ech p L N m vs cl) (hm:m < N) (W:Wh p L N m vs cl w) (hld:ld < L) (h0:gl w ld≠0) :
  Ech p L N (m+1) vs (cl++[(ld,w.map fun x=>x*inv p (gl w ld) % p)]):=by
 have rp:=zp hp
 obtain⟨g0,g1⟩:=zeE (show 0 < p by lia) W.rg ld
 have hi:=zf0 hp (h:=gl w ld) (by lia) g1
 have hg:∀ y,y < L+N→gl (w.map fun x=>x*inv p (gl w ld) % p) y=gl w y*inv p (gl w ld) % p:=fun y hy=>zoi (f:=fun x=>x*inv p (gl w ld) % p) (by rw [W.ln]; exact hy)
 have hat:∀ j a,(cl++[(ld,w.map fun x=>x*inv p (gl w ld) % p)])[j]? = some a→(j < m∧cl[j]? = some a)∨(j=m∧a=(ld,w.map fun x=>x*inv p (gl w ld) % p)):=fun j a h=>by
  by_cases hj:j < m
  ·rw [bp (by rw [E.ln]; exact hj)] at h
   exact .inl ⟨hj,h⟩
  ·rw [bR (by rw [E.ln]; lia),E.ln] at h
   have hj0:j - m=0:=by
    have:=(az.mp h).1
    simp at this
    lia
   rw [hj0] at h
   exact .inr ⟨by lia,(by simpa using h.symm)⟩
 refine⟨by rw [ao,E.ln]; rfl,fun j a h=>?_,fun j j' a a' h h' hlt=>?_,fun u hu hup hz i hi'=>?_⟩
 ·rcases hat j a h with ⟨_,h⟩ | ⟨rfl,rfl⟩
  ·exact E.one j a h
  ·refine⟨hld,by rw [ab,W.ln],fun c hc=>?_,?_,?_,fun i h1 h2=>?_⟩
   ·obtain⟨x,_,rfl⟩:=aE.mp hc
    exact⟨aH _ (by lia),aC _ (by lia)⟩
   ·refine Rel.sub (u:=fun _=>0) (fun x _=>Cg.of_eq (zbD fun i _=>dI _).symm) W.rel (-inv p (gl w ld)) fun y hy=>?_
    rw [hg y hy]
    exact (Cg.emod _ _).trans (Cg.of_eq (by grind))
   ·rw [hg ld (by lia)]
    have h2:Cg p (gl w ld*inv p (gl w ld)) 1:=(Cg.of_eq (d8 _ _)).trans hi
    rw [h2.mod_eq]
    exact ck (by lia) (by lia)
   ·rw [hg _ (by lia),W.up i h1 h2,dI]
    rfl
 ·rcases hat j' a' h' with ⟨hj',h'⟩ | ⟨rfl,rfl⟩
  ·rcases hat j a h with ⟨_,h⟩ | ⟨rfl,_⟩
   ·exact E.up j j' a a' h h' hlt
   ·lia
  ·rcases hat j a h with ⟨_,h⟩ | ⟨rfl,_⟩
   ·have:=(E.one j a h).1
    rw [hg _ (by lia),W.z a (aB h),dI]
    rfl
   ·lia
 ·have hru:Rel p L N vs (fun y=>u y - u (L+m)*gl w y):=hu.sub W.rel (u (L+m)) fun y _=>Cg.refl _ _
  have hall:=E.ii (fun y=>u y - u (L+m)*gl w y) hru (fun i h1 h2=>by
   by_cases e:i=m
   ·subst e
    show Cg p (u (L+i) - u (L+i)*gl w (L+i)) 0
    rw [W.top]
    exact Cg.of_eq (by lia)
   ·show Cg p (u (L+i) - u (L+m)*gl w (L+i)) 0
    rw [W.up i (by lia) h2,cR,jJ]
    exact hup i (by lia) h2) (fun a ha=>by
   show Cg p (u a.1 - u (L+m)*gl w a.1) 0
   rw [W.z a ha,cR,jJ]
   exact hz a (aS _ ha))
  have hlead:Cg p (u ld - u (L+m)*gl w ld) 0:=(hru ld hld).trans ((zfD (g:=fun _=>0) fun i hi=>((hall i hi).mul (Cg.refl _ _)).trans (Cg.of_eq (dI _))).trans (Cg.of_eq (zbD fun _ _=>rfl)))
  have hul:=hz (ld,_) (aG _ (a7.mpr rfl))
  have hc:Cg p (gl w ld*u (L+m)) 0:=by
   have:=hul.sub hlead
   exact (Cg.of_eq (by show gl w ld*u (L+m)=u ld - (u ld - u (L+m)*gl w ld); grind)).trans (this.trans (Cg.of_eq (by lia)))
  have hc0:Cg p (u (L+m)) 0:=zdt hp (by rw [ck g0 g1]; exact h0) hc
  have:=hall i hi'
  have h3:=this.add (hc0.mul (Cg.refl p (gl w (L+i))))
  exact (Cg.of_eq (by show u (L+i)=u (L+i) - u (L+m)*gl w (L+i)+u (L+m)*gl w (L+i); lia)).trans (h3.trans (Cg.of_eq (by lia)))
def Indep (p:Int) (L:Nat) (vs:List (List Int)):Prop:=∀ u:Nat→Int,(∀ x,x < L→Cg p (sm vs.length fun i=>u i*vx vs i x) 0)→∀ i,i < vs.length→Cg p (u i) 0
def Dep (p:Int) (L:Nat) (vs:List (List Int)) (c:List Int):Prop:=∀ x,x < L→Cg p (sm vs.length fun i=>gl c i*vx vs i x) 0
theorem zlc {p:Int} {L:Nat} {vs:List (List Int)} {cl:List (Nat×List Int)} (E:Ech p L vs.length vs.length vs cl):Indep p L vs:=fun u hu i hi=>by
 have h:=E.ii (fun y=>if y < L then sm vs.length (fun i=>u i*vx vs i y) else u (y - L)) (fun x hx=>?_) (fun i h1 h2=>by lia) (fun a ha=>?_) i hi
 ·rw [if_neg (by lia),dB] at h
  exact h
 ·dsimp only
  rw [if_pos hx]
  refine Cg.of_eq (zae fun i _=>?_)
  rw [if_neg (by lia),dB]
 ·obtain⟨j,hj⟩:=cJ ha
  have:=(E.one j a hj).1
  rw [if_pos this]
  exact hu _ this
theorem zld {p:Int} {L m:Nat} {vs:List (List Int)} {cl:List (Nat×List Int)} {w:List Int} (W:Wh p L vs.length m vs cl w) (hm:m < vs.length) (hz:∀ x,x < L→gl w x=0) :
  IsP p (m+1) ((w.drop L).take (m+1))∧gl ((w.drop L).take (m+1)) m=1∧Dep p L vs ((w.drop L).take (m+1)):=by
 have hg:∀ i,i≤m→gl ((w.drop L).take (m+1)) i=gl w (L+i):=fun i hi=>zbP (by
  rw [bD (by lia),eB]
  exact zbi (by rw [W.ln]; lia))
 have hl:((w.drop L).take (m+1)).length=m+1:=by
  rw [aA,bK,W.ln]
  lia
 refine⟨⟨hl,fun c hc=>W.rg c (ge (dt hc))⟩,by rw [hg m (af _)]; exact W.top,fun x hx=>?_⟩
 have h:=W.rel x hx
 rw [hz x hx] at h
 refine Cg.trans (Cg.of_eq (zae fun i hi=>?_)) h.symm
 by_cases e:i≤m
 ·rw [hg i e]
 ·rw [W.up i (by lia) hi,zaY (by lia)]
end My
end
section
namespace My
open PySem L2 PyProof.Rows
theorem zmC {α β:Type} (f:α→β) (xs:List α) (c:Nat×List α):nxt (xs.map f) (c.1,c.2.map f)=(nxt xs c).map fun d=>(d.1,d.2.map f):=by
 unfold nxt
 rw [bv,ab]
 refine cj fun j _=>?_
 show (c.1+j+1,c.2.map f++(xs.map f)[c.1+j]?.toList)=(c.1+j+1,(c.2++xs[c.1+j]?.toList).map f)
 rw [ah,ar]
 cases xs[c.1+j]? <;> rfl
theorem zi0 {α β:Type} (f:α→β) (xs:List α):∀ m,chs (xs.map f) m=(chs xs m).map fun d=>(d.1,d.2.map f)
 | 0=>rfl
 | m+1=>by
  show (chs (xs.map f) m).flatMap (nxt (xs.map f))=((chs xs m).flatMap (nxt xs)).map _
  rw [zi0 f xs m,ka,List.flatMap_map]
  congr 1
  funext c
  exact zmC f xs c
theorem zfE {α β:Type} (f:α→β) (xs:List α) (m:Nat):(chs (xs.map f) m).map (·.2)=((chs xs m).map (·.2)).map (·.map f):=by
 rw [zi0,bv,bv]
 rfl
def PtB (H:Hp):List Addr→List (Int×Int)→Prop:=Paired fun b q=>H b=some (.tup [.int q.1,.int q.2])
theorem PtB.same {H H':Hp} (s:zt H H') {bs:List Addr} {pts:List (Int×Int)} (h:PtB H bs pts):PtB H' bs pts:=cI (fun _ _ z=>s _ _ z) h
theorem PtB.zs {H:Hp}:∀ {bs:List Addr} {pts:List (Int×Int)},PtB H bs pts→∃ zs:List (Addr×Int×Int),bs=zs.map (·.1)∧pts=zs.map (·.2)∧∀ z∈zs,H z.1=some (.tup [.int z.2.1,.int z.2.2])
 | _,_,.nil=>⟨[],rfl,rfl,by simp⟩
 | _,_,.cons (a:=b) (b:=q) r t=>by
  obtain⟨zs,h1,h2,h3⟩:=PtB.zs t
  refine⟨(b,q) :: zs,by rw [h1]; rfl,by rw [h2]; rfl,fun z hz=>?_⟩
  rcases (aD.mp hz) with rfl | hz
  ·exact r
  ·exact h3 z hz
theorem PtB.take {H:Hp} {bs:List Addr} {pts:List (Int×Int)} (h:PtB H bs pts) (n:Nat):PtB H (bs.take n) (pts.take n):=by
 induction h generalizing n with
 | nil=>rw [fX,fX]; exact .nil
 | cons r t ih =>
  cases n with
  | zero=>exact .nil
  | succ n=>exact .cons r (ih n)
def zbE (H:Hp):List Addr→List (List Int)→Prop:=Paired fun r q=>H r=some (.tup (q.map V.int))
theorem zbE.same {H H':Hp} (s:zt H H') {rs:List Addr} {qs:List (List Int)} (h:zbE H rs qs):zbE H' rs qs:=cI (fun _ _ z=>s _ _ z) h
theorem zbE.of {H:Hp}:∀ {ps:List (Addr×List Int)},(∀ q∈ps,H q.1=some (.tup (q.2.map V.int)))→zbE H (ps.map (·.1)) (ps.map (·.2))
 | [],_=>.nil
 | a :: ps,h=>.cons (h a aF) (zbE.of fun q hq=>h q (av _ hq))
theorem zle {κ:Type} [DecidableEq κ] (kvs:List (κ×V)) (k:κ) (v:V):(putK kvs k v).map (·.1)=if k∈kvs.map (·.1) then kvs.map (·.1) else kvs.map (·.1)++[k]:=by
 unfold putK
 by_cases h:(kvs.any fun kv=>decide (kv.1=k))=true
 ·rw [if_pos h]
  obtain⟨kv,h1,h2⟩:=kb.mp h
  have h2:kv.1=k:=by simpa using h2
  rw [if_pos (by rw [← h2]; exact fg h1),bv]
  refine cj fun a _=>?_
  show (if a.1=k then (a.1,v) else a).1=a.1
  split <;> rfl
 ·rw [if_neg h]
  rw [if_neg (fun hm=>h ?_),ar]
  ·rfl
  ·obtain⟨kv,h1,h2⟩:=aE.mp hm
   exact kb.mpr ⟨kv,h1,by simpa using h2⟩
theorem zmD {a b:List Int} (h:(a.map cM:List Key)=b.map cM):a=b:=by
 induction a generalizing b with
 | nil=>cases b with
  | nil=>rfl
  | cons _ _=>simp at h
 | cons x a ih=>cases b with
  | nil=>simp at h
  | cons y b =>
   rw [aU,aU] at h
   obtain⟨h1,h2⟩:=jm h
   rw [iO h1,ih h2]
def KeysAre (kvs:List (List Key×V)) (mss:List (List Int)):Prop:=kvs.map (·.1)=mss.map (·.map cM)
theorem zlf {kvs:List (List Key×V)} {mss:List (List Int)} (h:KeysAre kvs mss) (hn:mss.Nodup) (q:List Int) (v:V):∃ mss',KeysAre (putK kvs (q.map cM) v) mss'∧mss'.Nodup∧mss'.length≤mss.length+1∧∀ x,x∈mss'↔x∈mss∨x=q:=by
 unfold KeysAre at h ⊢
 rw [zle,h]
 have hm:(q.map cM:List Key)∈mss.map (·.map cM)↔q∈mss:=by
  constructor
  ·intro hm
   obtain⟨x,hx,e⟩:=aE.mp hm
   rw [← zmD e]
   exact hx
  ·intro hm
   exact fg hm
 by_cases hq:q∈mss
 ·refine⟨mss,by rw [if_pos (hm.mpr hq)],hn,by lia,fun x=>⟨.inl,fun z=>z.elim id fun e=>e ▸ hq⟩⟩
 ·refine⟨mss++[q],by rw [if_neg fun z=>hq (hm.mp z),ar]; rfl,?_,by rw [ao]; exact af _,fun x=>by rw [aW,a7]⟩
  rw [eG]
  exact⟨hn,by simp,fun a ha b hb e=>hq (by rw [← a7.mp hb,← e]; exact ha)⟩
def zmE (K:ag):Sp:=fun vs H Q _=>∃ (c tt r:Addr) (p k:Int) (pl:List Int) (rw:List (Option Int)),vs = [.ref c,.ref r]∧zbh H c tt p k pl∧RowAt K H r pl.length rw∧pl.length≤1000 ∧
 ∀ (l:Addr) (bs:List Addr) (H':Hp),H l=none→zt H H'→H' l=some (.lst (bs.map V.ref))→PtB H' bs (hps pl rw)→Q (.ref l) H'
def zeF (K:ag):Sp:=fun vs H Q _=>∃ (c tt a:Addr) (p:Int) (k:Nat) (pl:List Int) (bs:List Addr) (pts:List (Int×Int)),vs = [.ref c,.ref a]∧zbh H c tt p k pl∧SqL K H a (bs.map V.ref)∧PtB H bs pts∧pts.length≤16∧p∈zm∧Pts p pts∧1≤k∧k≤100 ∧
 ∀ (l:Addr) (rs:List Addr) (qs:List (List Int)) (H':Hp),H l=none→zt H H'→H' l=some (.lst (rs.map V.ref))→zbE H' rs qs→qs.length≤65536→zjT p k qs→(∀ q,q∈qs↔∃ pk∈(chs pts k).map (·.2),q=thr p pk)→Q (.ref l) H'
end My
end
section
namespace My
open PySem L2 PyProof.Rows
end My
end
section
namespace L2
open PySem PySem.Spec PyProof.Rows
def Itd (d:Addr) (o:Obj) (kvs:List (List Key×V)):It :=
 ⟨fun i H=>H d=some (.frz o (.dT kvs))∧i < kvs.length,fun i H x H'=>H'=H∧∃ a k,x = .ref a∧(kvs.map (·.1))[i]? = some k∧H a=some (.tup (k.map kV)),fun i H=>H d=some (.frz o (.dT kvs))∧kvs.length≤i⟩
theorem zlg {P:Program} {w:World} {H:Hp} {h:Heap} {d:Addr} {o:Obj} {kvs:List (List Key×V)} {es:Array DictEntry} {ep:Nat} (hd:o.data = .dict es ep) (x:zao P w H h d (.frz o (.dT kvs))) :
  zdO h d es ep∧es.size=kvs.length∧∀ (i:Nat) (e:DictEntry),es[i]? = some e→∃ a k,e.key = .ref a∧(kvs.map (·.1))[i]? = some k∧H a=some (.tup (k.map kV)):=by
 obtain⟨ho,_,_,xs,hp,o',es',ep',ho',hx,he,hes,hnd⟩:=x
 have e1:o'=o:=by rw [ho] at ho'; exact (aO ho').symm
 subst e1
 rw [he] at hd
 cases hd
 have hl:es.toList.length=kvs.length:=by rw [hes,ab]; exact (be hp).symm
 refine⟨⟨o',ho,hx,he⟩,by simpa using hl,fun i e h=>?_⟩
 have h':es.toList[i]? = some e:=by rw [bi]; exact h
 rw [hes,ah] at h'
 cases hxi:xs[i]? with
 | none=>rw [hxi] at h'; cases h'
 | some x =>
  rw [hxi] at h'
  have he':e=entryOfKey (tupleKind (zan P w)) x:=(aO h').symm
  have key:∀ {kvs:List (List Key×V)} {xs:List (List Key×Addr×Value)},Paired (fun (p:List Key×V) (q:List Key×Addr×Value)=>p.1=q.1∧H q.2.1=some (.tup (p.1.map kV))∧RelV p.2 q.2.2) kvs xs→∀ (i:Nat) x,xs[i]? = some x→∃ p,kvs[i]? = some p∧H x.2.1=some (.tup (p.1.map kV)):=by
   intro kvs xs hp
   induction hp with
   | nil=>intro i x h; simp at h
   | cons h1 _ ih =>
    intro i x h
    cases i with
    | zero =>
     (simp only [fN,g8] at h)
     subst h
     exact⟨_,rfl,h1.2.1⟩
    | succ i =>
     rw [cr] at h
     obtain⟨p,hp,hh⟩:=ih i x h
     exact⟨p,by rw [cr]; exact hp,hh⟩
  obtain⟨p,hp',hh⟩:=key hp i x hxi
  exact⟨x.2.1,p.1,by rw [he']; rfl,by rw [ah,hp']; rfl,hh⟩
theorem zmF {P:Program} {w:World} {K:ag} {tg:Expr} (d it:Addr) (o:Obj) (kvs:List (List Key×V)) (es:Array DictEntry) (ep:Nat) (hd:o.data = .dict es ep):Turn P w K tg (Itd d o kvs) [it] it (fun i h=>h.IsKeyIter it d i es.size ep) where
 mem:=by simp
 obj:=fun i h st b hb=>by
  have e:b=it:=by simpa using hb
  subst e
  obtain⟨o,e,c,d⟩:=st
  exact⟨o,e,fun v z=>by rw [d] at z; cases z⟩
 keep:=fun i h h' st k=>st.at fun o e=>k it (by simp) o e
 item:=by
  intro X hP hw hK hc i pins s σ H E I hf st hg
  subst hP hw hK
  obtain⟨hq,hi⟩:=hg
  obtain⟨hraw,hsz,hkey⟩:=zlg hd (I.hok d _ hq)
  have hi':i < es.size:=by lia
  obtain⟨a,k,he,hk,ha⟩:=hkey i es[i] (getElem?_pos es i hi')
  obtain⟨f0,f1,f2,f3,f4,f5⟩:=hf it (by simp)
  refine zhd st hraw (getElem?_pos es i hi') fun h' st' sb=>?_
  have I1:Inv X pins σ H { s with heap:=h' }:=I.turned (t':=s.toks) (fun b o hb e=>(sb.2 b hb).trans e) f0 f1 f3 f4 f5
  obtain⟨o,e,c,d⟩:=id st'
  exact⟨_,rfl,zfe (s:={ s with heap:=h' }) e c d (by decide) ⟨.ref a,H,I1,by rw [he]; rfl,⟨rfl,a,k,rfl,hk,ha⟩,st',fun b hb=>(hf b hb).1⟩⟩
 done:=by
  intro X hP hw hK hc i pins s σ H E I hf st hg
  subst hP hw hK
  obtain⟨hq,hi⟩:=hg
  obtain⟨hraw,hsz,hkey⟩:=zlg hd (I.hok d _ hq)
  obtain⟨f0,f1,f2,f3,f4,f5⟩:=hf it (by simp)
  exact ziP (I.ok.hd hc) st hraw (by lia) fun h' eb=>⟨rfl,I.turned (t':=s.toks) (fun b o hb e=>eb b o hb e) f0 f1 f3 f4 f5⟩
 self:=fun _ _ _ _ _ st h=>jh st h
theorem Inv.frzT {X:Cx} {pins:List (Addr×Obj)} {σ:St} {H:Hp} {s:Shared} {d:Addr} {o:Obj} {kvs:List (List Key×V)} (I:Inv X pins σ H s) (hd:H d=some (.dT kvs)) (ho:s.heap.get? d=some o):Inv X pins σ (upd H d (.frz o (.dT kvs))) s:=by
 have ne:∀ b u,H b=some u→(∀ k,u≠.dT k)→b≠d:=fun b u e n z=>by subst z; rw [hd] at e; exact n kvs (aO e).symm
 have nn:∀ b,H b=none→b≠d:=fun b e z=>by subst z; rw [hd] at e; cases e
 have up:∀ b,H b=none→upd H d (.frz o (.dT kvs)) b=none:=fun b e=>by rw [zq (nn b e)]; exact e
 refine⟨I.ok,I.os,I.bare,⟨I.base.keep,I.base.slot,fun b u e n hx=>up b (I.base.free b u e n hx),I.base.there,fun b xs e=>?_,fun b u xs e=>?_,fun b ps e=>?_⟩,I.loc,I.cell,up _ I.free,fun x c e=>up _ (I.freeC x c e),fun p hp'=>?_,fun b u e=>?_,I.len⟩
 ·have:=I.base.tups b xs e
  rw [zq (ne b _ this fun k z=>by cases z)]
  exact this
 ·have:=I.base.frzs b u xs e
  rw [zq (ne b _ this fun k z=>by cases z)]
  exact this
 ·obtain⟨more,q⟩:=I.base.tbls b ps e
  exact⟨more,by rw [zq (ne b _ q fun k z=>by cases z)]; exact q⟩
 ·obtain⟨a1,a2,a3⟩:=I.pin p hp'
  exact⟨a1,up _ a2,a3⟩
 ·have stay:∀ {u:HO} {b:Addr},zao X.prog X.w H s.heap b u→zao X.prog X.w (upd H d (.frz o (.dT kvs))) s.heap b u:=fun {u b} x=>x.stay (fun c v _ q=>q) (fun c q=>by rw [zq (ne c _ q fun k z=>by cases z)]; exact q) fun c xs q=>by rw [zq (ne c _ q fun k z=>by cases z)]; exact q
  by_cases hb:b=d
  ·subst hb
   rw [zc] at e
   cases e
   exact⟨ho,stay (I.hok b _ hd)⟩
  ·rw [zq hb] at e
   exact stay (I.hok b u e)
def iDT (tl:TE):TI:=fun σ H R=>tl σ H fun x H1=>∃ d kvs,x = .ref d∧H1 d=some (.dT kvs)∧∀ o,R (Itd d o kvs) (upd H1 d (.frz o (.dT kvs)))
theorem zo1 {X:Cx} {tg l:Expr} {tl:TE} (hl:PE X l tl):PI X tg l (iDT tl):=by
 intro pins s σ H R I h
 refine thn (hl pins s σ H _ I h) fun v s1 ⟨x,H1,I1,r1,q1⟩=>?_
 obtain⟨d,kvs,e,hd,q⟩:=q1
 subst e
 cases r1
 obtain⟨hz,hs,xs,hp,o,es,ep,ho,hx,he,hes,hnd⟩:=I1.hok d _ hd
 have I2:=I1.frzT hd ho
 refine zhc (es:=es) (ep:=ep) hs ⟨o,ho,hx,he⟩ ?_
 refine⟨s1.heap.objs.size,[s1.heap.objs.size],_,_,_,rfl,I2.kept (t':=s1.toks) fun b o e=>ai _ e,zmF d _ o kvs es ep he,⟨_,aI _ rfl,rfl,rfl⟩,fun b hb=>?_,q o⟩
 have e:b=s1.heap.objs.size:=by simpa using hb
 subst e
 exact I2.fpOk (af _) (I2.hok.fresh (af _))
def zoj (K:ag):R2:=fun x y H Q=>∃ a b xs ys,x = .ref a∧y = .ref b∧SqT K H a xs∧SqT K H b ys∧ys≠[]∧xs.length+ys.length≤sizeLine ∧
 (xs = []→Q (.ref b) H)∧(xs≠[]→∀ p,H p=none→Q (.ref p) (upd H p (.tup (xs++ys))))
theorem zfF {X:Cx} {K:ag} (hK:X.K=K):OpR X (binaryOp .Add) (zoj K):=by
 subst hK
 intro pins s σ H x y v u Q I rx ry h
 obtain⟨a,b,xs,ys,rfl,rfl,ha,hb,hy,hz,q1,q2⟩:=h
 by_cases hx:xs = []
 ·cases rx
  cases ry
  obtain⟨its,r1,p1,_⟩:=I.tuple ha
  obtain⟨its2,r2,p2,_⟩:=I.tuple hb
  obtain⟨⟨cls,dd,data,sl⟩,ho,hc,n,hd⟩:=id p1
  obtain⟨⟨cls2,dd2,data2,sl2⟩,ho2,hc2,n2,hd2⟩:=id p2
  simp only at hc hd hc2 hd2
  subst hc hd hc2 hd2
  exact jz ⟨_,ho,rfl⟩ ⟨_,ho2,rfl⟩ ie jj fT fM (fA _ _)
   (tuple_addW0 a b its.toArray its2.toArray n n2 dd dd2 sl sl2 (by simp [r1.nil_iff.mpr hx])) ⟨ho,ho2,⟨.ref b,H,I,rfl,q1 hx⟩⟩
 ·exact zl8 pins s σ H _ _ v u Q I rx ry ⟨a,b,xs,ys,rfl,rfl,ha,hb,hx,hz,fun z=>absurd z hy,fun _=>q2 hx⟩
end L2
end
section
namespace My
open PySem L2 PyProof.Rows
theorem zh5 {X:Cx} {st:Stmt} {ts:TS} (h:PS X st ts):PS X st (fun D σ H=>∃ Pv:L2.St→Hp→Prop,ts { D with nx:=Pv } σ H∧∀ σ' H',Pv σ' H'→D.nx σ' H'):=by
 intro pins s σ H D I hq
 obtain⟨Pv,h1,h2⟩:=hq
 refine thn (h pins s σ H _ I h1) fun f s1 q=>?_
 cases f with
 | next =>
  obtain⟨σ',H',I',p⟩:=q
  exact⟨σ',H',I',h2 _ _ p⟩
 | ret v=>exact q
 | brk=>exact q
 | cont=>exact q
theorem PtB.pts {K:ag} {H:Hp} {a:Addr} {bs:List Addr} {pts:List (Int×Int)} (ha:H a=some (.lst (bs.map V.ref))) (h:PtB H bs pts):zkF K H a pts:=by
 refine⟨bs,SqL.of ha,h.length,fun i b q h1 h2=>?_⟩
 obtain⟨q',h3,h4⟩:=Paired.get h h1
 rw [h2] at h3
 cases h3
 exact h4
def zmG (pl:List Int) (rw:List (Option Int)) (j:Int):Int×Int:=(pl[j.toNat]?.getD 0,(rw[j.toNat]?.getD none).getD 0)
theorem zhn {pl:List Int} {rw:List (Option Int)} (hl:rw.length=pl.length):∀ n,n≤pl.length→hps (pl.take n) (rw.take n)=(zaz rw n).map (zmG pl rw)
 | 0,_=>by simp [zaz,hps]
 | n+1,hn=>by
  have ih:=zhn hl n (by lia)
  have e1:pl[n]? = some pl[n]:=am (by lia)
  have e2:rw[n]? = some rw[n]:=am (by lia)
  rw [zdg e1 e2,ih,zet,ar]
  congr 1
  rw [e2,ig]
  cases ho:rw[n] with
  | none=>rfl
  | some y =>
   show [(pl[n],y)] = [zmG pl rw ((n:Nat):Int)]
   unfold zmG
   rw [bm,e1,e2,ho]
   rfl
theorem zmH {pl:List Int} {rw:List (Option Int)} (hl:rw.length=pl.length):hps pl rw=(zaz rw rw.length).map (zmG pl rw):=by
 have:=zhn hl pl.length (af _)
 rw [bo,aK (by lia)] at this
 rw [hl]
 exact this
theorem zlh {rw:List (Option Int)} {n:Nat} {z:Int} (h:z∈zaz rw n):∃ (j:Nat) (y:Int),z=j∧j < n∧rw[j]? = some (some y):=by
 unfold zaz at h
 obtain⟨j,hj,rfl⟩:=aE.mp h
 obtain⟨h1,h2⟩:=bz.mp hj
 refine⟨j,?_⟩
 cases e:rw[j]? with
 | none=>rw [e] at h2; simp at h2
 | some o =>
  cases o with
  | none=>rw [e] at h2; simp at h2
  | some y=>exact⟨y,rfl,bF.mp h1,rfl⟩
end My
end
section
namespace L2
open PySem PySem.Spec PyProof.Rows
theorem zdu:fillsNumberSlot (.type "tuple") "mul" = pure false :=
 PySem.fillsNumberSlot_seq (id:="tuple.__mul__") (r:=some (.builtin "tuple.__rmul__")) PySem.F.slot_tuple_mul.lookup (by decide +kernel) PySem.F.slot_tuple_rmul.lookup (by decide +kernel)
theorem zgk:seqRepeat? (.type "tuple")=pure (some (.builtin "tuple.__mul__")):=by
 unfold seqRepeat?
 rw [kd (T:="tuple") (name:="__mul__") (id:="tuple.__mul__") PySem.F.slot_tuple_mul.lookup (by decide +kernel),kd (T:="tuple") (name:="__rmul__") (id:="tuple.__rmul__") PySem.F.slot_tuple_rmul.lookup (by decide +kernel)]
 rfl
theorem zeG (a:Int) (t:Tok) (l:Addr) (items:Array Value) (n:Nat) (dd:Option Addr) (sl:Array (Option Value)) :
  Meets (Builtin.«int.__rmul__» ⟨[.int a t,.ref l],[]⟩) (fun _ R s=>s.heap.get? l=some { cls:=.type "tuple",dict:=dd,data:=.seq items n,slots:=sl }∧R (.ok (.ret Value.notImplemented)) s) :=
 .of_wp fun prog w A R s h=>by (obtain⟨hp,g,d,tk,os⟩:=s; obtain⟨hl,h⟩:=h; wp_walk using cB hl; exact⟨_,rfl,h⟩)
theorem zli (l:Addr) (items:Array Value) (n:Nat) (dd:Option Addr) (sl:Array (Option Value)) (u:Tok) :
  Meets (Builtin.«tuple.__mul__» ⟨[.ref l,.int 1 u],[]⟩) (fun _ R s=>s.heap.get? l=some { cls:=.type "tuple",dict:=dd,data:=.seq items n,slots:=sl }∧R (.ok (.ret (.ref l))) s) :=
 .of_wp fun prog w A R s h=>by
  (obtain⟨hp,g,d,tk,os⟩:=s)
  obtain⟨hl,h⟩:=h
  have f1:=ir
  have f2:=fH
  wp_walk using cB hl; exact⟨_,rfl,h⟩
theorem zlj (l:Addr) (items:Array Value) (n:Nat) (dd:Option Addr) (sl:Array (Option Value)) (k:Int) (u:Tok) (hc0:(decide (k < -(2 ^ 63)) || decide (k≥2 ^ 63))=false) (hc1:(items.isEmpty || k == 1)=false) (hc2:(decide (k≤0) || items.isEmpty)=true) :
  Meets (Builtin.«tuple.__mul__» ⟨[.ref l,.int k u],[]⟩) (fun _ R s=>s.heap.get? l=some { cls:=.type "tuple",dict:=dd,data:=.seq items n,slots:=sl }∧R (.ok (.ret (bb s.heap.objs.size))) { s with heap:=s.heap.push { cls:=ja "tuple",data:=kK #[] },toks:=s.toks }) :=
 .of_wp fun prog w A R s h=>by
  (obtain⟨hp,g,d,tk,os⟩:=s)
  obtain⟨hl,h⟩:=h
  have f1:=ir
  have f2:=fH
  wp_walk using cB hl; refine iN (by rw [hc0]; rfl) ?_
  wp_walk using cB hl; exact⟨_,rfl,h⟩
theorem zlk (l:Addr) (items:Array Value) (n:Nat) (dd:Option Addr) (sl:Array (Option Value)) (k:Int) (u:Tok) (hc0:(decide (k < -(2 ^ 63)) || decide (k≥2 ^ 63))=false) (hc1:(items.isEmpty || k == 1)=false) (hc2:(decide (k≤0) || items.isEmpty)=false)
  (hc3:¬(items.size:Int)*k > (2 ^ 63 - 1) / 8) (hc4:gQ (items.size*k)=false) (hsz:(gb (fun x1 x2=>x1++x2) #[] (ap k.toNat items)).size≤sizeLine) :
  Meets (Builtin.«tuple.__mul__» ⟨[.ref l,.int k u],[]⟩) (fun _ R s=>s.heap.get? l=some { cls:=.type "tuple",dict:=dd,data:=.seq items n,slots:=sl }∧R (.ok (.ret (bb s.heap.objs.size))) { s with heap:=s.heap.push { cls:=ja "tuple",data:=kK (gb (fun x1 x2=>x1++x2) #[] (ap k.toNat items)) },toks:=s.toks }) :=
 .of_wp fun prog w A R s h=>by
  (obtain⟨hp,g,d,tk,os⟩:=s)
  obtain⟨hl,h⟩:=h
  have f1:=ir
  have f2:=fH
  wp_walk using cB hl; refine iN (by rw [hc0]; rfl) ?_
  wp_walk using cB hl; refine iN (decide_eq_false hc3) ?_
  wp_walk using cB hl; exact⟨_,rfl,h⟩
def zo2 (K:ag):R2:=fun x y H Q=>∃ a k xs,x = .ref a∧y = .int k∧SqT K H a xs∧xs≠[]∧-(2 ^ 63)≤k∧k < 2 ^ 63∧xs.length*k.toNat≤sizeLine ∧
 (k=1→Q (.ref a) H)∧(k≠1→∀ p,H p=none→Q (.ref p) (upd H p (.tup (ap k.toNat xs).flatten)))
theorem zi1 {X:Cx}:OpR X (binaryOp .Mult) (zo2 X.K):=by
 intro pins s σ H x y v u Q I rx ry h
 obtain⟨a,k,xs,rfl,rfl,hx,hne,h1,h2,hz,q,q2⟩:=h
 cases rx
 obtain⟨t,rfl⟩:=ry
 obtain⟨its,r,p1,_⟩:=I.tuple hx
 obtain⟨⟨cls,dd,data,sl⟩,ho,hc,n,hd⟩:=id p1
 simp only at hc hd
 subst hc hd
 have hl:xs.length=its.length:=r.length
 have hne':its≠[]:=fun e=>hne (r.nil_iff.mp e)
 have he:its.toArray.isEmpty=false:=by simpa using hne'
 have hc0:(decide (k < -(2 ^ 63)) || decide (k≥2 ^ 63))=false:=by
  rw [decide_eq_false (by lia),decide_eq_false (by lia)]; rfl
 refine hW (T:="tuple") (U:="int") (by decide) ⟨_,ho,rfl⟩ (fun s'=>hU s' k t) zdu F.fills_int_mul gc zgk F.slot_int_index.lookup
  (dF gc (hU s k t) j2 (jO _ _) (zeG k t a its.toArray n dd sl) ⟨ho,rfl,⟨_,ho,rfl⟩,?_⟩)
 by_cases e1:k=1
 ·subst e1
  refine dF iu ⟨_,ho,rfl⟩ g9 (gH _ _) (zli a its.toArray n dd sl t) ⟨ho,?_⟩
  exact⟨.ref a,H,I,rfl,q rfl⟩
 have hc1:(its.toArray.isEmpty || k == 1)=false:=by rw [he]; simpa using e1
 by_cases e0:k≤0
 ·refine dF iu ⟨_,ho,rfl⟩ g9 (gH _ _) (zlj a its.toArray n dd sl k t hc0 hc1 (by rw [decide_eq_true e0]; rfl)) ⟨ho,?_⟩
  have hf:=I.hok.fresh (af _)
  have e:(ap k.toNat xs).flatten = []:=by rw [show k.toNat=0 by lia]; rfl
  refine⟨.ref s.heap.objs.size,_,I.laid (t':=s.toks) (o:=.tup []) (fun b ob q=>ai _ q) (af _) ?_,rfl,by rw [← e]; exact q2 e1 _ hf⟩
  exact⟨aY _,[],.nil,iG _ _⟩
 ·have hm:(its.toArray.size:Int)*k=((xs.length*k.toNat:Nat):Int):=by
   rw [aj,← hl,fo,Int.toNat_of_nonneg (by lia)]
  have hsl:(sizeLine:Nat)≤16777216:=by decide
  have hnew:gb (fun x1 x2=>x1++x2) #[] (ap k.toNat its.toArray)=(ap k.toNat its).flatten.toArray:=by
   have:=foldl_rep its k.toNat []
   rw [iI] at this
   exact this
  refine dF iu ⟨_,ho,rfl⟩ g9 (gH _ _) (zlk a its.toArray n dd sl k t hc0 hc1 (by rw [decide_eq_false e0,he]; rfl) (by rw [hm]; lia) (by rw [hm]; unfold gQ; exact decide_eq_false (by lia)) (by rw [hnew,aj,len_rep,eI,← hl]; exact hz)) ⟨ho,?_⟩
  have hf:=I.hok.fresh (af _)
  rw [hnew]
  refine⟨.ref s.heap.objs.size,_,I.laid (t':=s.toks) (o:=.tup (ap k.toNat xs).flatten) (fun b ob q=>ai _ q) (af _) ?_,rfl,q2 e1 _ hf⟩
  exact⟨by rw [len_rep,eI]; exact hz,_,r.rep k.toNat,iG _ _⟩
def zo3 (K:ag):R2:=fun x y H Q=>∃ a k xs,x = .ref a∧y = .int k∧SqT K H a xs∧xs≠[]∧-(2 ^ 63)≤k∧k < 2 ^ 63∧xs.length*k.toNat≤sizeLine ∧
 ∀ p H',zt H H'→SqT K H' p (ap k.toNat xs).flatten→Q (.ref p) H'
theorem zmI {X:Cx}:OpR X (binaryOp .Mult) (zo3 X.K):=by
 intro pins s σ H x y v u Q I rx ry h
 obtain⟨a,k,xs,rfl,rfl,hx,hne,h1,h2,hz,q⟩:=h
 exact zi1 pins s σ H _ _ v u Q I rx ry ⟨a,k,xs,rfl,rfl,hx,hne,h1,h2,hz,fun e=>q a H (fun _ _ e=>e) (by rw [e]; simpa using hx),fun _ p hp=>q p _ (fun b o z=>by rw [zq (fun e=>by rw [e,hp] at z; cases z)]; exact z) (SqT.of zc)⟩
theorem zmJ {X:Cx} {K:ag} {tg l:Expr} {tl:TE} (hK:X.K=K) (hl:PE X l tl):PI X tg l (zoF K tl):=by subst hK; exact znE hl
end L2
end
section
namespace HT
open PySem PySem.Spec PyProof.Rows
section
variable {prog:Program} {w:World} {A:Around} {E:Value→Shared→Prop} {s:Shared}
theorem getItem_tuple_whole {t sl:Addr} {items:Array Value} {vl vu:Value} {lo hi:Option Int} {Q:Value→Shared→Prop} (ht:IsTup s.heap t items) (hs:s.heap.IsSliceOf sl vl vu .none) (pl:IsPart vl lo) (pu:IsPart vu hi)
  (hw:sIx items.size 0 lo=0∧sIx items.size items.size hi=items.size) (h:Q (.ref t) s):wpAny (model prog w) A (getItem (.ref t) (.ref sl)) Q E s:=by
 obtain⟨os,hos,hcs,hds⟩:=id hs
 have hTs:s.TypeIs (.ref sl) "slice":=⟨os,hos,hcs⟩
 unfold getItem
 try with_reducible refine bQ ?_
 first | refine ae (ak ?_) | skip
 refine ae (wpAny_sequenceKey ht.typeIs (by decide) ?_)
 refine ae (bh (name:=bN "__getitem__") ht.typeIs dg
  (bu dg ht.typeIs jp ?_ (jB _ _)))
 show wpAny _ _ (gL (.ref t) >>= _) _ _ s
 refine ae (tupleItemsOf_ ht ?_)
 refine ae (fB hTs ?_)
 rw [if_pos (by decide)]
 refine ae (zb1 hs pl pu ?_)
 have hyes:(((sIx items.size 0 lo:Nat):Int) == 0 && (1:Int) == 1 && (sIx items.size items.size hi - sIx items.size 0 lo) == items.size)=true:=by
  rw [hw.1,hw.2]
  simp
 show wpAny _ _ (if (((sIx items.size 0 lo:Nat):Int) == 0 && (1:Int) == 1 && (sIx items.size items.size hi - sIx items.size 0 lo) == items.size)=true then _ else _) _ _ s
 rw [if_pos hyes]
 refine ae (m:=Builtin.Tuple.tupleIsExact _) (ae (fB ht.typeIs (ak ?_)))
 rw [if_pos (by decide)]
 first
  | exact ae (cg (ak ⟨_,rfl,ak h⟩))
  | exact ae (ae (cg (ak ⟨_,rfl,ak h⟩)))
end
end HT
namespace L2
open PySem PySem.Spec PyProof.Rows
def zo4 (K:ag):V→Option Int→Option Int→Hp→VK→Prop:=fun x lo hi H Q=>∃ a xs,x = .ref a∧SqT K H a xs∧∀ p H',zt H H'→SqT K H' p (zaW xs lo hi)→Q (.ref p) H'
theorem zmK {X:Cx}:SlR X (zo4 X.K):=by
 intro pins s σ H x v vl vu lo hi sl Q I rx hs pl pu h
 obtain⟨a,xs,rfl,hx,q⟩:=h
 by_cases hw:HT.sIx xs.length 0 lo=0∧HT.sIx xs.length xs.length hi=xs.length
 ·have rx':=rx
  cases rx
  obtain⟨its,r,ht,hz⟩:=I.tuple hx
  have hlen:its.toArray.size=xs.length:=by rw [aj]; exact r.length.symm
  refine⟨"tuple",_,PyProof.Rows.slot_tuple_getitem.lookup,ht.typeIs,?_⟩
  refine HT.getItem_tuple_whole ht hs pl pu (by rw [hlen]; exact hw) ⟨.ref a,H,I,rfl,q a H (fun _ _ e=>e) ?_⟩
  have e:zaW xs lo hi=xs:=by
   unfold zaW
   rw [hw.1,hw.2,da,ed,bo]
  rw [e]
  exact hx
 ·exact zkk pins s σ H (.ref a) v vl vu lo hi sl Q I rx hs pl pu ⟨a,xs,rfl,hx,hw,fun p hp=>q p _ (fun b o z=>by rw [zq (fun e=>by rw [e,hp] at z; cases z)]; exact z) (SqT.of zc)⟩
theorem zll {X:Cx} {K:ag} (hK:X.K=K):SlR X (zo4 K):=by subst hK; exact zmK
def zpx:V→Option Int→Option Int→Hp→VK→Prop:=fun x lo hi H Q=>∃ a xs,x = .ref a∧H a=some (.tup xs)∧∀ p H',zt H H'→H' p=some (.tup (zaW xs lo hi))→Q (.ref p) H'
theorem zmL {X:Cx}:SlR X zpx:=by
 intro pins s σ H x v vl vu lo hi sl Q I rx hs pl pu h
 obtain⟨a,xs,rfl,hx,q⟩:=h
 have hX:SqT X.K H a xs:=SqT.of hx
 by_cases hw:HT.sIx xs.length 0 lo=0∧HT.sIx xs.length xs.length hi=xs.length
 ·cases rx
  obtain⟨its,r,ht,hz⟩:=I.tuple hX
  have hlen:its.toArray.size=xs.length:=by rw [aj]; exact r.length.symm
  refine⟨"tuple",_,PyProof.Rows.slot_tuple_getitem.lookup,ht.typeIs,?_⟩
  refine HT.getItem_tuple_whole ht hs pl pu (by rw [hlen]; exact hw) ⟨.ref a,H,I,rfl,q a H (fun _ _ e=>e) ?_⟩
  have e:zaW xs lo hi=xs:=by
   unfold zaW
   rw [hw.1,hw.2,da,ed,bo]
  rw [e]
  exact hx
 ·exact zkk pins s σ H (.ref a) v vl vu lo hi sl Q I rx hs pl pu ⟨a,xs,rfl,hX,hw,fun p hp=>q p _ (fun b o z=>by rw [zq (fun e=>by rw [e,hp] at z; cases z)]; exact z) zc⟩
def zo5:R2:=fun x y H Q=>∃ a b xs ys,x = .ref a∧y = .ref b∧H a=some (.tup xs)∧H b=some (.tup ys)∧xs.length+ys.length≤sizeLine∧ys≠[]∧∀ p H',zt H H'→H' p=some (.tup (xs++ys))→Q (.ref p) H'
theorem zmM {X:Cx}:OpR X (binaryOp .Add) zo5:=by
 intro pins s σ H x y v u Q I rx ry h
 obtain⟨a,b,xs,ys,rfl,rfl,ha,hb,hz,hy,q⟩:=h
 refine zfF rfl pins s σ H _ _ v u Q I rx ry ⟨a,b,xs,ys,rfl,rfl,SqT.of ha,SqT.of hb,hy,hz,fun e=>?_,fun _ p hp=>q p _ (fun b o z=>by rw [zq (fun e=>by rw [e,hp] at z; cases z)]; exact z) zc⟩
 subst e
 exact q b H (fun _ _ e=>e) hb
def zo6:R2:=fun x y H Q=>∃ a k xs,x = .ref a∧y = .int k∧H a=some (.tup xs)∧xs≠[]∧-(2 ^ 63)≤k∧k < 2 ^ 63∧xs.length*k.toNat≤sizeLine∧∀ p H',zt H H'→H' p=some (.tup (ap k.toNat xs).flatten)→Q (.ref p) H'
theorem zmN {X:Cx}:OpR X (binaryOp .Mult) zo6:=by
 intro pins s σ H x y v u Q I rx ry h
 obtain⟨a,k,xs,rfl,rfl,hx,hne,h1,h2,hz,q⟩:=h
 refine zi1 pins s σ H _ _ v u Q I rx ry ⟨a,k,xs,rfl,rfl,SqT.of hx,hne,h1,h2,hz,fun e=>q a H (fun _ _ e=>e) (by rw [e]; simpa using hx),fun _ p hp=>q p _ (fun b o z=>by rw [zq (fun e=>by rw [e,hp] at z; cases z)]; exact z) zc⟩
end L2
end
section
namespace My
open PySem L2 PyProof.Rows
def md (p:Int) (q:Int×Int):Int×Int:=(q.1,q.2 % p)
theorem zho (p:Int) (s:List Int×List Int) (q:Int×Int):zcp p s (md p q)=zcp p s q:=by
 unfold zcp md
 have:(q.2 % p - zl p q.1 s.1)*inv p (zl p q.1 s.2) % p=(q.2 - zl p q.1 s.1)*inv p (zl p q.1 s.2) % p:=(((Cg.emod p q.2).sub (Cg.refl p _)).mul (Cg.refl p _)).mod_eq
 dsimp only
 rw [this]
theorem zi2 (p:Int):∀ (pts:List (Int×Int)) (s:List Int×List Int),(pts.map (md p)).foldl (zcp p) s=pts.foldl (zcp p) s
 | [],s=>rfl
 | q :: pts,s=>by
  rw [aU,iH,iH,zho,zi2 p pts]
theorem zok (p:Int) (pts:List (Int×Int)):thr p (pts.map (md p))=thr p pts:=by
 unfold thr zoT
 rw [zi2,ab]
def zhp (K:ag):Sp:=fun vs H Q _=>∃ (p:Int) (a:Addr) (pts:List (Int×Int)),vs = [.int p,.ref a]∧zkF K H a pts∧pts.length≤100∧p∈zm∧Pts p (pts.map (md p))∧(∀ q∈pts,0≤q.2∧q.2 < 10000) ∧
 ∀ (l:Addr) (H':Hp),H l=none→zt H H'→H' l=some (.tup ((thr p (pts.map (md p))).map V.int))→Q (.ref l) H'
def zh6 (K:ag):Sp:=fun vs H Q _=>∃ (p tm:Int) (a b:Addr) (as bs:List Int),vs = [.int p,.ref a,.int tm,.ref b]∧H a=some (.lst (as.map V.int))∧H b=some (.lst (bs.map V.int))∧as.length=bs.length∧as.length≤1000∧0 < p∧0≤tm∧tm < 1000 ∧
 ∀ (l:Addr) (H':Hp),H l=none→zt H H'→H' l=some (.lst ((bf (fun x y=>(x - tm*y) % p) as bs).map V.int))→Q (.ref l) H'
def LsA (H:Hp):List Addr→List (List Int)→Prop:=Paired fun b v=>H b=some (.lst (v.map V.int))
theorem LsA.same {H H':Hp} (s:zt H H') {bs:List Addr} {vv:List (List Int)} (h:LsA H bs vv):LsA H' bs vv:=cI (fun _ _ z=>s _ _ z) h
def ClA (ca:Addr) (H:Hp):List Addr→List (Nat×List Int)→Prop:=Paired fun b a=>∃ wa,H b=some (.tup [.int (a.1:Int),.ref wa])∧H wa=some (.lst (a.2.map V.int))∧wa≠ca
theorem ClA.same {ca:Addr} {H H':Hp} (s:zt H H') {bs:List Addr} {cl:List (Nat×List Int)} (h:ClA ca H bs cl):ClA ca H' bs cl:=cI (fun _ _ ⟨wa,z1,z2,z3⟩=>⟨wa,s _ _ z1,s _ _ z2,z3⟩) h
theorem ClA.put {ca:Addr} {H:Hp} {bs:List Addr} {cl:List (Nat×List Int)} {xs:List V} {o:HO} (h:ClA ca H bs cl) (hf:H ca=some (.lst xs)):ClA ca (upd H ca o) bs cl:=cI (fun b _ ⟨wa,z1,z2,z3⟩=>⟨wa,by
 rw [zq (fun e=>by rw [e,hf] at z1; cases z1)]; exact z1,by rw [zq z3]; exact z2,z3⟩) h
theorem zmO {xs:List V} {a b:Nat} (h:b≤xs.length):zaW xs (some (a:Int)) (some (b:Int))=(xs.drop a).take (b - a):=by
 unfold zaW
 rw [HT.sIx_nat,HT.sIx_nat]
 by_cases ha:a≤xs.length
 ·rw [cp ha,cp h]
 ·rw [show min a xs.length=xs.length by lia,cp h,eD (af _),eD (show xs.length≤a by lia),fX,fX]
theorem zol {K:ag} {H H':Hp} {a:Addr} {xs:List V} (e:zt H H') (h:SqT K H a xs):SqT K H' a xs:=by
 rcases h with (h | ⟨o,h⟩) | h
 ·exact .inl (.inl (e _ _ h))
 ·exact .inl (.inr ⟨o,e _ _ h⟩)
 ·exact .inr h
def tmP (p:Int) (l:List Int) (pts:List (Int×Int)):List (Int×Int):=pts.map fun a=>(a.1,zl p a.1 l*a.2 % p)
theorem zcF {p:Int} (p0:0 < p) {l:List Int} {pts:List (Int×Int)} (hP:Pts p pts):Pts p (tmP p l pts):=by
 refine⟨?_,fun q hq=>?_⟩
 ·unfold tmP
  rw [bv]
  exact hP.nd
 ·obtain⟨a,ha,rfl⟩:=aE.mp hq
  obtain⟨h1,h2,_⟩:=hP.rg a ha
  exact⟨h1,h2,aH _ (by lia),aC _ p0⟩
theorem zlm (p:Int) (l:List Int) (pts:List (Int×Int)):(pts.map fun a=>(a.1,zl p a.1 l*a.2)).map (md p)=tmP p l pts:=by
 rw [bv]
 rfl
def zdv (K:ag):Sp:=fun vs H Q _=>∃ (p:Int) (la a:Addr) (l:List Int) (bs:List Addr) (pts:List (Int×Int)),vs = [.int p,.ref la,.ref a]∧SqT K H la (l.map V.int)∧SqL K H a (bs.map V.ref)∧PtB H bs pts∧pts.length≤100∧p∈zm∧Pts p pts ∧
 ∀ (z:Addr) (H':Hp),H z=none→zt H H'→H' z=some (.tup ((thr p (tmP p l pts)).map V.int))→Q (.ref z) H'
def bey (m:Nat) (rs:List (List Int)):List Int:=rs.flatMap fun r=>r.drop m
theorem zhq (m:Nat) {rs:List (List Int)} {i:Nat} {r:List Int} (h:rs[i]? = some r):bey m (rs.take (i+1))=bey m (rs.take i)++r.drop m:=by
 unfold bey
 rw [take_snoc h,cP]
 simp
def zjU (K:ag):Sp:=fun vs H Q _=>∃ (a:Addr) (m:Nat) (bs:List Addr) (rs:List (List Int)),vs = [.ref a,.int (m:Int)]∧SqL K H a (bs.map V.ref)∧zbE H bs rs∧(∀ i,(bey m (rs.take i)).length≤10000) ∧
 ∀ (z:Addr) (H':Hp),H z=none→zt H H'→H' z=some (.lst ((bey m rs).map V.int))→Q (.ref z) H'
def szd (q:List Int) (m:Nat):List Int:=(q++ap m 0).take m
def zln (K:ag):Sp:=fun vs H Q _=>∃ (a:Addr) (m:Nat) (q:List Int),vs = [.ref a,.int (m:Int)]∧H a=some (.tup (q.map V.int))∧1≤m∧q.length+m≤10000 ∧
 ∀ (z:Addr) (H':Hp),zt H H'→H' z=some (.tup ((szd q m).map V.int))→Q (.ref z) H'
def unit (i:Nat):List Int:=ap i 0++[1]
theorem zi3 (i j:Nat):gl (unit i) j=if j=i then 1 else 0:=by
 unfold unit
 by_cases h:j < i
 ·rw [if_neg (by lia)]
  exact zbP (by rw [bp (by rw [aQ]; exact h),cK,if_pos h])
 ·by_cases e:j=i
  ·rw [if_pos e]
   exact zbP (by rw [bR (by rw [aQ]; lia),aQ,e,gh]; rfl)
  ·rw [if_neg e]
   exact zaY (by rw [ao,aQ]; show i+1≤j; lia)
theorem zjV {p x:Int} (i:Nat):Cg p (zl p x (unit i)) (x ^ i):=by
 refine (zbb (n:=i+1) (by unfold unit; rw [ao,aQ]; exact af _)).trans ?_
 rw [zh4 (j:=i) (by lia) fun j _ hne=>by rw [zi3,if_neg hne,dI],zi3,if_pos rfl,gA]
 exact Cg.refl _ _
def Tp (p:Int) (pts:List (Int×Int)) (i:Nat):List Int:=thr p (tmP p (unit i) pts)
theorem zcX {p:Int} (hp:p∈zm) {pts:List (Int×Int)} (hP:Pts p pts) (l:List Int):(thr p (tmP p l pts)).length=pts.length:=by
 have rp:=zp hp
 rw [(zdo hp (zcF (l:=l) (by lia) hP)).1]
 unfold tmP
 rw [ab]
theorem zlo {p:Int} (hp:p∈zm) {pts:List (Int×Int)} (hP:Pts p pts) (l:List Int):∀ c∈thr p (tmP p l pts),0≤c∧c < p:=by
 have rp:=zp hp
 exact (zdo hp (zcF (l:=l) (by lia) hP)).2.1
theorem znu {p:Int} (hp:p∈zm) {pts:List (Int×Int)} (hP:Pts p pts) (l:List Int) {a:Int×Int} (ha:a∈pts):zl p a.1 (thr p (tmP p l pts))=zl p a.1 l*a.2 % p:=by
 have rp:=zp hp
 exact (zdo hp (zcF (l:=l) (by lia) hP)).2.2 _ (aE.mpr ⟨a,ha,rfl⟩)
theorem zi4 {p:Int} (hp:p∈zm) {pts:List (Int×Int)} (hP:Pts p pts) {l:List Int} {N:Nat} (hl:l.length≤N) (x:Nat):Cg p (gl (thr p (tmP p l pts)) x) (sm N fun i=>gl l i*gl (Tp p pts i) x):=by
 have rp:=zp hp
 have p0:0 < p:=by lia
 obtain⟨C,hC⟩:∃ C,C=(aL pts.length).map fun x=>(sm N fun i=>gl l i*gl (Tp p pts i) x) % p:=⟨_,rfl⟩
 have hCl:C.length=pts.length:=by rw [hC,ab,aT]
 have hCg:∀ x,x < pts.length→gl C x=(sm N fun i=>gl l i*gl (Tp p pts i) x) % p:=fun x hx=>zbP (by rw [hC,ah,bZ hx]; rfl)
 have hCr:∀ c∈C,0≤c∧c < p:=fun c hc=>by
  rw [hC] at hc
  obtain⟨x,_,rfl⟩:=aE.mp hc
  exact⟨aH _ (by lia),aC _ p0⟩
 have hev:∀ a∈pts,zl p a.1 C=zl p a.1 l*a.2 % p:=fun a ha=>by
  refine Cg.eq ?_ (zar p0 _) (zas p0 _) (aH _ (by lia)) (aC _ p0)
  refine (zbb (n:=pts.length) (by lia)).trans ?_
  have h1:Cg p (sm pts.length fun x=>gl C x*a.1 ^ x) (sm pts.length fun x=>sm N fun i=>gl l i*(gl (Tp p pts i) x*a.1 ^ x)):=zfD fun x hx=>by
   rw [hCg x hx]
   refine ((Cg.emod _ _).mul (Cg.refl p _)).trans (Cg.of_eq ?_)
   rw [d8,← zcg]
   exact zae fun i _=>by grind
  refine h1.trans ?_
  rw [zgj]
  have h2:Cg p (sm N fun i=>sm pts.length fun x=>gl l i*(gl (Tp p pts i) x*a.1 ^ x)) (sm N fun i=>a.2*(gl l i*a.1 ^ i)):=zfD fun i _=>by
   rw [zcg]
   have e1:Cg p (sm pts.length fun x=>gl (Tp p pts i) x*a.1 ^ x) (zl p a.1 (Tp p pts i)):=(zbb (by unfold Tp; rw [zcX hp hP]; exact af _)).symm
   have e2:Cg p (zl p a.1 (Tp p pts i)) (a.1 ^ i*a.2):=by
    unfold Tp
    rw [znu hp hP (unit i) ha]
    exact (Cg.emod _ _).trans ((zjV i).mul (Cg.refl p _))
   exact ((Cg.refl p (gl l i)).mul (e1.trans e2)).trans (Cg.of_eq (by grind))
  refine h2.trans ?_
  rw [zcg]
  refine ((Cg.refl p a.2).mul (zbb hl).symm).trans ((Cg.of_eq (d8 _ _)).trans (Cg.emod _ _).symm)
 have hthr:C=thr p (tmP p l pts):=zge hp (zcF p0 hP) (by unfold tmP; rw [ab]; exact hCl) hCr fun a ha=>by
  obtain⟨b,hb,rfl⟩:=aE.mp ha
  exact hev b hb
 rw [← hthr]
 by_cases hx:x < pts.length
 ·rw [hCg x hx]
  exact Cg.emod _ _
 ·rw [zaY (by lia)]
  refine Cg.of_eq (zbD fun i _=>?_).symm
  rw [zaY (w:=Tp p pts i) (by unfold Tp; rw [zcX hp hP]; lia),cR]
theorem zh7 {a b:List Int} (x:Nat):gl (a++b) x=if x < a.length then gl a x else gl b (x - a.length):=by
 unfold gl
 rw [aM,aM,aM]
 by_cases h:x < a.length
 ·rw [if_pos h,bp h]
 ·rw [if_neg h,bR (by lia)]
theorem zmP {a:List Int} (m x:Nat):gl (a.drop m) x=gl a (m+x):=by
 unfold gl
 rw [aM,aM,eB]
theorem zi5 {p:Int} (hp:p∈zm) {c:Nat→Int} {N m:Nat}:∀ {ptss:List (List (Int×Int))},(∀ pts∈ptss,Pts p pts) →
  ((∀ x,Cg p (sm N fun i=>c i*gl (bey m (ptss.map fun pts=>Tp p pts i)) x) 0)↔∀ pts∈ptss,∀ y,m≤y→Cg p (sm N fun i=>c i*gl (Tp p pts i) y) 0)
 | [],_=>by
  refine⟨fun _ pts h=>by (cases h),fun _ x=>Cg.of_eq (zbD fun i _=>?_)⟩
  show c i*gl [] x=0
  rw [zaY (aY _),cR]
 | pts :: ptss,hP=>by
  have ih:=zi5 hp (c:=c) (N:=N) (m:=m) (ptss:=ptss) fun q hq=>hP q (av _ hq)
  have hl:∀ i,((Tp p pts i).drop m).length=pts.length - m:=fun i=>by
   rw [bK]
   unfold Tp
   rw [zcX hp (hP pts aF)]
  have hb:∀ i x,gl (bey m ((pts :: ptss).map fun pts=>Tp p pts i)) x=if x < pts.length - m then gl (Tp p pts i) (m+x) else gl (bey m (ptss.map fun pts=>Tp p pts i)) (x - (pts.length - m)):=fun i x=>by
   have:bey m ((pts :: ptss).map fun pts=>Tp p pts i)=(Tp p pts i).drop m++bey m (ptss.map fun pts=>Tp p pts i):=rfl
   rw [this,zh7,hl,zmP]
  constructor
  ·intro h q hq y hy
   rcases (aD.mp hq) with rfl | hq
   ·by_cases hyl:y < q.length
    ·have:=h (y - m)
     refine Cg.trans (Cg.of_eq (zae fun i _=>?_)) this
     rw [hb,if_pos (by lia),show m+(y - m)=y by lia]
    ·refine Cg.of_eq (zbD fun i _=>?_)
     rw [zaY (by unfold Tp; rw [zcX hp (hP q aF)]; lia),cR]
   ·refine ih.mp (fun x=>?_) q hq y hy
    have:=h (pts.length - m+x)
    refine Cg.trans (Cg.of_eq (zae fun i _=>?_)) this
    rw [hb,if_neg (by lia),show pts.length - m+x - (pts.length - m)=x by lia]
  ·intro h x
   by_cases hx:x < pts.length - m
   ·have:=h pts aF (m+x) (by lia)
    refine Cg.trans (Cg.of_eq (zae fun i _=>?_)) this
    rw [hb,if_pos hx]
   ·have:=ih.mpr (fun q hq=>h q (av _ hq)) (x - (pts.length - m))
    refine Cg.trans (Cg.of_eq (zae fun i _=>?_)) this
    rw [hb,if_neg hx]
def Good (p:Int) (k e:Nat) (ptss:List (List (Int×Int))) (l:List Int):Prop:=∀ pts∈ptss,∃ right,IsP p (k+e) right∧∀ a∈pts,zl p a.1 right=zl p a.1 l*a.2 % p
theorem zlp (q:List Int) (m x:Nat):gl (szd q m) x=if x < m then gl q x else 0:=by
 unfold szd
 by_cases h:x < m
 ·rw [if_pos h]
  unfold gl
  rw [aM,bD h,← aM]
  show gl (q++ap m 0) x=_
  rw [zh7]
  split
  ·rfl
  ·show gl (ap m 0) _=q.getD x 0
   rw [show q.getD x 0=gl q x from rfl,zaY (w:=q) (by lia)]
   unfold gl
   rw [aM,cK]
   split <;> rfl
 ·rw [if_neg h]
  exact zaY (by rw [aA]; lia)
theorem zi6 {p:Int} (p0:0 < p) {q:List Int} (hq:∀ c∈q,0≤c∧c < p) (m:Nat):IsP p m (szd q m):=by
 unfold szd
 refine⟨by rw [aA,ao,aQ]; lia,fun c hc=>?_⟩
 rcases aW.mp (dt hc) with h | h
 ·exact hq c h
 ·rw [d9 h]; lia
theorem zhr {p:Int} (p0:0 < p) {q:List Int} {m:Nat} (hz:∀ y,m≤y→gl q y=0) (x:Int):zl p x (szd q m)=zl p x q:=by
 refine Cg.eq ?_ (zar p0 _) (zas p0 _) (zar p0 _) (zas p0 _)
 refine (zbb (n:=q.length+m) (by unfold szd; rw [aA,ao,aQ]; lia)).trans (Cg.trans (Cg.of_eq (zae fun i _=>?_)) (zbb (n:=q.length+m) (by lia)).symm)
 rw [zlp]
 by_cases h:i < m
 ·rw [if_pos h]
 ·rw [if_neg h,hz i (by lia)]
theorem zlq {p:Int} (hp:p∈zm) {k e:Nat} {pts:List (Int×Int)} (hP:Pts p pts) {l:List Int} (hz:∀ y,k+e≤y→gl (thr p (tmP p l pts)) y=0) :
  IsP p (k+e) (szd (thr p (tmP p l pts)) (k+e))∧∀ a∈pts,zl p a.1 (szd (thr p (tmP p l pts)) (k+e))=zl p a.1 l*a.2 % p:=by
 have rp:=zp hp
 refine⟨zi6 (by lia) (zlo hp hP l) _,fun a ha=>?_⟩
 rw [zhr (by lia) hz]
 exact znu hp hP l ha
theorem zjW {p:Int} (hp:p∈zm) {k e:Nat} {pts:List (Int×Int)} (hP:Pts p pts) {l right:List Int} (hr:IsP p (k+e) right) (hev:∀ a∈pts,zl p a.1 right=zl p a.1 l*a.2 % p) (y:Nat) (hy:k+e≤y):gl (thr p (tmP p l pts)) y=0:=by
 have rp:=zp hp
 by_cases hyl:y < pts.length
 ·have e1:right++ap (pts.length - (k+e)) 0=thr p (tmP p l pts):=zge hp (zcF (by lia) hP) (by unfold tmP; rw [ab,ao,aQ,hr.1]; lia) (fun c hc=>by
   rcases aW.mp hc with h | h
   ·exact hr.2 c h
   ·rw [d9 h]; lia) fun a ha=>by
    obtain⟨b,hb,rfl⟩:=aE.mp ha
    rw [zgU]
    exact hev b hb
  rw [← e1,zh7,hr.1,if_neg (by lia)]
  unfold gl
  rw [aM,cK]
  split <;> rfl
 ·exact zaY (by rw [zcX hp hP]; lia)
def zbc (p:Int) (k e:Nat) (ptss:List (List (Int×Int))):List (List Int):=(aL (e+1)).map fun i=>bey (k+e) (ptss.map fun pts=>Tp p pts i)
theorem zmQ {p:Int} {k e:Nat} {ptss:List (List (Int×Int))} {i:Nat} (hi:i < e+1) (x:Nat):vx (zbc p k e ptss) i x=gl (bey (k+e) (ptss.map fun pts=>Tp p pts i)) x:=by
 unfold vx zbc
 rw [aM,ah,bZ hi]
 rfl
theorem zd9 {p:Int} (hp:p∈zm) {m i:Nat}:∀ {ptss:List (List (Int×Int))},(∀ pts∈ptss,Pts p pts)→(bey m (ptss.map fun pts=>Tp p pts i)).length=(ptss.map fun pts=>pts.length - m).sum
 | [],_=>rfl
 | pts :: ptss,hP=>by
  have:bey m ((pts :: ptss).map fun pts=>Tp p pts i)=(Tp p pts i).drop m++bey m (ptss.map fun pts=>Tp p pts i):=rfl
  rw [this,ao,zd9 hp fun q hq=>hP q (av _ hq),bK,aU,cY]
  unfold Tp
  rw [zcX hp (hP pts aF)]
def zcs (k e:Nat) (ptss:List (List (Int×Int))):Nat:=(ptss.map fun pts=>pts.length - (k+e)).sum
theorem zmR {p:Int} (hp:p∈zm) {k e:Nat} {ptss:List (List (Int×Int))} (hP:∀ pts∈ptss,Pts p pts):∀ v∈zbc p k e ptss,v.length=zcs k e ptss∧∀ c∈v,0≤c∧c < p:=fun v hv=>by
 obtain⟨i,_,rfl⟩:=aE.mp hv
 refine⟨zd9 hp hP,fun c hc=>?_⟩
 obtain⟨r,hr,hcr⟩:=c6.mp hc
 obtain⟨pts,hpts,rfl⟩:=aE.mp hr
 exact zlo hp (hP pts hpts) _ c (ge hcr)
theorem znv {p:Int} (hp:p∈zm) {k e:Nat} {ptss:List (List (Int×Int))} (hP:∀ pts∈ptss,Pts p pts) {c:Nat→Int} :
  (∀ x,x < zcs k e ptss→Cg p (sm (zbc p k e ptss).length fun i=>c i*vx (zbc p k e ptss) i x) 0)↔∀ pts∈ptss,∀ y,k+e≤y→Cg p (sm (e+1) fun i=>c i*gl (Tp p pts i) y) 0:=by
 have hn:(zbc p k e ptss).length=e+1:=by unfold zbc; rw [ab,aT]
 rw [hn,← zi5 hp hP]
 have hs:∀ x,sm (e+1) (fun i=>c i*vx (zbc p k e ptss) i x)=sm (e+1) fun i=>c i*gl (bey (k+e) (ptss.map fun pts=>Tp p pts i)) x:=fun x=>zae fun i hi=>by rw [zmQ hi]
 constructor
 ·intro h x
  by_cases hx:x < zcs k e ptss
  ·rw [← hs]; exact h x hx
  ·refine Cg.of_eq (zbD fun i _=>?_)
   rw [zaY (by rw [zd9 hp hP]; exact eY hx),cR]
 ·intro h x _
  rw [hs]
  exact h x
theorem zlr {p:Int} (hp:p∈zm) {k e:Nat} {ptss:List (List (Int×Int))} (hP:∀ pts∈ptss,Pts p pts) (hI:Indep p (zcs k e ptss) (zbc p k e ptss)) {l:List Int} (hl:IsP p (e+1) l) (hg:Good p k e ptss l):∀ i,gl l i=0:=by
 have rp:=zp hp
 have hn:(zbc p k e ptss).length=e+1:=by unfold zbc; rw [ab,aT]
 intro i
 by_cases hi:i < e+1
 ·have h:=hI (gl l) ((znv hp hP).mpr fun pts hpts y hy=>?_) i (by lia)
  ·obtain⟨g0,g1⟩:=zeE (show 0 < p by lia) hl.2 i
   exact h.eq g0 g1 (bH _) (by lia)
  ·obtain⟨right,h1,h2⟩:=hg pts hpts
   refine (zi4 hp (hP pts hpts) (by rw [hl.1]; exact af _) y).symm.trans (Cg.of_eq ?_)
   exact zjW hp (hP pts hpts) h1 h2 y hy
 ·exact zaY (by rw [hl.1]; lia)
theorem zls {p:Int} (hp:p∈zm) {k e:Nat} {ptss:List (List (Int×Int))} (hP:∀ pts∈ptss,Pts p pts) {c:List Int} (hc:c.length≤e+1) (hD:Dep p (zcs k e ptss) (zbc p k e ptss) c):∀ pts∈ptss,∀ y,k+e≤y→gl (thr p (tmP p c pts)) y=0:=fun pts hpts y hy=>by
 have rp:=zp hp
 have h:=(znv hp hP).mp hD pts hpts y hy
 obtain⟨g0,g1⟩:=zeE (show 0 < p by lia) (zlo hp (hP pts hpts) c) y
 exact ((zi4 hp (hP pts hpts) hc y).trans h).eq g0 g1 (bH _) (by lia)
theorem zlu {p:Int} (hp:p∈zm) {k e n:Nat} {ptss:List (List (Int×Int))} (hn:∀ pts∈ptss,pts.length≤n) (hI:Indep p (zcs k e ptss) (zbc p k e ptss)):k+e < n:=by
 have rp:=zp hp
 refine Nat.lt_of_not_le fun h=>?_
 have h0:zcs k e ptss=0:=by
  unfold zcs
  refine List.sum_eq_zero_iff_forall_eq_nat.mpr fun x hx=>?_
  obtain⟨pts,hpts,rfl⟩:=aE.mp hx
  have:=hn pts hpts
  lia
 have hl:(zbc p k e ptss).length=e+1:=by unfold zbc; rw [ab,aT]
 have:=hI (fun _=>1) (fun x hx=>by lia) 0 (by lia)
 have:=this.eq (by lia) (by lia) (bH _) (by lia)
 lia
structure LocOk (p:Int) (k:Nat) (ptss:List (List (Int×Int))) (e:Nat) (left:List Int) (rights:List (List Int)):Prop where
 lf:IsP p (e+1) left
 nz:∃ i,gl left i≠0
 rt:rights=ptss.map fun pts=>szd (thr p (tmP p left pts)) (k+e)
 ok:∀ pts∈ptss,IsP p (k+e) (szd (thr p (tmP p left pts)) (k+e))∧∀ a∈pts,zl p a.1 (szd (thr p (tmP p left pts)) (k+e))=zl p a.1 left*a.2 % p
 mn:∀ e',e' < e→∀ l,IsP p (e'+1) l→Good p k e' ptss l→∀ i,gl l i=0
theorem zmS {p:Int} (p0:0 < p) {c:List Int} {m:Nat} (hc:c.length≤m) (pts:List (Int×Int)):tmP p (szd c m) pts=tmP p c pts:=by
 unfold tmP
 refine cj fun a _=>?_
 rw [zhr p0 fun y hy=>zaY (by lia)]
theorem zom {p:Int} (hp:p∈zm) {k e:Nat} {ptss:List (List (Int×Int))} (hP:∀ pts∈ptss,Pts p pts) {c:List Int} {m:Nat} (hc:IsP p (m+1) c) (hm:m < e+1) (h1:gl c m=1) (hD:Dep p (zcs k e ptss) (zbc p k e ptss) c)
  (hmin:∀ e',e' < e→Indep p (zcs k e' ptss) (zbc p k e' ptss)):LocOk p k ptss e (szd c (e+1)) (ptss.map fun pts=>szd (thr p (tmP p (szd c (e+1)) pts)) (k+e)):=by
 have rp:=zp hp
 have hcl:c.length≤e+1:=by rw [hc.1]; lia
 refine⟨zi6 (by lia) hc.2 _,⟨m,by rw [zlp,if_pos hm,h1]; decide⟩,rfl,fun pts hpts=>?_,fun e' he' l hl hg=>zlr hp hP (hmin e' he') hl hg⟩
 refine zlq hp (hP pts hpts) fun y hy=>?_
 rw [zmS (by lia) hcl]
 exact zls hp hP hcl hD pts hpts y hy
theorem zbE.put {H:Hp} {rs:List Addr} {qs:List (List Int)} {f:Addr} {xs:List V} {o:HO} (h:zbE H rs qs) (hf:H f=some (.lst xs)):zbE (upd H f o) rs qs:=cI (fun a q z=>by
 have:a≠f:=fun e=>by rw [e,hf] at z; cases z
 show upd H f o a=_
 rw [zq this]
 exact z) h
def zpy (n:Nat) (H:Hp):List Addr→List (List (Option Int))→Prop:=Paired fun b rw=>H b=some (.lst (rw.map enc))∧rw.length=n
def zgl (H:Hp):List Addr→List (List (Int×Int))→Prop:=Paired fun b pts=>∃ bs,H b=some (.lst (bs.map V.ref))∧PtB H bs pts
theorem zgl.same {H H':Hp} (s:zt H H') {bs:List Addr} {ptss:List (List (Int×Int))} (h:zgl H bs ptss):zgl H' bs ptss:=cI (fun _ _ ⟨bs,z,z'⟩=>⟨bs,s _ _ z,z'.same s⟩) h
def NdA (p:Int) (ptss:List (List (Int×Int))) (na:Addr) (H:Hp):List Addr→List Nat→Prop:=Paired fun b i=>∃ us,H b=some (.lst (us.map V.ref))∧b≠na∧zbE H us (ptss.map fun pts=>Tp p pts i)
theorem NdA.same {p:Int} {ptss:List (List (Int×Int))} {na:Addr} {H H':Hp} (s:zt H H') {bs:List Addr} {is:List Nat} (h:NdA p ptss na H bs is):NdA p ptss na H' bs is:=cI (fun _ _ ⟨us,z,z',z2⟩=>⟨us,s _ _ z,z',z2.same s⟩) h
theorem NdA.put {p:Int} {ptss:List (List (Int×Int))} {na:Addr} {H:Hp} {bs:List Addr} {is:List Nat} {xs:List V} {o:HO} (h:NdA p ptss na H bs is) (hf:H na=some (.lst xs)):NdA p ptss na (upd H na o) bs is:=cI (fun _ _ ⟨us,z,z',z2⟩=>⟨us,by rw [zq z']; exact z,z',z2.put hf⟩) h
theorem zh8 {α:Type} {f:α→Nat} {b:Nat}:∀ {l:List α},(∀ x∈l,f x≤b)→(l.map f).sum≤l.length*b
 | [],_=>by simp
 | x :: l,h=>by
  have ih:=zh8 (f:=f) (b:=b) (l:=l) fun y hy=>h y (av _ hy)
  have:=h x aF
  rw [aU,cY,aX,Nat.succ_mul]
  lia
def zdw (K:ag):Sp:=fun vs H Q _=>∃ (c tt ra:Addr) (p:Int) (k:Nat) (pl:List Int) (rbs:List Addr) (rws:List (List (Option Int))),vs = [.ref c,.ref ra]∧zbh H c tt p k pl∧SqL K H ra (rbs.map V.ref)∧zpy pl.length H rbs rws∧rws.length≤10∧pl.length≤16∧p∈zm∧pl.Nodup∧(∀ x∈pl,0≤x∧x < p)∧(∀ rw∈rws,∀ z,some z∈rw→0≤z∧z < p)∧1≤k∧k≤100 ∧
 ∀ (z la l3:Addr) (us:List Addr) (e:Nat) (left:List Int) (rights:List (List Int)) (H':Hp),zt H H'→H' z=some (.tup [.int (e:Int),.ref la,.ref l3])→H' la=some (.tup (left.map V.int))→H' l3=some (.lst (us.map V.ref))→zbE H' us rights→e≤16→LocOk p k (rws.map (hps pl)) e left rights→Q (.ref z) H'
def ze5 (K:ag):Sp:=fun vs H Q _=>∃ (c tt r:Addr) (p:Int) (k:Nat) (pl:List Int) (rw:List (Option Int)),vs = [.ref c,.ref r]∧zbh H c tt p k pl∧H r=some (.lst (rw.map enc))∧rw.length=pl.length∧pl.length≤16∧p∈zm∧pl.Nodup∧(∀ x∈pl,0≤x∧x < p)∧(∀ z,some z∈rw→0≤z∧z < p)∧1≤k∧k≤100 ∧
 ∀ (z la rb:Addr) (e:Nat) (left right:List Int) (H':Hp),zt H H'→H' z=some (.tup [.int (e:Int),.ref la,.ref rb])→H' la=some (.tup (left.map V.int))→H' rb=some (.tup (right.map V.int))→e≤16→LocOk p k [hps pl rw] e left [right]→Q (.ref z) H'
end My
end
section
namespace L2
open PySem PySem.Spec PyProof.Rows
theorem zdx {X:Cx} (hc:X.calm=true):zbM X (.builtin "max") (fun xs H Q=>∃ (p:Addr) (ns:List Int),xs = [.ref p]∧SqL X.K H p (ns.map V.int)∧ns≠[]∧∀ M:Int,M∈ns→(∀ a∈ns,a≤M)→Q (.int M) H):=by
 intro pins s σ H xs us Q I r h
 obtain⟨p,ns,rfl,hq,hn,q⟩:=h
 obtain⟨u,rfl,rx⟩:=vals1 r
 cases rx
 obtain⟨its,rv,pl,hz⟩:=I.list hq
 have hi:IntsAre its ns:=by simpa using intsAre_of rv
 (obtain⟨xs,e⟩:=hi.allInts.items)
 have hns:ns=xs.toList.map (·.1):=by rw [← hi.numsOf,← nums_intItems,← e]
 have hsz:0 < xs.size:=by
  have h3:=gm.mpr hn
  rw [hns,ab,bw] at h3
  exact h3
 have hl:=pl.isList
 rw [e] at hl
 refine max_intList (I.ok.hd hc) hl hsz fun v h' tk hv hk=>?_
 (obtain⟨t,rfl⟩:=intItems_at hv)
 (obtain⟨h1,h2⟩:=argBest_gt (numAt xs) (xs.size - 1))
 refine⟨.int _,H,I.kept hk,⟨_,rfl⟩,q _ ?_ fun a ha=>?_⟩
 ·(rw [hns,numAt_eq]; exact getD_mem (by rw [ab,bw]; lia))
 ·rw [hns] at ha
  (obtain⟨j,hj,rfl⟩:=mem_getD ha)
  (rw [ab,bw] at hj)
  (rw [← numAt_eq]; exact h2 j (by lia))
end L2
end
section
namespace My
open PySem L2 PyProof.Rows
theorem zh9 {S:List Nat}:∀ {l:List Nat},l.Nodup→l.length≤(l.filter fun i=>decide (i∉S)).length+S.length:=by
 induction S with
 | nil =>
  intro l _
  rw [List.filter_eq_self.mpr (by simp)]
  exact af _
 | cons a S ih =>
  intro l hl
  have h1:=ih hl
  have h2:l.filter (fun i=>decide (i∉a :: S))=(l.filter fun i=>decide (i∉S)).filter (fun i=>i != a):=by
   rw [List.filter_filter]
   refine List.filter_congr fun i _=>?_
   by_cases e:i=a <;> by_cases e2:i∈S <;> simp [e,e2]
  have h3:=List.Nodup.erase_eq_filter (hl.filter fun i=>decide (i∉S)) a
  have h4:(l.filter fun i=>decide (i∉S)).length≤((l.filter fun i=>decide (i∉S)).erase a).length+1:=by
   rw [List.length_erase]
   split <;> lia
  rw [h2,← h3,aX]
  lia
end My
end
section
namespace My
open PySem L2 PyProof.Rows
theorem zeH {p z:Int} (f:List Int):∀ i,Cg p (zl p z (ap i 0++f)) (z ^ i*zl p z f)
 | 0=>Cg.of_eq (by rw [jI,gA]; rfl)
 | i+1=>by
  have h:Cg p (zl p z (ap (i+1) 0++f)) (0+z*zl p z (ap i 0++f)):=zN p z 0 _
  refine h.trans (((Cg.refl p 0).add ((Cg.refl p z).mul (zeH f i))).trans (Cg.of_eq ?_))
  rw [fF]
  grind
def zdy (f left:List Int) (n N:Nat):List Int:=(aL n).map fun t=>sm N fun i=>gl left i*gl (ap i 0++f) t
theorem zlv {p z:Int} {f left:List Int} {k e:Nat} (hf:f.length≤k) (hl:left.length≤e+1):Cg p (zl p z (zdy f left (k+e) (e+1))) (zl p z left*zl p z f):=by
 have hC:(zdy f left (k+e) (e+1)).length=k+e:=by unfold zdy; rw [ab,aT]
 have hg:∀ t,t < k+e→gl (zdy f left (k+e) (e+1)) t=sm (e+1) fun i=>gl left i*gl (ap i 0++f) t:=fun t ht=>zbP (by unfold zdy; rw [ah,bZ ht]; rfl)
 refine (zbb (n:=k+e) (by lia)).trans ?_
 have h1:sm (k+e) (fun t=>gl (zdy f left (k+e) (e+1)) t*z ^ t)=sm (k+e) fun t=>sm (e+1) fun i=>gl left i*(gl (ap i 0++f) t*z ^ t):=zae fun t ht=>by
  rw [hg t ht,d8,← zcg]
  exact zae fun i _=>by grind
 rw [h1,zgj]
 have h2:Cg p (sm (e+1) fun i=>sm (k+e) fun t=>gl left i*(gl (ap i 0++f) t*z ^ t)) (sm (e+1) fun i=>zl p z f*(gl left i*z ^ i)):=zfD fun i hi=>by
  rw [zcg]
  have e1:Cg p (sm (k+e) fun t=>gl (ap i 0++f) t*z ^ t) (zl p z (ap i 0++f)):=(zbb (by rw [ao,aQ]; lia)).symm
  exact ((Cg.refl p (gl left i)).mul (e1.trans (zeH f i))).trans (Cg.of_eq (by grind))
 refine h2.trans ?_
 rw [zcg]
 exact ((Cg.refl p _).mul (zbb hl).symm).trans (Cg.of_eq (d8 _ _))
theorem zfG {p z:Int}:∀ q:List Int,Cg p (zl p z (q.map (· % p))) (zl p z q)
 | []=>Cg.refl _ _
 | c :: q=>(zN p z (c % p) _).trans (((Cg.emod p c).add ((Cg.refl p z).mul (zfG q))).trans (zN p z c q).symm)
theorem zeI {p z:Int}:∀ {q:List Int},(∀ c∈q,Cg p c 0)→Cg p (zl p z q) 0
 | [],_=>Cg.refl _ _
 | c :: q,h=>(zN p z c q).trans (((h c aF).add ((Cg.refl p z).mul (zeI fun d hd=>h d (av _ hd)))).trans (Cg.of_eq (by lia)))
def zhs (z:Int):List Int→Int
 | []=>1
 | x :: xs=>(z - x)*zhs z xs
theorem zeJ {z:Int}:∀ {xs:List Int},z∈xs→zhs z xs=0
 | [],h=>by cases h
 | x :: xs,h=>by
  show (z - x)*zhs z xs=0
  rcases (aD.mp h) with rfl | h
  ·rw [Int.sub_self,dI]
  ·rw [zeJ h,cR]
theorem zht {p z:Int} (hp:p∈zm) (hz:0≤z∧z < p):∀ {xs:List Int},(∀ x∈xs,0≤x∧x < p∧x≠z)→¬ Cg p (zhs z xs) 0
 | [],_,h=>by
  have rp:=zp hp
  have:=Cg.eq (a:=1) (b:=0) h (by lia) (by lia) (by lia) (by lia)
  lia
 | x :: xs,hx,h=>by
  have rp:=zp hp
  obtain⟨x0,x1,xz⟩:=hx x aF
  rcases zdI hp h with h | h
  ·have h2:Cg p z x:=by
    have:=h.add (Cg.refl p x)
    exact (Cg.of_eq (by lia)).trans (this.trans (Cg.of_eq (by lia)))
   exact xz (h2.eq hz.1 hz.2 x0 x1).symm
  ·exact zht hp hz (fun y hy=>hx y (av _ hy)) h
def zcR (p:Int):List Int→List Int
 | []=>[1]
 | x :: xs=>zbA p x (zcR p xs)
theorem zgm {p z:Int}:∀ xs:List Int,Cg p (zl p z (zcR p xs)) (zhs z xs)
 | []=>by
  have h:Cg p (zl p z [1]) (1+z*0):=zN p z 1 []
  exact h.trans (Cg.of_eq (by show 1+z*0=1; lia))
 | x :: xs=>(zix _).trans ((Cg.refl p _).mul (zgm xs))
theorem zeK {p:Int} (hp:p∈zm):∀ xs:List Int,IsP p (xs.length+1) (zcR p xs)
 | []=>⟨rfl,fun c hc=>by
  have rp:=zp hp
  obtain rfl:c=1:=by simpa [zcR] using hc
  lia⟩
 | x :: xs=>by
  have rp:=zp hp
  exact⟨by show (zbA p x (zcR p xs)).length=_; rw [zbH,(zeK hp xs).1]; rfl,zkA (by lia) _⟩
end My
end
section
namespace PySem
open PyProof.Rows
end PySem
namespace L2
open PySem PySem.Spec PyProof.Rows
end L2
end
section
namespace L2
open PySem PySem.Spec PyProof.Rows
theorem zeL {X:Cx} {K:ag} (hK:X.K=K):zbM X (.type "tuple") (fun xs H Q=>∃ p ys,xs = [.ref p]∧((SqL K H p ys∧∀ l,H l=none→Q (.ref l) (upd H l (.tup ys)))∨(SqT K H p ys∧Q (.ref p) H))):=by subst hK; exact zaE
end L2
end
section
namespace PySem
theorem zdP:typeLookup (.type "zip") "__getattr__" = pure none:=by rw [dO,cE]; kernel_rfl
theorem zgn:typeLookup (.type "zip") "keys" = pure none:=by rw [dO,cE]; kernel_rfl
theorem zlw:entryFor table "zip.__getattribute__" = some Builtin.«object.__getattribute__»:=entryFor_alias (id':="object.__getattribute__") (by kernel_rfl) (by decide +kernel) (by decide +kernel) (by kernel_rfl)
theorem zlx (a:Addr) (xs:Array Value) (u:Tok) :
  Meets (Builtin.«object.__getattribute__» ⟨[.ref a,.str "keys" u],[]⟩) (fun A R s=>s.heap.get? a=some { cls:=.type "zip",dict:=none,data:=.fields xs,slots:=#[] }∧raisesAttr (.ref a) "keys" A R s) :=
 Meets.of_wp fun prog w A R s hs0=>by
  (obtain⟨hp,g,d,tk,os⟩:=s)
  obtain⟨hx,hs⟩:=hs0
  have hT:(⟨hp,g,d,tk,os⟩:Shared).TypeIs (.ref a) "zip":=⟨_,hx,rfl⟩
  have hmiss:=zgn
  (unfold Builtin.«object.__getattribute__»); repeat (any_goals (first | assumption | wp_step))
  exact wpAny_raiseAttrError hs.1 hs.2 (attrMsg_fits (by decide +kernel) (by rw [aV]; decide))
theorem zmT {prog:Program} {w:World} {A:Around} {E:Value→Shared→Prop} {s:Shared} {a:Addr} {xs:Array Value} {Q:Option Value→Shared→Prop}
  (hx:s.heap.get? a=some { cls:=.type "zip",dict:=none,data:=.fields xs,slots:=#[] }) (hA:A.handled=none)
  (h:∀ h' tk,(∀ b o,s.heap.get? b=some o→h'.get? b=some o)→Q none { s with heap:=h',toks:=tk }) :
  wpAny (model prog w) A (getAttr? (.ref a) "keys") Q E s:=by
 (obtain⟨hp,g,d,tk,os⟩:=s)
 have hT:∀ tk',(⟨hp,g,d,tk',os⟩:Shared).TypeIs (.ref a) "zip":=fun _=>⟨_,hx,rfl⟩
 have f1:=sub_AttributeError
 have f3:=F.slot_zip_getattribute.lookup
 have f4:=F.slot_zip_getattribute.bind (.ref a)
 have f5:=zdP
 (unfold getAttr? getAttrBy? getAttrBy)
 repeat (any_goals (first | assumption | exact hT _ | ((with_reducible show wpAny _ _ (call (Value.builtin "zip.__getattribute__") _ _) _ _ _); refine dF F.slot_zip_getattribute (hT _) zlw (F.args_zip_getattribute_2 _ _) (zlx a xs _) ⟨hx,hA,fun h' tk' e hx'=>?_⟩) | wp_step))
 (obtain⟨t',u',he⟩:=hx'.there)
 (show wpAny _ _ (getattributeRaised _ _ _ _ _ _ _) _ _ _)
 unfold getattributeRaised; repeat (any_goals (first | assumption | wp_step))
 exact h _ _ hx'.keeps
end PySem
end
section
namespace PySem
theorem zhu:entryFor table "dict.update.loop" = some Builtin.«dict.update.loop»:=entryFor_of_tree (by kernel_rfl)
theorem zdh:plainId "dict.update.loop" = true:=by decide +kernel
end PySem
namespace L2
open PySem PySem.Spec PyProof.Rows
abbrev zpz (n a b:Nat) (i:Nat) (h:Heap):Prop:=(∃ f0 f1,IsZ h (n+4) (n+2) (n+3) f0 f1∧ZF f0 f1)∧IsPair h (n+2) (.ref n) (.ref (n+1))∧(∃ u v,IsPair h (n+3) u v)∧h.IsListIter n a i∧h.IsListIter (n+1) b i
theorem zjX {κ:Type} [DecidableEq κ] {kvs:List (κ×V)} {k:κ} (h:k∉kvs.map (·.1)):zcU kvs k=none:=by
 unfold zcU
 rw [Option.map_eq_none_iff,List.find?_eq_none]
 intro kv hkv e
 have e:kv.1=k:=of_decide_eq_true e
 exact h (aE.mpr ⟨kv,hkv,e⟩)
theorem zly {κ:Type} {ks:List κ} {ys:List V} {i:Nat} {k:κ} {y:V} (hk:ks[i]? = some k) (hy:ys[i]? = some y):(ks.zip ys).take (i+1)=(ks.zip ys).take i++[(k,y)]:=by
 have:(ks.zip ys)[i]? = some (k,y):=by rw [fq]; exact⟨hk,hy⟩
 rw [gZ,this,jl]
theorem zmU {κ:Type} {ks:List κ} {ys:List V} {i:Nat} {k:κ} (hnd:ks.Nodup) (hk:ks[i]? = some k):k∉((ks.zip ys).take i).map (·.1):=by
 intro h
 obtain⟨q,hq,e⟩:=aE.mp h
 obtain⟨j,hj⟩:=cF.mp hq
 have hji:j < i:=by
  have:=(az.mp hj).1
  rw [aA] at this
  lia
 rw [bD hji] at hj
 have hkj:ks[j]? = some k:=by
  have hj':(ks.zip ys)[j]? = some (q.1,q.2):=hj
  rw [fq] at hj'
  rw [hj'.1,e]
 have h1:=(az.mp hkj).1
 have h2:=(az.mp hk).1
 exact cD.mp hnd j i h1 h2 hji (by rw [(az.mp hkj).2,(az.mp hk).2])
theorem zmV {α β:Type} {R:α→β→Prop} {as:List α} {bs:List β} (h:Paired R as bs):∀ {i:Nat} {x:α},as[i]? = some x→∃ y,bs[i]? = some y∧R x y:=by
 induction h with
 | nil=>intro i x e; simp at e
 | cons h1 _ ih =>
  intro i x e
  cases i with
  | zero=>cases e; exact⟨_,rfl,h1⟩
  | succ i=>exact ih (by simpa using e)
theorem zch {n c:Nat} (h:c∈[n+4,n+3,n,n+1]):c∈zbY n:=by
 simp only [zbY,aD,aR,or_false] at h ⊢
 rcases h with z | z | z | z <;> subst z <;> simp
theorem zo7 {X:Cx} {pins:List (Addr×Obj)} {σ:St} {H:Hp} {s:Shared} {h':Heap} {tk n:Nat} (I:Inv X pins σ H s) (hf:∀ c∈zbY n,zbU X pins H c) (k1:∀ c o,c∉[n+4,n+3,n,n+1]→s.heap.get? c=some o→h'.get? c=some o):Inv X pins σ H { s with heap:=h',toks:=tk }:=by
 have nit:∀ d u',H d=some u'→d∉[n+4,n+3,n,n+1]:=fun d u' e' hd=>by rw [(hf d (zch hd)).1] at e'; cases e'
 refine I.step (g':=s.gens) (d':=s.drawn) (t':=tk) (ch:=[n+4,n+3,n,n+1]) (fun c hc'=>?_) (fun c o _ _ hcc e _=>k1 c o hcc e) (fun c o _ _ hcc e _=>⟨o.slots,k1 c o hcc e⟩) (fun _ _ _ _ n=>n)
  (fun c o hcc e=>⟨o,k1 c o hcc e⟩) (fun _ _ e=>e) (fun _ _ _ e=>e) (fun c ps e=>⟨#[],by rw [e]; simp⟩) (fun m hm=>?_) (fun c u e=>?_) I.bare
 ·obtain⟨_,a1,_,a3,a4,a5⟩:=hf c (zch hc')
  exact⟨a3,a1,a4,a5⟩
 ·obtain⟨o,es',ep,ho,r⟩:=hm
  exact⟨o,es',ep,k1 _ o (fun z=>(hf _ (zch z)).2.1 rfl) ho,r⟩
 ·refine (I.hok c u e).stay (fun d v' hd q=>k1 d v' ?_ q) (fun _ q=>q) fun _ _ q=>q
  rcases hd with z | z
  ·rw [z]; exact nit c u e
  ·exact nit d _ z
theorem zjY {X:Cx} {pins:List (Addr×Obj)} {σ:St} {H:Hp} {s:Shared} {a b:Addr} {kvs:List (List Key×V)} {k:List Key} {v:V} {r:Value} {A:Around} {E:Value→Shared→Prop} {Q:Unit→Shared→Prop} (hu:A.units+1 < cLine) (I:Inv X pins σ H s) (e:H a=some (.dT kvs)) (eb:H b=some (.tup (k.map kV))) (l:kvs.length < sizeLine) (rv:RelV v r)
  (h:∀ s',(∀ c o,c≠a→s.heap.get? c=some o→s'.heap.get? c=some o)→Inv X pins σ (upd H a (.dT (putK kvs k v))) s'→Q () s'):wpAny (model X.prog X.w) A.in1 (dictSet a (.ref b) r) Q E s:=by
 obtain⟨z,hd,xs,rel,dd⟩:=zns I.hok e
 have hz:xs.length≤sizeLine:=by rw [← be rel]; exact z
 have hl:(putK kvs k v).length≤sizeLine:=by have:=zcr kvs k v; lia
 refine wpAny_dictSet_heap (hsz:=hz) (gF hu) (zf6 I.hok eb) dd fun h' dd' hs=>h _ (fun c o hc eo=>hs.extBut c o hc eo) ?_
 obtain⟨q,es,ep,hq,h2,h3,h4,_,h5⟩:=dd'
 refine zf7 I (by rw [e]; exact h9) hs ⟨q,hq⟩ ⟨hl,hd,_,(rel.put k eb rv).keeps fun c ys ec=>?_,q,es,ep,hq,h2,h3,h4,h5⟩
 rw [zq (zni ec e (fun z=>nomatch z))]
 exact ec
def KyA (H:Hp):List V→List (List Key)→Prop:=Paired fun x k=>∃ c,x = .ref c∧H c=some (.tup (k.map kV))
theorem zmW {X:Cx} {pins:List (Addr×Obj)} {σ:St} {A:Around} {R:Result→Shared→Prop} {H0:Hp} {a b n D:Nat} {xs ys:List V} {ks:List (List Key)} (hh:A.handled=none) (hu:A.units+1 < cLine) (ha:a < n) (hb:b < n)
  (hD:H0 D=none) (hfD:D∉zbY n) (hq1:SqL X.K H0 a xs) (hq2:SqL X.K H0 b ys) (hk:KyA H0 xs ks) (hnd:ks.Nodup) (hf:∀ c∈zbY n,zbU X pins H0 c)
  (hR:∀ s' H',Inv X pins σ H' s'→zt H0 H'→H' D=some (.dT (ks.zip ys))→R (.ok (.ret .none)) s') :
  ∀ (m i:Nat) (t:Tok) (s:Shared) (H:Hp),i+m=min xs.length ys.length→Inv X pins σ H s→zt H0 H→(∀ c∈zbY n,H c=none)→zpz n a b i s.heap→H D=some (.dT ((ks.zip ys).take i)) →
   codeAny (model X.prog X.w) A (.builtin "dict.update.loop" ⟨[.ref D,.ref (n+4),.int i t,.none],[]⟩) R s:=by
 intro m
 induction m with
 | zero =>
  intro i t s H hi I hs hn st hHD
  obtain⟨⟨f0,f1,h1,hzf⟩,h2,⟨u0,v0,h3⟩,h4,h5⟩:=st
  obtain⟨its1,rv1,p1,hz1⟩:=I.list (hs.seq hq1)
  obtain⟨its2,rv2,p2,hz2⟩:=I.list (hs.seq hq2)
  have hl1:=rv1.length
  have hl2:=rv2.length
  refine codeAny_builtin zhu ?_
  rw [ji zdh _]
  show wpAny _ A.in1 (pyNext (.ref (n+4)) >>= _) _ _ s
  have hh2:A.in1.in1.handled=none:=by simp [hh]
  refine ae (zkM (fb hh2 n a (nq (by lia)) its1.toArray) (fb hh2 (n+1) b (nq (by lia)) its2.toArray) (zcB ha hb) h1 hzf h2 h3 ⟨h4,p1.isList⟩ ⟨h5,p2.isList⟩ (by rw [aj,aj]; lia) fun h' tk kk=>?_)
  show wpAny _ A.in1 (Builtin.Dict.addKeywords D [] >>= _) _ _ _
  (refine ae (ak (ak ?_)))
  have I1:Inv X pins σ H { s with heap:=h',toks:=tk }:=zo7 I (fun c hc=>⟨hn c hc,(hf c hc).2⟩) fun c o hc' e=>by
   simp only [aD,aR,or_false,not_or] at hc'
   exact kk c o hc'.1 hc'.2.1 hc'.2.2.1 hc'.2.2.2 e
  refine hR _ _ I1 hs ?_
  rw [hHD,aK]
  rw [kt,← be hk]
  lia
 | succ m ih =>
  intro i t s H hi I hs hn st hHD
  obtain⟨⟨f0,f1,h1,hzf⟩,h2,⟨u0,v0,h3⟩,h4,h5⟩:=st
  obtain⟨its1,rv1,p1,hz1⟩:=I.list (hs.seq hq1)
  obtain⟨its2,rv2,p2,hz2⟩:=I.list (hs.seq hq2)
  have hl1:=rv1.length
  have hl2:=rv2.length
  have hx:xs[i]? = some (xs[i]'(by lia)):=am _
  have hy:ys[i]? = some (ys[i]'(by lia)):=am _
  generalize xs[i]'(by lia)=x at hx
  generalize ys[i]'(by lia)=y at hy
  obtain⟨u,huu,ru⟩:=rv1.get hx
  obtain⟨v,hv,rv⟩:=rv2.get hy
  refine codeAny_builtin zhu ?_
  rw [ji zdh _]
  show wpAny _ A.in1 (pyNext (.ref (n+4)) >>= _) _ _ s
  have hh2:A.in1.in1.handled=none:=by simp [hh]
  refine ae (ziF (fb hh2 n a (nq (by lia)) its1.toArray) (fb hh2 (n+1) b (nq (by lia)) its2.toArray) (zcB ha hb) h1 hzf h2 h3 ⟨h4,p1.isList⟩ ⟨h5,p2.isList⟩ (by rw [aj]; lia) (by rw [aj]; lia)
   fun x' y' h' tk g0 g1 a' b' px py ez ezf e2 e3 t4 t5 pp hsz kk=>?_)
  have eu:x'=u:=by
   have e1:its1[i]? = some x':=by simpa using px
   rw [huu] at e1; exact (aO e1).symm
  have ev:y'=v:=by
   have e1:its2[i]? = some y':=by simpa using py
   rw [hv] at e1; exact (aO e1).symm
  subst eu ev
  obtain⟨k,hki,kc,rfl,hkc⟩:=zmV hk hx
  cases ru
  have hff:∀ c∈zbY n,zbU X pins H c:=fun c hc=>⟨hn c hc,(hf c hc).2⟩
  have hes:n+4 < s.heap.objs.size:=aJ h1
  have k1:∀ c o,c∉[n+4,n+3,n,n+1]→s.heap.get? c=some o→h'.get? c=some o:=fun c o hc' eo=>by
   simp only [aD,aR,or_false,not_or] at hc'
   exact kk c o hc'.1 hc'.2.1 hc'.2.2.1 hc'.2.2.2 eo
  have I1:Inv X pins σ H { s with heap:=h',toks:=tk }:=zo7 I hff k1
  show wpAny _ A.in1 (holding [.ref s.heap.objs.size] _ >>= _) _ _ _
  (refine ae (bQ ?_))
  (refine ae (wpAny_tryCatch ?_))
  unfold Builtin.Dict.pairItems
  have hT:({ s with heap:=h',toks:=tk }:Shared).TypeIs (.ref s.heap.objs.size) "tuple":=⟨_,pp,rfl⟩
  (refine ae (fB hT ?_))
  rw [if_pos (by decide)]
  refine ae (c8 pp rfl (ak ?_))
  show wpAny _ A.in1 (holding [.ref kc,y'] (dictSet D (.ref kc) y')) _ _ _
  have hlt:((ks.zip ys).take i).length < sizeLine:=by
   rw [aA]
   lia
  refine bQ (zjY (A:=A) hu I1 hHD (hs _ _ hkc) hlt rv fun s2 k2 I2=>?_)
  rw [zkP _ (zjX (zmU hnd hki)),← zly hki hy] at I2
  have nD:∀ c,c∈zbY n→c≠D:=fun c hc z=>hfD (by rw [← z]; exact hc)
  refine ak ⟨plainId_quiet zdh _,?_⟩
  show codeAny _ A (.builtin "dict.update.loop" ⟨[.ref D,.ref (n+4),.int ((i+1:Nat):Int) _,.none],[]⟩) R s2
  refine ih (i+1) _ s2 _ (by lia) I2 (fun c o e=>?_) (fun c hc=>?_) ?_ zc
  ·rw [zq (zy e hD)]
   exact hs c o e
  ·rw [zq (nD c hc)]
   exact hn c hc
  ·exact⟨⟨g0,g1,k2 _ _ (nD _ (by simp)) ez,ezf⟩,k2 _ _ (nD _ (by simp)) e2,⟨_,_,k2 _ _ (nD _ (by simp)) e3⟩,t4.1.at fun o e=>k2 _ o (nD _ (by simp)) e,t5.1.at fun o e=>k2 _ o (nD _ (by simp)) e⟩
def tDZ (K:ag) (ta:TA):TE:=fun σ H Q=>ta σ H fun vs H1=>∃ a b xs ys ks,vs = [.ref a,.ref b]∧SqL K H1 a xs∧SqL K H1 b ys∧KyA H1 xs ks∧ks.Nodup∧∀ D H',H1 D=none→zt H1 H'→H' D=some (.dT (ks.zip ys))→Q (.ref D) H'
theorem zia {X:Cx} {p p2 pos pos2:Pos} {a b:Expr} {ta:TA} (hu:X.A.units+2 < cLine) (hc:X.calm=true) (hg:Gl X "dict") (hm:X.mg "dict" = none) (hg2:Gl X "zip") (hm2:X.mg "zip" = none) (ha:PA X [a,b] ta) (hs:starEach [a,b] X.env = [(false,eval a X.env),(false,eval b X.env)]:=by rfl) (hs2:starEach [b] X.env = [(false,eval b X.env)]:=by rfl)
  (hs3:starEach [.Call (.Name "zip" p2) [a,b] [] pos2] X.env = [(false,eval (.Call (.Name "zip" p2) [a,b] [] pos2) X.env)]:=by rfl) :
  PE X (.Call (.Name "dict" p) [.Call (.Name "zip" p2) [a,b] [] pos2] [] pos) (tDZ X.K ta):=by
 intro pins s σ H Q I h
 refine Call_ (zbx I hg hm boot_dict (bq ?_ hs3 rfl))
 rw [hs3]
 show wpAny _ _ (spliced ((false,eval (.Call (.Name "zip" p2) [a,b] [] pos2) X.env) :: [])) _ _ s
 refine er ?_
 refine Call_ (zbx I hg2 hm2 j4 (bq (thn (ha pos2 pins s σ H _ I h) fun us s1 ⟨vs,H1,I1,r1,q1⟩=>?_) (by rw [hs,hs2]) (by rw [hs2]; rfl)))
 obtain⟨l1,l2,xs,ys,ks,e,hq1,hq2,hky,hnd,q⟩:=q1
 subst e
 cases r1 with
 | cons r rr =>
  cases rr with
  | cons r' rr =>
   cases rr
   cases r
   cases r'
   obtain⟨its1,rv1,pl1,hz1⟩:=I1.list hq1
   obtain⟨its2,rv2,pl2,hz2⟩:=I1.list hq2
   have hlt1:l1 < s1.heap.objs.size:=by obtain⟨_,_,e,_⟩:=pl1; exact aJ e
   have hlt2:l2 < s1.heap.objs.size:=by obtain⟨_,_,e,_⟩:=pl2; exact aJ e
   refine call_zip_2 pl1.isList pl2.isList fun h' b1 b2 b3 b4 b5 b6 kk=>?_
   refine fO ?_
   have I2:Inv X pins σ H1 { s1 with heap:=h' }:=I1.kept (t':=s1.toks) kk
   have hfp:∀ c∈zbY s1.heap.objs.size,zbU X pins H1 c:=fun c hc=>by
    have hle:s1.heap.objs.size≤c:=by
     simp only [zbY,aD,aR,or_false] at hc
     rcases hc with z | z | z | z | z <;> subst z
     all_goals first | exact im _ _ | exact af _
    exact I1.fpOk hle (I1.hok.fresh hle)
   generalize hn:s1.heap.objs.size=n at b1 b2 b3 b4 b5 b6 hlt1 hlt2 hfp ⊢
   refine callType_codes (Q₁:=fun obj s₁=>obj = .ref h'.objs.size∧s₁ = { s1 with heap:=h'.push { cls:=.type "dict",data:=.dict #[] } }) F.kt_called_dict (F.kt_typeCall_dict_1 _) F.entry_dict_init (kt_code_dict_new _ ⟨rfl,rfl⟩) ?_
   rintro obj s₁ ⟨rfl,rfl⟩
   have hpn:∀ c o,h'.get? c=some o→(h'.push { cls:=.type "dict",data:=.dict #[] }).get? c=some o:=fun c o e=>ai _ e
   have I3:Inv X pins σ (upd H1 h'.objs.size (.dT [])) { s1 with heap:=h'.push { cls:=.type "dict",data:=.dict #[] } } :=
    I2.laid (a:=h'.objs.size) (o:=.dT []) (t':=s1.toks) hpn (af _) (zg4 h' I2.big)
   have hT:({ s1 with heap:=h'.push { cls:=.type "dict",data:=.dict #[] } }:Shared).TypeIs (.ref h'.objs.size) "dict":=⟨_,aI _ rfl,rfl⟩
   refine⟨hT,F.args_dict_init_2 _ _,?_⟩
   (unfold Builtin.«dict.__init__»; refine ae ?_; unfold Builtin.Dict.selfAndRest)
   (refine ae (i6 hT ?_))
   show wpAny _ _ (pure (h'.objs.size,[bb (n+4)])) _ _ _
   refine (ak ?_)
   show wpAny _ _ (iD "dict.__init__" h'.objs.size (.ref (n+4)) [] .none) _ _ _
   (unfold iD)
   have hz3:=hpn _ _ b1
   have hTz:({ s1 with heap:=h'.push { cls:=.type "dict",data:=.dict #[] } }:Shared).TypeIs (.ref (n+4)) "zip":=⟨_,hz3,rfl⟩
   refine ae (fB hTz ?_)
   rw [if_pos (by decide)]
   have hh:X.A.handled=none:=I.ok.hd hc
   refine ae (zmT hz3 (by simp [hh]) fun h2 tk kk2=>?_)
   rw [if_pos (by rfl)]
   refine ae (cg ?_)
   have I4:Inv X pins σ (upd H1 h'.objs.size (.dT [])) { s1 with heap:=h2,toks:=tk }:=Inv.kept (s:={ s1 with heap:=h'.push { cls:=.type "dict",data:=.dict #[] } }) (t':=tk) I3 kk2
   refine ae (zf5 (kk2 _ _ hz3) (ak ⟨plainId_quiet zdh _,?_⟩))
   have D0:H1 h'.objs.size=none:=I2.hok.fresh (af _)
   have up:∀ c o,h'.get? c=some o→h2.get? c=some o:=fun c o e=>kk2 c o (hpn c o e)
   refine zmW (X:=X) (pins:=pins) (σ:=σ) (A:=X.A.in1) (H0:=H1) (a:=l1) (b:=l2) (n:=n) (D:=h'.objs.size) (xs:=xs) (ys:=ys) (ks:=ks) (by simp [hh]) (by simp only [ci]; lia) hlt1 hlt2 D0 ?_ hq1 hq2 hky hnd hfp (fun s' H' I' e1 e2=>?_) (min xs.length ys.length) 0 _ _ _ (by lia) I4 (fun c o e=>?_) (fun c hc=>?_) ?_ ?_
   ·rw [b6]
    simp
   ·exact⟨rfl,.ref h'.objs.size,_,I',rfl,q _ _ D0 e1 e2⟩
   ·rw [zq (zy e D0)]
    exact e
   ·rw [zq]
    ·exact (hfp c hc).1
    ·rw [b6]
     simp only [zbY,aD,aR,or_false] at hc
     rcases hc with z | z | z | z | z <;> subst z <;> exact nq (by lia)
   ·exact⟨⟨_,_,up _ _ b1,.inl rfl,_,rfl⟩,up _ _ b2,⟨_,_,up _ _ b3⟩,b4.at fun o e=>up _ o e,b5.at fun o e=>up _ o e⟩
   ·rw [dC]
    exact zc
end L2
end
section
namespace PySem
theorem zdi:typeLookup (.type "list") (dunderI "add")=pure (some (.builtin "list.__iadd__")):=by rw [dO,cE]; kernel_rfl
theorem ze6:seqSlot? (.type "list") (dunderI "add")=pure (some (.builtin "list.__iadd__")):=by
 unfold seqSlot?
 rw [zdi]
 kernel_rfl
theorem zgo:fillsInplaceSlot (.type "list") "add" (Operator.Add == .Add)=pure false:=by
 unfold fillsInplaceSlot
 show (typeLookup (.type "list") (dunderI "add") >>= fun fi=>pure (fi.isSome && !isSeqSlot fi))=pure false
 rw [zdi]
 kernel_rfl
theorem zjZ {M:Model} {A:Around} {E:Value→Shared→Prop} {s:Shared} {a b:Value} {Q:Value→Shared→Prop} (ha:s.TypeIs a "list") (hb:s.TypeIs b "list")
  (hc:wpAny M A (call (.builtin "list.__iadd__") [a,b]) Q E s):wpAny M A (inplaceOp .Add a b) Q E s:=by
 (unfold inplaceOp; refine bQ ?_)
 refine ae (fB ha (ae (dG zgo ?_)))
 (show wpAny M A (if false=true then _ else _) Q E s)
 rw [if_neg aN]
 refine ae (wpAny_binaryOp1_none (nm:="add") ha hb noFill_list_add ?_)
 refine ae (dG ze6 ?_)
 exact (ae (cg hc))
end PySem
namespace L2
open PySem PySem.Spec PyProof.Rows
def zon:R2:=fun x y H Q=>∃ l b xs zs,x = .ref l∧y = .ref b∧H l=some (.lst xs)∧H b=some (.lst zs)∧xs.length+zs.length≤sizeLine∧Q (.ref l) (upd H l (.lst (xs++zs)))
theorem zlz {X:Cx}:OpR X (inplaceOp .Add) zon:=by
 intro pins s σ H x y v u Q I rx ry h
 obtain⟨l,b,xs,zs,rfl,rfl,hH,hB,hz,q⟩:=h
 cases rx
 cases ry
 obtain⟨z,its,n,r,hl,e⟩:=I.lstM hH
 obtain⟨z2,its2,n2,r2,hl2,e2⟩:=I.lstM hB
 have hsz:its.toArray.size+its2.toArray.size≤sizeLine:=by rw [aj,aj]; lia
 have hlong:¬ (!its.toArray.isEmpty && d6 (its.toArray.size+its2.toArray.size))=true:=by
  rw [zgM hsz,i3]
  exact aN
 refine zjZ ⟨_,e,rfl⟩ ⟨_,e2,rfl⟩ (dF F.slot_list_iadd ⟨_,e,rfl⟩ F.entry_list_iadd (F.args_list_iadd_2 _ _)
  (AutoSeq1.list___iadd___list_list_0 l its.toArray n b its2.toArray n2 hlong (by rw [aj]; lia) (by lia)) ⟨e,e2,?_⟩)
 refine⟨.ref l,_,I.lset (its':=its++its2) hH e (by simp) (r.append r2) ?_,rfl,q⟩
 rw [ao]
 lia
end L2
end
section
namespace My
open PySem L2 PyProof.Rows
def ch:Nat→Nat→Int
 | _,0=>1
 | 0,_+1=>0
 | t+1,j+1=>ch t j+ch t (j+1)
theorem zgp:∀ {t j:Nat},t < j→ch t j=0
 | _,0,h=>by lia
 | 0,j+1,_=>rfl
 | t+1,j+1,h=>by rw [ch,zgp (by lia),zgp (by lia)]; rfl
end My
end
section
namespace My
open PySem L2 PyProof.Rows
theorem zlA {l:List Nat} {d:Nat} (h:l.Nodup) (hl:∀ x∈l,x < d):l.length≤d:=by
 have h1:=zh9 (S:=aL d) h
 rw [iZ.mpr (fun x hx=>by have:=hl x hx; simpa using this),aT] at h1
 simpa using h1
theorem zi7 {p:Int} (hp:p∈zm) {L N m:Nat} {vs:List (List Int)} {cl:List (Nat×List Int)} (E:Ech p L N m vs cl) (hm:m < N) {w0:List Int} (W0:Wh p L N m vs [] w0):∀ i,i≤cl.length→∃ w,Wh p L N m vs (cl.take i) w
 | 0,_=>⟨w0,by rw [dC]; exact W0⟩
 | i+1,hi=>by
  obtain⟨w,W⟩:=zi7 hp E hm W0 i (by lia)
  exact⟨_,ziZ hp E hm (am (by lia)) W⟩
theorem zlB {p:Int} (hp:p∈zm) {L:Nat} {vs:List (List Int)} (hv:∀ v∈vs,v.length=L∧∀ c∈v,0≤c∧c < p) (hI:Indep p L vs):∀ m,m≤vs.length→∃ cl,Ech p L vs.length m vs cl
 | 0,_=>⟨[],Ech.start p L vs.length vs⟩
 | m+1,hm=>by
  have rp:=zp hp
  obtain⟨cl,E⟩:=zlB hp hv hI m (by lia)
  have hvm:vs[m]? = some (vs[m]'(by lia)):=am (by lia)
  obtain⟨h1,h2⟩:=hv _ (aB hvm)
  obtain⟨w,W⟩:=zi7 hp E (by lia) (zhl hp (N:=vs.length) (by lia) hvm h1 h2) cl.length (af _)
  rw [bo] at W
  by_cases hz:∀ x,x < L→gl w x=0
  ·exfalso
   obtain⟨_,d2,d3⟩:=zld W (by lia) hz
   have:=hI _ d3 m (by lia)
   rw [d2] at this
   have:=this.eq (by lia) (by lia) (bH _) (by lia)
   lia
  ·obtain⟨x,hx⟩:=Classical.not_forall.mp hz
   obtain⟨hx1,hx2⟩:=Classical.not_imp.mp hx
   exact⟨_,zhm hp E (by lia) W hx1 hx2⟩
theorem zlC {p:Int} (hp:p∈zm) {L:Nat} {vs:List (List Int)} (hv:∀ v∈vs,v.length=L∧∀ c∈v,0≤c∧c < p) (hI:Indep p L vs):vs.length≤L:=by
 obtain⟨cl,E⟩:=zlB hp hv hI vs.length (af _)
 have hn:(cl.map (·.1)).Nodup:=by
  rw [cW,dz,cD]
  intro i j hi hj hij e
  have h1:=E.up i j _ _ (am hi) (am hj) hij
  have h2:=(E.one j _ (am hj)).2.2.2.2.1
  rw [e,h2] at h1
  cases h1
 have:=zlA hn fun x hx=>by
  obtain⟨a,ha,rfl⟩:=aE.mp hx
  obtain⟨j,hj⟩:=cJ ha
  exact (E.one j a hj).1
 rw [ab,E.ln] at this
 exact this
end My
end
section
namespace My
open PySem L2 PyProof.Rows
abbrev Tm:=Nat×Nat
def cf (x:Int) (n u:Nat):Int:=ch n u*x ^ (n - u)
theorem zgq (x:Int) (n:Nat):cf x n 0=x ^ n:=by
 unfold cf
 cases n <;> simp [ch]
theorem zmX (x:Int) (n u:Nat):cf x (n+1) (u+1)=cf x n u+x*cf x n (u+1):=by
 unfold cf
 by_cases h:u < n
 ·rw [show n+1 - (u+1)=n - u by lia,show n - u=(n - (u+1))+1 by lia,fF]
  show (ch n u+ch n (u+1))*_=_
  grind
 ·have h1:ch n (u+1)=0:=zgp (by lia)
  rw [show n+1 - (u+1)=n - u by lia]
  show (ch n u+ch n (u+1))*_=_
  rw [h1]
  simp
structure Co where
 x:Int
 y:Int
 u:Nat
 v:Nat
def cv (t:Tm) (c:Co):Int:=cf c.x t.1 c.u*cf c.y t.2 c.v
def pco (q:Int×Int×Nat):List Co:=(aL q.2.2).flatMap fun u=>(aL (q.2.2 - u)).map fun v=>⟨q.1,q.2.1,u,v⟩
def cos (pts:List (Int×Int×Nat)):List Co:=pts.flatMap pco
def zaK (p:Int) (pts:List (Int×Int×Nat)) (t:Tm):List Int:=(cos pts).map fun c=>cv t c % p
def tz (k:Nat) (t:Tm):Nat:=t.1+(k - 1)*t.2
def tms (k s:Nat):List Tm:=(aL (s / (k - 1)+1)).map fun j=>(s - (k - 1)*j,j)
def zR (k s:Nat):List Tm:=(aL s).flatMap (tms k)
theorem zaL (k s:Nat):zR k (s+1)=zR k s++tms k s:=by
 unfold zR
 rw [cC,cP]
 simp
theorem zcG {k s:Nat} (hk:2≤k) {t:Tm}:t∈tms k s↔tz k t=s:=by
 unfold tms tz
 have k1:0 < k - 1:=by lia
 constructor
 ·intro h
  obtain⟨j,hj,rfl⟩:=aE.mp h
  have hj:=bF.mp hj
  have:(k - 1)*j≤s:=by
   have:=(eW k1).mp (show j≤s / (k - 1) by lia)
   rw [eI]; exact this
  show s - (k - 1)*j+(k - 1)*j=s
  lia
 ·intro h
  refine aE.mpr ⟨t.2,bF.mpr ?_,?_⟩
  ·have:t.2≤s / (k - 1):=(eW k1).mpr (by rw [eI]; lia)
   lia
  ·have:s - (k - 1)*t.2=t.1:=by lia
   rw [this]
theorem za7 {k s:Nat} (hk:2≤k) {t:Tm}:t∈zR k s↔tz k t < s:=by
 unfold zR
 rw [c6]
 constructor
 ·rintro⟨z,hz,h⟩
  rw [(zcG hk).mp h]
  exact bF.mp hz
 ·intro h
  exact⟨tz k t,bF.mpr h,(zcG hk).mpr rfl⟩
theorem zj0 (k s:Nat):(tms k s).Nodup:=by
 unfold tms
 rw [cW,dz]
 refine jR ?_ j6
 intro a b h e
 exact h (congrArg Prod.snd e)
theorem zbu {k:Nat} (hk:2≤k):∀ s,(zR k s).Nodup
 | 0=>by simp [zR]
 | s+1=>by
  rw [zaL,eG]
  refine⟨zbu hk s,zj0 k s,fun a ha b hb e=>?_⟩
  subst e
  have h1:=(za7 hk).mp ha
  have h2:=(zcG hk).mp hb
  lia
theorem zci {k:Nat} (hk:2≤k):∀ s,(zR k s).Pairwise fun a b=>tz k a≤tz k b
 | 0=>by simp [zR]
 | s+1=>by
  rw [zaL,jg]
  refine⟨zci hk s,?_,fun a ha b hb=>?_⟩
  ·refine fG (R:=fun _ _=>True) ?_ (List.pairwise_of_forall fun _ _=>trivial)
   intro a b ha hb _
   rw [(zcG hk).mp ha,(zcG hk).mp hb]
   exact af _
  ·have h1:=(za7 hk).mp ha
   have h2:=(zcG hk).mp hb
   lia
theorem zfH (k:Nat):∀ s,s≤(zR k s).length
 | 0=>aY _
 | s+1=>by
  rw [zaL,ao]
  have:=zfH k s
  have h:1≤(tms k s).length:=by unfold tms; rw [ab,aT]; exact Nat.le_add_left _ _
  lia
theorem zfI (k:Nat) {a:Nat}:∀ {b},a≤b→zR k a <+: zR k b
 | 0,h=>by
  obtain rfl:a=0:=by lia
  exact kf _
 | b+1,h=>by
  by_cases e:a=b+1
  ·rw [e]
   exact kf _
  ·exact (zfI k (show a≤b by lia)).trans (by rw [zaL]; exact List.prefix_append _ _)
def lsum (l:List Tm) (f:Tm→Int):Int:=(l.map f).sum
theorem zbj (a:Tm) (l:List Tm) (f:Tm→Int):lsum (a :: l) f=f a+lsum l f:=by simp [lsum]
theorem zhv (l m:List Tm) (f:Tm→Int):lsum (l++m) f=lsum l f+lsum m f:=by simp [lsum]
theorem zgr {p:Int} {f g:Tm→Int}:∀ {l:List Tm},(∀ t∈l,Cg p (f t) (g t))→Cg p (lsum l f) (lsum l g)
 | [],_=>Cg.refl p _
 | a :: l,h=>by
  rw [zbj,zbj]
  exact (h a aF).add (zgr fun t ht=>h t (av _ ht))
theorem zfJ {f:Tm→Int}:∀ {l:List Tm},(∀ t∈l,f t=0)→lsum l f=0
 | [],_=>rfl
 | a :: l,h=>by rw [zbj,h a aF,zfJ fun t ht=>h t (av _ ht)]; rfl
theorem zlD {l m:List Int} (h:l.Perm m):l.sum=m.sum:=by
 induction h with
 | nil=>rfl
 | cons a _ ih=>simp [ih]
 | swap a b l=>simp only [cY]; lia
 | trans _ _ h1 h2=>rw [h1,h2]
theorem zj1 {l m:List Tm} {f:Tm→Int} (h:l.Perm m):lsum l f=lsum m f:=zlD (h.map f)
theorem zj2 {l m:List Tm} {f:Tm→Int} (hl:l.Nodup) (hm:m.Nodup) (h:∀ t,t∈l↔t∈m):lsum l f=lsum m f:=zj1 ((List.perm_ext_iff_of_nodup hl hm).mpr h)
theorem zgs {f:Tm→Int} {g:Nat→Int}:∀ {l:List Tm} {n:Nat},n=l.length→(∀ i t,l[i]? = some t→g i=f t)→sm n g=lsum l f
 | [],_,rfl,_=>rfl
 | a :: l,_,rfl,h=>by
  rw [zbj,aX,zgi,h 0 a rfl,zgs rfl fun i t e=>h (i+1) t (by simpa using e)]
def zmY (p:Int) (L m:Nat) (vs:List (List Int)):Prop:=∀ u:Nat→Int,(∀ x,x < L→Cg p (sm m fun i=>u i*vx vs i x) 0)→∀ i,i < m→Cg p (u i) 0
theorem zmZ {p:Int} {L N m:Nat} {vs:List (List Int)} {cl:List (Nat×List Int)} (hm:m≤N) (E:Ech p L N m vs cl):zmY p L m vs:=fun u hu i hi=>by
 have key:∀ y,sm N (fun i=>(if i < m then u i else 0)*vx vs i y)=sm m (fun i=>u i*vx vs i y):=fun y=>by
  rw [zd8 hm (f:=fun i=>(if i < m then u i else 0)*vx vs i y) (fun i h1 _=>by rw [if_neg (by lia)]; simp)]
  exact zae fun i hi=>by rw [if_pos hi]
 have h:=E.ii (fun y=>if y < L then sm m (fun i=>u i*vx vs i y) else if y - L < m then u (y - L) else 0) (fun x hx=>?_) (fun i h1 h2=>?_) (fun a ha=>?_) i (by lia)
 ·rw [if_neg (by lia),dB,if_pos hi] at h
  exact h
 ·dsimp only
  rw [if_pos hx,← key]
  refine Cg.of_eq (zae fun i _=>?_)
  have e:(if L+i < L then sm m (fun i_1=>u i_1*vx vs i_1 (L+i)) else if L+i - L < m then u (L+i - L) else 0)=if i < m then u i else 0:=by rw [if_neg (by lia),dB]
  rw [e]
 ·rw [if_neg (by lia),dB,if_neg (by lia)]
  exact Cg.refl p 0
 ·obtain⟨j,hj⟩:=cJ ha
  have:=(E.one j a hj).1
  rw [if_pos this]
  exact hu _ this
theorem zoo {p:Int} {pts:List (Int×Int×Nat)} {t:Tm} {x:Nat} {c:Co} (h:(cos pts)[x]? = some c):gl (zaK p pts t) x=cv t c % p:=zbP (by unfold zaK; rw [ah,h]; rfl)
theorem zi8 (p:Int) (pts:List (Int×Int×Nat)) (t:Tm):(zaK p pts t).length=(cos pts).length:=by unfold zaK; rw [ab]
theorem zm0 {p:Int} (p0:0 < p) {pts:List (Int×Int×Nat)} {t:Tm}:∀ c∈zaK p pts t,0≤c∧c < p:=fun c hc=>by
 unfold zaK at hc
 obtain⟨d,_,rfl⟩:=aE.mp hc
 exact⟨aH _ (by lia),aC _ p0⟩
theorem zlE {p:Int} {pts:List (Int×Int×Nat)} {ts:List Tm} {i x:Nat} {t:Tm} {c:Co} (ht:ts[i]? = some t) (h:(cos pts)[x]? = some c):vx (ts.map (zaK p pts)) i x=cv t c % p:=by
 unfold vx
 rw [aM,ah,ht]
 exact zoo h
structure Lst (p:Int) (k:Nat) (pts:List (Int×Int×Nat)) (size:Nat) (g:Tm→Int):Prop where
 rg:∀ t,0≤g t∧g t < p
 top:∃ t,tz k t=size∧g t≠0
 out:∀ t,size < tz k t→g t=0
 ok:∀ c∈cos pts,Cg p (lsum (zR k (size+1)) fun t=>g t*cv t c) 0
 least:∀ h:Tm→Int,(∀ c∈cos pts,Cg p (lsum (zR k size) fun t=>h t*cv t c) 0)→∀ t,tz k t < size→Cg p (h t) 0
 few:(zR k size).length≤(cos pts).length
def gof (ts:List Tm) (c:List Int) (t:Tm):Int:=(iT t (ts.zip c)).getD 0
theorem zib:∀ {ts:List Tm} {c:List Int} {i:Nat} {t:Tm},ts.Nodup→ts[i]? = some t→gof ts c t=gl c i
 | [],_,_,_,_,h=>(by simp at h)
 | a :: ts,[],i,t,_,_=>by
  show (iT t ([]:List (Tm×Int))).getD 0=_
  rw [zaY (by simp)]
  rfl
 | a :: ts,b :: c,0,t,_,h=>by
  cases h
  unfold gof
  rw [dJ,ba,beq_self_eq_true]
  rfl
 | a :: ts,b :: c,i+1,t,hn,h=>by
  (have hn':=dM.mp hn)
  have h':ts[i]? = some t:=by simpa using h
  have ne:t≠a:=fun e=>hn'.1 (by rw [← e]; exact aB h')
  have:=zib (c:=c) hn'.2 h'
  unfold gof at this ⊢
  rw [dJ,ba,show (t == a)=false by simpa using ne,this]
  unfold gl
  simp
theorem zi9:∀ {ts:List Tm} {c:List Int} {t:Tm},gof ts c t≠0→∃ i,i < c.length∧ts[i]? = some t
 | [],_,_,h=>absurd rfl h
 | a :: ts,[],t,h=>absurd rfl h
 | a :: ts,b :: c,t,h=>by
  by_cases e:t=a
  ·exact⟨0,by simp,by rw [e]; rfl⟩
  ·unfold gof at h
   rw [dJ,ba,show (t == a)=false by simpa using e] at h
   obtain⟨i,h1,h2⟩:=zi9 (ts:=ts) (c:=c) (t:=t) h
   exact⟨i+1,by simpa using h1,by simpa using h2⟩
theorem zm1 {p:Int} (p0:0 < p) {ts:List Tm} {c:List Int} (hc:∀ z∈c,0≤z∧z < p) (t:Tm):0≤gof ts c t∧gof ts c t < p:=by
 unfold gof
 cases h:iT t (ts.zip c) with
 | none=>exact⟨bH _,p0⟩
 | some z =>
  have:(t,z)∈ts.zip c:=by
   clear hc
   induction ts generalizing c with
   | nil=>simp at h
   | cons a ts ih =>
    cases c with
    | nil=>simp at h
    | cons b c =>
     rw [dJ,ba] at h
     cases e:(t == a) with
     | true =>
      rw [e] at h
      cases h
      rw [show t=a by simpa using e]
      exact aF
     | false =>
      rw [e] at h
      exact av _ (ih h)
  exact hc z (ga this).2
theorem zct {f:Tm→Int} {q:Tm→Bool}:∀ {l:List Tm},(∀ t∈l,q t=false→f t=0)→lsum l f=lsum (l.filter q) f
 | [],_=>rfl
 | a :: l,h=>by
  have ih:=zct (l:=l) (f:=f) (q:=q) fun t ht=>h t (av _ ht)
  cases e:q a with
  | true=>rw [bS e,zbj,zbj,ih]
  | false=>rw [bT (by rw [e]; simp),zbj,h a aF e,ih]; lia
theorem zdz {k:Nat} {l:List Tm} (h:l.Pairwise fun a b=>tz k a≤tz k b) {i j:Nat} {a b:Tm} (ha:l[i]? = some a) (hb:l[j]? = some b) (hij:i≤j):tz k a≤tz k b:=by
 by_cases e:i=j
 ·subst e
  rw [ha] at hb
  cases hb
  exact af _
 ·obtain⟨h1,e1⟩:=az.mp ha
  obtain⟨h2,e2⟩:=az.mp hb
  have:=cD.mp h i j h1 h2 (by lia)
  rw [e1,e2] at this
  exact this
theorem zop {p:Int} (p0:0 < p) {k:Nat} (hk:2≤k) {pts:List (Int×Int×Nat)} {S:Nat} {ts:List Tm} (hts:ts=(zR k S).take ((cos pts).length+1)) {c:List Int} {m:Nat} (hc:IsP p (m+1) c) {top:Tm} (htop:ts[m]? = some top) (h1:gl c m=1)
  (hD:Dep p (cos pts).length (ts.map (zaK p pts)) c) (hI:zmY p (cos pts).length m (ts.map (zaK p pts))):Lst p k pts (tz k top) (gof ts c):=by
 have hpre:ts <+: zR k S:=by rw [hts]; exact List.take_prefix _ _
 have hnd:ts.Nodup:=fI hpre.sublist (zbu hk S)
 have hso:ts.Pairwise fun a b=>tz k a≤tz k b:=eS hpre.sublist (zci hk S)
 have hmt:m < ts.length:=(az.mp htop).1
 have hml:m < (cos pts).length+1:=by
  rw [hts,aA] at hmt
  lia
 have hin:∀ t,gof ts c t≠0→∃ i,i≤m∧ts[i]? = some t:=fun t ht=>by
  obtain⟨i,h1,h2⟩:=zi9 ht
  exact⟨i,by rw [hc.1] at h1; lia,h2⟩
 have topS:tz k top < S:=(za7 hk).mp (hpre.sublist.subset (aB htop))
 have sumAll:∀ F:Tm→Int,lsum (zR k (tz k top+1)) (fun t=>gof ts c t*F t)=lsum ts (fun t=>gof ts c t*F t):=fun F=>by
  rw [zct (l:=zR k (tz k top+1)) (q:=fun t=>decide (gof ts c t≠0)) fun t _ e=>by
    rw [show gof ts c t=0 by simpa using e]; simp,
   zct (l:=ts) (q:=fun t=>decide (gof ts c t≠0)) fun t _ e=>by
    rw [show gof ts c t=0 by simpa using e]; simp]
  refine zj2 (fI cQ (zbu hk _)) (fI cQ hnd) fun t=>?_
  rw [bz,bz,za7 hk]
  constructor
  ·rintro⟨_,h⟩
   obtain⟨i,_,hi⟩:=hin t (by simpa using h)
   exact⟨aB hi,h⟩
  ·rintro⟨_,h⟩
   obtain⟨i,him,hi⟩:=hin t (by simpa using h)
   exact⟨hJ (zdz hso hi htop him),h⟩
 have preM:zR k (tz k top) <+: zR k S:=zfI k (fw topS)
 have hM:(zR k (tz k top)).length≤m:=by
  refine eY fun hlt=>?_
  have hS:(zR k S)[m]? = some top:=by
   obtain⟨r,hr⟩:=hpre
   rw [← hr,bp hmt]
   exact htop
  obtain⟨r,hr⟩:=preM
  rw [← hr,bp hlt] at hS
  have:=(za7 hk).mp (aB hS)
  lia
 have atM:∀ i t,(zR k (tz k top))[i]? = some t→ts[i]? = some t:=fun i t e=>by
  have hi:=(az.mp e).1
  obtain⟨r,hr⟩:=preM
  have hS:(zR k S)[i]? = some t:=by rw [← hr,bp hi]; exact e
  obtain⟨r2,hr2⟩:=hpre
  rw [← hr2,bp (by lia)] at hS
  exact hS
 refine⟨zm1 p0 hc.2,⟨top,rfl,by rw [zib hnd htop,h1]; decide⟩,fun t ht=>?_,fun d hd=>?_,fun h hh t ht=>?_,by lia⟩
 ·refine df fun hne=>?_
  obtain⟨i,him,hi⟩:=hin t hne
  have:=zdz hso hi htop him
  lia
 ·rw [sumAll]
  obtain⟨x,hx⟩:=cF.mp hd
  have hx':=(az.mp hx).1
  have:=hD x hx'
  rw [ab,zgs (l:=ts) (f:=fun t=>gof ts c t*(cv t d % p)) rfl fun i t e=>by rw [zib hnd e,zlE e hx]] at this
  exact (zgr fun t _=>(Cg.refl p _).mul (Cg.emod p _).symm).trans this
 ·have hu:=hI (fun i=>if i < (zR k (tz k top)).length then h (ts.getD i (0,0)) else 0) (fun x hx=>?_)
  ·obtain⟨i,hi⟩:=cF.mp ((za7 hk).mpr ht)
   have hil:=(az.mp hi).1
   have:=hu i (by lia)
   rw [if_pos hil,aM,atM i t hi] at this
   exact this
  ·have hx2:(cos pts)[x]? = some ((cos pts)[x]'hx):=am hx
   rw [zd8 hM fun i h2 _=>by rw [if_neg (by lia)]; simp]
   rw [zgs (l:=zR k (tz k top)) (f:=fun t=>h t*(cv t ((cos pts)[x]'hx) % p)) rfl fun i t e=>by
    rw [if_pos (az.mp e).1,zlE (atM i t e) hx2,aM,atM i t e]
    rfl]
   exact (zgr fun t _=>(Cg.refl p _).mul (Cg.emod p _)).trans (hh _ (f6 hx))
end My
end
section
namespace My
open PySem L2 PyProof.Rows
def tri (w:Nat):Nat:=w*(w+1) / 2
theorem zlF (w:Nat):tri (w+1)=tri w+(w+1):=by
 unfold tri
 rw [show (w+1)*(w+1+1)=w*(w+1)+2*(w+1) by grind,Nat.add_mul_div_left _ _ (by decide)]
theorem zhw (n:Nat):∀ m,m≤n→((aL m).map fun u=>n - u).sum+tri (n - m)=tri n
 | 0,_=>by simp
 | m+1,h=>by
  have ih:=zhw n m (by lia)
  rw [cC,ar,kr]
  have:tri (n - m)=tri (n - (m+1))+(n - m):=by
   rw [show n - m=(n - (m+1))+1 by lia,zlF]
  (simp only [aU,fC,cY,List.sum_nil])
  lia
theorem zm2 (q:Int×Int×Nat):(pco q).length=tri q.2.2:=by
 unfold pco
 rw [List.length_flatMap]
 have:=zhw q.2.2 q.2.2 (af _)
 have e:(aL q.2.2).map (fun u=>((aL (q.2.2 - u)).map fun v=>(⟨q.1,q.2.1,u,v⟩:Co)).length)=(aL q.2.2).map fun u=>q.2.2 - u:=cj fun u _=>by rw [ab,aT]
 rw [e]
 have t0:tri (q.2.2 - q.2.2)=0:=by rw [gh]; rfl
 lia
def zcu (pts:List (Int×Int×Nat)):Nat:=(pts.map fun q=>tri q.2.2).sum
theorem zgt:∀ pts,(cos pts).length=zcu pts
 | []=>rfl
 | q :: pts=>by
  have ih:=zgt pts
  unfold cos zcu at ih ⊢
  rw [fR,ao,zm2,ih]
  simp
def zgu (k s:Nat) (g:Tm→Int):List (List Int):=(aL (s / (k - 1)+1)).map fun j=>(aL (s - (k - 1)*j+1)).map fun i=>g (i,j)
theorem zhx (k s:Nat) (g:Tm→Int):(zgu k s g).length=s / (k - 1)+1:=by unfold zgu; rw [ab,aT]
theorem zlG {k s j:Nat} {g:Tm→Int} (h:j < s / (k - 1)+1):(zgu k s g)[j]? = some ((aL (s - (k - 1)*j+1)).map fun i=>g (i,j)):=by
 unfold zgu
 rw [ah,bZ h]
 rfl
end My
end
section
namespace My
open PySem L2 PyProof.Rows
section
variable {K:ag}
theorem LsA.off {H:Hp} {l:Addr} {ls:List Addr} {vv:List (List Int)} (h:LsA H ls vv) (hl:H l=some (.lst (ls.map V.ref))):∀ (i:Nat) (b:Addr),ls[i]? = some b→b≠l:=by
 rintro i b hb rfl
 obtain⟨v,_,hv⟩:=Paired.get h hb
 rw [hl] at hv
 cases ls with
 | nil=>simp at hb
 | cons x r =>
  cases v with
  | nil=>simp at hv
  | cons y z=>simp at hv
theorem zoq {H H':Hp} {ls:List Addr} {vv:List (List Int)} {D:Addr} (hD:D∉ls) (k:∀ b o,b≠D→H b=some o→H' b=some o) (h:LsA H ls vv):LsA H' ls vv:=by
 induction h with
 | nil=>exact .nil
 | cons h1 _ ih=>exact .cons (k _ _ (fun e=>hD (by rw [← e]; exact aF)) h1) (ih fun z=>hD (av _ z))
theorem zdK {α β:Type} {R:α→β→Prop}:∀ {as:List α} {bs:List β} {x:α} {y:β},Paired R (as++[x]) (bs++[y])→Paired R as bs∧R x y
 | [],[],_,_,h=>by cases h with | cons h1 _=>exact⟨.nil,h1⟩
 | [],b :: bs,_,_,h=>by have:=be h; simp at this
 | a :: as,[],_,_,h=>by have:=be h; simp at this
 | a :: as,b :: bs,_,_,h=>by
  cases h with
  | cons h1 h2 =>
   obtain⟨p1,p2⟩:=zdK h2
   exact⟨.cons h1 p1,p2⟩
theorem zlH {H:Hp} {d:Nat} {x:V} (hx:zfn x=true):EqD K H d x x true:=by
 have h:=EqD.flat (K:=K) (H:=H) (d:=d) (x:=x) (y:=x) hx hx
 have e:eqV x x=true:=by
  cases x <;> simp_all [eqV,zfn]
 rw [e] at h
 exact h
theorem zm3 {xs:List V} {v:V}:atI (xs++[v]) (-1)=some v:=by
 unfold atI ixN
 rw [if_neg (by decide),if_pos (by rw [ao]; show -((xs.length+1:Nat):Int)≤-1; lia)]
 show (xs++[v])[(-1+((xs++[v]).length:Int)).toNat]? = some v
 rw [ao,show (-1+((xs.length + [v].length:Nat):Int)).toNat=xs.length by show (-1+((xs.length+1:Nat):Int)).toNat=_; lia,bR (af _),gh]
 rfl
end
end My
end
section
namespace My
open PySem L2 PyProof.Rows
def top (i:Nat):Stmt:=PySem.Challenge.pw_slipcurve_k20_whole_more_heard.main.body.getD i (.Pass ⟨0,0,0,0⟩)
abbrev zcj:Stmt:=top 1
abbrev zcH:Stmt:=top 2
abbrev zbd:Stmt:=top 3
abbrev zeM:Stmt:=top 4
abbrev zcI:Stmt:=top 5
abbrev zaM:Stmt:=top 11
abbrev zeN:Stmt:=top 12
abbrev zbI:Stmt:=top 14
abbrev zaZ:Stmt:=top 15
abbrev zbL:Stmt:=top 16
abbrev zbe:Stmt:=top 18
abbrev zaB:Stmt:=top 19
abbrev zaS:Stmt:=top 20
abbrev zb5:Stmt:=top 21
abbrev zaj:Stmt:=top 22
abbrev zbv:Stmt:=top 23
abbrev za0:Stmt:=top 25
abbrev zag:Stmt:=top 26
abbrev zbf:Stmt:=top 27
abbrev zbw:Stmt:=top 28
abbrev zaC:Stmt:=top 30
abbrev s_beyond:Stmt:=top 31
abbrev zea:Stmt:=top 32
abbrev z8:Stmt:=top 33
abbrev zbF:Stmt:=top 35
abbrev zeO:Stmt:=top 36
abbrev zdj:Stmt:=top 38
abbrev zcJ:Stmt:=top 39
abbrev zcv:Stmt:=top 40
abbrev zcK:Stmt:=top 41
abbrev zaN:Stmt:=top 42
abbrev zdk:Stmt:=top 43
abbrev zb6:Stmt:=top 44
structure Adr where
 SlipError:Addr
 TooFew:Addr
 NoCurve:Addr
 value_at:Addr
 inverse:Addr
 times_root:Addr
 bent:Addr
 through:Addr
 heard_points:Addr
 fits:Addr
 choices:Addr
 all_through:Addr
 all_near:Addr
 moved_powers:Addr
 numbers_at:Addr
 vectors_of:Addr
 without:Addr
 first_relation:Addr
 first_sum:Addr
 first_terms:Addr
 least_curve:Addr
 check_curves:Addr
 curve_for:Addr
 times_entries:Addr
 beyond:Addr
 sized:Addr
 joint_locator:Addr
 locator_of:Addr
 half:Addr
 l_cell:Addr
 l_draws:Addr
 l_code:Addr
 l_value:Addr
 l_polynomial:Addr
 l_row:Addr
 law:Addr
structure Txt (K:ag) (mg:Str→Option Value) (t:Adr):Prop where
 len_:mg "len" = none
 range_:mg "range" = none
 list_:mg "list" = none
 tuple_:mg "tuple" = none
 min_:mg "min" = none
 max_:mg "max" = none
 int_:mg "int" = none
 zip_:mg "zip" = none
 enumerate_:mg "enumerate" = none
 sum_:mg "sum" = none
 dict_:mg "dict" = none
 reversed_:mg "reversed" = none
 sorted_:mg "sorted" = none
 ValueError_:mg "ValueError" = none
 x_SlipError:mg "SlipError" = some (.ref t.SlipError)
 x_TooFew:mg "TooFew" = some (.ref t.TooFew)
 x_NoCurve:mg "NoCurve" = some (.ref t.NoCurve)
 sb:kH K t.SlipError (.type "BaseException")=some true
 m_value_at:mg "value_at" = some (.ref t.value_at)
 m_inverse:mg "inverse" = some (.ref t.inverse)
 m_times_root:mg "times_root" = some (.ref t.times_root)
 m_bent:mg "bent" = some (.ref t.bent)
 m_through:mg "through" = some (.ref t.through)
 m_heard_points:mg "heard_points" = some (.ref t.heard_points)
 m_fits:mg "fits" = some (.ref t.fits)
 m_choices:mg "choices" = some (.ref t.choices)
 m_all_through:mg "all_through" = some (.ref t.all_through)
 m_all_near:mg "all_near" = some (.ref t.all_near)
 m_moved_powers:mg "moved_powers" = some (.ref t.moved_powers)
 m_numbers_at:mg "numbers_at" = some (.ref t.numbers_at)
 m_vectors_of:mg "vectors_of" = some (.ref t.vectors_of)
 m_without:mg "without" = some (.ref t.without)
 m_first_relation:mg "first_relation" = some (.ref t.first_relation)
 m_first_sum:mg "first_sum" = some (.ref t.first_sum)
 m_first_terms:mg "first_terms" = some (.ref t.first_terms)
 m_least_curve:mg "least_curve" = some (.ref t.least_curve)
 m_check_curves:mg "check_curves" = some (.ref t.check_curves)
 m_curve_for:mg "curve_for" = some (.ref t.curve_for)
 m_times_entries:mg "times_entries" = some (.ref t.times_entries)
 m_beyond:mg "beyond" = some (.ref t.beyond)
 m_sized:mg "sized" = some (.ref t.sized)
 m_joint_locator:mg "joint_locator" = some (.ref t.joint_locator)
 m_locator_of:mg "locator_of" = some (.ref t.locator_of)
 m_half:mg "half" = some (.ref t.half)
 m_l_cell:mg "_law_cell" = some (.ref t.l_cell)
 m_l_draws:mg "_law_draws" = some (.ref t.l_draws)
 m_l_code:mg "_law_code" = some (.ref t.l_code)
 m_l_value:mg "_law_value" = some (.ref t.l_value)
 m_l_polynomial:mg "_law_polynomial" = some (.ref t.l_polynomial)
 m_l_row:mg "_law_row" = some (.ref t.l_row)
 f_value_at:∃ fd,Fun K "value_at" "value_at" zcj t.value_at fd∧Binds K fd ["p","polynomial","x"] []
 f_inverse:∃ fd,Fun K "inverse" "inverse" zcH t.inverse fd∧Binds K fd ["p","number"] []
 f_times_root:∃ fd,Fun K "times_root" "times_root" zbd t.times_root fd∧Binds K fd ["p","polynomial","root"] []
 f_bent:∃ fd,Fun K "bent" "bent" zeM t.bent fd∧Binds K fd ["p","polynomial","vanishing","point"] []
 f_through:∃ fd,Fun K "through" "through" zcI t.through fd∧Binds K fd ["p","points"] []
 f_heard_points:∃ fd,Fun K "heard_points" "heard_points" zaM t.heard_points fd∧Binds K fd ["code","row"] []
 f_fits:∃ fd,Fun K "fits" "fits" zeN t.fits fd∧Binds K fd ["code","row","polynomial"] []
 f_choices:∃ fd,Fun K "choices" "choices" zbI t.choices fd∧Binds K fd ["things","many"] []
 f_all_through:∃ fd,Fun K "all_through" "all_through" zaZ t.all_through fd∧Binds K fd ["code","points"] []
 f_all_near:∃ fd,Fun K "all_near" "all_near" zbL t.all_near fd∧Binds K fd ["code","row","t"] []
 f_moved_powers:∃ fd,Fun K "moved_powers" "moved_powers" zbe t.moved_powers fd∧Binds K fd ["p","by","most","kept"] []
 f_numbers_at:∃ fd,Fun K "numbers_at" "numbers_at" zaB t.numbers_at fd∧Binds K fd ["p","terms","point"] []
 f_vectors_of:∃ fd,Fun K "vectors_of" "vectors_of" zaS t.vectors_of fd∧Binds K fd ["p","terms","points"] []
 f_without:∃ fd,Fun K "without" "without" zb5 t.without fd∧Binds K fd ["p","vector","times","other"] []
 f_first_relation:∃ fd,Fun K "first_relation" "first_relation" zaj t.first_relation fd∧Binds K fd ["p","vectors"] []
 f_first_sum:∃ fd,Fun K "first_sum" "first_sum" zbv t.first_sum fd∧Binds K fd ["p","terms","points"] []
 f_first_terms:∃ fd,Fun K "first_terms" "first_terms" za0 t.first_terms fd∧Binds K fd ["k","many"] []
 f_least_curve:∃ fd,Fun K "least_curve" "least_curve" zag t.least_curve fd∧Binds K fd ["p","k","points"] []
 f_check_curves:∃ fd,Fun K "check_curves" "check_curves" zbf t.check_curves fd∧Binds K fd ["k"] []
 f_curve_for:∃ fd,Fun K "curve_for" "curve_for" zbw t.curve_for fd∧Binds K fd ["code","row","m"] []
 f_times_entries:∃ fd,Fun K "times_entries" "times_entries" zaC t.times_entries fd∧Binds K fd ["p","left","points"] []
 f_beyond:∃ fd,Fun K "beyond" "beyond" s_beyond t.beyond fd∧Binds K fd ["rights","many"] []
 f_sized:∃ fd,Fun K "sized" "sized" zea t.sized fd∧Binds K fd ["polynomial","many"] []
 f_joint_locator:∃ fd,Fun K "joint_locator" "joint_locator" z8 t.joint_locator fd∧Binds K fd ["code","rows"] []
 f_locator_of:∃ fd,Fun K "locator_of" "locator_of" zbF t.locator_of fd∧Binds K fd ["code","row"] []
 f_half:∃ fd,Fun K "half" "half" zeO t.half fd∧Binds K fd ["code","row"] []
 f_l_cell:∃ fd,Fun K "_law_cell" "_law_cell" zdj t.l_cell fd∧Binds K fd ["script","k"] []
 f_l_draws:∃ fd,Fun K "_law_draws" "_law_draws" zcJ t.l_draws fd∧Binds K fd ["script","k","many","base"] []
 f_l_code:∃ fd,Fun K "_law_code" "_law_code" zcv t.l_code fd∧Binds K fd ["script","at","most_k","most_n"] []
 f_l_value:∃ fd,Fun K "_law_value" "_law_value" zcK t.l_value fd∧Binds K fd ["p","polynomial","x"] []
 f_l_polynomial:∃ fd,Fun K "_law_polynomial" "_law_polynomial" zaN t.l_polynomial fd∧Binds K fd ["draws","p","k"] []
 f_l_row:∃ fd,Fun K "_law_row" "_law_row" zdk t.l_row fd∧Binds K fd ["script","at","code"] []
section
variable {P:Program} {w:World} {K:ag} {mg:Str→Option Value} {base:Heap} {t:Adr}
theorem zj3:FnScope ["script","k"] ["script","k"] (zh zdj):=⟨rfl,rfl,rfl,by decide +kernel,rfl,by decide +kernel,by decide +kernel⟩
theorem zj4 {fd:FuncData} (T:Txt K mg t) (F:Fun K "_law_cell" "_law_cell" zdj t.l_cell fd):FnOk P w K mg base CX0 1 t.l_cell fd ["script","k"] (zjB K):=by
 refine F.ok zj3 (fun vs H Q E h=>?_) (fun cdv A outer s H vs Q E hr h=>?_)
 ·obtain⟨a,ns,k,rfl,_⟩:=h; rfl
 ·obtain⟨a,ns,k,rfl,hS,hlen,k0,k1,q⟩:=h
  refine⟨_,#[zd,#[za6,#[zC,#[zfh],#[pvx,1],#[zA,#[zu],T.len_,b9,#[za,#[pvx,0],#[ze]]],(zQ _)],#[zn,#[zE,#[zM,#[zK],#[pvx,0],#[pvx,1]]]],#[zab]],by exact #[zd,#[za6,#[zC,#[zdE],#[zA,#[zu],T.len_,b9,#[za,#[pvx,0],#[ze]]],#[zf],(zQ _)],#[zn,#[zE,#[zj,#[zO],#[zj,#[zZ],#[zf],#[pvx,1]],#[zf]]]],#[zab]],by exact #[zn,#[zE,#[zj,#[zO],#[zj,#[zH],#[zM,#[zK],#[pvx,0],#[zj,#[zH],#[pvx,1],#[zA,#[zu],T.len_,b9,#[za,#[pvx,0],#[ze]]]]],#[zf]],#[zj,#[zZ],#[zf],#[pvx,1]]]]]]],?_⟩
  refine⟨_,rfl,_,rfl,a,_,rfl,.inl hS,_,_,rfl,rfl,_,rfl,?_⟩; rw [ab]
  refine zaI (fun h=>?_) (fun h=>?_)
  ·have h:k < (ns.length:Int):=by simpa using h
   obtain⟨c,hc⟩:=zdY k0 h
   exact⟨_,rfl,_,rfl,a,_,k,_,rfl,rfl,hS,hc,q c⟩
  ·have h:¬ k < (ns.length:Int):=by simpa using h
   refine⟨_,rfl,a,_,rfl,.inl hS,rfl,_,rfl,?_⟩
   rw [ab]
   refine zaI (fun h2=>?_) (fun h2=>?_)
   ·exact⟨_,rfl,_,_,rfl,rfl,.inl ⟨by decide,by decide⟩,_,_,rfl,rfl,q _⟩
   ·have h2:¬ V.int (ns.length:Int)=V.int 0:=by simpa using h2
    have hpos:0 < (ns.length:Int):=by
     have:(ns.length:Int)≠0:=fun z=>h2 (by rw [z])
     lia
    have m0:=aH k (show (ns.length:Int)≠0 by lia)
    have m1:=aC k hpos
    obtain⟨c,hc⟩:=zdY m0 m1
    refine⟨_,rfl,_,rfl,_,rfl,a,_,rfl,.inl hS,_,_,rfl,rfl,by rw [ab]; exact hpos,a,_,_,_,rfl,rfl,hS,by rw [ab]; exact hc,_,_,rfl,rfl,(by show (0:Int) < 1000003; decide),?_⟩
    exact⟨_,rfl,_,_,rfl,rfl,.inl ⟨by decide,by decide⟩,_,_,rfl,rfl,q _⟩
theorem zaa:FnScope ["script","k","many","base","primes","cell","rest","row","j","mash"] ["script","k","many","base"] (zh zcJ):=⟨rfl,rfl,rfl,by decide +kernel,rfl,by decide +kernel,by decide +kernel⟩
theorem zcY {fd:FuncData} (T:Txt K mg t) (F:Fun K "_law_draws" "_law_draws" zcJ t.l_draws fd):FnOk P w K mg base CX0 2 t.l_draws fd ["script","k","many","base"] (zhT K):=by
 obtain⟨fd_l_cell,F_l_cell,b_l_cell⟩:=T.f_l_cell
 have G_l_cell:=zj4 (P:=P) (w:=w) (base:=base) T F_l_cell
 refine F.ok zaa (fun vs H Q E h=>?_) (fun cdv A outer s H vs Q E hr h=>?_)
 ·obtain⟨a,ns,k,many,base,rfl,_⟩:=h
  rfl
 ·obtain⟨a,ns,k,many,bs,rfl,hS,hlen,k0,k1,m0,m1,b0,b1,q⟩:=h
  refine⟨_,#[zd,#[zo,4,zaa.nd,(aq rfl),#[zaG,#[zcP,by exact #[zcP,by exact #[zcP,by exact #[zcP,by exact #[zcP,by exact #[za,#[zf],#[za,#[zf],#[za,#[zf],#[ze]]]]]]]]]]],by exact #[zd,#[zo,5,zaa.nd,(aq rfl),#[zr,G_l_cell,(hr.mono (by decide)),T.m_l_cell,F_l_cell.kp,b_l_cell,#[zG],#[za,#[pvx,0],#[za,#[pvx,1],#[ze]]]]],by exact #[zd,#[zo,6,zaa.nd,(aq rfl),#[zf]],by exact #[zd,#[za6,#[zC,#[znk],#[pvx,5],#[zj,(@znJ _),#[zf],#[zf]],(zQ _)],#[zn,#[zo,6,zaa.nd,(aq rfl),#[pvx,5]]],#[zab]],by exact #[zd,#[zo,7,zaa.nd,(aq rfl),#[zX,#[ze]]],by exact #[zd,#[za9,bA,#[zai,T.range_,#[za,#[pvx,2],#[ze]]],#[zg,8,zaa.nd,(aq rfl)],#[zd,#[zo,9,zaa.nd,(aq rfl),#[zj,#[zZ],#[zj,#[zH],#[pvx,5],#[zM,#[zb8],#[pvx,4],#[zj,#[zH],#[pvx,8],#[zf]]]],#[zj,#[zO],#[zf],#[zj,#[zZ],#[zj,#[zZ],#[zf],#[pvx,8]],#[pvx,8]]]]],by exact #[zd,#[zo,9,zaa.nd,(aq rfl),#[zj,#[zO],#[zj,#[zO],#[pvx,9],#[zj,#[zZ],#[zj,#[zZ],#[zf],#[zj,#[zO],#[pvx,8],#[zf]]],#[zj,#[zO],#[pvx,8],#[zf]]]],#[zj,#[zZ],#[zf],#[pvx,1]]]],by exact #[zd,#[zo,9,zaa.nd,(aq rfl),#[zj,#[zH],#[pvx,9],#[zM,#[zb8],#[pvx,4],#[zj,#[zH],#[zj,#[zO],#[zj,#[zZ],#[zf],#[pvx,8]],#[pvx,1]],#[zf]]]]],by exact #[zd,#[zo,9,zaa.nd,(aq rfl),#[zj,#[zH],#[zj,#[zZ],#[zj,#[zZ],#[pvx,9],#[pvx,9]],#[pvx,9]],#[zM,#[zb8],#[pvx,4],#[zj,#[zH],#[zj,#[zO],#[pvx,8],#[zf]],#[zf]]]]],by exact #[zd,#[za6,#[zC,#[zc2],#[pvx,6],#[zf],(zQ _)],#[zn,#[zo,9,zaa.nd,(aq rfl),#[pvx,6]]],#[zab]],by exact #[zd,#[zcw,#[zfo,cL,du,dv,#[zb2],#[pvx,7],#[za,#[zj,#[zH],#[pvx,9],#[pvx,3]],#[ze]]]],by exact #[zn,#[zo,6,zaa.nd,(aq rfl),#[zj,#[zbB],#[pvx,6],#[pvx,3]]]]]]]]]]],by exact #[zn,#[zE,#[pvx,7]]]]]]]]],?_⟩
  refine⟨by show 8≤sizeLine; rw [aV]; decide,fun tp ht=>?_⟩
  have s1:zt H (upd H tp (.tup zme)):=zb ht
  refine⟨_,rfl,_,rfl,a,ns,k,rfl,s1.seq hS,hlen,k0,k1,fun c=>?_⟩
  refine⟨_,rfl,_,_,rfl,rfl,⟨by decide,by decide,by decide⟩,_,_,rfl,rfl,_,rfl,?_⟩
  refine zaI (fun _=>⟨_,rfl,?_⟩) (fun _=>?_)
  all_goals
   refine⟨aY _,fun l hl=>?_⟩
   have hln:H l=none:=zt.free s1 hl
   have htl:tp≠l:=zy zc hl
   refine⟨_,rfl,many,rfl,by lia,by lia,zcx (lo:=0) (n:=many.toNat) (fun i σ H'=>∃ (r:Int) (v8 v9:Option V) (ds:List Int),σ = [some (.ref a),some (.int k),some (.int many),some (.int bs),some (.ref tp),some (.int c),some (.int r),some (.ref l),v8,v9]∧ziB i bs ds∧zt H H'∧H' tp=some (.tup zme)∧H' l=some (.lst (ds.map V.int)))
    ⟨_,none,none,[],rfl,⟨rfl,by simp⟩,zac s1 hln,by rw [zq htl]; exact zc,zc⟩ ?_ ?_⟩
   ·rintro i σ H2 hi ⟨r,v8,v9,ds,rfl,hd,s2,htp,hrow⟩
    obtain⟨q1,e1,q1p,q1l⟩:=zeo (0+(i:Int))
    obtain⟨q2,e2,q2p,q2l⟩:=zeo (3*(0+(i:Int))+k)
    obtain⟨q3,e3,q3p,q3l⟩:=zeo (0+(i:Int)+5)
    have c1:=aH c (show q1≠0 by lia)
    have c2:=aC c q1p
    have hi':(i:Int) < 1000:=by lia
    refine⟨_,rfl,_,rfl,_,rfl,_,_,rfl,rfl,(by show (0:Int) < 8; decide),tp,_,_,_,rfl,rfl,SqT.of htp,e1,_,_,rfl,rfl,q1p,_,rfl,_,_,rfl,rfl,.inl ⟨by decide,by decide⟩,_,rfl,_,_,rfl,rfl,.inl ⟨by lia,by lia⟩,_,_,rfl,rfl,_,_,rfl,rfl,.inl ⟨by lia,by lia⟩,?_⟩
    refine⟨_,rfl,_,rfl,_,_,rfl,rfl,_,_,rfl,rfl,.inl ⟨by decide,by decide⟩,_,rfl,_,_,rfl,rfl,_,_,rfl,rfl,.inl ⟨by lia,by lia⟩,_,_,rfl,rfl,_,rfl,_,_,rfl,rfl,.inl ⟨by decide,by decide⟩,_,_,rfl,rfl,?_⟩
    refine⟨_,rfl,_,rfl,_,rfl,_,_,rfl,rfl,.inl ⟨by decide,by decide⟩,_,rfl,_,_,rfl,rfl,_,_,rfl,rfl,(by show (0:Int) < 8; decide),tp,_,_,_,rfl,rfl,SqT.of htp,e2,_,_,rfl,rfl,q2p,?_⟩
    generalize c % q1*(48271+2*(0+(i:Int))*(0+(i:Int)))+7919*(0+(i:Int)+1)*(0+(i:Int)+1)+104729*k=ms
    have d1:=aH ms (show q2≠0 by lia)
    have d2:=aC ms q2p
    refine⟨_,rfl,_,rfl,_,_,rfl,rfl,.inl ⟨by lia,by lia⟩,_,rfl,_,_,rfl,rfl,.inr ⟨by lia,by lia⟩,_,rfl,_,rfl,_,_,rfl,rfl,_,_,rfl,rfl,(by show (0:Int) < 8; decide),tp,_,_,_,rfl,rfl,SqT.of htp,e3,_,_,rfl,rfl,q3p,?_⟩
    refine⟨_,rfl,_,_,rfl,rfl,_,rfl,?_⟩
    have hdl:=hd.1
    refine zaI (fun _=>⟨_,rfl,?_⟩) (fun _=>?_)
    all_goals
     refine⟨_,rfl,.inl ⟨rfl,_,SqL.of hrow⟩,_,rfl,_,rfl,_,_,rfl,rfl,b0,l,_,_,rfl,rfl,hrow,zad (by rw [ab]; lia),?_⟩
     refine⟨_,rfl,_,rfl,_,_,rfl,rfl,⟨b0,b1⟩,?_⟩
     refine⟨_,_,_,ds++[_],rfl,⟨by rw [ao,hdl]; rfl,fun d hm=>?_⟩,zac s2 hln,by rw [zq htl]; exact htp,by rw [zc,ar]; rfl⟩; rcases aW.mp hm with hm | hm
     ·exact hd.2 d hm
     ·have e:=a7.mp hm
      rw [e]
      exact⟨aH _ (by lia),aC _ b0⟩
   ·rintro σ H2 ⟨r,v8,v9,ds,rfl,hd,s2,htp,hrow⟩
    exact⟨_,rfl,q l ds H2 hln s2 hd hrow⟩
theorem zbk:FnScope ["script","at","most_k","most_n","plan","primes","p","k","many","left"] ["script","at","most_k","most_n"] (zh zcv):=⟨rfl,rfl,rfl,by decide +kernel,rfl,by decide +kernel,by decide +kernel⟩
theorem zj5 {fd:FuncData} (T:Txt K mg t) (F:Fun K "_law_code" "_law_code" zcv t.l_code fd):FnOk P w K mg base CX0 3 t.l_code fd ["script","at","most_k","most_n"] (zjC K):=by
 obtain⟨fd_l_draws,F_l_draws,b_l_draws⟩:=T.f_l_draws
 have G_l_draws:=zcY (P:=P) (w:=w) (base:=base) T F_l_draws
 refine F.ok zbk (fun vs H Q E h=>?_) (fun cdv A outer s H vs Q E hr h=>?_)
 ·obtain⟨a,ns,at',mk,mn,rfl,_⟩:=h
  rfl
 ·obtain⟨a,ns,at',mk,mn,rfl,hS,hlen,a0,a1,k1,k5,kn,n16,q⟩:=h
  refine⟨_,#[zd,#[zo,4,zbk.nd,(bX rfl),#[zr,G_l_draws,(hr.mono (by decide)),T.m_l_draws,F_l_draws.kp,b_l_draws,#[zG],#[za,#[pvx,0],by exact #[za,#[pvx,1],#[za,#[zf],#[za,#[zf],#[ze]]]]]]],by exact (by exact (@zkx _ 5 _ _ _ _ _ _ _ [5,7,11,13,17,19,23,29,31,37,41,43,47,53,59,61,67,71,73,79,83,89,97] (by decide +kernel) zbk.nd rfl (aq rfl) (by first | exact .inl rfl | exact .inr rfl) (by exact #[zd,#[zo,6,zbk.nd,(aq rfl),#[zM,#[zK],#[zX,#[za,#[zM,#[zK],#[pvx,5],#[zj,#[zH],#[zM,#[zK],#[pvx,4],#[zf]],#[zf]]],#[za,#[zM,#[zK],#[pvx,5],#[zj,#[zH],#[zM,#[zK],#[pvx,4],#[zf]],#[zf]]],#[ze]]]],#[zj,#[zH],#[zM,#[zK],#[pvx,4],#[zf]],#[zf]]]],by exact #[zd,#[zo,7,zbk.nd,(aq rfl),#[zj,#[zO],#[zf],#[zj,#[zH],#[zM,#[zK],#[pvx,4],#[zf]],#[zA,#[zfi],T.min_,boot_min,#[za,#[pvx,2],#[za,#[pvx,6],#[ze]]]]]]],by exact #[zd,#[zo,8,zbk.nd,(aq rfl),#[zj,#[zO],#[pvx,7],#[zj,#[zH],#[zM,#[zK],#[pvx,4],#[zf]],#[zj,#[zO],#[zj,#[zaV],#[zA,#[zfi],T.min_,boot_min,#[za,#[pvx,3],#[za,#[pvx,6],#[ze]]]],#[pvx,7]],#[zf]]]]],by exact #[zd,#[zo,9,zbk.nd,(bX rfl),#[zaD,(@ze4 _ rfl),T.list_,boot_list,#[za,#[zaD,(@zgT _),T.range_,kh,#[za,#[pvx,6],#[ze]]],#[ze]]]],by exact #[zn,#[zE,#[zaG,#[za,#[pvx,6],#[za,#[pvx,7],#[za,#[zaD,#[zaE],T.tuple_,gi,#[za,#[z0,(CompSc.of (N':=["j","left","plan"]) (ix:=[none,some 9,some 4]) (zh zcv) ["script","at","most_k","most_n","plan","primes","p","k","many","left"] rfl rfl (by decide +kernel)),#[zap],#[zai,T.range_,#[za,#[pvx,8],#[ze]]],(fun _ _ _ _=>#[zg,0,(show (["j","left","plan"]:List Str).Nodup by decide +kernel),(aq rfl)]),(fun _ _ _ _=>#[zB]),(fun _ _ _ _=>(@znZ _ (K) _ _ _ _ _ _ _ _ _ _ _ rfl cL PySem.F.slot_list_pop PySem.F.type_list_pop (@zkl _) #[pvx,1] #[za,#[zj,#[zH],#[zM,#[zbr,(K)],#[pvx,2],#[zj,#[zO],#[zf],#[pvx,0]]],#[zA,#[zbX,(K)],T.len_,b9,#[za,#[pvx,1],#[ze]]]],#[ze]] (by rfl) (by rfl) (by rfl) (by rfl) (by rfl)))],#[ze]]],#[ze]]]]]]]]]]])))],?_⟩
  refine⟨_,rfl,_,rfl,a,ns,at',20,27720,rfl,hS,hlen,a0,a1,by decide,by decide,by decide,by decide,fun l ds H1 hl s1 hd hpl=>?_⟩
  have hdl:ds.length=20:=hd.1
  have dat:∀ m:Int,0≤m→m < 20→∃ c:Int,atI (ds.map V.int) m=some (.int c):=fun m h0 h1=>zdY h0 (by lia)
  refine⟨by show 23≤sizeLine; rw [aV]; decide,fun pr hpr=>?_⟩
  have hlpr:l≠pr:=zy hpl hpr
  obtain⟨d0,ed0⟩:=dat 0 (by decide) (by decide)
  obtain⟨d1,ed1⟩:=dat 1 (by decide) (by decide)
  obtain⟨d2,ed2⟩:=dat 2 (by decide) (by decide)
  obtain⟨d3,ed3⟩:=dat 3 (by decide) (by decide)
  have hp2:(upd H1 pr (.lst (zm.map V.int))) l=some (.lst (ds.map V.int)):=by rw [zq hlpr]; exact hpl
  obtain⟨p1,mp1,ep1⟩:=zkE (ns:=zm) (k:=d0 % 23) (aH _ (by decide)) (aC _ (by decide))
  obtain⟨p2,mp2,ep2⟩:=zkE (ns:=zm) (k:=d0 % 3) (aH _ (by decide)) (by have:=aC d0 (show (0:Int) < 3 by decide); have e:(zm.length:Int)=23:=rfl; lia)
  obtain⟨p,ep,hpp⟩:=zn0 (x:=p1) (y:=p2) (m:=d1 % 2) (aH _ (by decide)) (aC _ (by decide))
  have mp:p∈zm:=by rcases hpp with e | e <;> rw [e] <;> assumption
  have rp:=zp mp
  refine⟨_,rfl,_,rfl,l,_,_,_,rfl,rfl,SqL.of hp2,ed0,_,_,rfl,rfl,(by show (0:Int) < 23; decide),pr,_,_,_,rfl,rfl,SqL.of zc,ep1,
   _,rfl,_,rfl,l,_,_,_,rfl,rfl,SqL.of hp2,ed0,_,_,rfl,rfl,(by show (0:Int) < 3; decide),pr,_,_,_,rfl,rfl,SqL.of zc,ep2,zaJ,fun l2 hl2=>?_⟩
  have hll2:l≠l2:=zy hp2 hl2
  have hp3:(upd (upd H1 pr (.lst (zm.map V.int))) l2 (.lst [.int p1,.int p2])) l=some (.lst (ds.map V.int)):=by rw [zq hll2]; exact hp2
  refine⟨_,rfl,l,_,_,_,rfl,rfl,SqL.of hp3,ed1,_,_,rfl,rfl,(by show (0:Int) < 2; decide),l2,_,_,_,rfl,rfl,SqL.of zc,ep,?_⟩
  have hm1:(0:Int) < (if p < mk then p else mk):=by split <;> lia
  have hm2:(if p < mk then p else mk)≤mk:=by split <;> lia
  have hm3:(if p < mk then p else mk)≤p:=by split <;> lia
  refine⟨_,rfl,l,_,_,_,rfl,rfl,SqL.of hp3,ed2,_,rfl,_,rfl,_,_,rfl,_,_,rfl,rfl,hm1,_,_,rfl,rfl,?_⟩
  generalize (if p < mk then p else mk)=mm at hm1 hm2 hm3 ⊢
  have hk0:=aH d2 (show mm≠0 by lia)
  have hk1:=aC d2 hm1
  have hn1:(if p < mn then p else mn)≤mn:=by split <;> lia
  have hn2:(if p < mn then p else mn)≤p:=by split <;> lia
  have hn3:mm≤(if p < mn then p else mn):=by split <;> lia
  refine⟨_,rfl,_,rfl,l,_,_,_,rfl,rfl,SqL.of hp3,ed3,_,rfl,_,rfl,_,_,rfl,_,rfl,_,_,rfl,rfl,_,_,rfl,rfl,_,_,rfl,rfl,(by lia),_,_,rfl,rfl,?_⟩
  generalize (if p < mn then p else mn)=nn at hn1 hn2 hn3 ⊢
  have hq0:=aH d3 (show nn - (1+d2 % mm)+1≠0 by lia)
  have hq1:=aC d3 (show 0 < nn - (1+d2 % mm)+1 by lia)
  refine⟨_,rfl,p,rfl,fun r hr2=>⟨r,p,rfl,zc,by lia,by lia,fun lf hlf=>?_⟩⟩
  have hlr:l≠r:=zy hp3 hr2
  have hlf1:l≠lf:=by
   refine zy (H:=upd (upd (upd H1 pr (.lst (zm.map V.int))) l2 (.lst [.int p1,.int p2])) r (.rng 0 p)) (o:=.lst (ds.map V.int)) ?_ hlf
   rw [zq hlr]; exact hp3
  have sA:zt H (upd (upd H1 pr (.lst (zm.map V.int))) l2 (.lst [.int p1,.int p2])):=(s1.trans (zb hpr)).trans (zb hl2)
  have sB:=(sA.trans (zb (o:=.rng 0 p) hr2)).trans (zb (o:=.lst ((zbW 0 p.toNat).map V.int)) hlf)
  have hlfH:H lf=none:=(sA.trans (zb (o:=.rng 0 p) hr2)).free hlf
  obtain⟨nd0,rg0⟩:=zjD p
  refine⟨_,rfl,_,rfl,_,rfl,_,rfl,by lia,by lia,zT (n:=(1+d2 % mm+d3 % (nn - (1+d2 % mm)+1)).toNat) (fun i ys H'=>∃ xs ls:List Int,ys=xs.map V.int∧xs.length=i∧zt H H'∧H' l=some (.lst (ds.map V.int))∧H' lf=some (.lst (ls.map V.int))∧ls.length+i=p.toNat∧(xs++ls).Nodup∧∀ y∈xs++ls,0≤y∧y < p)
   ⟨[],zbW 0 p.toNat,rfl,rfl,sB,by rw [zq hlf1,zq hlr]; exact hp3,zc,by rw [zcO]; rfl,by simpa using nd0,by simpa using rg0⟩ (fun i ys H' hi _=>hi) (fun ys H' _=>af _) ?_ ?_⟩
  ·rintro i x ys H4 H5 hi ⟨xs,ls,rfl,hxl,s4,hpl4,hlf4,hll,nd,rg⟩ ⟨rfl,rfl⟩
   refine gY ?_
   obtain⟨c,ec⟩:=dat (4+(0+(i:Int))) (by lia) (by lia)
   have lpos:0 < ls.length:=by lia
   have lm:((ls.map V.int).length:Int)=(ls.length:Int):=by rw [ab]
   have c0:=aH c (show (ls.length:Int)≠0 by lia)
   have c1:=aC c (show (0:Int) < ls.length by lia)
   have hsl:=aV
   obtain⟨y,ey⟩:∃ y,ls[(c % (ls.length:Int)).toNat]? = some y:=⟨ls[(c % (ls.length:Int)).toNat]'(by lia),by simp⟩
   refine⟨_,rfl,.inl ⟨rfl,_,SqL.of hlf4⟩,_,rfl,_,rfl,_,_,rfl,rfl,l,_,_,_,rfl,rfl,SqL.of hpl4,ec,_,rfl,lf,_,rfl,.inl (SqL.of hlf4),_,_,rfl,rfl,(by rw [lm]; lia),lf,_,_,(c % (ls.length:Int)).toNat,.int y,rfl,rfl,hlf4,?_⟩
   rw [lm]
   refine⟨by lia,by lia,by rw [ab]; exact gw c0 c1,by rw [ah,ey]; rfl,zad (by rw [ab]; lia),xs++[y],ls.eraseIdx (c % (ls.length:Int)).toNat,by rw [ar]; rfl,by rw [ao,hxl]; rfl,zac s4 hlfH,by rw [zq hlf1]; exact hpl4,by rw [zc,zfv],?_,zmg ey nd rg⟩
   rw [List.length_eraseIdx]
   split <;> lia
  ·rintro ys H4 D ⟨xs,ls,rfl,hxl,s4,hpl4,hlf4,hll,nd,rg⟩ hD
   refine⟨D,_,rfl,.inl ⟨SqL.of zc,fun tt htt=>⟨by show 3≤sizeLine; rw [aV]; decide,fun c hc=>?_⟩⟩⟩
   have s5:=(s4.trans (zb (o:=.lst (xs.map V.int)) hD)).trans (zb (o:=.tup (xs.map V.int)) htt)
   refine q c tt p _ xs _ (s5.free hc) (s5.trans (zb hc)) ⟨mp,by lia,by lia,by lia,by lia,(eG.mp nd).1,fun y hy=>rg y (aS _ hy)⟩ zc ?_
   rw [zq (zy zc hc)]
   exact zc
theorem zbl:FnScope ["p","polynomial","x","total","power","number"] ["p","polynomial","x"] (zh zcK):=⟨rfl,rfl,rfl,by decide +kernel,rfl,by decide +kernel,by decide +kernel⟩
theorem zic {fd:FuncData} (T:Txt K mg t) (F:Fun K "_law_value" "_law_value" zcK t.l_value fd):FnOk P w K mg base CX0 1 t.l_value fd ["p","polynomial","x"] (zhU K):=by
 refine F.ok zbl (fun vs H Q E h=>?_) (fun cdv A outer s H vs Q E hr h=>?_)
 ·obtain⟨p,x,a,cs,rfl,_⟩:=h
  rfl
 ·obtain⟨p,x,a,cs,rfl,hS,p0,p1,x0,x1,q⟩:=h
  refine⟨_,#[zd,#[zo,3,zbl.nd,(aq rfl),#[zf]],by exact #[zd,#[zo,4,zbl.nd,(aq rfl),#[zf]],by exact #[zd,#[za9,bA,(@znY _ _ _ _ #[pvx,1]),#[zg,5,zbl.nd,(aq rfl)],#[zd,#[zo,3,zbl.nd,(aq rfl),#[zj,#[zH],#[zj,#[zO],#[pvx,3],#[zj,#[zZ],#[pvx,5],#[pvx,4]]],#[pvx,0]]],by exact #[zn,#[zo,4,zbl.nd,(aq rfl),#[zj,#[zH],#[zj,#[zZ],#[pvx,4],#[pvx,2]],#[pvx,0]]]]]],by exact #[zn,#[zE,#[pvx,3]]]]]],?_⟩
  refine⟨_,rfl,a,rfl,?_⟩
  rcases hS with hS | hS
  ·refine .inl ⟨⟨_,hS⟩,zbp (K:=K) (a:=a) (xs:=cs.map V.int) (fun i σ H'=>H'=H∧∃ (total power:Int) (nb:Option V),σ = [some (.int p),some (.ref a),some (.int x),some (.int total),some (.int power),nb]∧0≤power∧power≤97∧lv p x total power (cs.drop i)=lv p x 0 1 cs)
    ⟨rfl,0,1,none,rfl,by decide,by decide,rfl⟩ (fun i σ H' _ ⟨e,_⟩=>by rw [e]; exact hS) ?_ ?_⟩
   ·rintro i y σ H1 hy ⟨rfl,total,power,nb,rfl,w0,w1,hl⟩
    obtain⟨c,rfl,hc⟩:=zal hy
    have m0:=aH (power*x) (show p≠0 by lia)
    have m1:=aC (power*x) p0
    refine⟨_,rfl,_,rfl,_,rfl,_,_,rfl,rfl,.inr ⟨by lia,by lia⟩,_,_,rfl,rfl,_,rfl,_,_,rfl,rfl,p0,?_⟩
    refine⟨_,rfl,_,rfl,_,_,rfl,rfl,.inl ⟨by lia,by lia⟩,_,rfl,_,_,rfl,rfl,p0,?_⟩
    exact⟨rfl,_,_,_,rfl,m0,by lia,(ziC hc).symm.trans hl⟩
   ·rintro σ H1 ⟨rfl,total,power,nb,rfl,w0,w1,hl⟩
    rw [ab,f7] at hl
    have hl:total=lv p x 0 1 cs:=hl
    rw [ziw p0] at hl
    rw [← hl] at q
    exact⟨_,rfl,q⟩
  ·refine .inr ⟨⟨_,hS⟩,zl4 (K:=K) (a:=a) (xs:=cs.map V.int) (fun i σ H'=>H'=H∧∃ (total power:Int) (nb:Option V),σ = [some (.int p),some (.ref a),some (.int x),some (.int total),some (.int power),nb]∧0≤power∧power≤97∧lv p x total power (cs.drop i)=lv p x 0 1 cs)
    ⟨rfl,0,1,none,rfl,by decide,by decide,rfl⟩ (fun i σ H' _ ⟨e,_⟩=>by rw [e]; exact hS) ?_ ?_⟩
   ·rintro i y σ H1 hy ⟨rfl,total,power,nb,rfl,w0,w1,hl⟩
    obtain⟨c,rfl,hc⟩:=zal hy
    have m0:=aH (power*x) (show p≠0 by lia)
    have m1:=aC (power*x) p0
    refine⟨_,rfl,_,rfl,_,rfl,_,_,rfl,rfl,.inr ⟨by lia,by lia⟩,_,_,rfl,rfl,_,rfl,_,_,rfl,rfl,p0,?_⟩
    refine⟨_,rfl,_,rfl,_,_,rfl,rfl,.inl ⟨by lia,by lia⟩,_,rfl,_,_,rfl,rfl,p0,?_⟩
    exact⟨rfl,_,_,_,rfl,m0,by lia,(ziC hc).symm.trans hl⟩
   ·rintro σ H1 ⟨rfl,total,power,nb,rfl,w0,w1,hl⟩
    rw [ab,f7] at hl
    have hl:total=lv p x 0 1 cs:=hl
    rw [ziw p0] at hl
    rw [← hl] at q
    exact⟨_,rfl,q⟩
theorem zgv (xs:List V) (j:Nat):zaW xs none (some (j:Int))=xs.take j:=by
 unfold zaW
 rw [HT.sIx_nat,HT.sIx_none,ed,da]
 by_cases h:j≤xs.length
 ·rw [cp h]
 ·rw [show min j xs.length=xs.length by lia,aK (af _),aK (show xs.length≤j by lia)]
def zj6 (K:ag):Sp:=fun vs H Q _=>∃ (a:Addr) (ds:List Int) (p k:Int),vs = [.ref a,.int p,.int k]∧SqL K H a (ds.map V.int)∧ds.length≤1000∧0 < p ∧
 ∀ (l:Addr) (poly:List Int) (H':Hp),H l=none→zt H H'→(poly.length≤ds.length∧∀ x∈poly,0≤x∧x < p)→H' l=some (.tup (poly.map V.int))→(∀ n:Nat,k=(n:Int)→n≤ds.length→poly.length=n)→Q (.ref l) H'
theorem zdQ:FnScope ["draws","p","k"] ["draws","p","k"] (zh zaN):=⟨rfl,rfl,rfl,by decide +kernel,rfl,by decide +kernel,by decide +kernel⟩
theorem zdR {fd:FuncData} (T:Txt K mg t) (F:Fun K "_law_polynomial" "_law_polynomial" zaN t.l_polynomial fd):FnOk P w K mg base CX0 1 t.l_polynomial fd ["draws","p","k"] (zj6 K):=by
 refine F.ok zdQ (fun vs H Q E h=>?_) (fun cdv A outer s H vs Q E hr h=>?_)
 ·obtain⟨a,ds,p,k,rfl,_⟩:=h
  rfl
 ·obtain⟨a,ds,p,k,rfl,ha,hn,p0,q⟩:=h
  refine⟨_,#[zn,#[zE,#[zaD,#[zaE],T.tuple_,gi,#[za,#[z0,(CompSc.of (N':=["draw","p"]) (ix:=[none,some 1]) (zh zaN) ["draws","p","k"] rfl rfl (by decide +kernel)),#[zap],#[zS,#[zax,zba,#[pvx,0],#[za1],#[zaH,#[pvx,2]]]],(fun _ _ _ _=>#[zg,0,(show (["draw","p"]:List Str).Nodup by decide +kernel),(aq rfl)]),(fun _ _ _ _=>#[zB]),(fun _ _ _ _=>#[zj,#[zH],#[pvx,0],#[pvx,1]])],#[ze]]]]],?_⟩
  obtain⟨ms,ems,lms⟩:=zgZ ds none (some k)
  refine⟨_,rfl,_,rfl,_,rfl,a,_,rfl,ha,fun z hz=>?_⟩
  rw [ems]
  have s4:=zb (o:=.lst (ms.map V.int)) hz
  refine⟨z,rfl,⟨_,SqL.of zc⟩,zcA (K:=K) (xs:=ms.map V.int) (fs:=ms.map fun d=>V.int (d % p)) (SqL.of zc) (by rw [ab,ab]) (by rw [ab]; lia) ?_ ?_⟩
  ·intro j x y R B hx hy hR
   obtain⟨c,_,rfl,rfl⟩:=zg0 hx hy
   refine gY ?_
   exact⟨_,rfl,_,rfl,_,_,rfl,rfl,p0,hR⟩
  intro D hD
  have epol:(ms.map fun d=>V.int (d % p))=(ms.map (· % p)).map V.int:=by rw [bv]; rfl
  rw [epol]
  refine⟨D,_,rfl,.inl ⟨SqL.of zc,fun po hpo=>?_⟩⟩
  have s5:=s4.trans (zb (o:=.lst ((ms.map (· % p)).map V.int)) hD)
  refine q po _ _ (s5.free hpo) (s5.trans (zb hpo)) ⟨by rw [ab]; exact lms,fun x hx=>?_⟩ zc (fun n hkn hle=>?_)
  ·obtain⟨d,_,rfl⟩:=aE.mp hx
   exact⟨aH _ (by lia),aC _ p0⟩
  ·have h1:=congrArg eC ems
   rw [hkn,zgv,aA,ab,ab] at h1
   rw [ab]
   lia
def zlI (K:ag):Sp:=fun vs H Q _=>∃ (a c tt:Addr) (ns:List Int) (at' p k:Int) (pl:List Int),vs = [.ref a,.int at',.ref c]∧SqL K H a (ns.map V.int)∧ns.length≤63∧0≤at'∧at'≤900∧zbh H c tt p k pl∧0 < p∧p≤97∧(∀ x∈pl,0≤x∧x < p)∧pl.length≤16 ∧
 ∀ (l:Addr) (rw:List (Option Int)) (H':Hp),H l=none→zt H H'→rw.length=pl.length→(∀ z,some z∈rw→0≤z∧z < p)→H' l=some (.lst (rw.map enc))→Q (.ref l) H'
theorem zor {a b m:Int} (h0:0≤m) (h1:m < 6) (a0:0≤a) (a1:a < 3) (b0:0≤b) (b1:b < 3):∃ z:Int,atI [V.int 0,.int 0,.int a,.int b,.int 0,.int 0] m=some (.int z)∧0≤z∧z < 3:=by
 have:m=0∨m=1∨m=2∨m=3∨m=4∨m=5:=by lia
 rcases this with e | e | e | e | e | e <;> subst e
 ·exact⟨0,rfl,by decide,by decide⟩
 ·exact⟨0,rfl,by decide,by decide⟩
 ·exact⟨a,rfl,a0,a1⟩
 ·exact⟨b,rfl,b0,b1⟩
 ·exact⟨0,rfl,by decide,by decide⟩
 ·exact⟨0,rfl,by decide,by decide⟩
theorem zm4 {m:Int} (h0:0≤m) (h1:m < 6):∃ z:Int,atI [V.int 4,.int 9,.int 9,.int 9,.int 2,.int 1] m=some (.int z)∧0 < z:=by
 have:m=0∨m=1∨m=2∨m=3∨m=4∨m=5:=by lia
 rcases this with e | e | e | e | e | e <;> subst e <;> exact⟨_,rfl,by decide⟩
theorem zm5 {m:Int} (h0:0≤m) (h1:m < 2):∃ z:Int,atI [V.int 9,.int 3] m=some (.int z)∧0 < z:=by
 have:m=0∨m=1:=by lia
 rcases this with e | e <;> subst e <;> exact⟨_,rfl,by decide⟩
theorem zo8 (n:Nat):(ap n [V.non]).flatten=(ap n (none:Option Int)).map enc:=by
 induction n with
 | zero=>rfl
 | succ n ih=>rw [bY,dQ,ih,bY]; rfl
def zgw (H:Hp) (on:Addr):Prop:=∃ os:List Addr,os.length=3∧H on=some (.lst (os.map V.ref))∧∀ o∈os,∃ ms:List Int,H o=some (.tup (ms.map V.int))
theorem zgw.same {H H':Hp} {on:Addr} (s:zt H H') (h:zgw H on):zgw H' on:=by
 obtain⟨os,h1,h2,h3⟩:=h
 exact⟨os,h1,s _ _ h2,fun o ho=>let ⟨ms,e⟩:=h3 o ho; ⟨ms,s _ _ e⟩⟩
theorem zlJ {p:Int} {rw:List (Option Int)} (h:∀ z,some z∈rw→0≤z∧z < p):∀ z,some z∈rw++[none]→0≤z∧z < p:=by
 intro z hz
 rcases aW.mp hz with m | m
 ·exact h z m
 ·cases a7.mp m
theorem zhy {p i:Int} {rw:List (Option Int)} (h:∀ z,some z∈rw→0≤z∧z < p) (hi:0≤i∧i < p):∀ z,some z∈rw++[some i]→0≤z∧z < p:=by
 intro z hz
 rcases aW.mp hz with m | m
 ·exact h z m
 ·cases a7.mp m
  exact hi
theorem zhz {p x:Int} {cs:List Int} (hp:0 < p):0≤zl p x cs∧zl p x cs < p:=⟨zar hp cs,zas hp cs⟩
theorem zat:FnScope ["script","at","code","p","k","places","plan","ones","slips","way","row","number","which","entry"] ["script","at","code"] (zh zdk):=⟨rfl,rfl,rfl,by decide +kernel,rfl,by decide +kernel,by decide +kernel⟩
theorem zlK {fd:FuncData} (T:Txt K mg t) (F:Fun K "_law_row" "_law_row" zdk t.l_row fd):FnOk P w K mg base CX0 3 t.l_row fd ["script","at","code"] (zlI K):=by
 obtain⟨fd_l_draws,F_l_draws,b_l_draws⟩:=T.f_l_draws
 have G_l_draws:=zcY (P:=P) (w:=w) (base:=base) T F_l_draws
 obtain⟨fd_l_polynomial,F_l_polynomial,b_l_polynomial⟩:=T.f_l_polynomial
 have G_l_polynomial:=zdR (P:=P) (w:=w) (base:=base) T F_l_polynomial
 obtain⟨fd_l_value,F_l_value,b_l_value⟩:=T.f_l_value
 have G_l_value:=zic (P:=P) (w:=w) (base:=base) T F_l_value
 refine F.ok zat (fun vs H Q E h=>?_) (fun cdv A outer s H vs Q E hr h=>?_)
 ·obtain⟨a,c,tt,ns,at',p,k,pl,rfl,_⟩:=h
  rfl
 ·obtain⟨a,c,tt,ns,at',p,k,pl,rfl,hS,hlen,a0,a1,hc,p0,p1,hpl,hn,q⟩:=h
  refine⟨_,#[zd,#[za8,#[pvx,2],#[zaU,#[zi,#[zg,3,zat.nd,(bX rfl)],#[zi,#[zg,4,zat.nd,(bX rfl)],#[zi,#[zg,5,zat.nd,(aq rfl)],#[zJ]]]]]],by exact #[zd,#[zo,6,zat.nd,(bX rfl),#[zr,G_l_draws,(hr.mono (by decide)),T.m_l_draws,F_l_draws.kp,b_l_draws,#[zG],#[za,#[pvx,0],by exact #[za,#[pvx,1],#[za,#[zf],#[za,#[zf],#[ze]]]]]]],by exact #[zd,#[zaA,7,zat.nd,(aq rfl),(CompSc.of (N':=["j","plan","p","k"]) (ix:=[none,some 6,some 3,some 4]) (zh zdk) ["script","at","code","p","k","places","plan","ones","slips","way","row","number","which","entry"] rfl rfl (by decide +kernel)),#[zap],#[zai,T.range_,#[za,#[zf],#[ze]]],(fun _ _ _ _=>#[zg,0,(show (["j","plan","p","k"]:List Str).Nodup by decide +kernel),(aq rfl)]),(fun _ _ _ _=>#[zB]),(fun _ _ _ _=>#[zr,G_l_polynomial,(hr.mono (by decide)),T.m_l_polynomial,F_l_polynomial.kp,b_l_polynomial,#[zG],#[za,#[zax,(zky (K:=K) rfl),#[pvx,1],#[zaH,#[zj,#[zZ],#[zf],#[pvx,0]]],#[za1]],#[za,#[pvx,2],#[za,#[pvx,3],#[ze]]]]])],by exact #[zd,#[zo,8,zat.nd,(aq rfl),#[zr,G_l_draws,(hr.mono (by decide)),T.m_l_draws,F_l_draws.kp,b_l_draws,#[zG],#[za,#[pvx,0],by exact #[za,#[zj,#[zO],#[pvx,1],#[zf]],#[za,#[zf],#[za,#[zf],#[ze]]]]]]],by exact #[zd,#[zo,9,zat.nd,(aq rfl),#[zj,#[zH],#[zM,#[zK],#[pvx,8],#[zf]],#[zf]]],by exact #[zd,#[zo,10,zat.nd,(aq rfl),#[zX,#[ze]]],by exact #[zd,#[za9,bA,#[zai,T.range_,#[za,#[zA,#[zu],T.len_,b9,#[za,#[pvx,5],#[ze]]],#[ze]]],#[zg,11,zat.nd,(aq rfl)],#[zd,#[zo,12,zat.nd,(aq rfl),#[zM,#[zK],#[zX,#[zcP,by exact #[zcP,by exact #[za,#[zj,#[zH],#[zM,#[zK],#[pvx,8],#[pvx,11]],#[zf]],by exact #[za,#[zj,#[zH],#[zM,#[zK],#[pvx,8],#[pvx,11]],#[zf]],#[za,#[zf],#[za,#[zf],#[ze]]]]]]]],#[pvx,9]]],by exact #[zd,#[zo,13,zat.nd,(aq rfl),#[zr,G_l_value,(hr.mono (by decide)),T.m_l_value,F_l_value.kp,b_l_value,#[zG],#[za,#[pvx,3],#[za,#[zM,#[zK],#[pvx,7],#[pvx,12]],#[za,#[zM,#[zb8],#[pvx,5],#[pvx,11]],#[ze]]]]]],by exact #[zd,#[za6,#[zC,#[zdE],#[zj,#[zH],#[zj,#[zbB],#[zM,#[zK],#[pvx,8],#[pvx,11]],#[zf]],#[zM,#[zK],#[zX,#[zcP,by exact #[zcP,by exact #[zcP,by exact #[za,#[zf],#[za,#[zf],#[za,#[zf],#[ze]]]]]]]],#[pvx,9]]],#[zf],(zQ _)],#[zn,#[zo,13,zat.nd,(aq rfl),#[zj,#[zH],#[zj,#[zbB],#[zM,#[zK],#[pvx,8],#[pvx,11]],#[zf]],#[pvx,3]]]],#[zab]],by exact #[zd,#[za6,(@PW.pt _ _ _ #[zfO,#[zC,#[zdE],#[zj,#[zH],#[zj,#[zbB],#[zM,#[zK],#[pvx,8],#[pvx,11]],#[zf]],#[zM,#[zK],#[zX,#[za,#[zf],#[za,#[zf],#[ze]]]],#[zj,#[zH],#[zM,#[zK],#[pvx,8],#[zf]],#[zf]]]],#[zf],(zQ _)],#[zih,#[zC,#[zc2],#[zj,#[zH],#[zM,#[zK],#[pvx,8],#[zf]],#[zf]],#[zf],(zQ _)]]]),#[zn,#[zo,13,zat.nd,(aq rfl),#[zbJ]]],#[zab]],by exact #[zn,#[zcw,#[zfo,cL,du,dv,#[zb2],#[pvx,10],#[za,#[pvx,13],#[ze]]]]]]]]]],by exact #[zn,#[zE,#[zgI,#[zC,#[zdE],#[zj,#[zH],#[zM,#[zK],#[pvx,8],#[zf]],#[zf]],#[zf],(zQ _)],#[zj,#[zfT],#[zX,#[za,#[zbJ],#[ze]]],#[zA,#[zu],T.len_,b9,#[za,#[pvx,10],#[ze]]]],#[pvx,10]]]]]]]]]]],?_⟩
  have hsl:=aV
  refine⟨_,rfl,c,_,rfl,SqT.of hc.1,rfl,_,_,rfl,_,_,rfl,_,_,rfl,rfl,?_⟩
  refine⟨_,rfl,_,rfl,a,ns,at',16,27720,rfl,hS,hlen,a0,by lia,by decide,by decide,by decide,by decide,fun l ds H1 hl s1 hd h1l=>?_⟩
  have hdl:ds.length=16:=hd.1
  refine⟨3,rfl,by decide,by decide,zT (n:=3) (fun i ys H'=>zt H1 H'∧∃ os:List Addr,os.length=i∧ys=os.map V.ref∧∀ o∈os,∃ ms:List Int,H' o=some (.tup (ms.map V.int))) ⟨fun _ _ e=>e,[],rfl,rfl,by simp⟩ (fun i ys H' hi _=>hi) (fun ys H' _=>af _) ?_ ?_⟩
  ·rintro i xx ys H4 H5 hi ⟨s4,os,ho,rfl,hos⟩ ⟨rfl,rfl⟩
   refine gY ?_
   refine⟨_,rfl,_,rfl,_,_,rfl,rfl,.inl ⟨by decide,by decide⟩,_,rfl,l,_,rfl,SqL.of (s4 _ _ h1l),fun z hz=>?_⟩
   obtain⟨ms,ems,lms⟩:=zgZ ds (some (3*(0+(i:Int)))) none
   rw [ems]
   refine⟨_,rfl,_,rfl,z,ms,p,k,rfl,SqL.of zc,by lia,p0,fun po poly H6 hpo s6 _ h6 _=>?_⟩
   have s5:=(zb (o:=.lst (ms.map V.int)) hz).trans s6
   refine⟨zad (by rw [ab]; lia),s4.trans s5,os++[po],by rw [ao,ho]; rfl,by rw [ar]; rfl,fun o hm=>?_⟩
   rcases (aW.mp hm) with hm | hm
   ·obtain⟨m2,e⟩:=hos o hm
    exact⟨m2,s5 _ _ e⟩
   ·rw [a7.mp hm]; exact⟨poly,h6⟩
  ·rintro ys H4 on ⟨s4,os,ho,rfl,hos⟩ hon
   have s5:=s1.trans (s4.trans (zb (o:=.lst (os.map V.ref)) hon))
   have hones:zgw (upd H4 on (.lst (os.map V.ref))) on:=⟨os,ho,zc,fun o hm=>let ⟨ms,e⟩:=hos o hm; ⟨ms,(zb hon) _ _ e⟩⟩
   generalize upd H4 on (.lst (os.map V.ref))=H5 at s5 hones ⊢
   refine⟨_,rfl,_,rfl,_,_,rfl,rfl,a,ns,at'+1,20,27720,rfl,s5.seq hS,hlen,by lia,by lia,by decide,by decide,by decide,by decide,fun sl es H6 hsl6 s6 he h6s=>?_⟩
   have hel:es.length=20:=he.1
   have her:=he.2
   have eat:∀ m:Int,0≤m→m < 20→∃ c:Int,atI (es.map V.int) m=some (.int c):=fun m h0 h1=>zdY h0 (by lia)
   obtain⟨d16,e16⟩:=eat 16 (by decide) (by decide)
   obtain⟨d17,e17⟩:=eat 17 (by decide) (by decide)
   obtain⟨d18,e18⟩:=eat 18 (by decide) (by decide)
   obtain⟨d19,e19⟩:=eat 19 (by decide) (by decide)
   have w0:=aH d16 (show (6:Int)≠0 by decide)
   have w1:=aC d16 (show (0:Int) < 6 by decide)
   refine⟨_,rfl,sl,_,_,_,rfl,rfl,SqL.of h6s,e16,_,_,rfl,rfl,(by show (0:Int) < 6; decide),?_⟩
   obtain⟨way,hway⟩:∃ way,d16 % 6=way:=⟨_,rfl⟩
   rw [hway] at w0 w1
   refine⟨aY _,fun ro hro=>?_⟩
   have hslro:sl≠ro:=zy h6s hro
   have hroH:H ro=none:=(s5.trans s6).free hro
   have hro5:H5 ro=none:=s6.free hro
   refine⟨_,rfl,tt,_,rfl,.inr (SqT.of ((((s5.trans s6).trans (zb hro))) _ _ hc.2)),_,rfl,by rw [ab]; lia,by rw [ab]; lia,?_⟩
   rw [ab,bm]
   refine zcx (lo:=0) (n:=pl.length) (fun i σ H'=>∃ (rw:List (Option Int)) (v11 v12 v13:Option V),σ = [some (.ref a),some (.int at'),some (.ref c),some (.int p),some (.int k),some (.ref tt),some (.ref l),some (.ref on),some (.ref sl),some (.int way),some (.ref ro),v11,v12,v13] ∧
    rw.length=i∧zt H5 H'∧H' ro=some (.lst (rw.map enc))∧H' sl=some (.lst (es.map V.int))∧∀ z,some z∈rw→0≤z∧z < p)
    ⟨[],none,none,none,by subst hway; rfl,rfl,s6.trans (zb hro),zc,by rw [zq hslro]; exact h6s,fun z hz=>by simp at hz⟩ ?_ ?_
   ·rintro i σ H7 hi ⟨rw,v11,v12,v13,rfl,hrl,s7,h7r,h7s,hrg⟩
    obtain⟨di,ei⟩:=eat (0+(i:Int)) (by lia) (by lia)
    obtain⟨x,hx⟩:∃ x,pl[i]? = some x:=⟨pl[i]'hi,by simp⟩
    obtain⟨x0,x1⟩:=hpl x (aB hx)
    have hxat:atI (pl.map V.int) (0+(i:Int))=some (.int x):=by rw [dw]; exact zaR (by rw [ah,hx]; rfl)
    have m20:=aH di (show (2:Int)≠0 by decide)
    have m21:=aC di (show (0:Int) < 2 by decide)
    have m30:=aH di (show (3:Int)≠0 by decide)
    have m31:=aC di (show (0:Int) < 3 by decide)
    obtain⟨wh,ewh,wh0,wh1⟩:=zor w0 w1 m20 (by lia) m30 m31
    refine⟨_,rfl,_,rfl,sl,_,_,_,rfl,rfl,SqL.of h7s,ei,_,_,rfl,rfl,(by show (0:Int) < 2; decide),_,rfl,_,rfl,sl,_,_,_,rfl,rfl,SqL.of h7s,ei,_,_,rfl,rfl,(by show (0:Int) < 3; decide),by show 6≤sizeLine; lia,fun l6 hl6=>?_⟩
    refine⟨_,rfl,l6,_,_,_,rfl,rfl,SqL.of zc,ewh,?_⟩
    have s8:=s7.trans (zb (o:=.lst [.int 0,.int 0,.int (di % 2),.int (di % 3),.int 0,.int 0]) hl6)
    have h8r:=(zb (o:=.lst [.int 0,.int 0,.int (di % 2),.int (di % 3),.int 0,.int 0]) hl6) _ _ h7r
    have h8s:=(zb (o:=.lst [.int 0,.int 0,.int (di % 2),.int (di % 3),.int 0,.int 0]) hl6) _ _ h7s
    obtain⟨H8,hH8⟩:∃ H8,H8=upd H7 l6 (.lst [.int 0,.int 0,.int (di % 2),.int (di % 3),.int 0,.int 0]):=⟨_,rfl⟩
    rw [← hH8] at s8 h8r h8s ⊢
    have hc8:=hc.same (s5.trans s8)
    obtain⟨os8,o1,o2,o3⟩:=hones.same s8
    obtain⟨ow,how⟩:∃ ow,os8[wh.toNat]? = some ow:=⟨os8[wh.toNat]'(by lia),by simp⟩
    obtain⟨mw,hmw⟩:=o3 ow (aB how)
    have hoat:atI (os8.map V.ref) wh=some (.ref ow):=by
     have e:((wh.toNat:Nat):Int)=wh:=by lia
     rw [← e]
     exact zaR (by rw [ah,how]; rfl)
    refine⟨_,rfl,_,rfl,_,rfl,on,_,_,_,rfl,rfl,SqL.of o2,hoat,_,rfl,_,rfl,tt,_,_,_,rfl,rfl,SqT.of hc8.2,hxat,p,x,ow,mw,rfl,.inr (SqT.of hmw),p0,p1,x0,x1,?_⟩
    obtain⟨z6,ez6,z60⟩:=zm4 w0 w1
    refine⟨_,rfl,_,rfl,sl,_,_,_,rfl,rfl,SqL.of h8s,ei,_,_,rfl,rfl,⟨by decide,by decide⟩,by show 6≤sizeLine; lia,fun l7 hl7=>?_⟩
    have u7:=zb (o:=.lst [.int 4,.int 9,.int 9,.int 9,.int 2,.int 1]) hl7
    refine⟨_,rfl,l7,_,_,_,rfl,rfl,SqL.of zc,ez6,_,_,rfl,rfl,z60,rfl,_,rfl,?_⟩
    have s9:=s8.trans u7
    have h9r:=u7 _ _ h8r
    have h9s:=u7 _ _ h8s
    generalize upd H8 l7 (.lst [.int 4,.int 9,.int 9,.int 9,.int 2,.int 1])=H9 at s9 h9r h9s ⊢
    have t0:=aH d17 (show (2:Int)≠0 by decide)
    have t1:=aC d17 (show (0:Int) < 2 by decide)
    obtain⟨z2,ez2,z20⟩:=zm5 t0 t1
    refine zaI (fun _=>⟨_,rfl,_,rfl,sl,_,_,_,rfl,rfl,SqL.of h9s,ei,_,_,rfl,rfl,⟨by decide,by decide⟩,_,rfl,_,_,rfl,rfl,p0,?_⟩) (fun _=>?_)
    all_goals
     refine⟨_,rfl,_,rfl,sl,_,_,_,rfl,rfl,SqL.of h9s,ei,_,_,rfl,rfl,⟨by decide,by decide⟩,zaJ,fun l8 hl8=>?_⟩
     have u8:=zb (o:=.lst [.int 9,.int 3]) hl8
     have sX:=s9.trans u8
     have hXr:=u8 _ _ h9r
     have hXs:=u8 _ _ h9s
     refine⟨_,rfl,sl,_,_,_,rfl,rfl,SqL.of hXs,e17,_,_,rfl,rfl,(by show (0:Int) < 2; decide),l8,_,_,_,rfl,rfl,SqL.of zc,ez2,_,_,rfl,rfl,z20,rfl,_,rfl,?_⟩; refine zaI (fun _=>?_) (fun _=>?_)
     ·refine⟨_,rfl,sl,_,_,_,rfl,rfl,SqL.of hXs,e18,_,_,rfl,rfl,(by show (0:Int) < 3; decide),_,_,rfl,rfl,_,rfl,?_⟩; refine zaI (fun _=>?_) (fun _=>?_)
      ·exact⟨_,rfl,.inl ⟨rfl,_,SqL.of hXr⟩,_,rfl,ro,_,_,rfl,rfl,hXr,zad (by rw [ab]; lia),rw++[none],_,_,_,rfl,by rw [ao,hrl]; rfl,zac sX hro5,by rw [zc,ar]; rfl,by rw [zq hslro]; exact hXs,zlJ hrg⟩
      ·exact⟨_,rfl,.inl ⟨rfl,_,SqL.of hXr⟩,_,rfl,ro,_,_,rfl,rfl,hXr,zad (by rw [ab]; lia),rw++[some _],_,_,_,rfl,by rw [ao,hrl]; rfl,zac sX hro5,by rw [zc,ar]; rfl,by rw [zq hslro]; exact hXs,zhy hrg (by first | exact⟨aH _ (by lia),aC _ p0⟩ | exact zhz p0)⟩
     ·refine ze0 ?_
      exact⟨_,rfl,.inl ⟨rfl,_,SqL.of hXr⟩,_,rfl,ro,_,_,rfl,rfl,hXr,zad (by rw [ab]; lia),rw++[some _],_,_,_,rfl,by rw [ao,hrl]; rfl,zac sX hro5,by rw [zc,ar]; rfl,by rw [zq hslro]; exact hXs,zhy hrg (by first | exact⟨aH _ (by lia),aC _ p0⟩ | exact zhz p0)⟩
   ·rintro σ H7 ⟨rw,v11,v12,v13,rfl,hrl,s7,h7r,h7s,hrg⟩
    refine⟨_,rfl,sl,_,_,_,rfl,rfl,SqL.of h7s,e19,_,_,rfl,rfl,(by show (0:Int) < 30; decide),rfl,_,rfl,?_⟩
    refine zaI (fun _=>?_) (fun _=>⟨_,rfl,q ro rw H7 hroH (s5.trans s7) hrl hrg h7r⟩)
    refine⟨by show 1≤sizeLine; lia,fun z hz=>⟨_,rfl,ro,_,rfl,.inl (SqL.of ((zb hz) _ _ h7r)),z,_,[.non],rfl,rfl,zc,by rw [ab]; lia,by rw [ab]; lia,by rw [ab]; show 1*_≤sizeLine; lia,fun y hy=>?_⟩⟩
    have s8:=(s5.trans s7).trans (zb (o:=.lst [.non]) hz)
    refine q y (ap pl.length none) _ (s8.free hy) (s8.trans (zb hy)) (by rw [aQ]) (fun z hz=>by cases d9 hz) ?_
    rw [zc,ab,zo8,hrl,bm]
theorem zbQ:FnScope ["p","polynomial","x","value","number"] ["p","polynomial","x"] (zh zcj):=⟨rfl,rfl,rfl,by decide +kernel,rfl,by decide +kernel,by decide +kernel⟩
theorem zbR {fd:FuncData} (T:Txt K mg t) (F:Fun K "value_at" "value_at" zcj t.value_at fd):FnOk P w K mg base CX0 1 t.value_at fd ["p","polynomial","x"] (zdJ K):=by
 refine F.ok zbQ (fun vs H Q E h=>?_) (fun cdv A outer s H vs Q E hr h=>?_)
 ·obtain⟨p,x,a,cs,rfl,_⟩:=h
  rfl
 ·obtain⟨p,x,a,cs,rfl,hS,p0,p1,x0,x1,q⟩:=h
  refine⟨_,#[zd,#[zo,3,zbQ.nd,(aq rfl),#[zf]],by exact #[zd,#[za9,bA,(@znW _ _ _ _ _ _ rfl T.reversed_ #[za,#[pvx,1],#[ze]] (by rfl)),#[zg,4,zbQ.nd,(aq rfl)],#[zn,#[zo,3,zbQ.nd,(aq rfl),#[zj,#[zH],#[zj,#[zO],#[zj,#[zZ],#[pvx,3],#[pvx,2]],#[pvx,4]],#[pvx,0]]]]],by exact #[zn,#[zE,#[pvx,3]]]]],?_⟩
  refine⟨_,rfl,a,cs.map V.int,rfl,?_⟩
  rcases hS with hS | hS
  ·refine .inl ⟨hS,?_⟩
   rw [ab]
   refine zhO (n:=cs.length) (fun i σ H'=>H'=H∧∃ nb,σ = [some (.int p),some (.ref a),some (.int x),some (.int (zl p x (cs.drop (cs.length - i)))),nb]) ⟨rfl,none,by rw [ed,f7]; rfl⟩
    (fun i σ H' hi ⟨e,_⟩=>⟨hi,cs.map V.int,by rw [e]; exact hS,by rw [ab]⟩) (fun σ H' _=>af _) ?_ ?_
   ·rintro i y σ H1 H2 hi ⟨rfl,nb,rfl⟩ ⟨rfl,hy⟩
    obtain⟨c,rfl,hc⟩:=zal (hy _ hS)
    have v0:=zar (x:=x) p0 (cs.drop (cs.length - i))
    have v1:=zas (x:=x) p0 (cs.drop (cs.length - i))
    refine⟨_,rfl,_,rfl,_,_,rfl,rfl,.inl ⟨by lia,by lia⟩,_,rfl,_,_,rfl,rfl,_,rfl,_,_,rfl,rfl,p0,?_⟩
    refine⟨rfl,some (.int c),?_⟩
    rw [zfw hi hc]
    show _ = [some (V.int p),_,_,some (V.int ((c+x*zl p x (cs.drop (cs.length - i))) % p)),_]
    rw [Int.add_comm c,d8 x]
    rfl
   ·rintro σ H1 ⟨rfl,nb,rfl⟩
    rw [gh,da]
    exact⟨_,rfl,q⟩
  ·refine .inr ⟨hS,?_⟩
   rw [ab]
   refine zhO (n:=cs.length) (fun i σ H'=>H'=H∧∃ nb,σ = [some (.int p),some (.ref a),some (.int x),some (.int (zl p x (cs.drop (cs.length - i)))),nb]) ⟨rfl,none,by rw [ed,f7]; rfl⟩
    (fun i σ H' hi ⟨e,_⟩=>⟨hi,cs.map V.int,by rw [e]; exact hS,by rw [ab]⟩) (fun σ H' _=>af _) ?_ ?_
   ·rintro i y σ H1 H2 hi ⟨rfl,nb,rfl⟩ ⟨rfl,hy⟩
    obtain⟨c,rfl,hc⟩:=zal (hy _ hS)
    have v0:=zar (x:=x) p0 (cs.drop (cs.length - i))
    have v1:=zas (x:=x) p0 (cs.drop (cs.length - i))
    refine⟨_,rfl,_,rfl,_,_,rfl,rfl,.inl ⟨by lia,by lia⟩,_,rfl,_,_,rfl,rfl,_,rfl,_,_,rfl,rfl,p0,?_⟩
    refine⟨rfl,some (.int c),?_⟩
    rw [zfw hi hc]
    show _ = [some (V.int p),_,_,some (V.int ((c+x*zl p x (cs.drop (cs.length - i))) % p)),_]
    rw [Int.add_comm c,d8 x]
    rfl
   ·rintro σ H1 ⟨rfl,nb,rfl⟩
    rw [gh,da]
    exact⟨_,rfl,q⟩
theorem za4:FnScope ["p","number","product","square","left"] ["p","number"] (zh zcH):=⟨rfl,rfl,rfl,by decide +kernel,rfl,by decide +kernel,by decide +kernel⟩
theorem zeP {fd:FuncData} (T:Txt K mg t) (F:Fun K "inverse" "inverse" zcH t.inverse fd):FnOk P w K mg base CX0 1 t.inverse fd ["p","number"] (zhV K):=by
 refine F.ok za4 (fun vs H Q E h=>?_) (fun cdv A outer s H vs Q E hr h=>?_)
 ·obtain⟨p,h,rfl,_⟩:=h
  rfl
 ·obtain⟨p,hh,rfl,mp,h0,h1,q⟩:=h
  refine⟨_,#[zd,#[zo,2,za4.nd,(aq rfl),#[zf]],by exact #[zd,#[zo,3,za4.nd,(aq rfl),#[zj,#[zH],#[pvx,1],#[pvx,0]]],by exact #[zd,#[zo,4,za4.nd,(aq rfl),#[zj,#[zaV],#[pvx,0],#[zf]]],by exact #[zd,#[zed,bA,#[zC,#[zc2],#[pvx,4],#[zf],(zQ _)],#[zd,#[za6,#[zC,#[zdE],#[zj,#[zH],#[pvx,4],#[zf]],#[zf],(zQ _)],#[zn,#[zo,2,za4.nd,(aq rfl),#[zj,#[zH],#[zj,#[zZ],#[pvx,2],#[pvx,3]],#[pvx,0]]]],#[zab]],by exact #[zd,#[zo,3,za4.nd,(aq rfl),#[zj,#[zH],#[zj,#[zZ],#[pvx,3],#[pvx,3]],#[pvx,0]]],by exact #[zn,#[zfP,4,za4.nd,(aq rfl),#[zf],zkg]]]]],by exact #[zn,#[zE,#[pvx,2]]]]]]],?_⟩
  have rp:=zp mp
  have e0:=aH hh (show p≠0 by lia)
  have e1:=aC hh (show 0 < p by lia)
  refine⟨_,rfl,_,rfl,_,_,rfl,rfl,(by show 0 < p; lia),_,rfl,_,_,rfl,rfl,?_⟩
  refine zke (fun σ H'=>H'=H∧∃ (prod sq left:Int) (n:Nat),σ = [some (.int p),some (.int hh),some (.int prod),some (.int sq),some (.int left)]∧0≤prod∧prod < p∧0≤sq∧sq < p∧0≤left∧left < 2 ^ n∧zcz p n prod sq left=inv p hh) (fun σ _=>zn1 σ)
   ⟨rfl,1,hh % p,p - 2,7,rfl,by lia,by lia,e0,e1,by lia,by lia,rfl⟩ ?_ ?_
  ·rintro σ H1 ⟨rfl,prod,sq,left,n,rfl,b0,b1,s0,s1,l0,l1,hi⟩
   refine⟨_,rfl,_,_,rfl,rfl,_,rfl,?_⟩
   refine zaI (fun hl=>?_) (fun hl=>?_)
   ·have hl:0 < left:=by simpa using hl
    obtain⟨m,rfl⟩:∃ m,n=m+1:=by
     cases n with
     | zero=>lia
     | succ m=>exact⟨m,rfl⟩
    rw [zf1 hl l1] at hi
    have l2:left / 2 < 2 ^ m:=by
     have:(2:Int) ^ (m+1)=2 ^ m*2:=fF ..
     lia
    have m0:=aH (prod*sq) (show p≠0 by lia)
    have m1:=aC (prod*sq) (show 0 < p by lia)
    have n0:=aH (sq*sq) (show p≠0 by lia)
    have n1:=aC (sq*sq) (show 0 < p by lia)
    refine⟨_,rfl,_,_,rfl,rfl,(by show (0:Int) < 2; decide),rfl,_,rfl,?_⟩; refine zaI (fun ho=>?_) (fun ho=>?_)
    ·have ho:left % 2=1:=by simpa using ho
     rw [if_pos ho] at hi
     refine⟨_,rfl,_,rfl,_,_,rfl,rfl,.inl ⟨by lia,by lia⟩,_,rfl,_,_,rfl,rfl,(by show 0 < p; lia),?_⟩
     refine⟨_,rfl,_,rfl,_,_,rfl,rfl,.inl ⟨by lia,by lia⟩,_,rfl,_,_,rfl,rfl,(by show 0 < p; lia),?_⟩
     refine⟨_,rfl,_,_,rfl,rfl,⟨by decide,by decide⟩,⟨rfl,_,_,_,m,rfl,m0,m1,n0,n1,by lia,l2,hi⟩,?_⟩
     show (left / 2).toNat < left.toNat
     lia
    ·have ho:¬ left % 2=1:=by simpa using ho
     rw [if_neg ho] at hi
     refine⟨_,rfl,_,rfl,_,_,rfl,rfl,.inl ⟨by lia,by lia⟩,_,rfl,_,_,rfl,rfl,(by show 0 < p; lia),?_⟩
     refine⟨_,rfl,_,_,rfl,rfl,⟨by decide,by decide⟩,⟨rfl,_,_,_,m,rfl,b0,b1,n0,n1,by lia,l2,hi⟩,?_⟩
     show (left / 2).toNat < left.toNat
     lia
   ·have hl:¬ 0 < left:=by simpa using hl
    have el:left=0:=by lia
    subst el
    rw [zgX] at hi
    rw [← hi] at q
    exact⟨_,rfl,q⟩
  ·rintro σ H1 Q1 Q2 hq ⟨v,e,i,j,e1,e2,k,e3,q⟩
   exact⟨v,e,i,j,e1,e2,k,e3,hq _ _ q⟩
def zeQ (K:ag):Sp:=fun vs H Q _=>∃ (p r:Int) (a:Addr) (cs:List Int),vs = [.int p,.ref a,.int r]∧H a=some (.lst (cs.map V.int))∧cs.length≤1000∧0 < p∧-97≤r∧r≤97 ∧
 ∀ (l:Addr) (H':Hp),H l=none→zt H H'→H' l=some (.lst ((zbA p r cs).map V.int))→Q (.ref l) H'
theorem zbZ:FnScope ["p","polynomial","root","raised","kept"] ["p","polynomial","root"] (zh zbd):=⟨rfl,rfl,rfl,by decide +kernel,rfl,by decide +kernel,by decide +kernel⟩
theorem zcS {fd:FuncData} (T:Txt K mg t) (F:Fun K "times_root" "times_root" zbd t.times_root fd):FnOk P w K mg base CX0 1 t.times_root fd ["p","polynomial","root"] (zeQ K):=by
 refine F.ok zbZ (fun vs H Q E h=>?_) (fun cdv A outer s H vs Q E hr h=>?_)
 ·obtain⟨p,r,a,cs,rfl,_⟩:=h
  rfl
 ·obtain⟨p,r,a,cs,rfl,ha,hlen,p0,r0,r1,q⟩:=h
  refine⟨_,#[zd,#[zo,3,zbZ.nd,(aq rfl),#[zj,#[zb9],#[zX,#[za,#[zf],#[ze]]],#[pvx,1]]],by exact #[zd,#[zo,4,zbZ.nd,(aq rfl),#[zj,#[zb9],#[pvx,1],#[zX,#[za,#[zf],#[ze]]]]],by exact #[zn,#[zE,#[z0,(CompSc.of (N':=["high","low","root","p"]) (ix:=[none,none,some 2,some 0]) (zh zbd) ["p","polynomial","root","raised","kept"] rfl rfl (by decide +kernel)),#[zaX,#[zw,#[zw,#[zav]]]],#[zdX,T.zip_,#[za,#[pvx,3],#[za,#[pvx,4],#[ze]]]],(fun _ _ _ _=>#[zaq,(K),2,#[zi,#[zg,0,(show (["high","low","root","p"]:List Str).Nodup by decide +kernel),(aq rfl)],#[zi,#[zg,1,(show (["high","low","root","p"]:List Str).Nodup by decide +kernel),(aq rfl)],#[zJ]]]]),(fun _ _ _ _=>#[zB]),(fun _ _ _ _=>#[zj,#[zH],#[zj,#[zaV],#[pvx,0],#[zj,#[zZ],#[pvx,2],#[pvx,1]]],#[pvx,3]])]]]]],?_⟩
  have hsl:=aV
  refine⟨by show 1≤sizeLine; lia,fun z hz=>⟨_,rfl,z,a,[.int 0],cs.map V.int,rfl,rfl,zc,by rw [zq (zy ha hz)]; exact ha,by rw [ab]; show 1+cs.length≤sizeLine; lia,fun ra hra=>?_⟩⟩
  have s1:zt H (upd (upd H z (.lst [.int 0])) ra (.lst ([.int 0]++cs.map V.int))):=(zb hz).trans (zb hra)
  refine⟨_,rfl,by show 1≤sizeLine; lia,fun z2 hz2=>⟨a,z2,cs.map V.int,[.int 0],rfl,rfl,by rw [zq (zy (s1 _ _ ha) hz2)]; exact s1 _ _ ha,zc,by rw [ab]; show cs.length+1≤sizeLine; lia,fun ke hke=>?_⟩⟩
  have s2:=s1.trans ((zb (o:=.lst [.int 0]) hz2).trans (zb (o:=.lst (cs.map V.int++[.int 0])) hke))
  have hra2:upd (upd (upd (upd H z (.lst [.int 0])) ra (.lst ([.int 0]++cs.map V.int))) z2 (.lst [.int 0])) ke (.lst (cs.map V.int++[.int 0])) ra=some (.lst ((0 :: cs).map V.int)) :=
   ((zb (o:=.lst [.int 0]) hz2).trans (zb (o:=.lst (cs.map V.int++[.int 0])) hke)) _ _ zc
  have hke2:upd (upd (upd (upd H z (.lst [.int 0])) ra (.lst ([.int 0]++cs.map V.int))) z2 (.lst [.int 0])) ke (.lst (cs.map V.int++[.int 0])) ke=some (.lst ((cs++[0]).map V.int)):=by rw [zc,ar]; rfl
  generalize upd (upd (upd (upd H z (.lst [.int 0])) ra (.lst ([.int 0]++cs.map V.int))) z2 (.lst [.int 0])) ke (.lst (cs.map V.int++[.int 0]))=H2 at s2 hra2 hke2 ⊢
  refine⟨_,rfl,_,rfl,ra,ke,_,_,rfl,SqL.of hra2,SqL.of hke2,zT (n:=cs.length+1) (fun i ys H'=>ys=((zbA p r cs).take i).map V.int∧zt H2 H') ⟨by simp,fun _ _ e=>e⟩ ?_ ?_ ?_ ?_⟩
  ·rintro i ys H3 hi ⟨_,s3⟩
   obtain⟨x,hx⟩:∃ x,(0 :: cs)[i]? = some x:=⟨(0 :: cs)[i]'(by simpa using hi),by simp⟩
   obtain⟨y,hy⟩:∃ y,(cs++[0])[i]? = some y:=⟨(cs++[0])[i]'(by simpa using hi),by simp⟩
   exact⟨_,_,.int x,.int y,SqL.of (s3 _ _ hra2),SqL.of (s3 _ _ hke2),by rw [ah,hx]; rfl,by rw [ah,hy]; rfl⟩
  ·rintro ys H3 ⟨_,s3⟩
   exact⟨_,_,SqL.of (s3 _ _ hra2),SqL.of (s3 _ _ hke2),.inl (by simp)⟩
  ·rintro i x ys H3 H4 hi ⟨rfl,s3⟩ ⟨T,u,v,hT,rfl,rfl,hu,hv⟩
   obtain⟨x,rfl,hx⟩:=zal (hu _ (SqL.of (s3 _ _ hra2)))
   obtain⟨y,rfl,hy⟩:=zal (hv _ (SqL.of (s3 _ _ hke2)))
   refine gY2 (SqT.of zc) ?_
   refine⟨_,rfl,_,rfl,_,rfl,_,_,rfl,rfl,.inl ⟨by lia,by lia⟩,_,_,rfl,rfl,_,rfl,_,_,rfl,rfl,p0,zad ?_,?_,s3.trans (zb hT)⟩
   ·rw [ab]
    exact aZ (gk _ _) (by lia)
   ·show _=(List.take (i+1) (bf (trF p r) (0 :: cs) (cs++[0]))).map V.int
    rw [zgY hx hy,ar]
    rfl
  ·rintro ys H3 D ⟨rfl,s3⟩ hD
   refine q D _ ((s2.trans s3).free hD) ((s2.trans s3).trans (zb hD)) ?_
   rw [zc,aK (by rw [zbH]; exact af _)]
theorem zlL {p f:Int}:∀ (cs vs:List Int),vs.length≤cs.length→ad p f cs vs=bf (fun number other=>(number+f*other) % p) cs vs++cs.drop vs.length
 | [],[],_=>rfl
 | _ :: _,[],_=>rfl
 | [],_ :: _,h=>by simp at h
 | c :: cs,v :: vs,h=>by
  show (c+f*v) % p :: ad p f cs vs=(c+f*v) % p :: (bf _ cs vs++cs.drop vs.length)
  rw [zlL cs vs (by simpa using h)]
theorem zlM {xs:List V} {k:Nat} (h:k≤xs.length):zaW xs (some (k:Int)) none=xs.drop k:=by
 have e1:HT.sIx xs.length 0 (some (k:Int))=k:=by
  unfold HT.sIx
  simp
  split <;> lia
 have e2:HT.sIx xs.length xs.length none=xs.length:=rfl
 unfold zaW
 rw [e1,e2]
 exact aK (by rw [bK]; exact af _)
def zm6 (K:ag):Sp:=fun vs H Q _=>∃ (p x y:Int) (c v b:Addr) (cs ws:List Int),vs = [.int p,.ref c,.ref v,.ref b]∧H c=some (.lst (cs.map V.int))∧H v=some (.lst (ws.map V.int))∧H b=some (.tup [.int x,.int y])∧p∈zm∧0≤x∧x < p∧0≤y∧y < 10000∧0 < zl p x ws∧zl p x ws < p∧ws.length≤cs.length∧cs.length≤1000 ∧
 ∀ (l:Addr) (H':Hp),H l=none→zt H H'→H' l=some (.lst ((ad p ((y - zl p x cs)*inv p (zl p x ws) % p) cs ws).map V.int))→Q (.ref l) H'
theorem zcL:FnScope ["p","polynomial","vanishing","point","x","y","missing","factor","added"] ["p","polynomial","vanishing","point"] (zh zeM):=⟨rfl,rfl,rfl,by decide +kernel,rfl,by decide +kernel,by decide +kernel⟩
theorem zm7 {fd:FuncData} (T:Txt K mg t) (F:Fun K "bent" "bent" zeM t.bent fd):FnOk P w K mg base CX0 2 t.bent fd ["p","polynomial","vanishing","point"] (zm6 K):=by
 obtain⟨fd_value_at,F_value_at,b_value_at⟩:=T.f_value_at
 have G_value_at:=zbR (P:=P) (w:=w) (base:=base) T F_value_at
 obtain⟨fd_inverse,F_inverse,b_inverse⟩:=T.f_inverse
 have G_inverse:=zeP (P:=P) (w:=w) (base:=base) T F_inverse
 refine F.ok zcL (fun vs H Q E h=>?_) (fun cdv A outer s H vs Q E hr h=>?_)
 ·obtain⟨p,x,y,c,v,b,cs,ws,rfl,_⟩:=h
  rfl
 ·obtain⟨p,x,y,c,v,b,cs,ws,rfl,hc,hv,hb,mp,x0,x1,y0,y1,g0,g1,hle,hlen,q⟩:=h
  refine⟨_,#[zd,#[za8,#[pvx,3],#[zaU,#[zi,#[zg,4,zcL.nd,(aq rfl)],#[zi,#[zg,5,zcL.nd,(aq rfl)],#[zJ]]]]],by exact #[zd,#[zo,6,zcL.nd,(aq rfl),#[zj,#[zaV],#[pvx,5],#[zr,G_value_at,(hr.mono (by decide)),T.m_value_at,F_value_at.kp,b_value_at,#[zG],#[za,#[pvx,0],#[za,#[pvx,1],#[za,#[pvx,4],#[ze]]]]]]],by exact #[zd,#[zo,7,zcL.nd,(bX rfl),#[zj,#[zH],#[zj,#[zZ],#[pvx,6],#[zr,G_inverse,(hr.mono (by decide)),T.m_inverse,F_inverse.kp,b_inverse,#[zG],#[za,#[pvx,0],#[za,#[zr,G_value_at,(hr.mono (by decide)),T.m_value_at,F_value_at.kp,b_value_at,#[zG],#[za,#[pvx,0],#[za,#[pvx,2],#[za,#[pvx,4],#[ze]]]]],#[ze]]]]],#[pvx,0]]],by exact #[zd,#[zaA,8,zcL.nd,(aq rfl),(CompSc.of (N':=["number","other","factor","p"]) (ix:=[none,none,some 7,some 0]) (zh zeM) ["p","polynomial","vanishing","point","x","y","missing","factor","added"] rfl rfl (by decide +kernel)),#[zaX,#[zw,#[zw,#[zav]]]],#[zdX,T.zip_,#[za,#[pvx,1],#[za,#[pvx,2],#[ze]]]],(fun _ _ _ _=>#[zaq,(K),2,#[zi,#[zg,0,(show (["number","other","factor","p"]:List Str).Nodup by decide +kernel),(aq rfl)],#[zi,#[zg,1,(show (["number","other","factor","p"]:List Str).Nodup by decide +kernel),(aq rfl)],#[zJ]]]]),(fun _ _ _ _=>#[zB]),(fun _ _ _ _=>#[zj,#[zH],#[zj,#[zO],#[pvx,0],#[zj,#[zZ],#[pvx,2],#[pvx,1]]],#[pvx,3]])],by exact #[zn,#[zE,#[zj,#[zb9],#[pvx,8],#[zax,zba,#[pvx,1],#[zaH,#[zA,#[zu],T.len_,b9,#[za,#[pvx,8],#[ze]]]],#[za1]]]]]]]]],?_⟩
  have hsl:=aV
  have rp:=zp mp
  have p0:0 < p:=by lia
  have v0:=zar (x:=x) p0 cs
  have v1:=zas (x:=x) p0 cs
  refine⟨_,rfl,b,_,rfl,SqT.of hb,rfl,_,_,rfl,_,_,rfl,rfl,?_⟩
  refine⟨_,rfl,_,rfl,_,rfl,_,rfl,p,x,c,cs,rfl,.inl (SqL.of hc),p0,by lia,x0,x1,_,_,rfl,rfl,?_⟩
  refine⟨_,rfl,_,rfl,_,rfl,_,rfl,_,rfl,p,x,v,ws,rfl,.inl (SqL.of hv),p0,by lia,x0,x1,p,_,rfl,mp,by lia,by lia,_,_,rfl,rfl,.inl ⟨by lia,by lia⟩,_,rfl,_,_,rfl,rfl,p0,?_⟩
  have f0:=aH ((y - zl p x cs)*inv p (zl p x ws)) (show p≠0 by lia)
  have f1:=aC ((y - zl p x cs)*inv p (zl p x ws)) p0
  refine⟨_,rfl,_,rfl,c,v,_,_,rfl,SqL.of hc,SqL.of hv,zfx (n:=ws.length) (f:=fun number other=>(number+((y - zl p x cs)*inv p (zl p x ws) % p)*other) % p) hc hv hle (af _) (.inr (af _)) (by lia) ?_ ?_⟩
  ·intro j u w H6 T R B hu hv s6 hT hR
   refine gY2 (SqT.of zc) ?_
   exact⟨_,rfl,_,rfl,_,rfl,_,_,rfl,rfl,.inl ⟨by lia,by lia⟩,_,_,rfl,rfl,_,rfl,_,_,rfl,rfl,p0,hR⟩
  ·intro D H6 s6 hD
   obtain⟨f,hf⟩:∃ f,(y - zl p x cs)*inv p (zl p x ws) % p=f:=⟨_,rfl⟩
   rw [hf] at q ⊢
   have lz:(bf (fun number other=>(number+f*other) % p) cs ws).length=ws.length:=by rw [eg]; lia
   have s7:=s6.trans (zb (o:=.lst ((bf (fun number other=>(number+f*other) % p) cs ws).map V.int)) hD)
   have h7D:upd H6 D (.lst ((bf (fun number other=>(number+f*other) % p) cs ws).map V.int)) D=some (.lst ((bf (fun number other=>(number+f*other) % p) cs ws).map V.int)):=zc
   generalize upd H6 D (.lst ((bf (fun number other=>(number+f*other) % p) cs ws).map V.int))=H7 at s7 h7D ⊢
   have h7c:=s7 _ _ hc
   refine⟨_,rfl,_,rfl,_,rfl,D,_,rfl,.inl (SqL.of h7D),?_⟩
   refine⟨_,rfl,c,_,rfl,SqL.of h7c,fun z hz=>?_⟩
   have ec:zaW (cs.map V.int) (some ((((bf (fun number other=>(number+f*other) % p) cs ws).map V.int).length:Nat):Int)) none=(cs.drop ws.length).map V.int:=by
    rw [ab,lz,zlM (by rw [ab]; exact hle),fW]
   rw [ec]
   have s8:=zb (o:=.lst ((cs.drop ws.length).map V.int)) hz
   refine⟨D,z,_,_,rfl,rfl,s8 _ _ h7D,zc,by rw [ab,ab,lz,bK]; lia,fun l hl=>q l _ (((s7.trans s8).free hl)) ((s7.trans s8).trans (zb hl)) ?_⟩
   rw [zc,zlL cs ws hle,ar]
theorem za5:FnScope ["p","points","polynomial","vanishing","x","y"] ["p","points"] (zh zcI):=⟨rfl,rfl,rfl,by decide +kernel,rfl,by decide +kernel,by decide +kernel⟩
theorem zcZ {fd:FuncData} (T:Txt K mg t) (F:Fun K "through" "through" zcI t.through fd):FnOk P w K mg base CX0 3 t.through fd ["p","points"] (zhp K):=by
 obtain⟨fd_bent,F_bent,b_bent⟩:=T.f_bent
 have G_bent:=zm7 (P:=P) (w:=w) (base:=base) T F_bent
 obtain⟨fd_times_root,F_times_root,b_times_root⟩:=T.f_times_root
 have G_times_root:=zcS (P:=P) (w:=w) (base:=base) T F_times_root
 refine F.ok za5 (fun vs H Q E h=>?_) (fun cdv A outer s H vs Q E hr h=>?_)
 ·obtain⟨p,a,pts,rfl,_⟩:=h
  rfl
 ·obtain⟨p,a,pts,rfl,hP,hlen,mp,hp,hyr,q⟩:=h
  refine⟨_,#[zd,#[zo,2,za5.nd,(aq rfl),#[zj,#[zfT],#[zX,#[za,#[zf],#[ze]]],#[zA,#[zu],T.len_,b9,#[za,#[pvx,1],#[ze]]]]],by exact #[zd,#[zo,3,za5.nd,(aq rfl),#[zX,#[za,#[zf],#[ze]]]],by exact #[zd,#[za9,bA,#[zS,#[pvx,1]],#[zaU,#[zi,#[zg,4,za5.nd,(aq rfl)],#[zi,#[zg,5,za5.nd,(aq rfl)],#[zJ]]]],#[zd,#[zo,2,za5.nd,(aq rfl),#[zr,G_bent,(hr.mono (by decide)),T.m_bent,F_bent.kp,b_bent,#[zG],#[za,#[pvx,0],by exact #[za,#[pvx,2],#[za,#[pvx,3],#[za,#[zaG,#[za,#[pvx,4],#[za,#[pvx,5],#[ze]]]],#[ze]]]]]]],by exact #[zn,#[zo,3,za5.nd,(aq rfl),#[zr,G_times_root,(hr.mono (by decide)),T.m_times_root,F_times_root.kp,b_times_root,#[zG],#[za,#[pvx,0],#[za,#[pvx,3],#[za,#[pvx,4],#[ze]]]]]]]]],by exact #[zn,#[zE,#[zaD,#[zaE],T.tuple_,gi,#[za,#[pvx,2],#[ze]]]]]]]],?_⟩
  have hsl:=aV
  have rp:=zp mp
  have p0:0 < p:=by lia
  obtain⟨bs,hS,hbl,hb⟩:=id hP
  refine⟨by show 1≤sizeLine; lia,fun z hz=>⟨_,rfl,a,_,rfl,.inl ((zb hz).seq hS),z,_,[.int 0],rfl,rfl,zc,by rw [ab]; lia,by rw [ab]; lia,by rw [ab]; show 1*_≤sizeLine; lia,fun c hc=>?_⟩⟩
  have s0:=zb (o:=.lst [.int 0]) hz
  have hcH:H c=none:=s0.free hc
  refine⟨by show 1≤sizeLine; lia,fun v hv=>?_⟩
  have hcv:c≠v:=zy zc hv
  rw [ab,zc6,hbl,bm] at hv ⊢
  have s2:zt H (upd (upd (upd H z (.lst [.int 0])) c (.lst ((ap pts.length 0).map V.int))) v (.lst [.int 1])):=(s0.trans (zb hc)).trans (zb hv)
  refine⟨_,rfl,a,rfl,⟨_,s2.seq hS⟩,zbp (K:=K) (a:=a) (xs:=bs.map V.ref) (fun i σ H'=>∃ (c v:Addr) (s:List Int×List Int) (e4 e5:Option V),σ = [some (.int p),some (.ref a),some (.ref c),some (.ref v),e4,e5] ∧
   s=(pts.take i).foldl (zcp p) (ap pts.length 0,[1])∧Nw p pts.length ((pts.take i).map (md p)) s∧zt H H'∧H' c=some (.lst (s.1.map V.int))∧H' v=some (.lst (s.2.map V.int)))
   ⟨c,v,_,none,none,rfl,rfl,by rw [dC]; exact zgW mp _,s2,by rw [zq hcv]; exact zc,zc⟩ (fun i σ H' _ ⟨_,_,_,_,_,_,_,_,s3,_⟩=>s3.seq hS) ?_ ?_⟩
  ·rintro i y σ H1 hy ⟨c,v,s,e4,e5,rfl,hs,nw,s1,h1c,h1v⟩
   obtain⟨b,rfl,hbi⟩:=zY hy
   obtain⟨hi,_⟩:=az.mp hbi
   obtain⟨⟨x,y⟩,hq⟩:∃ q,pts[i]? = some q:=⟨pts[i]'(by lia),by simp⟩
   have hbq:=s1 _ _ (hb i b _ hbi hq)
   have hsp:=zeq hq
   have hp':=hp
   rw [hsp,ar,aU] at hp'
   have hap:=hp'.apart
   obtain⟨x0,x1,m0,m1⟩:=hp.rg _ (aE.mpr ⟨_,aB hq,rfl⟩)
   obtain⟨y0,y1⟩:=hyr _ (aB hq)
   dsimp only [md] at x0 x1 m0 m1 y0 y1
   have hil:i < pts.length:=by lia
   have htl:(pts.take i).length=i:=by rw [aA]; lia
   have nw2:=ziA mp nw (q:=md p (x,y)) (by rw [ab,htl]; exact hil) x0 x1 m0 m1 hap
   rw [zho] at nw2
   obtain⟨hg0,hg1⟩:=ziz mp nw (q:=(x,y)) x0 x1 (fun a ha=>⟨(hap a ha).1,(hap a ha).2.1,(hap a ha).2.2.1⟩)
   dsimp only at hg0 hg1
   have hst:zcp p s (x,y)=(ad p ((y - zl p x s.1)*inv p (zl p x s.2) % p) s.1 s.2,zbA p x s.2):=rfl
   rw [hst] at nw2
   have l1:=nw.lc
   have l2:=nw.lv
   rw [ab,htl] at l2
   refine⟨b,_,rfl,SqT.of hbq,rfl,_,_,rfl,_,_,rfl,rfl,?_⟩
   refine⟨_,rfl,_,rfl,_,rfl,_,rfl,_,rfl,by show 2≤sizeLine; lia,fun tt ht=>?_⟩
   have t1:=zb (o:=.tup [.int x,.int y]) ht
   refine⟨p,x,y,c,v,tt,s.1,s.2,rfl,t1 _ _ h1c,t1 _ _ h1v,zc,mp,x0,x1,y0,y1,hg0,hg1,by lia,by lia,fun l H3 hl s3 h3l=>?_⟩
   have s4:=t1.trans s3
   refine⟨_,rfl,_,rfl,_,rfl,p,x,v,s.2,rfl,s4 _ _ h1v,by lia,p0,by lia,by lia,fun l2 H4 hl2 s5 h4l=>?_⟩
   refine⟨l,l2,zcp p s (x,y),_,_,rfl,?_,?_,(s1.trans s4).trans s5,?_,?_⟩
   ·rw [take_snoc hq,List.foldl_append,← hs]
    rfl
   ·rw [take_snoc hq,hst,ar]
    exact nw2
   ·rw [hst]
    exact s5 _ _ h3l
   ·rw [hst]
    exact h4l
  ·rintro σ H1 ⟨c,v,s,e4,e5,rfl,hs,nw,s1,h1c,h1v⟩
   rw [ab,hbl,bo] at hs
   refine⟨_,rfl,c,_,rfl,.inl ⟨SqL.of h1c,fun l hl=>q l _ (s1.free hl) (s1.trans (zb hl)) ?_⟩⟩
   rw [zc,hs,zok]
   rfl
theorem za2:FnScope ["code","row","p","k","places"] ["code","row"] (zh zaM):=⟨rfl,rfl,rfl,by decide +kernel,rfl,by decide +kernel,by decide +kernel⟩
theorem za3 {fd:FuncData} (T:Txt K mg t) (F:Fun K "heard_points" "heard_points" zaM t.heard_points fd):FnOk P w K mg base CX0 1 t.heard_points fd ["code","row"] (zmE K):=by
 refine F.ok za2 (fun vs H Q E h=>?_) (fun cdv A outer s H vs Q E hr h=>?_)
 ·obtain⟨c,tt,r,p,k,pl,rw,rfl,_⟩:=h
  rfl
 ·obtain⟨c,tt,r,p,k,pl,rw,rfl,hc,hr',hn,q⟩:=h
  refine⟨_,#[zd,#[za8,#[pvx,0],#[zaU,#[zi,#[zg,2,za2.nd,(aq rfl)],#[zi,#[zg,3,za2.nd,(aq rfl)],#[zi,#[zg,4,za2.nd,(aq rfl)],#[zJ]]]]]],by exact #[zn,#[zE,#[z0,(CompSc.of (N':=["place","entry"]) (ix:=[none,none]) (zh zaM) ["code","row","p","k","places"] rfl rfl (by decide +kernel)),#[zaX,#[zw,#[zw,#[zav]]]],(@zkO _ _ _ _ _ _ _ _ _ rfl T.zip_ #[za,#[pvx,4],#[za,#[pvx,1],#[ze]]] (by rfl) (by rfl)),(fun _ _ _ _=>#[zaq,(K),2,#[zi,#[zg,0,(show (["place","entry"]:List Str).Nodup by decide +kernel),(aq rfl)],#[zi,#[zg,1,(show (["place","entry"]:List Str).Nodup by decide +kernel),(aq rfl)],#[zJ]]]]),(fun _ _ _ _=>#[zbq,#[zC,#[zfQ],#[pvx,1],#[zbJ],(zQ _)]]),(fun _ _ _ _=>#[zaG,#[za,#[pvx,0],#[za,#[pvx,1],#[ze]]]])]]]],?_⟩
  have hsl:=aV
  have hl:=hr'.len
  refine⟨_,rfl,c,_,rfl,SqT.of hc.1,rfl,_,_,rfl,_,_,rfl,_,_,rfl,rfl,?_⟩
  refine⟨_,rfl,_,rfl,tt,r,_,_,rfl,SqT.of hc.2,hr'.at',zT (n:=pl.length) (fun i ys H'=>zt H H'∧∃ us:List Addr,ys=us.map V.ref∧PtB H' us (hps (pl.take i) (rw.take i))) ⟨fun _ _ e=>e,[],rfl,.nil⟩ ?_ ?_ ?_ ?_⟩
  ·rintro i ys H3 hi ⟨s3,_⟩
   obtain⟨o,ho⟩:∃ o,rw[i]? = some o:=⟨rw[i]'(by lia),by simp⟩
   exact⟨_,_,.int pl[i],enc o,SqT.of (s3 _ _ hc.2),s3.seq hr'.at',by rw [ah,am hi]; rfl,by rw [ah,ho]; rfl⟩
  ·rintro ys H3 ⟨s3,_⟩
   exact⟨_,_,SqT.of (s3 _ _ hc.2),s3.seq hr'.at',.inl (by rw [ab])⟩
  ·rintro i xx ys H3 H4 hi ⟨s3,us,rfl,hus⟩ ⟨T,u,v,hT,rfl,rfl,hu,hv⟩
   obtain⟨x,rfl,hx⟩:=zal (hu _ (SqT.of (s3 _ _ hc.2)))
   obtain⟨o,rfl,ho⟩:=ziE (hv _ (s3.seq hr'.at'))
   have v4:=zb (o:=.tup [.int x,enc o]) hT
   have s4:=s3.trans v4
   have hs:=zdg hx ho
   have hul:=hus.length
   have hb:=zbO (pl.take i) (rw.take i)
   rw [aA] at hb
   refine⟨T,_,rfl,SqT.of zc,rfl,_,_,rfl,_,_,rfl,rfl,?_⟩
   refine⟨_,rfl,rfl,_,rfl,?_⟩
   cases o with
   | none =>
    refine ze0 ⟨s4,us,rfl,?_⟩
    rw [hs,bO]
    exact hus.same v4
   | some z =>
    refine zpt ⟨_,rfl,_,rfl,by show 2≤sizeLine; lia,fun T2 hT2=>⟨by rw [ab]; lia,s4.trans (zb hT2),us++[T2],by rw [ar]; rfl,?_⟩⟩
    rw [hs]
    exact bI (hus.same (v4.trans (zb hT2))) zc
  ·rintro ys H3 D ⟨s3,us,rfl,hus⟩ hD
   rw [bo,aK (by lia)] at hus
   exact q D us _ (s3.free hD) (s3.trans (zb hD)) zc (hus.same (zb hD))
end
end My
end
section
namespace My
open PySem L2 PyProof.Rows
section
variable {P:Program} {w:World} {K:ag} {mg:Str→Option Value} {base:Heap} {t:Adr}
theorem zid:FnScope ["p","vector","times","other"] ["p","vector","times","other"] (zh zb5):=⟨rfl,rfl,rfl,by decide +kernel,rfl,by decide +kernel,by decide +kernel⟩
theorem zie {fd:FuncData} (T:Txt K mg t) (F:Fun K "without" "without" zb5 t.without fd):FnOk P w K mg base CX0 1 t.without fd ["p","vector","times","other"] (zh6 K):=by
 refine F.ok zid (fun vs H Q E h=>?_) (fun cdv A outer s H vs Q E hr h=>?_)
 ·obtain⟨p,tm,a,b,as,bs,rfl,_⟩:=h
  rfl
 ·obtain⟨p,tm,a,b,as,bs,rfl,ha,hb,hl,hn,p0,t0,t1,q⟩:=h
  refine⟨_,#[zn,#[zE,#[z0,(CompSc.of (N':=["number","less","times","p"]) (ix:=[none,none,some 2,some 0]) (zh zb5) ["p","vector","times","other"] rfl rfl (by decide +kernel)),#[zaX,#[zw,#[zw,#[zav]]]],#[zdX,T.zip_,#[za,#[pvx,1],#[za,#[pvx,3],#[ze]]]],(fun _ _ _ _=>#[zaq,(K),2,#[zi,#[zg,0,(show (["number","less","times","p"]:List Str).Nodup by decide +kernel),(aq rfl)],#[zi,#[zg,1,(show (["number","less","times","p"]:List Str).Nodup by decide +kernel),(aq rfl)],#[zJ]]]]),(fun _ _ _ _=>#[zB]),(fun _ _ _ _=>#[zj,#[zH],#[zj,#[zaV],#[pvx,0],#[zj,#[zZ],#[pvx,2],#[pvx,1]]],#[pvx,3]])]]],?_⟩
  have hsl:=aV
  refine⟨_,rfl,_,rfl,a,b,_,_,rfl,SqL.of ha,SqL.of hb,zfx (n:=as.length) (f:=fun x y=>(x - tm*y) % p) ha hb (af _) (by lia) (.inl (af _)) (by lia) ?_ ?_⟩
  ·intro j u w H6 T R B hu hv s6 hT hR
   refine gY2 (SqT.of zc) ?_
   exact⟨_,rfl,_,rfl,_,rfl,_,_,rfl,rfl,.inl ⟨by lia,by lia⟩,_,_,rfl,rfl,_,rfl,_,_,rfl,rfl,p0,hR⟩
  ·intro D H6 s6 hD
   exact q D _ (s6.free hD) (s6.trans (zb hD)) zc
def zc0 (K:ag):Sp:=fun vs H Q _=>∃ (p:Int) (a:Addr) (ls:List Addr) (vv:List (List Int)) (L:Nat),vs = [.int p,.ref a]∧H a=some (.lst (ls.map V.ref))∧LsA H ls vv∧vv≠[]∧vv.length≤200∧L≤800∧(∀ v∈vv,v.length=L∧∀ c∈v,0≤c∧c < p)∧p∈zm ∧
 (∀ H',zt H H'→Indep p L vv→Q .non H')∧(∀ (l:Addr) (c:List Int) (m:Nat) (H':Hp),H l=none→zt H H'→H' l=some (.lst (c.map V.int))→IsP p (m+1) c→m < vv.length→gl c m=1→Dep p L vv c→zmY p L m vv→Q (.ref l) H')
theorem zF:FnScope ["p","vectors","length","cleared","count","vector","whole","lead","other","leads","factor"] ["p","vectors"] (zh zaj):=⟨rfl,rfl,rfl,by decide +kernel,rfl,by decide +kernel,by decide +kernel⟩
theorem zbS {fd:FuncData} (T:Txt K mg t) (F:Fun K "first_relation" "first_relation" zaj t.first_relation fd):FnOk P w K mg base CX0 2 t.first_relation fd ["p","vectors"] (zc0 K):=by
 obtain⟨fd_without,F_without,b_without⟩:=T.f_without
 have G_without:=zie (P:=P) (w:=w) (base:=base) T F_without
 obtain⟨fd_inverse,F_inverse,b_inverse⟩:=T.f_inverse
 have G_inverse:=zeP (P:=P) (w:=w) (base:=base) T F_inverse
 refine F.ok zF (fun vs H Q E h=>?_) (fun cdv A outer s H vs Q E hr h=>?_)
 ·obtain⟨p,a,ls,vv,L,rfl,_⟩:=h
  rfl
 ·obtain⟨p,a,ls,vv,L,rfl,ha,hls,hne,hN,hL,hvv,hp,qn,qs⟩:=h
  refine⟨_,#[zd,#[zo,2,zF.nd,(aq rfl),#[zA,#[zu],T.len_,b9,#[za,#[zM,#[zK],#[pvx,1],#[zf]],#[ze]]]],by exact #[zd,#[zo,3,zF.nd,(aq rfl),#[zX,#[ze]]],by exact #[zd,#[za9,bA,(@zkr _ _ _ _ _ _ _ _ rfl T.enumerate_ #[za,#[pvx,1],#[ze]] (by rfl)),#[zaU,#[zi,#[zg,4,zF.nd,(aq rfl)],#[zi,#[zg,5,zF.nd,(aq rfl)],#[zJ]]]],#[zd,#[zo,6,zF.nd,(bX rfl),#[zj,#[zb9],#[pvx,5],#[zj,#[zfT],#[zX,#[za,#[zf],#[ze]]],#[zA,#[zu],T.len_,b9,#[za,#[pvx,1],#[ze]]]]]],by exact #[zd,#[za8,#[zf],#[zkc,#[pvx,6],#[zj,#[zO],#[pvx,2],#[pvx,4]],set_list]],by exact #[zd,#[za9,bA,#[zS,#[pvx,3]],#[zaU,#[zi,#[zg,7,zF.nd,(aq rfl)],#[zi,#[zg,8,zF.nd,(aq rfl)],#[zJ]]]],#[zn,#[zo,6,zF.nd,(bX rfl),#[zr,G_without,(hr.mono (by decide)),T.m_without,F_without.kp,b_without,#[zG],#[za,#[pvx,0],by exact #[za,#[pvx,6],#[za,#[zM,#[zK],#[pvx,6],#[pvx,7]],#[za,#[pvx,8],#[ze]]]]]]]]],by exact #[zd,#[zaA,9,zF.nd,(aq rfl),(CompSc.of (N':=["at","whole"]) (ix:=[none,some 6]) (zh zaj) ["p","vectors","length","cleared","count","vector","whole","lead","other","leads","factor"] rfl rfl (by decide +kernel)),#[zap],#[zai,T.range_,#[za,#[pvx,2],#[ze]]],(fun _ _ _ _=>#[zg,0,(show (["at","whole"]:List Str).Nodup by decide +kernel),(aq rfl)]),(fun _ _ _ _=>#[zbq,#[zC,#[znj],#[zM,#[zbr,(K)],#[pvx,1],#[pvx,0]],#[zf],(zQ _)]]),(fun _ _ _ _=>#[pvx,0])],by exact #[zd,#[za6,(@znB _ _ _ _ (@zki _ _ _ #[pvx,9] (fun _=>rfl))),#[zn,#[zE,#[zax,zba,#[pvx,6],#[zaH,#[pvx,2]],#[zaH,#[zj,#[zO],#[zj,#[zO],#[pvx,2],#[pvx,4]],#[zf]]]]]],#[zab]],by exact #[zd,#[zo,10,zF.nd,(bX rfl),#[zr,G_inverse,(hr.mono (by decide)),T.m_inverse,F_inverse.kp,b_inverse,#[zG],#[za,#[pvx,0],#[za,#[zM,#[zK],#[pvx,6],#[zM,#[zK],#[pvx,9],#[zf]]],#[ze]]]]],by exact #[zn,#[zcw,#[zfo,cL,du,dv,#[zb2],#[pvx,3],#[za,#[zaG,#[za,#[zM,#[zK],#[pvx,9],#[zf]],#[za,#[z0,(CompSc.of (N':=["number","factor","p"]) (ix:=[none,some 10,some 0]) (zh zaj) ["p","vectors","length","cleared","count","vector","whole","lead","other","leads","factor"] rfl rfl (by decide +kernel)),#[zap],#[zS,#[pvx,6]],(fun _ _ _ _=>#[zg,0,(show (["number","factor","p"]:List Str).Nodup by decide +kernel),(aq rfl)]),(fun _ _ _ _=>#[zB]),(fun _ _ _ _=>#[zj,#[zH],#[zj,#[zZ],#[pvx,0],#[pvx,1]],#[pvx,2]])],#[ze]]]],#[ze]]]]]]]]]]]],by exact #[zn,#[zE,#[zbJ]]]]]],?_⟩
  have hsl:=aV
  have rp:=zp hp
  have p0:0 < p:=by lia
  have hll:=hls.length
  have hN0:0 < vv.length:=gm.mpr hne
  obtain⟨l0,hl0⟩:∃ l0,ls[0]? = some l0:=⟨ls[0]'(by lia),by simp⟩
  obtain⟨v0,hv0,hv0a⟩:=Paired.get hls hl0
  have hv0L:=(hvv v0 (aB hv0)).1
  refine⟨_,rfl,a,_,_,.ref l0,rfl,rfl,SqL.of ha,zaR (j:=0) (by rw [ah,hl0]; rfl),l0,_,rfl,.inl (SqL.of hv0a),?_⟩
  rw [ab,hv0L]
  refine⟨by show 0≤sizeLine; lia,fun ca hca=>?_⟩
  have u1:=zb (o:=.lst []) hca
  refine⟨_,rfl,a,_,rfl,SqL.of (u1 _ _ ha),zhO (n:=vv.length) (fun i σ H'=>∃ (cs:List Addr) (cl:List (Nat×List Int)) (e4 e5 e6 e7 e8 e9 e10:Option V),σ = [some (.int p),some (.ref a),some (.int (L:Int)),some (.ref ca),e4,e5,e6,e7,e8,e9,e10]∧zt H H'∧H' ca=some (.lst (cs.map V.ref))∧ClA ca H' cs cl∧Ech p L vv.length i vv cl)
   ⟨[],[],none,none,none,none,none,none,none,rfl,u1,zc,.nil,Ech.start p L vv.length vv⟩ ?_ ?_ ?_ ?_⟩
  ·rintro i σ H1 hi ⟨cs,cl,e4,e5,e6,e7,e8,e9,e10,rfl,s1,_⟩
   exact⟨_,.ref (ls[i]'(by lia)),SqL.of (s1 _ _ ha),by rw [ah,am (by lia)]; rfl⟩
  ·rintro σ H1 ⟨cs,cl,e4,e5,e6,e7,e8,e9,e10,rfl,s1,_⟩
   exact⟨_,SqL.of (s1 _ _ ha),by rw [ab]; lia⟩
  ·rintro i x σ H1 H2 hi ⟨cs,cl,e4,e5,e6,e7,e8,e9,e10,rfl,s1,h1c,hcl,E⟩ ⟨T,v,hT,rfl,rfl,hv⟩
   obtain⟨lv,rfl,hlv⟩:=zY (hv _ (SqL.of (s1 _ _ ha)))
   obtain⟨vec,hvec,hva⟩:=Paired.get hls hlv
   obtain⟨hvl,hvr⟩:=hvv vec (aB hvec)
   have t2:=zb (o:=.tup [.int (i:Int),.ref lv]) hT
   refine⟨T,_,rfl,SqT.of zc,rfl,_,_,rfl,_,_,rfl,rfl,?_⟩
   have s2:=s1.trans t2
   have h2c:=t2 _ _ h1c
   have hcl2:=hcl.same t2
   generalize upd H1 T (.tup [.int (i:Int),.ref lv])=H2 at t2 s2 h2c hcl2 ⊢
   refine⟨_,rfl,by show 1≤sizeLine; lia,fun z hz=>⟨_,rfl,a,_,rfl,.inl (SqL.of ((s2.trans (zb hz)) _ _ ha)),z,_,[.int 0],rfl,rfl,zc,by rw [ab]; lia,by rw [ab]; lia,by rw [ab]; show 1*_≤sizeLine; lia,fun y hy=>?_⟩⟩
   rw [ab,zc6,hll,bm]
   have t3:=(zb (o:=.lst [.int 0]) hz).trans (zb (o:=.lst ((ap vv.length (0:Int)).map V.int)) hy)
   have h3y:upd (upd H2 z (.lst [.int 0])) y (.lst ((ap vv.length (0:Int)).map V.int)) y=some (.lst ((ap vv.length (0:Int)).map V.int)):=zc
   generalize upd (upd H2 z (.lst [.int 0])) y (.lst ((ap vv.length (0:Int)).map V.int))=H3 at t3 h3y ⊢
   refine⟨lv,y,_,_,rfl,rfl,(s2.trans t3) _ _ hva,h3y,by rw [ab,ab,aQ]; lia,fun wl hwl=>?_⟩
   rw [← ar]
   have t4:=zb (o:=.lst ((vec++ap vv.length (0:Int)).map V.int)) hwl
   refine⟨_,rfl,_,rfl,_,rfl,_,_,rfl,rfl,wl,_,_,L+i,rfl,rfl,zc,?_,?_⟩
   ·rw [← ft]
    exact zmh (by rw [ab,ao,aQ]; lia)
   have ew:((vec++ap vv.length (0:Int)).map V.int).set (L+i) (.int 1)=((vec++ap vv.length (0:Int)).set (L+i) 1).map V.int:=by rw [List.map_set]
   rw [ew,zl1]
   have t4:=t3.trans (zb (o:=.lst (((vec++ap vv.length (0:Int)).set (L+i) 1).map V.int)) hwl)
   have h4w:upd H3 wl (.lst (((vec++ap vv.length (0:Int)).set (L+i) 1).map V.int)) wl=some (.lst (((vec++ap vv.length (0:Int)).set (L+i) 1).map V.int)):=zc
   have W0:=zhl hp (N:=vv.length) hi hvec hvl hvr
   have hwc:wl≠ca:=fun e=>by
    have:=t3 _ _ h2c
    rw [← e,hwl] at this
    cases this
   generalize upd H3 wl (.lst (((vec++ap vv.length (0:Int)).set (L+i) 1).map V.int))=H4 at t4 h4w ⊢
   generalize (vec++ap vv.length (0:Int)).set (L+i) 1=w0 at W0 h4w ⊢
   have s4:=s2.trans t4
   have h4c:=t4 _ _ h2c
   have hcl4:=hcl2.same t4
   have hcll:=hcl4.length
   refine⟨_,rfl,ca,rfl,⟨_,SqL.of h4c⟩,zbp (K:=K) (a:=ca) (xs:=cs.map V.ref) (fun j σ H'=>∃ (wa:Addr) (w:List Int) (e7 e8:Option V),σ = [some (.int p),some (.ref a),some (.int (L:Int)),some (.ref ca),some (.int (i:Int)),some (.ref lv),some (.ref wa),e7,e8,e9,e10]∧zt H4 H'∧H' wa=some (.lst (w.map V.int))∧wa≠ca∧Wh p L vv.length i vv (cl.take j) w)
    ⟨wl,w0,_,_,rfl,fun _ _ e=>e,h4w,hwc,W0⟩ (fun j σ H' _ ⟨_,_,_,_,_,s5,_⟩=>SqL.of (s5 _ _ h4c)) ?_ ?_⟩
   ·rintro j y σ H5 hy ⟨wa,w,e7,e8,rfl,s5,h5w,hwa,W⟩
    obtain⟨b,rfl,hb⟩:=zY hy
    obtain⟨aa,haa,oa,hb1,hb2,hb3⟩:=Paired.get hcl4 hb
    obtain⟨o1,o2,o3,_⟩:=E.one j aa haa
    refine⟨b,_,rfl,SqT.of (s5 _ _ hb1),rfl,_,_,rfl,_,_,rfl,rfl,?_⟩
    have hg:=zeE p0 W.rg aa.1
    refine⟨_,rfl,_,rfl,_,rfl,_,rfl,wa,_,_,.int (gl w aa.1),rfl,rfl,SqL.of h5w,zaR (by rw [ah,zbi (by rw [W.ln]; lia)]; rfl),_,rfl,p,gl w aa.1,wa,oa,w,aa.2,rfl,h5w,s5 _ _ hb2,by rw [W.ln,o2],by rw [W.ln]; lia,p0,hg.1,by lia,fun l H6 hl s6 h6l=>?_⟩
    refine⟨l,_,_,_,rfl,s5.trans s6,h6l,fun e=>?_,ziZ hp E hi haa W⟩
    have:=s5 _ _ h4c
    rw [← e,hl] at this
    cases this
   ·rintro σ H5 ⟨wa,w,e7,e8,rfl,s5,h5w,hwa,W⟩
    rw [ab,hcll,bo] at W
    have h5c:=s5 _ _ h4c
    have hcl5:=hcl4.same s5
    have s15:=s4.trans s5
    refine⟨_,rfl,_,rfl,by lia,by lia,?_⟩
    rw [bm]
    refine zT (n:=L) (fun j ys H'=>H'=H5∧ys=(((aL j).filter fun m=>decide (gl w m≠0)).map fun m:Nat=>(m:Int)).map V.int) ⟨rfl,rfl⟩ (fun j ys H' hj _=>hj) (fun ys H' _=>af _) ?_ ?_
    ·rintro j xx ys H6 H7 hj ⟨rfl,rfl⟩ ⟨rfl,rfl⟩
     have hgj:(w.map V.int)[j]? = some (.int (gl w j)):=by rw [ah,zbi (by rw [W.ln]; lia)]; rfl
     refine⟨_,rfl,_,rfl,wa,_,_,.int (gl w j),rfl,rfl,SqL.of h5w,by rw [dw]; exact zaR hgj,rfl,_,rfl,?_⟩
     have hfl:=c9 (fun m=>decide (gl w m≠0)) (aL j)
     rw [aT] at hfl
     rw [cC,cq,ar,ar]
     by_cases h0:gl w j=0
     ·refine zaI (fun h=>absurd h (by rw [h0]; simp)) (fun _=>⟨rfl,?_⟩)
      rw [bT (by simpa using h0),fu,fC,fC,bO]
     ·refine zaI (fun _=>⟨_,rfl,zad (by rw [ab,ab]; lia),rfl,?_⟩) (fun h=>absurd (by simpa using h0) h)
      rw [bS (by simpa using h0),fu,dw]
      rfl
    ·rintro ys H6 D ⟨rfl,rfl⟩ hD
     have t7:=zb (o:=.lst ((((aL L).filter fun m=>decide (gl w m≠0)).map fun m:Nat=>(m:Int)).map V.int)) hD
     have h7D:upd H6 D (.lst ((((aL L).filter fun m=>decide (gl w m≠0)).map fun m:Nat=>(m:Int)).map V.int)) D=_:=zc
     generalize upd H6 D (.lst ((((aL L).filter fun m=>decide (gl w m≠0)).map fun m:Nat=>(m:Int)).map V.int))=H7 at t7 h7D ⊢
     have s7:=s15.trans t7
     have h7w:=t7 _ _ h5w
     have h7c:=t7 _ _ h5c
     have hcl7:=hcl5.same t7
     refine⟨_,rfl,_,.inl ⟨_,SqL.of h7D,rfl⟩,?_⟩
     cases hlds:(aL L).filter fun m=>decide (gl w m≠0) with
     | nil =>
      refine zaI (fun _=>?_) (fun h=>absurd rfl h)
      have hz:∀ x,x < L→gl w x=0:=fun x hx=>by
       have:=iZ.mp hlds x (bF.mpr hx)
       simpa using this
      refine⟨_,rfl,_,rfl,_,rfl,_,rfl,_,rfl,_,_,rfl,rfl,_,_,rfl,rfl,_,rfl,wa,_,rfl,SqL.of h7w,fun l hl=>?_⟩
      have ec:zaW (w.map V.int) (some (L:Int)) (some ((L:Int)+(i:Int)+1))=((w.drop L).take (i+1)).map V.int:=by
       rw [show (L:Int)+(i:Int)+1=((L+i+1:Nat):Int) by lia,zmO (by rw [ab,W.ln]; lia),← fW,← cX,show L+i+1 - L=i+1 by lia]
      rw [ec]
      obtain⟨d1,d2,d3⟩:=zld W hi hz
      exact qs l _ i _ (s7.free hl) (s7.trans (zb hl)) zc d1 hi d2 d3 (zmZ (fw hi) E)
     | cons ld lds =>
      refine zaI (fun h=>absurd h (by simp)) (fun _=>?_)
      have hm:ld∈(aL L).filter fun m=>decide (gl w m≠0):=by rw [hlds]; exact aF
      (obtain⟨hm1,hm2⟩:=bz.mp hm)
      have hld:ld < L:=bF.mp hm1
      have hg0:gl w ld≠0:=by simpa using hm2
      obtain⟨g0,g1⟩:=zeE p0 W.rg ld
      rw [hlds] at h7D
      have hat0:atI ((((ld :: lds).map fun m:Nat=>(m:Int))).map V.int) 0=some (.int (ld:Int)):=zaR (j:=0) rfl
      refine⟨_,rfl,_,rfl,_,rfl,D,_,_,.int (ld:Int),rfl,rfl,SqL.of h7D,hat0,wa,_,_,.int (gl w ld),rfl,rfl,SqL.of h7w,zaR (by rw [ah,zbi (by rw [W.ln]; lia)]; rfl),p,gl w ld,rfl,hp,g0,g1,?_⟩
      refine⟨_,rfl,.inl ⟨rfl,_,SqL.of h7c⟩,_,rfl,D,_,_,.int (ld:Int),rfl,rfl,SqL.of h7D,hat0,_,rfl,wa,rfl,⟨_,SqL.of h7w⟩,zcA (fs:=(w.map fun x=>x*inv p (gl w ld) % p).map V.int) (SqL.of h7w) (by rw [ab,ab,ab]) (by rw [ab,W.ln]; lia) ?_ ?_⟩
      ·intro j x y R B hx hy hR
       obtain⟨n,rfl,hn⟩:=zal hx
       obtain⟨n',rfl,hn'⟩:=zal hy
       rw [ah,hn] at hn'
       cases hn'
       have hnr:=W.rg n (aB hn)
       exact gY ⟨_,rfl,_,rfl,_,_,rfl,rfl,.inl ⟨by lia,by lia⟩,_,rfl,_,_,rfl,rfl,p0,hR⟩
      ·intro D2 hD2
       have t8:=zb (o:=.lst ((w.map fun x=>x*inv p (gl w ld) % p).map V.int)) hD2
       have h8D:upd H7 D2 (.lst ((w.map fun x=>x*inv p (gl w ld) % p).map V.int)) D2=some (.lst ((w.map fun x=>x*inv p (gl w ld) % p).map V.int)):=zc
       have hDc:D2≠ca:=fun e=>by rw [e,h7c] at hD2; cases hD2
       generalize upd H7 D2 (.lst ((w.map fun x=>x*inv p (gl w ld) % p).map V.int))=H8 at t8 h8D ⊢
       refine⟨by show 2≤sizeLine; lia,fun tb htb=>?_⟩
       have t9:=zb (o:=.tup [.int (ld:Int),.ref D2]) htb
       have h9t:upd H8 tb (.tup [.int (ld:Int),.ref D2]) tb=some (.tup [.int (ld:Int),.ref D2]):=zc
       have h9c:=t9 _ _ (t8 _ _ h7c)
       have s9:=(s7.trans t8).trans t9
       have hcl9:=(hcl7.same t8).same t9
       have h9D:=t9 _ _ h8D
       generalize upd H8 tb (.tup [.int (ld:Int),.ref D2])=H9 at t9 h9t h9c s9 hcl9 h9D ⊢
       have hln:=E.ln
       refine⟨ca,_,_,rfl,rfl,h9c,by rw [ab,hcll,hln]; lia,cs++[tb],_,_,_,_,_,_,_,_,rfl,zac s9 hca,by rw [zc,ar]; rfl,bI (hcl9.put h9c) ⟨D2,?_,?_,hDc⟩,zhm hp E hi W hld hg0⟩
       ·rw [zq (fun e=>by rw [e,h9c] at h9t; cases h9t)]
        exact h9t
       ·rw [zq hDc]
        exact h9D
  ·rintro σ H1 ⟨cs,cl,e4,e5,e6,e7,e8,e9,e10,rfl,s1,h1c,hcl,E⟩
   exact qn H1 s1 (zlc E)
theorem zdA:FnScope ["p","left","points"] ["p","left","points"] (zh zaC):=⟨rfl,rfl,rfl,by decide +kernel,rfl,by decide +kernel,by decide +kernel⟩
theorem zdB {fd:FuncData} (T:Txt K mg t) (F:Fun K "times_entries" "times_entries" zaC t.times_entries fd):FnOk P w K mg base CX0 4 t.times_entries fd ["p","left","points"] (zdv K):=by
 obtain⟨fd_through,F_through,b_through⟩:=T.f_through
 have G_through:=zcZ (P:=P) (w:=w) (base:=base) T F_through
 obtain⟨fd_value_at,F_value_at,b_value_at⟩:=T.f_value_at
 have G_value_at:=zbR (P:=P) (w:=w) (base:=base) T F_value_at
 refine F.ok zdA (fun vs H Q E h=>?_) (fun cdv A outer s H vs Q E hr h=>?_)
 ·obtain⟨p,la,a,l,bs,pts,rfl,_⟩:=h
  rfl
 ·obtain⟨p,la,a,l,bs,pts,rfl,hla,ha,hB,hn,hp,hP,q⟩:=h
  refine⟨_,#[zn,#[zE,#[zr,G_through,(hr.mono (by decide)),T.m_through,F_through.kp,b_through,#[zG],#[za,#[pvx,0],#[za,#[z0,(CompSc.of (N':=["x","y","p","left"]) (ix:=[none,none,some 0,some 1]) (zh zaC) ["p","left","points"] rfl rfl (by decide +kernel)),#[zaX,#[zw,#[zw,#[zav]]]],#[zS,#[pvx,2]],(fun _ _ _ _=>#[zaq,(K),2,#[zi,#[zg,0,(show (["x","y","p","left"]:List Str).Nodup by decide +kernel),(aq rfl)],#[zi,#[zg,1,(show (["x","y","p","left"]:List Str).Nodup by decide +kernel),(aq rfl)],#[zJ]]]]),(fun _ _ _ _=>#[zB]),(fun _ _ _ _=>#[zaG,#[za,#[pvx,0],#[za,#[zj,#[zZ],#[zr,G_value_at,(hr.mono (by decide)),T.m_value_at,F_value_at.kp,b_value_at,#[zG],#[za,#[pvx,2],#[za,#[pvx,3],#[za,#[pvx,0],#[ze]]]]],#[pvx,1]],#[ze]]]])],#[ze]]]]]],?_⟩
  have hsl:=aV
  have rp:=zp hp
  have p0:0 < p:=by lia
  have hbl:=hB.length
  refine⟨_,rfl,_,rfl,a,rfl,⟨_,ha⟩,zT (n:=bs.length) (fun i ys H'=>zt H H'∧∃ us:List Addr,ys=us.map V.ref∧PtB H' us ((pts.take i).map fun a=>(a.1,zl p a.1 l*a.2))) ⟨fun _ _ e=>e,[],rfl,.nil⟩ ?_ ?_ ?_ ?_⟩
  ·rintro i ys H1 hi ⟨s1,_⟩
   exact⟨_,.ref bs[i],s1.seq ha,by rw [ah,am hi]; rfl⟩
  ·rintro ys H1 ⟨s1,_⟩
   exact⟨_,s1.seq ha,by rw [ab]; exact af _⟩
  ·rintro i y ys H1 H2 hi ⟨s1,us,rfl,hus⟩ ⟨rfl,hy⟩
   obtain⟨b,rfl,hb⟩:=zY (hy _ (s1.seq ha))
   obtain⟨pt,hpt,hat⟩:=Paired.get hB hb
   obtain⟨x0,x1,y0,y1⟩:=hP.rg pt (aB hpt)
   have hul:=hus.length
   rw [ab,aA] at hul
   have v0:=zar (x:=pt.1) p0 l
   have v1:=zas (x:=pt.1) p0 l
   refine gY2 (SqT.of (s1 _ _ hat)) ⟨_,rfl,_,rfl,_,rfl,_,rfl,p,pt.1,la,l,rfl,.inr (zol s1 hla),p0,by lia,x0,x1,_,rfl,_,_,rfl,rfl,.inl ⟨by lia,by lia⟩,by show 2≤sizeLine; lia,fun z hz=>?_⟩
   refine⟨by rw [ab]; lia,s1.trans (zb hz),us++[z],by rw [ar]; rfl,?_⟩
   rw [take_snoc hpt,ar]
   exact bI (hus.same (zb hz)) zc
  ·rintro ys H1 D ⟨s1,us,rfl,hus⟩ hD
   rw [hbl,bo] at hus
   have t2:=zb (o:=.lst (us.map V.ref)) hD
   have h2D:upd H1 D (.lst (us.map V.ref)) D=some (.lst (us.map V.ref)):=zc
   have hus2:=hus.same t2
   generalize upd H1 D (.lst (us.map V.ref))=H2 at t2 h2D hus2 ⊢
   refine⟨p,D,_,rfl,hus2.pts h2D,by rw [ab]; lia,hp,by rw [zlm]; exact zcF p0 hP,fun q hq=>?_,fun z H3 hz s3 h3=>q z H3 ((s1.trans t2).free hz) ((s1.trans t2).trans s3) (by rw [zlm] at h3; exact h3)⟩
   obtain⟨b,hb,rfl⟩:=aE.mp hq
   obtain⟨_,_,y0,y1⟩:=hP.rg b hb
   have v0:=zar (x:=b.1) p0 l
   have v1:=zas (x:=b.1) p0 l
   dsimp only
   have h1:zl p b.1 l*b.2≤97*97:=Int.mul_le_mul (by lia) (by lia) y0 (by lia)
   have h2:=kA v0 y0
   lia
theorem zj7:FnScope ["rights","many"] ["rights","many"] (zh s_beyond):=⟨rfl,rfl,rfl,by decide +kernel,rfl,by decide +kernel,by decide +kernel⟩
theorem zj8 {fd:FuncData} (T:Txt K mg t) (F:Fun K "beyond" "beyond" s_beyond t.beyond fd):FnOk P w K mg base CX0 1 t.beyond fd ["rights","many"] (zjU K):=by
 refine F.ok zj7 (fun vs H Q E h=>?_) (fun cdv A outer s H vs Q E hr h=>?_)
 ·obtain⟨a,m,bs,rs,rfl,_⟩:=h
  rfl
 ·obtain⟨a,m,bs,rs,rfl,ha,hT,hlen,q⟩:=h
  refine⟨_,#[zn,#[zE,#[ziQ,(CompSc.of (N':=["right","number","many"]) (ix:=[none,none,some 1]) (zh s_beyond) ["rights","many"] rfl rfl (by decide +kernel)),(zcy (js:=[0]) (i:=0) (by decide)),(zcy (js:=[1]) (i:=1) (by decide)),#[zS,#[pvx,0]],(fun _ _ _ _=>#[zg,0,(show (["right","number","many"]:List Str).Nodup by decide +kernel),(aq rfl)]),(fun _ _ _ _=>#[zB]),(fun _ _ _ _=>(@zmJ _ (K) _ _ _ rfl #[zax,(zll (K:=K) rfl),#[pvx,0],#[zaH,#[pvx,2]],#[za1]])),(fun _ _ _ _=>#[zg,1,(show (["right","number","many"]:List Str).Nodup by decide +kernel),(aq rfl)]),(fun _ _ _ _=>#[zB]),(fun _ _ _ _=>#[pvx,1]),(by intros; rfl)]]],?_⟩
  have hsl:=aV
  have hbl:=hT.length
  refine⟨_,rfl,a,rfl,⟨_,ha⟩,zfC (n:=bs.length) (fun i ys H'=>ys=(bey m (rs.take i)).map V.int∧zt H H') ⟨rfl,fun _ _ e=>e⟩ ?_ ?_ ?_ ?_⟩
  ·rintro i ys H1 hi ⟨_,s1⟩
   exact⟨_,.ref bs[i],s1.seq ha,by rw [ah,am hi]; rfl⟩
  ·rintro ys H1 ⟨_,s1⟩
   exact⟨_,s1.seq ha,by rw [ab]; exact af _⟩
  ·rintro i y ys H1 H2 hi ⟨rfl,s1⟩ ⟨rfl,hy⟩
   obtain⟨b,rfl,hb⟩:=zY (hy _ (s1.seq ha))
   obtain⟨r,hr',hat⟩:=Paired.get hT hb
   have hlen1:=hlen (i+1)
   rw [zhq m hr',ao] at hlen1
   refine gY ⟨_,rfl,_,rfl,_,rfl,b,_,rfl,SqT.of (s1 _ _ hat),fun z H3 t2 h2z=>?_⟩
   have ec:zaW (r.map V.int) (some (m:Int)) none=(r.drop m).map V.int:=by
    unfold zaW
    rw [HT.sIx_nat,HT.sIx_none,ab,fW,aK (by rw [bK,ab]; exact af _)]
    by_cases h:m≤r.length
    ·rw [cp h]
    ·rw [show min m r.length=r.length by lia,eD (by rw [ab]; exact af _),eD (by rw [ab]; lia)]
   rw [ec] at h2z
   refine⟨z,rfl,⟨_,h2z⟩,zfC (n:=(r.drop m).length) (fun j ys H'=>ys=(bey m (rs.take i)++(r.drop m).take j).map V.int∧H'=H3) ⟨by rw [dC,bO],rfl⟩ ?_ ?_ ?_ ?_⟩
   ·rintro j ys H4 hj ⟨_,rfl⟩
    exact⟨_,.int (r.drop m)[j],h2z,by rw [ah,am hj]; rfl⟩
   ·rintro ys H4 ⟨_,rfl⟩
    exact⟨_,h2z,by rw [ab]; exact af _⟩
   ·rintro j y ys H4 H5 hj ⟨rfl,rfl⟩ ⟨rfl,hy⟩
    obtain⟨n,rfl,hn⟩:=zal (hy _ (h2z))
    refine gY ⟨_,rfl,?_,?_,rfl⟩
    ·rw [ab,ao,aA]
     lia
    ·rw [take_snoc hn,← a8,ar (l₂:=[n])]
     rfl
   ·rintro ys H4 ⟨rfl,rfl⟩
    exact⟨by rw [bo,zhq m hr'],s1.trans t2⟩
  ·rintro ys H1 ⟨rfl,s1⟩ D hD
   rw [hbl,bo] at *
   exact q D _ (s1.free hD) (s1.trans (zb hD)) zc
theorem zlN:FnScope ["polynomial","many"] ["polynomial","many"] (zh zea):=⟨rfl,rfl,rfl,by decide +kernel,rfl,by decide +kernel,by decide +kernel⟩
theorem zlO {fd:FuncData} (T:Txt K mg t) (F:Fun K "sized" "sized" zea t.sized fd):FnOk P w K mg base CX0 1 t.sized fd ["polynomial","many"] (zln K):=by
 refine F.ok zlN (fun vs H Q E h=>?_) (fun cdv A outer s H vs Q E hr h=>?_)
 ·obtain⟨a,m,q,rfl,_⟩:=h
  rfl
 ·obtain⟨a,m,cs,rfl,ha,m1,hlen,q⟩:=h
  refine⟨_,#[zn,#[zE,#[zax,zmL,#[zj,(@zmM _),#[pvx,0],#[zj,(@zmN _),#[zaG,#[za,#[zf],#[ze]]],#[pvx,1]]],#[za1],#[zaH,#[pvx,1]]]]],?_⟩
  have hsl:=aV
  refine⟨_,rfl,by show 1≤sizeLine; lia,fun t1 ht1=>⟨_,rfl,t1,_,[.int 0],rfl,rfl,zc,by simp,by lia,by lia,by show 1*_≤sizeLine; lia,fun z H1 s1 h1z=>?_⟩⟩
  rw [bm,zc6] at h1z
  have s01:=(zb (o:=.tup [.int 0]) ht1).trans s1
  refine⟨a,z,_,_,rfl,rfl,s01 _ _ ha,h1z,by rw [ab,ab,aQ]; lia,fun e=>?_,fun y H2 s2 h2y=>?_⟩
  ·have:=congrArg eC e
   rw [ab,aQ] at this
   exact absurd this (by show ¬ m=0; lia)
  rw [← ar] at h2y
  refine⟨_,rfl,_,rfl,y,_,rfl,h2y,fun x H3 s3 h3x=>?_⟩
  have ec:zaW ((cs++ap m 0).map V.int) none (some (m:Int))=(szd cs m).map V.int:=by
   unfold zaW szd
   rw [HT.sIx_nat,HT.sIx_none,da,ed,ab,ao,aQ,cp (by lia),cX]
  rw [ec] at h3x
  exact q x H3 ((s01.trans s2).trans s3) h3x
theorem zD:FnScope ["code","rows","p","k","places","parts","e","needed","relation","power","left"] ["code","rows"] (zh z8):=⟨rfl,rfl,rfl,by decide +kernel,rfl,by decide +kernel,by decide +kernel⟩
theorem zdC {fd:FuncData} (T:Txt K mg t) (F:Fun K "joint_locator" "joint_locator" z8 t.joint_locator fd):FnOk P w K mg base CX0 5 t.joint_locator fd ["code","rows"] (zdw K):=by
 obtain⟨fd_heard_points,F_heard_points,b_heard_points⟩:=T.f_heard_points
 have G_heard_points:=za3 (P:=P) (w:=w) (base:=base) T F_heard_points
 obtain⟨fd_times_entries,F_times_entries,b_times_entries⟩:=T.f_times_entries
 have G_times_entries:=zdB (P:=P) (w:=w) (base:=base) T F_times_entries
 obtain⟨fd_first_relation,F_first_relation,b_first_relation⟩:=T.f_first_relation
 have G_first_relation:=zbS (P:=P) (w:=w) (base:=base) T F_first_relation
 obtain⟨fd_beyond,F_beyond,b_beyond⟩:=T.f_beyond
 have G_beyond:=zj8 (P:=P) (w:=w) (base:=base) T F_beyond
 obtain⟨fd_sized,F_sized,b_sized⟩:=T.f_sized
 have G_sized:=zlO (P:=P) (w:=w) (base:=base) T F_sized
 refine F.ok zD (fun vs H Q E h=>?_) (fun cdv A outer s H vs Q E hr h=>?_)
 ·obtain⟨c,tt,ra,p,k,pl,rbs,rws,rfl,_⟩:=h
  rfl
 ·obtain⟨c,tt,ra,p,k,pl,rbs,rws,rfl,hc,hra,hrw,hrn,hn,hp,hnd,hpl,hok,k0,k1,q⟩:=h
  refine⟨_,#[zd,#[za8,#[pvx,0],#[zaU,#[zi,#[zg,2,zD.nd,(bX rfl)],#[zi,#[zg,3,zD.nd,(bX rfl)],#[zi,#[zg,4,zD.nd,(aq rfl)],#[zJ]]]]]],by exact #[zd,#[zaA,5,zD.nd,(aq rfl),(CompSc.of (N':=["row","code"]) (ix:=[none,some 0]) (zh z8) ["code","rows","p","k","places","parts","e","needed","relation","power","left"] rfl rfl (by decide +kernel)),#[zap],#[zS,#[pvx,1]],(fun _ _ _ _=>#[zg,0,(show (["row","code"]:List Str).Nodup by decide +kernel),(aq rfl)]),(fun _ _ _ _=>#[zB]),(fun _ _ _ _=>#[zr,G_heard_points,(hr.mono (by decide)),T.m_heard_points,F_heard_points.kp,b_heard_points,#[zG],#[za,#[pvx,1],#[za,#[pvx,0],#[ze]]]])],by exact #[zd,#[zo,6,zD.nd,(bX rfl),#[zkf,zhH,#[zf]]],by exact #[zd,#[zo,7,zD.nd,(aq rfl),#[zX,#[ze]]],by exact #[zd,#[zo,8,zD.nd,(aq rfl),#[zbJ]],by exact #[zd,#[zed,bA,#[zC,(@znL _),#[pvx,8],#[zbJ],(zQ _)],#[zd,#[zfP,6,zD.nd,(bX rfl),#[zf],zii],by exact #[zd,(zh5 #[zo,9,zD.nd,(bX rfl),#[zj,(@zfF _ (K) rfl),#[zj,(@zmI _),#[zaG,#[za,#[zf],#[ze]]],#[pvx,6]],#[zaG,#[za,#[zf],#[ze]]]]]),by exact #[zd,#[zcw,#[zfo,cL,du,dv,#[zb2],#[pvx,7],#[za,#[z0,(CompSc.of (N':=["points","p","power"]) (ix:=[none,some 2,some 9]) (zh z8) ["code","rows","p","k","places","parts","e","needed","relation","power","left"] rfl rfl (by decide +kernel)),#[zap],#[zS,#[pvx,5]],(fun _ _ _ _=>#[zg,0,(show (["points","p","power"]:List Str).Nodup by decide +kernel),(aq rfl)]),(fun _ _ _ _=>#[zB]),(fun _ _ _ _=>#[zr,G_times_entries,(hr.mono (by decide)),T.m_times_entries,F_times_entries.kp,b_times_entries,#[zG],#[za,#[pvx,1],#[za,#[pvx,2],#[za,#[pvx,0],#[ze]]]]])],#[ze]]]],by exact #[zn,#[zo,8,zD.nd,(aq rfl),#[zr,G_first_relation,(hr.mono (by decide)),T.m_first_relation,F_first_relation.kp,b_first_relation,#[zG],#[za,#[pvx,2],#[za,#[z0,(CompSc.of (N':=["rights","k","e"]) (ix:=[none,some 3,some 6]) (zh z8) ["code","rows","p","k","places","parts","e","needed","relation","power","left"] rfl rfl (by decide +kernel)),#[zap],#[zS,#[pvx,7]],(fun _ _ _ _=>#[zg,0,(show (["rights","k","e"]:List Str).Nodup by decide +kernel),(aq rfl)]),(fun _ _ _ _=>#[zB]),(fun _ _ _ _=>#[zr,G_beyond,(hr.mono (by decide)),T.m_beyond,F_beyond.kp,b_beyond,#[zG],#[za,#[pvx,0],#[za,#[zj,#[zO],#[pvx,1],#[pvx,2]],#[ze]]]])],#[ze]]]]]]]]]],by exact #[zd,#[zo,10,zD.nd,(bX rfl),#[zr,G_sized,(hr.mono (by decide)),T.m_sized,F_sized.kp,b_sized,#[zG],#[za,#[zaD,#[zaE],T.tuple_,gi,#[za,#[pvx,8],#[ze]]],#[za,#[zj,#[zO],#[pvx,6],#[zf]],#[ze]]]]],by exact #[zn,#[zE,#[zaG,#[za,#[pvx,6],#[za,#[pvx,10],#[za,#[z0,(CompSc.of (N':=["points","p","left","k","e"]) (ix:=[none,some 2,some 10,some 3,some 6]) (zh z8) ["code","rows","p","k","places","parts","e","needed","relation","power","left"] rfl rfl (by decide +kernel)),#[zap],#[zS,#[pvx,5]],(fun _ _ _ _=>#[zg,0,(show (["points","p","left","k","e"]:List Str).Nodup by decide +kernel),(aq rfl)]),(fun _ _ _ _=>#[zB]),(fun _ _ _ _=>#[zr,G_sized,(hr.mono (by decide)),T.m_sized,F_sized.kp,b_sized,#[zG],#[za,#[zr,G_times_entries,(hr.mono (by decide)),T.m_times_entries,F_times_entries.kp,b_times_entries,#[zG],#[za,#[pvx,1],#[za,#[pvx,2],#[za,#[pvx,0],#[ze]]]]],#[za,#[zj,#[zO],#[pvx,3],#[pvx,4]],#[ze]]]])],#[ze]]]]]]]]]]]]]],?_⟩
  have hsl:=aV
  have rp:=zp hp
  have p0:0 < p:=by lia
  have hrl:=hrw.length
  obtain⟨ptss,hptss⟩:∃ ptss,ptss=rws.map (hps pl):=⟨_,rfl⟩
  have hP:∀ pts∈ptss,Pts p pts:=fun pts h=>by
   rw [hptss] at h
   obtain⟨rw,h1,rfl⟩:=aE.mp h
   exact zd7 hnd hpl (hok rw h1)
  have hPl:∀ pts∈ptss,pts.length≤16:=fun pts h=>by
   rw [hptss] at h
   obtain⟨rw,h1,rfl⟩:=aE.mp h
   exact aZ (zbO pl rw) hn
  have hpt:ptss.length=rws.length:=by rw [hptss,ab]
  refine⟨_,rfl,c,_,rfl,SqT.of hc.1,rfl,_,_,rfl,_,_,rfl,_,_,rfl,rfl,?_⟩
  refine⟨_,rfl,ra,rfl,⟨_,hra⟩,zT (n:=rbs.length) (fun i ys H'=>zt H H'∧∃ us:List Addr,ys=us.map V.ref∧zgl H' us (ptss.take i)) ⟨fun _ _ e=>e,[],rfl,.nil⟩ ?_ ?_ ?_ ?_⟩
  ·rintro i ys H1 hi ⟨s1,_⟩
   exact⟨_,.ref rbs[i],s1.seq hra,by rw [ah,am hi]; rfl⟩
  ·rintro ys H1 ⟨s1,_⟩
   exact⟨_,s1.seq hra,by rw [ab]; exact af _⟩
  ·rintro i y ys H1 H2 hi ⟨s1,us,rfl,hus⟩ ⟨rfl,hy⟩
   obtain⟨b,rfl,hb⟩:=zY (hy _ (s1.seq hra))
   obtain⟨rw,hrwi,hat,hrwl⟩:=Paired.get hrw hb
   have hul:=hus.length
   rw [aA] at hul
   refine gY ⟨_,rfl,_,rfl,c,tt,b,p,k,pl,rw,rfl,hc.same s1,⟨SqL.of (s1 _ _ hat),hrwl⟩,by lia,fun l bs H3 hl3 s3 h3l hB=>?_⟩
   refine⟨by rw [ab]; lia,s1.trans s3,us++[l],by rw [ar]; rfl,?_⟩
   have hpi:ptss[i]? = some (hps pl rw):=by rw [hptss,ah,hrwi]; rfl
   rw [take_snoc hpi]
   exact bI (hus.same s3) ⟨bs,h3l,hB⟩
  ·rintro ys H1 pa ⟨s1,us,rfl,hus⟩ hpa
   rw [hrl,← hpt,bo] at hus
   have t2:=zb (o:=.lst (us.map V.ref)) hpa
   have h2p:upd H1 pa (.lst (us.map V.ref)) pa=some (.lst (us.map V.ref)):=zc
   have hus2:=hus.same t2
   have s2:=s1.trans t2
   generalize upd H1 pa (.lst (us.map V.ref))=H2 at t2 h2p hus2 s2 ⊢
   have hul:=hus2.length
   refine⟨_,rfl,aY _,fun na hna=>?_⟩
   have t3:=zb (o:=.lst []) hna
   refine⟨fun m σ H'=>∃ (n:Nat) (ns:List Addr) (ev:Int) (rel:V) (e9 e10:Option V),σ = [some (.ref c),some (.ref ra),some (.int p),some (.int (k:Int)),some (.ref tt),some (.ref pa),some (.int ev),some (.ref na),some rel,e9,e10]∧zt H2 H'∧H' na=some (.lst (ns.map V.ref))∧NdA p ptss na H' ns (aL n) ∧
    ((rel = .non∧ev=(n:Int) - 1∧m=20 - n∧n≤16∧∀ e',e' < n→Indep p (zcs k e' ptss) (zbc p k e' ptss))∨(∃ (rl:Addr) (cc:List Int) (mm e:Nat),rel = .ref rl∧ev=(e:Int)∧e≤16∧H' rl=some (.lst (cc.map V.int))∧IsP p (mm+1) cc∧mm < e+1∧gl cc mm=1∧Dep p (zcs k e ptss) (zbc p k e ptss) cc∧∀ e',e' < e→Indep p (zcs k e' ptss) (zbc p k e' ptss))),
    ⟨20,0,[],_,_,_,_,rfl,t3,zc,.nil,.inl ⟨rfl,rfl,rfl,by lia,fun _ h=>by lia⟩⟩,?_⟩
   rintro m σ H3 ⟨n,ns,ev,rel,e9,e10,rfl,s3,h3n,hnd3,hst⟩
   have hnl:=hnd3.length
   rw [aT] at hnl
   rcases hst with ⟨rfl,rfl,rfl,hn16,hind⟩ | ⟨rl,cc,mm,e,rfl,rfl,he16,h3r,hcc,hmm,hc1,hdep,hind⟩
   ·refine⟨_,rfl,rfl,_,rfl,?_⟩
    refine zaI (fun _=>?_) (fun h=>absurd rfl h)
    refine⟨fun σ' H'=>∃ m',m' < 20 - n∧∃ (n:Nat) (ns:List Addr) (ev:Int) (rel:V) (e9 e10:Option V),σ' = [some (.ref c),some (.ref ra),some (.int p),some (.int (k:Int)),some (.ref tt),some (.ref pa),some (.int ev),some (.ref na),some rel,e9,e10]∧zt H2 H'∧H' na=some (.lst (ns.map V.ref))∧NdA p ptss na H' ns (aL n) ∧
     ((rel = .non∧ev=(n:Int) - 1∧m'=20 - n∧n≤16∧∀ e',e' < n→Indep p (zcs k e' ptss) (zbc p k e' ptss))∨(∃ (rl:Addr) (cc:List Int) (mm e:Nat),rel = .ref rl∧ev=(e:Int)∧e≤16∧H' rl=some (.lst (cc.map V.int))∧IsP p (mm+1) cc∧mm < e+1∧gl cc mm=1∧Dep p (zcs k e ptss) (zbc p k e ptss) cc∧∀ e',e' < e→Indep p (zcs k e' ptss) (zbc p k e' ptss))),fun _ _ z=>z,?_⟩
    refine⟨_,rfl,_,_,rfl,rfl,?_⟩
    have e1:(n:Int) - 1+1=(n:Int):=by lia
    refine⟨fun σ' H'=>∃ pw:Addr,σ' = [some (.ref c),some (.ref ra),some (.int p),some (.int (k:Int)),some (.ref tt),some (.ref pa),some (.int (n:Int)),some (.ref na),some .non,some (.ref pw),e10]∧zt H3 H'∧SqT K H' pw ((unit n).map V.int),?_,?_⟩
    ·refine⟨by show 1≤sizeLine; lia,fun t1 ht1=>⟨_,rfl,t1,_,[.int 0],rfl,rfl,SqT.of zc,by simp,by lia,by lia,by show 1*_≤sizeLine; lia,fun z H4 s4 h4z=>?_⟩⟩
     rw [e1,bm,zc6] at h4z
     have s34:=(zb (o:=.tup [.int 0]) ht1).trans s4
     refine⟨by show 1≤sizeLine; lia,fun t2 ht2=>⟨z,t2,_,_,rfl,rfl,zol (zb ht2) h4z,SqT.of zc,by simp,by rw [ab,aQ]; show n+1≤sizeLine; lia,fun e0=>?_,fun _ pw hpw=>?_⟩⟩
     ·have hn0:n=0:=by
       have:=congrArg eC e0
       rw [ab,aQ] at this
       exact this
      subst hn0
      exact⟨t2,congrArg (fun v:Int=>[some (V.ref c),some (.ref ra),some (.int p),some (.int (k:Int)),some (.ref tt),some (.ref pa),some (.int v),some (.ref na),some .non,some (.ref t2),e10]) e1,s34.trans (zb ht2),SqT.of zc⟩
     ·refine⟨pw,congrArg (fun v:Int=>[some (V.ref c),some (.ref ra),some (.int p),some (.int (k:Int)),some (.ref tt),some (.ref pa),some (.int v),some (.ref na),some .non,some (.ref pw),e10]) e1,(s34.trans (zb ht2)).trans (zb hpw),?_⟩
      have:(unit n).map V.int=(ap n (0:Int)).map V.int++[.int 1]:=by unfold unit; rw [ar]; rfl
      rw [this]
      exact SqT.of zc
    ·rintro σ' H4 ⟨pw,rfl,s4,h4p⟩
     have s24:=s3.trans s4
     have h4a:=s24 _ _ h2p
     have hus4:=hus2.same s24
     have h4n:=s4 _ _ h3n
     have hnd4:=hnd3.same s4
     refine⟨_,rfl,.inl ⟨rfl,_,SqL.of h4n⟩,_,rfl,pa,rfl,⟨_,SqL.of h4a⟩,zT (n:=us.length) (fun i ys H'=>zt H4 H'∧∃ ws:List Addr,ys=ws.map V.ref∧zbE H' ws ((ptss.take i).map fun pts=>Tp p pts n)) ⟨fun _ _ e=>e,[],rfl,.nil⟩ ?_ ?_ ?_ ?_⟩
     ·rintro i ys H5 hi ⟨s5,_⟩
      exact⟨_,.ref us[i],SqL.of (s5 _ _ h4a),by rw [ah,am hi]; rfl⟩
     ·rintro ys H5 ⟨s5,_⟩
      exact⟨_,SqL.of (s5 _ _ h4a),by rw [ab]; exact af _⟩
     ·rintro i y ys H5 H6 hi ⟨s5,ws,rfl,hws⟩ ⟨rfl,hy⟩
      obtain⟨b,rfl,hb⟩:=zY (hy _ (SqL.of (s5 _ _ h4a)))
      obtain⟨pts,hpts,bs,hat,hB⟩:=Paired.get hus4 hb
      have hwl:=hws.length
      rw [ab,aA] at hwl
      have hm:=aB hpts
      refine gY ⟨_,rfl,_,rfl,_,rfl,p,pw,b,unit n,bs,pts,rfl,zol s5 h4p,SqL.of (s5 _ _ hat),hB.same s5,aZ (hPl pts hm) (by decide),hp,hP pts hm,fun z H7 hz s7 h7z=>?_⟩
      refine⟨by rw [ab]; lia,s5.trans s7,ws++[z],by rw [ar]; rfl,?_⟩
      rw [take_snoc hpts,ar]
      exact bI (hws.same s7) h7z
     ·rintro ys H5 D2 ⟨s5,ws,rfl,hws⟩ hD2
      rw [hul,bo] at hws
      have t6:=zb (o:=.lst (ws.map V.ref)) hD2
      have h6D:upd H5 D2 (.lst (ws.map V.ref)) D2=some (.lst (ws.map V.ref)):=zc
      have hDn:D2≠na:=fun e=>by
       have:=s5 _ _ h4n
       rw [← e,hD2] at this
       cases this
      have s46:=s5.trans t6
      have hws6:=hws.same t6
      generalize upd H5 D2 (.lst (ws.map V.ref))=H6 at t6 h6D s46 hws6 ⊢
      have h6n:=s46 _ _ h4n
      have hnd6:=hnd4.same s46
      refine⟨na,_,_,rfl,rfl,h6n,by rw [ab]; lia,?_⟩
      have s27:zt H2 (upd H6 na (.lst (ns.map V.ref++[.ref D2]))):=zac (s24.trans s46) hna
      have h7n:upd H6 na (.lst (ns.map V.ref++[.ref D2])) na=some (.lst ((ns++[D2]).map V.ref)):=by rw [zc,ar]; rfl
      have hnd7:NdA p ptss na (upd H6 na (.lst (ns.map V.ref++[.ref D2]))) (ns++[D2]) (aL (n+1)):=by
       rw [cC]
       exact bI (hnd6.put h6n) ⟨ws,by rw [zq hDn]; exact h6D,hDn,hws6.put h6n⟩
      generalize upd H6 na (.lst (ns.map V.ref++[.ref D2]))=H7 at s27 h7n hnd7 ⊢
      have hn7:=hnd7.length
      rw [aT] at hn7
      refine⟨_,rfl,_,rfl,na,rfl,⟨_,SqL.of h7n⟩,zT (n:=(ns++[D2]).length) (fun i ys H'=>zt H7 H'∧∃ vs:List Addr,ys=vs.map V.ref∧LsA H' vs ((zbc p k n ptss).take i)) ⟨fun _ _ e=>e,[],rfl,.nil⟩ ?_ ?_ ?_ ?_⟩
      ·rintro i ys H8 hi ⟨s8,_⟩
       exact⟨_,.ref (ns++[D2])[i],SqL.of (s8 _ _ h7n),by rw [ah,am hi]; rfl⟩
      ·rintro ys H8 ⟨s8,_⟩
       exact⟨_,SqL.of (s8 _ _ h7n),by rw [ab]; exact af _⟩
      ·rintro i y ys H8 H9 hi ⟨s8,vs,rfl,hvs⟩ ⟨rfl,hy⟩
       obtain⟨b,rfl,hb⟩:=zY (hy _ (SqL.of (s8 _ _ h7n)))
       obtain⟨i',hi',us',hat,_,hT⟩:=Paired.get hnd7 hb
       have hin:i < n+1:=by lia
       rw [bZ hin] at hi'
       cases hi'
       have hvl:=hvs.length
       rw [aA] at hvl
       refine gY ⟨_,rfl,_,rfl,_,rfl,_,_,rfl,rfl,b,k+n,us',_,(by show [V.ref b,V.int ((k:Int)+(n:Int))]=_; rw [ft]),SqL.of (s8 _ _ hat),hT.same s8,fun j=>?_,fun z Ha hz sa haz=>?_⟩
       ·rw [← cX,zd9 hp fun q hq=>hP q (dt hq)]
        refine aZ (zh8 (b:=16) fun q hq=>?_) ?_
        ·have:=hPl q (dt hq)
         lia
        ·rw [aA]
         lia
       ·refine⟨by rw [ab]; lia,s8.trans sa,vs++[z],by rw [ar]; rfl,?_⟩
        have hvi:(zbc p k n ptss)[i]? = some (bey (k+n) (ptss.map fun pts=>Tp p pts i)):=by
         unfold zbc
         rw [ah,bZ hin]
         rfl
        rw [take_snoc hvi]
        exact bI (hvs.same sa) haz
      ·rintro ys H8 D3 ⟨s8,vs,rfl,hvs⟩ hD3
       have hvn:(zbc p k n ptss).length=n+1:=by unfold zbc; rw [ab,aT]
       rw [hn7,← hvn,bo] at hvs
       have t9:=zb (o:=.lst (vs.map V.ref)) hD3
       have h9D:upd H8 D3 (.lst (vs.map V.ref)) D3=some (.lst (vs.map V.ref)):=zc
       have hvs9:=hvs.same t9
       have s79:=s8.trans t9
       generalize upd H8 D3 (.lst (vs.map V.ref))=H9 at t9 h9D hvs9 s79 ⊢
       refine⟨p,D3,vs,zbc p k n ptss,zcs k n ptss,rfl,h9D,hvs9,(fun e=>by (rw [e] at hvn; cases hvn)),by lia,?_,zmR hp hP,hp,fun Ha sa hI=>?_,fun l cc mm Ha hl sa hal hcc hmm hc1 hD _=>?_⟩
       ·refine aZ (zh8 (b:=16) fun q hq=>?_) (by lia)
        have:=hPl q hq
        lia
       ·have hlt:=zlu hp hPl hI
        refine⟨20 - (n+1),by lia,n+1,ns++[D2],_,_,_,_,rfl,s27.trans (s79.trans sa),(s79.trans sa) _ _ h7n,hnd7.same (s79.trans sa),.inl ⟨rfl,by lia,rfl,by lia,fun e' he'=>?_⟩⟩
        by_cases e:e'=n
        ·subst e; exact hI
        ·exact hind e' (by lia)
       ·exact⟨0,by lia,n+1,ns++[D2],_,_,_,_,rfl,s27.trans (s79.trans sa),(s79.trans sa) _ _ h7n,hnd7.same (s79.trans sa),.inr ⟨l,cc,mm,n,rfl,rfl,hn16,hal,hcc,by lia,hc1,hD,hind⟩⟩
   ·refine⟨_,rfl,rfl,_,rfl,?_⟩
    refine zaI (fun h=>absurd h (by simp)) (fun _=>?_)
    have h3a:=s3 _ _ h2p
    have hus3:=hus2.same s3
    have hcl:cc.length=mm+1:=hcc.1
    refine⟨_,rfl,rl,_,rfl,.inl ⟨SqL.of h3r,fun tl htl=>?_⟩⟩
    have t4:=zb (o:=.tup (cc.map V.int)) htl
    have h4t:upd H3 tl (.tup (cc.map V.int)) tl=some (.tup (cc.map V.int)):=zc
    generalize upd H3 tl (.tup (cc.map V.int))=H4 at t4 h4t ⊢
    refine⟨_,rfl,_,_,rfl,rfl,tl,e+1,cc,rfl,h4t,by lia,by lia,fun lf H5 s5 h5f=>?_⟩
    have L:=zom hp (k:=k) hP hcc hmm hc1 hdep hind
    generalize szd cc (e+1)=left at h5f L ⊢
    have s35:=t4.trans s5
    have h5a:=s35 _ _ h3a
    have hus5:=hus3.same s35
    refine⟨_,rfl,_,rfl,_,rfl,pa,rfl,⟨_,SqL.of h5a⟩,zT (n:=us.length) (fun i ys H'=>zt H5 H'∧∃ ws:List Addr,ys=ws.map V.ref∧zbE H' ws ((ptss.take i).map fun pts=>szd (thr p (tmP p left pts)) (k+e))) ⟨fun _ _ e=>e,[],rfl,.nil⟩ ?_ ?_ ?_ ?_⟩
    ·rintro i ys H6 hi ⟨s6,_⟩
     exact⟨_,.ref us[i],SqL.of (s6 _ _ h5a),by rw [ah,am hi]; rfl⟩
    ·rintro ys H6 ⟨s6,_⟩
     exact⟨_,SqL.of (s6 _ _ h5a),by rw [ab]; exact af _⟩
    ·rintro i y ys H6 H7 hi ⟨s6,ws,rfl,hws⟩ ⟨rfl,hy⟩
     obtain⟨b,rfl,hb⟩:=zY (hy _ (SqL.of (s6 _ _ h5a)))
     obtain⟨pts,hpts,bs,hat,hB⟩:=Paired.get hus5 hb
     have hwl:=hws.length
     rw [ab,aA] at hwl
     have hm:=aB hpts
     have hl16:=hPl pts hm
     refine gY ⟨_,rfl,_,rfl,_,rfl,p,lf,b,left,bs,pts,rfl,SqT.of (s6 _ _ h5f),SqL.of (s6 _ _ hat),hB.same s6,aZ hl16 (by decide),hp,hP pts hm,fun z H8 hz s8 h8z=>?_⟩
     refine⟨_,rfl,_,rfl,_,_,rfl,rfl,z,k+e,_,(by show [V.ref z,V.int ((k:Int)+(e:Int))]=_; rw [ft]),h8z,by lia,by rw [zcX hp (hP pts hm)]; lia,fun x H9 s9 h9x=>?_⟩
     refine⟨by rw [ab]; lia,s6.trans (s8.trans s9),ws++[x],by rw [ar]; rfl,?_⟩
     rw [take_snoc hpts,ar]
     exact bI (hws.same (s8.trans s9)) h9x
    ·rintro ys H6 D2 ⟨s6,ws,rfl,hws⟩ hD2
     rw [hul,bo] at hws
     have t7:=zb (o:=.lst (ws.map V.ref)) hD2
     have h7D:upd H6 D2 (.lst (ws.map V.ref)) D2=some (.lst (ws.map V.ref)):=zc
     have hws7:=hws.same t7
     have s57:=s6.trans t7
     generalize upd H6 D2 (.lst (ws.map V.ref))=H7 at t7 h7D hws7 s57 ⊢
     refine⟨by show 3≤sizeLine; lia,fun z hz=>?_⟩
     have t8:=zb (o:=.tup [.int (e:Int),.ref lf,.ref D2]) hz
     have s27:=(s2.trans s3).trans (s35.trans s57)
     exact q z lf D2 ws e left _ _ (s27.trans t8) zc ((s57.trans t8) _ _ h5f) (t8 _ _ h7D) (hws7.same t8) he16 (by rw [← hptss]; exact L)
theorem zbm:FnScope ["code","row","e","left","rights"] ["code","row"] (zh zbF):=⟨rfl,rfl,rfl,by decide +kernel,rfl,by decide +kernel,by decide +kernel⟩
theorem zcT {fd:FuncData} (T:Txt K mg t) (F:Fun K "locator_of" "locator_of" zbF t.locator_of fd):FnOk P w K mg base CX0 6 t.locator_of fd ["code","row"] (ze5 K):=by
 obtain⟨fd_joint_locator,F_joint_locator,b_joint_locator⟩:=T.f_joint_locator
 have G_joint_locator:=zdC (P:=P) (w:=w) (base:=base) T F_joint_locator
 refine F.ok zbm (fun vs H Q E h=>?_) (fun cdv A outer s H vs Q E hr h=>?_)
 ·obtain⟨c,tt,r,p,k,pl,rw,rfl,_⟩:=h
  rfl
 ·obtain⟨c,tt,r,p,k,pl,rw,rfl,hc,hra,hrl,hn,hp,hnd,hpl,hrg,k0,k1,q⟩:=h
  refine⟨_,#[zd,#[za8,#[zr,G_joint_locator,(hr.mono (by decide)),T.m_joint_locator,F_joint_locator.kp,b_joint_locator,#[zG],#[za,#[pvx,0],#[za,#[zX,#[za,#[pvx,1],#[ze]]],#[ze]]]],#[zaU,#[zi,#[zg,2,zbm.nd,(aq rfl)],#[zi,#[zg,3,zbm.nd,(aq rfl)],#[zi,#[zg,4,zbm.nd,(aq rfl)],#[zJ]]]]]],by exact #[zn,#[zE,#[zaG,#[za,#[pvx,2],#[za,#[pvx,3],#[za,#[zM,#[zK],#[pvx,4],#[zf]],#[ze]]]]]]]],?_⟩
  have hsl:=aV
  refine⟨_,rfl,_,rfl,by show 1≤sizeLine; lia,fun ra hrA=>?_⟩
  have t1:=zb (o:=.lst [.ref r]) hrA
  refine⟨c,tt,ra,p,k,pl,[r],[rw],rfl,hc.same t1,SqL.of zc,.cons ⟨t1 _ _ hra,hrl⟩ .nil,(by show 1≤10; decide),hn,hp,hnd,hpl,fun rw' h=>?_,k0,k1,fun z la l3 us e left rights H2 s2 h2z h2l h2r hT he L=>?_⟩
  ·obtain rfl:rw'=rw:=by simpa using h
   exact hrg
  have hl:=hT.length
  have hr1:rights.length=1:=by rw [L.rt]; rfl
  obtain⟨u0,rfl⟩:∃ u0,us = [u0]:=i0.mp (by lia)
  obtain⟨right,rfl⟩:∃ r0,rights = [r0]:=i0.mp hr1
  obtain⟨r',hr',hu⟩:=Paired.get hT (i:=0) (a:=u0) rfl
  cases hr'
  refine⟨z,_,rfl,SqT.of h2z,rfl,_,_,rfl,_,_,rfl,_,_,rfl,rfl,?_⟩
  refine⟨_,rfl,_,rfl,_,rfl,l3,_,_,_,rfl,rfl,SqL.of h2r,rfl,by show 3≤sizeLine; lia,fun y hy=>?_⟩
  have s12:=t1.trans s2
  exact q y la u0 e left right _ (s12.trans (zb hy)) zc ((zb hy) _ _ h2l) ((zb hy) _ _ hu) he L
end
end My
end
section
namespace My
open PySem L2 PyProof.Rows
section
variable {P:Program} {w:World} {K:ag} {mg:Str→Option Value} {base:Heap} {t:Adr}
theorem zck:FnScope ["things","many","chosen","step"] ["things","many"] (zh zbI):=⟨rfl,rfl,rfl,by decide +kernel,rfl,by decide +kernel,by decide +kernel⟩
theorem zif {fd:FuncData} (T:Txt K mg t) (F:Fun K "choices" "choices" zbI t.choices fd):FnOk P w K mg base CX0 1 t.choices fd ["things","many"] (zh1 K):=by
 refine F.ok zck (fun vs H Q E h=>?_) (fun cdv A outer s H vs Q E hr h=>?_)
 ·obtain⟨a,m,xs,rfl,_⟩:=h
  rfl
 ·obtain⟨a,m,xs,rfl,hS,hx,hm,q⟩:=h
  refine⟨_,#[zd,#[zo,2,zck.nd,(aq rfl),#[zX,#[za,#[zaG,#[za,#[zf],#[za,#[zX,#[ze]],#[ze]]]],#[ze]]]],by exact #[zd,#[za9,bA,#[zai,T.range_,#[za,#[pvx,1],#[ze]]],#[zg,3,zck.nd,(aq rfl)],#[zn,(@zh0 _ _ _ _ _ _ _ _ _ _ _ _ _ _ _ _ _ _ _ _ _ (2) _ _ _ zck.nd rfl (aq rfl) (CompSc.of (N':=["start","picked","at","things"]) (ix:=[none,none,none,some 0]) (zh zbI) ["things","many","chosen","step"] rfl rfl (by decide +kernel)) rfl (zkp (js:=[0,1]) (zei (js:=[0,1]) (i:=0) (by decide) (zei (js:=[0,1]) (i:=1) (by decide) (zir (js:=[0,1]))))) (zcy (js:=[2]) (i:=2) (by decide)) (by decide) (by decide) #[zS,#[pvx,2]] (fun _ _ _ _=>#[zaq,(K),2,#[zi,#[zg,0,(show (["start","picked","at","things"]:List Str).Nodup by decide +kernel),(aq rfl)],#[zi,#[zg,1,(show (["start","picked","at","things"]:List Str).Nodup by decide +kernel),(aq rfl)],#[zJ]]]]) (fun _ _ _ _=>#[zB]) (fun _ _ _ _=>(@zjm _ _ _ _ _ _ _ rfl T.range_ #[za,#[pvx,0],#[za,#[zA,#[zbX,(K)],T.len_,b9,#[za,#[pvx,3],#[ze]]],#[ze]]] (by rfl) (by rfl))) (fun _ _ _ _=>#[zg,2,(show (["start","picked","at","things"]:List Str).Nodup by decide +kernel),(aq rfl)]) (fun _ _ _ _=>#[zB]) (fun _ _ _ _=>#[zaG,#[za,#[zj,#[zO],#[pvx,2],#[zf]],#[za,#[zj,#[zb9],#[pvx,1],#[zX,#[za,#[zM,#[zbr,(K)],#[pvx,3],#[pvx,2]],#[ze]]]],#[ze]]]]) (by rfl) (by intro _; rfl) (by intros; rfl) (by trivial))]],by exact #[zn,#[zE,#[z0,(CompSc.of (N':=["start","picked"]) (ix:=[none,none]) (zh zbI) ["things","many","chosen","step"] rfl rfl (by decide +kernel)),#[zaX,#[zw,#[zw,#[zav]]]],#[zS,#[pvx,2]],(fun _ _ _ _=>#[zaq,(K),2,#[zi,#[zg,0,(show (["start","picked"]:List Str).Nodup by decide +kernel),(aq rfl)],#[zi,#[zg,1,(show (["start","picked"]:List Str).Nodup by decide +kernel),(aq rfl)],#[zJ]]]]),(fun _ _ _ _=>#[zB]),(fun _ _ _ _=>#[pvx,1])]]]]],?_⟩
  have hsl:=aV
  refine⟨aY _,fun L0 hL0=>⟨by show 2≤sizeLine; lia,fun T0 hT0=>⟨by show 1≤sizeLine; lia,fun c hc=>?_⟩⟩⟩
  have u0:=zb (o:=.lst []) hL0
  have u1:=zb (o:=.tup [.int 0,.ref L0]) hT0
  have u2:=zb (o:=.lst [.ref T0]) hc
  have hch0:zeD (upd (upd (upd H L0 (.lst [])) T0 (.tup [.int 0,.ref L0])) c (.lst [.ref T0])) [T0] (chs xs 0):=.cons ⟨L0,u2 _ _ zc,(u1.trans u2) _ _ zc⟩ .nil
  have hc0:upd (upd (upd H L0 (.lst [])) T0 (.tup [.int 0,.ref L0])) c (.lst [.ref T0]) c=some (.lst ([T0].map V.ref)):=zc
  have s0:=(u0.trans u1).trans u2
  generalize upd (upd (upd H L0 (.lst [])) T0 (.tup [.int 0,.ref L0])) c (.lst [.ref T0])=H0 at hch0 hc0 s0 ⊢
  refine⟨_,rfl,_,rfl,by lia,by lia,?_⟩
  rw [bm]
  refine zcx (lo:=0) (n:=m) (fun i σ H'=>∃ (c:Addr) (ts:List Addr) (e3:Option V),σ = [some (.ref a),some (.int m),some (.ref c),e3]∧zt H H'∧H' c=some (.lst (ts.map V.ref))∧zeD H' ts (chs xs i)) ⟨c,[T0],none,rfl,s0,hc0,hch0⟩ ?_ ?_
  ·rintro i σ H1 hi ⟨c,ts,e3,rfl,s1,h1c,hch⟩
   have hcl:=hch.length
   have hsm:=zds (xs:=xs) (i+1) hx
   have hfl:((chs xs i).flatMap (nxt xs)).length≤65536:=hsm
   refine⟨_,rfl,c,rfl,⟨_,SqL.of h1c⟩,zfC (n:=ts.length) (fun i' ys H'=>∃ us:List Addr,ys=us.map V.ref∧zt H1 H'∧zeD H' us (((chs xs i).take i').flatMap (nxt xs))) ⟨[],rfl,fun _ _ e=>e,.nil⟩ ?_ ?_ ?_ ?_⟩
   ·rintro i' ys H2 hi' ⟨us,_,s2,_⟩
    exact⟨_,.ref ts[i'],SqL.of (s2 _ _ h1c),by rw [ah,am hi']; rfl⟩
   ·rintro ys H2 ⟨us,_,s2,_⟩
    exact⟨_,SqL.of (s2 _ _ h1c),by rw [ab]; exact af _⟩
   ·rintro i' y ys H2 H3 hi' ⟨us,rfl,s2,hus⟩ ⟨rfl,hy⟩
    obtain⟨tt,rfl,htt⟩:=zY (hy _ (SqL.of (s2 _ _ h1c)))
    obtain⟨cc,hcc,hat⟩:=Paired.get hch htt
    obtain⟨L,hL1,hL2⟩:=hat.same s2
    have hle:=zoh (aB hcc)
    have hpl:=zhf (aB hcc)
    obtain⟨st,pk⟩:=cc
    dsimp only at hL1 hL2 hle hpl
    refine gY2 (SqT.of hL1) ?_
    refine⟨_,rfl,_,rfl,a,xs,rfl,.inl ((s1.trans s2).seq hS),_,_,rfl,⟨by lia,by lia,by lia,by lia⟩,?_⟩
    have en:((xs.length:Int) - (st:Int)).toNat=xs.length - st:=by lia
    rw [en]
    refine zfC (n:=xs.length - st) (fun j ys H'=>∃ us:List Addr,ys=us.map V.ref∧zt H3 H'∧zeD H' us (((chs xs i).take i').flatMap (nxt xs)++(nxt xs (st,pk)).take j)) ⟨us,rfl,fun _ _ e=>e,by rw [dC,bO]; exact hus⟩ (fun j ys H' hj _=>hj) (fun ys H' _=>af _) ?_ ?_
    ·rintro j z ys H4 H5 hj ⟨us,rfl,s4,hus⟩ ⟨rfl,rfl⟩
     obtain⟨x,hx'⟩:∃ x,xs[st+j]? = some x:=⟨xs[st+j]'(by lia),by simp⟩
     have hat:atI xs ((st:Int)+(j:Int))=some x:=by
      have e:((st+j:Nat):Int)=(st:Int)+j:=by lia
      rw [← e]
      exact zaR hx'
     have hng:=zmx (c:=(st,pk)) hx'
     have hul:=hus.length
     have hpart:=zjR (f:=nxt xs) hcc (show j < (nxt xs (st,pk)).length by rw [zgd]; exact hj)
     have hnl:=zgd xs (st,pk)
     refine gY ?_
     refine⟨_,rfl,_,_,rfl,rfl,_,rfl,_,rfl,_,rfl,a,xs,_,x,rfl,rfl,((s1.trans s2).trans s4).seq hS,hat,by show 1≤sizeLine; lia,fun b hb=>?_⟩
     have v1:=zb (o:=.lst [x]) hb
     refine⟨L,b,pk,[x],rfl,rfl,(s4.trans v1) _ _ hL2,zc,by show pk.length+1≤sizeLine; lia,fun L2 hL2'=>⟨by show 2≤sizeLine; lia,fun T2 hT2=>⟨?_,us++[T2],by rw [ar]; rfl,?_,?_⟩⟩⟩
     ·rw [ab,hul,ao,aA]
      lia
     ·exact s4.trans (v1.trans ((zb hL2').trans (zb hT2)))
     ·rw [take_snoc hng,← a8]
      refine bI (hus.same (v1.trans ((zb hL2').trans (zb hT2)))) ⟨L2,?_,(zb hT2) _ _ zc⟩
      rw [zc]
      show some (HO.tup [.int ((st:Int)+(j:Int)+1),.ref L2])=some (HO.tup [.int ((st+j+1:Nat):Int),.ref L2])
      have e:((st+j+1:Nat):Int)=(st:Int)+j+1:=by lia
      rw [e]
    ·rintro ys H4 ⟨us,rfl,s4,hus⟩
     rw [aK (l:=nxt xs (st,pk)) (by rw [zgd]; exact af _)] at hus
     exact⟨us,rfl,s2.trans s4,by rw [zjS hcc]; exact hus⟩
   ·rintro ys H2 ⟨us,rfl,s2,hus⟩ D hD
    rw [hcl,aK (af _)] at hus
    exact⟨D,us,_,rfl,s1.trans (s2.trans (zb hD)),zc,hus.same (zb hD)⟩
  ·rintro σ H1 ⟨c,ts,e3,rfl,s1,h1c,hch⟩
   have hcl:=hch.length
   have hsm:=zds (xs:=xs) m hx
   refine⟨_,rfl,c,rfl,⟨_,SqL.of h1c⟩,zT (n:=ts.length) (fun i ys H'=>H'=H1∧∃ us:List Addr,ys=us.map V.ref∧zhg H1 us (((chs xs m).map (·.2)).take i)) ⟨rfl,[],rfl,.nil⟩ ?_ ?_ ?_ ?_⟩
   ·rintro i ys H2 hi ⟨rfl,_⟩
    exact⟨_,.ref ts[i],SqL.of h1c,by rw [ah,am hi]; rfl⟩
   ·rintro ys H2 ⟨rfl,_⟩
    exact⟨_,SqL.of h1c,by rw [ab]; exact af _⟩
   ·rintro i y ys H2 H3 hi ⟨rfl,us,rfl,hus⟩ ⟨rfl,hy⟩
    obtain⟨tt,rfl,htt⟩:=zY (hy _ (SqL.of h1c))
    obtain⟨cc,hcc,L,hL1,hL2⟩:=Paired.get hch htt
    have hul:=hus.length
    refine gY2 (SqT.of hL1) ⟨_,rfl,?_,rfl,us++[L],by rw [ar]; rfl,?_⟩
    ·rw [ab,hul,aA,ab]
     lia
    ·have hcc':((chs xs m).map (·.2))[i]? = some cc.2:=by rw [ah,hcc]; rfl
     rw [take_snoc hcc']
     exact bI hus hL2
   ·rintro ys H2 D ⟨rfl,us,rfl,hus⟩ hD
    rw [aK (by rw [ab,hcl]; exact af _)] at hus
    exact q D us _ (s1.free hD) (s1.trans (zb hD)) zc (hus.same (zb hD))
theorem zeb:FnScope ["code","row","polynomial","p","k","places"] ["code","row","polynomial"] (zh zeN):=⟨rfl,rfl,rfl,by decide +kernel,rfl,by decide +kernel,by decide +kernel⟩
theorem zgx {fd:FuncData} (T:Txt K mg t) (F:Fun K "fits" "fits" zeN t.fits fd):FnOk P w K mg base CX0 2 t.fits fd ["code","row","polynomial"] (zml K):=by
 obtain⟨fd_value_at,F_value_at,b_value_at⟩:=T.f_value_at
 have G_value_at:=zbR (P:=P) (w:=w) (base:=base) T F_value_at
 refine F.ok zeb (fun vs H Q E h=>?_) (fun cdv A outer s H vs Q E hr h=>?_)
 ·obtain⟨c,tt,ra,po,p,k,pl,poly,rw,rfl,_⟩:=h
  rfl
 ·obtain⟨c,tt,ra,po,p,k,pl,poly,rw,rfl,hc,hra,hrl,hpo,p0,p1,hpl,hn,q⟩:=h
  refine⟨_,#[zd,#[za8,#[pvx,0],#[zaU,#[zi,#[zg,3,zeb.nd,(bX rfl)],#[zi,#[zg,4,zeb.nd,(aq rfl)],#[zi,#[zg,5,zeb.nd,(aq rfl)],#[zJ]]]]]],by exact #[zn,#[zE,#[z0,(CompSc.of (N':=["at","place","entry","p","polynomial"]) (ix:=[none,none,none,some 3,some 2]) (zh zeN) ["code","row","polynomial","p","k","places"] rfl rfl (by decide +kernel)),#[zaX,#[zw,(@zjt _ _ _ #[zaX,#[zw,#[zw,#[zav]]]] #[zav] zhY)]],(@zhX _ _ _ _ _ _ _ _ _ _ _ rfl T.enumerate_ rfl T.zip_ #[za,#[pvx,5],#[za,#[pvx,1],#[ze]]] (by rfl) (by rfl) (by rfl)),(fun _ _ _ _=>#[zaq,(K),2,#[zi,#[zg,0,(show (["at","place","entry","p","polynomial"]:List Str).Nodup by decide +kernel),(aq rfl)],#[zi,#[zaq,(K),2,#[zi,#[zg,1,(show (["at","place","entry","p","polynomial"]:List Str).Nodup by decide +kernel),(aq rfl)],#[zi,#[zg,2,(show (["at","place","entry","p","polynomial"]:List Str).Nodup by decide +kernel),(aq rfl)],#[zJ]]]],#[zJ]]]]),(fun _ _ _ _=>#[zbq,#[zC,#[zdE],#[pvx,2],#[zr,G_value_at,(hr.mono (by decide)),T.m_value_at,F_value_at.kp,b_value_at,#[zG],#[za,#[pvx,3],#[za,#[pvx,4],#[za,#[pvx,1],#[ze]]]]],(zQ _)]]),(fun _ _ _ _=>#[pvx,0])]]]],?_⟩
  refine⟨_,rfl,c,_,rfl,SqT.of hc.1,rfl,_,_,rfl,_,_,rfl,_,_,rfl,rfl,?_⟩
  refine⟨_,rfl,_,rfl,tt,ra,_,_,rfl,SqT.of hc.2,SqL.of hra,zT (n:=pl.length) (fun i ys H'=>ys=(zdp p pl rw poly i).map V.int∧zt H H') ⟨rfl,fun _ _ e=>e⟩ ?_ ?_ ?_ ?_⟩
  ·rintro i ys H3 hi ⟨_,s3⟩
   obtain⟨o,ho⟩:∃ o,rw[i]? = some o:=⟨rw[i]'(by lia),by simp⟩
   exact⟨_,_,.int pl[i],enc o,SqT.of (s3 _ _ hc.2),SqL.of (s3 _ _ hra),by rw [ah,am hi]; rfl,by rw [ah,ho]; rfl⟩
  ·rintro ys H3 ⟨_,s3⟩
   exact⟨_,_,SqT.of (s3 _ _ hc.2),SqL.of (s3 _ _ hra),by rw [ab]⟩
  ·rintro i xx ys H3 H4 hi ⟨rfl,s3⟩ ⟨T1,T2,u,v,hT1,hT2,hne,rfl,rfl,hu,hv⟩
   obtain⟨x,rfl,hx⟩:=zal (hu _ (SqT.of (s3 _ _ hc.2)))
   obtain⟨o,rfl,ho⟩:=ziE (hv _ (SqL.of (s3 _ _ hra)))
   obtain⟨x0,x1⟩:=hpl x (aB hx)
   have s4:zt H3 (upd (upd H3 T1 (.tup [.int x,enc o])) T2 (.tup [.int i,.ref T1])):=zac (zb hT1) hT2
   refine⟨T2,_,rfl,SqT.of zc,rfl,_,_,rfl,_,_,rfl,T1,_,rfl,SqT.of (by rw [zq hne]; exact zc),rfl,_,_,rfl,_,_,rfl,rfl,rfl,?_⟩
   refine⟨_,rfl,_,rfl,_,rfl,_,rfl,p,x,po,poly,rfl,.inr (SqT.of ((s3.trans s4) _ _ hpo)),p0,p1,x0,x1,zkK o _,_,rfl,?_⟩
   rw [zfz,zkL hx ho,ar]
   have hlen:=zg3 p pl rw poly i
   refine zaI (fun h1=>⟨_,rfl,zad (by rw [ab]; lia),?_,s3.trans s4⟩) (fun h1=>⟨?_,s3.trans s4⟩)
   ·rw [if_pos h1]
    rfl
   ·rw [if_neg h1]
    simp
  ·rintro ys H3 D ⟨rfl,s3⟩ hD
   exact q D _ (s3.free hD) (s3.trans (zb hD)) zc
theorem zja {p:Int} {pts:List (Int×Int)} (hP:Pts p pts):pts.map (md p)=pts:=by
 refine (cj fun q hq=>?_).trans (jY _)
 obtain⟨_,_,h1,h2⟩:=hP.rg q hq
 show (q.1,q.2 % p)=q
 rw [ck h1 h2]
theorem zay:FnScope ["code","points","p","k","places","found","picked"] ["code","points"] (zh zaZ):=⟨rfl,rfl,rfl,by decide +kernel,rfl,by decide +kernel,by decide +kernel⟩
theorem zeR {fd:FuncData} (T:Txt K mg t) (F:Fun K "all_through" "all_through" zaZ t.all_through fd):FnOk P w K mg base CX0 4 t.all_through fd ["code","points"] (zeF K):=by
 obtain⟨fd_choices,F_choices,b_choices⟩:=T.f_choices
 have G_choices:=zif (P:=P) (w:=w) (base:=base) T F_choices
 obtain⟨fd_through,F_through,b_through⟩:=T.f_through
 have G_through:=zcZ (P:=P) (w:=w) (base:=base) T F_through
 refine F.ok zay (fun vs H Q E h=>?_) (fun cdv A outer s H vs Q E hr h=>?_)
 ·obtain⟨c,tt,a,p,k,pl,bs,pts,rfl,_⟩:=h
  rfl
 ·obtain⟨c,tt,a,p,k,pl,bs,pts,rfl,hc,hS,hB,hn,hp,hP,k0,k1,q⟩:=h
  have hu:(A.deeper (envOfC (bN "all_through") (zh zaZ) s.heap.objs.size t.all_through cdv)).units+1 < cLine:=by have:=hr.units; lia
  refine⟨_,#[zd,#[za8,#[pvx,0],#[zaU,#[zi,#[zg,2,zay.nd,(aq rfl)],#[zi,#[zg,3,zay.nd,(aq rfl)],#[zi,#[zg,4,zay.nd,(aq rfl)],#[zJ]]]]]],by exact #[zd,#[zo,5,zay.nd,(aq rfl),(@zkU _ _)],by exact #[zd,#[za9,bA,#[zS,#[zr,G_choices,(hr.mono (by decide)),T.m_choices,F_choices.kp,b_choices,#[zG],#[za,#[pvx,1],#[za,#[pvx,3],#[ze]]]]],#[zg,6,zay.nd,(aq rfl)],#[zn,(@zmm _ _ _ _ _ _ _ _ _ hu #[pvx,5] #[zr,G_through,(hr.mono (by decide)),T.m_through,F_through.kp,b_through,#[zG],#[za,#[pvx,2],#[za,#[pvx,6],#[ze]]]] #[zdD] rfl)]],by exact #[zn,#[zE,#[zA,(@zgc _ rfl),T.sorted_,boot_sorted,#[za,#[pvx,5],#[ze]]]]]]]],?_⟩
  have hsl:=aV
  have rp:=zp hp
  obtain⟨zs,rfl,rfl,hz⟩:=hB.zs
  rw [ab] at hn
  refine⟨_,rfl,c,_,rfl,SqT.of hc.1,rfl,_,_,rfl,_,_,rfl,_,_,rfl,rfl,fun D hD=>?_⟩
  have s0:=zb (o:=.dT []) hD
  have hD0:upd H D (.dT []) D=some (.dT []):=zc
  generalize upd H D (.dT [])=H0 at s0 hD0 ⊢
  refine⟨_,rfl,_,rfl,a,k,_,rfl,s0.seq hS,by rw [ab,ab]; lia,by lia,fun l ls H1 hl s1 h1l hpk=>?_⟩
  have hlD:l≠D:=fun e=>by rw [e,hD0] at hl; cases hl
  rw [bv,zfE (V.ref ∘ fun z:Addr×Int×Int=>z.1) zs k] at hpk
  have hpl:=hpk.length
  rw [ab,ab] at hpl
  have hsm:=zds (xs:=zs) k hn
  obtain⟨zks,hzks⟩:∃ zks,(chs zs k).map (·.2)=zks:=⟨_,rfl⟩
  rw [hzks] at hpk
  have hzl:ls.length=zks.length:=by rw [hpl,← hzks,ab]
  have hH1D:H1 D=some (.dT []):=s1 _ _ hD0
  have hid:=zkJ H1 D
  refine⟨l,rfl,⟨_,SqL.of h1l⟩,zbp (K:=K) (a:=l) (xs:=ls.map V.ref) (fun i σ H'=>∃ (kvs:List (List Key×V)) (mss:List (List Int)) (e6:Option V),σ = [some (.ref c),some (.ref a),some (.int p),some (.int k),some (.ref tt),some (.ref D),e6] ∧
   zt (hide H1 D) H'∧H' D=some (.dT kvs)∧KeysAre kvs mss∧mss.Nodup∧mss.length≤i∧∀ x,x∈mss↔∃ zk∈zks.take i,x=thr p (zk.map (·.2)))
   ⟨[],[],none,rfl,hid,hH1D,rfl,by simp,af _,fun x=>by simp⟩ (fun i σ H' _ ⟨_,_,_,_,s3,_⟩=>SqL.of (s3 _ _ (zdZ h1l hlD))) ?_ ?_⟩
  ·rintro i y σ H2 hy ⟨kvs,mss,e6,rfl,s2,h2D,hkm,hnd,hml,hmem⟩
   obtain⟨b,rfl,hbi⟩:=zY hy
   obtain⟨hi,_⟩:=az.mp hbi
   obtain⟨vk,hvk,hb1⟩:=Paired.get hpk hbi
   obtain⟨zk,hzk,rfl⟩:∃ zk,zks[i]? = some zk∧vk=zk.map (V.ref ∘ fun z:Addr×Int×Int=>z.1):=by
    rw [ah] at hvk
    cases e:zks[i]? with
    | none=>rw [e] at hvk; cases hvk
    | some zk=>rw [e] at hvk; exact⟨zk,rfl,(aO hvk).symm⟩
   have hbD:b≠D:=fun e=>by rw [e,hH1D] at hb1; cases hb1
   obtain⟨hsub,hlen⟩:=zgf.mp (by rw [hzks]; exact aB hzk:zk∈(chs zs k).map (·.2))
   have hPk:Pts p (zk.map (·.2)):=hP.sub (hsub.map _)
   have hpts:zkF K H2 b (zk.map (·.2)):=by
    refine⟨zk.map (·.1),?_,by rw [ab,ab],fun j b' q' h1 h2=>?_⟩
    ·have:=s2 _ _ (zdZ hb1 hbD)
     rw [bv]
     exact SqL.of this
    ·rw [ah] at h1 h2
     cases e:zk[j]? with
     | none=>rw [e] at h1; cases h1
     | some z =>
      rw [e] at h1 h2
      cases h1
      cases h2
      have hz1:=hz z (hsub.subset (aB e))
      have hzD:z.1≠D:=zy hz1 hD
      exact s2 _ _ (zdZ ((s0.trans s1) _ _ hz1) hzD)
   have hmf:kvs.length=mss.length:=by
    have:=congrArg eC hkm
    rw [ab,ab] at this
    exact this
   refine⟨_,rfl,_,rfl,_,rfl,p,b,_,rfl,hpts,by rw [ab]; lia,hp,(by rw [zja hPk]; exact hPk),(fun q hq=>by have:=hPk.rg q hq; lia),fun tl H3 htl s3 h3=>?_⟩
   rw [zja hPk] at h3
   have h3D:=s3 _ _ h2D
   refine⟨D,_,rfl,zkT.t (k:=(thr p (zk.map (·.2))).map cM) h3D (by rw [h3,bv]; rfl) (by lia),?_⟩
   obtain⟨mss',m1,m2,m3,m4⟩:=zlf hkm hnd (thr p (zk.map (·.2))) (.bl true)
   refine⟨_,mss',_,rfl,?_,zc,m1,m2,by lia,fun x=>?_⟩
   ·refine zac (s2.trans s3) ?_
    unfold hide
    rw [if_pos rfl]
   ·rw [m4 x,hmem x,take_snoc hzk]
    constructor
    ·rintro (⟨zk',h1,h2⟩ | e)
     ·exact⟨zk',aS _ h1,h2⟩
     ·exact⟨zk,aG _ (a7.mpr rfl),e⟩
    ·rintro⟨zk',h1,h2⟩
     rcases (aW.mp h1) with h1 | h1
     ·exact .inl ⟨zk',h1,h2⟩
     ·rw [a7.mp h1] at h2
      exact .inr h2
  ·rintro σ H2 ⟨kvs,mss,e6,rfl,s2,h2D,hkm,hnd,hml,hmem⟩
   rw [ab,hzl] at hmem hml
   rw [bo] at hmem
   rw [← hzl,hpl] at hml
   have hall:∀ x,x∈mss↔∃ pk∈(chs (zs.map (·.2)) k).map (·.2),x=thr p pk:=fun x=>by
    rw [hmem x,zfE,hzks]
    constructor
    ·rintro⟨zk,h1,h2⟩
     exact⟨_,fg h1,h2⟩
    ·rintro⟨pk,h1,h2⟩
     obtain⟨zk,h3,rfl⟩:=aE.mp h1
     exact⟨zk,h3,h2⟩
   have hisP:∀ x∈mss,IsP p k x:=fun x hx=>by
    obtain⟨pk,h1,rfl⟩:=(hall x).mp hx
    exact ziW hp hP h1
   refine⟨_,rfl,D,k,p,kvs,mss,rfl,h2D,hkm,fun ms hm=>hisP ms hm,k0,by lia,fun r ps' hr' hperm hsort hH=>?_⟩
   have hHs:zt H H2:=fun x u e=>s2 _ _ (zdZ ((s0.trans s1) _ _ e) (zy e hD))
   have e1:ps'.map (fun q=>V.ref q.1)=(ps'.map (·.1)).map V.ref:=by rw [bv]; rfl
   rw [e1]
   refine q r (ps'.map (·.1)) (ps'.map (·.2)) _ (hHs.free hr') (hHs.trans (zb hr')) zc ((zbE.of hH).same (zb hr')) (by rw [hperm.length_eq]; lia) (zmB (by lia) (fun x hx=>hisP x (hperm.mem_iff.mp hx)) (hperm.nodup_iff.mpr hnd) ?_) fun x=>?_
   ·rw [dz]
    exact hsort
   ·rw [hperm.mem_iff]
    exact hall x
def zgy (K:ag):Sp:=fun vs H Q _=>∃ (c tt r:Addr) (p:Int) (k:Nat) (T:Int) (pl:List Int) (rw:List (Option Int)),vs = [.ref c,.ref r,.int T]∧zbh H c tt p k pl∧H r=some (.lst (rw.map enc))∧rw.length=pl.length∧pl.length≤16∧p∈zm∧pl.Nodup∧(∀ x∈pl,0≤x∧x < p)∧(∀ z,some z∈rw→0≤z∧z < p)∧1≤k∧k≤100∧(k:Int)≤T ∧
 ∀ (l:Addr) (rs:List Addr) (qs:List (List Int)) (H':Hp),H l=none→zt H H'→H' l=some (.lst (rs.map V.ref))→zbE H' rs qs→zjT p k qs→(∀ q,q∈qs↔IsP p k q∧T≤(hits p q (hps pl rw):Int))→Q (.ref l) H'
theorem zbT:FnScope ["code","row","t","k","points","first"] ["code","row","t"] (zh zbL):=⟨rfl,rfl,rfl,by decide +kernel,rfl,by decide +kernel,by decide +kernel⟩
theorem zhA {fd:FuncData} (T:Txt K mg t) (F:Fun K "all_near" "all_near" zbL t.all_near fd):FnOk P w K mg base CX0 5 t.all_near fd ["code","row","t"] (zgy K):=by
 obtain⟨fd_heard_points,F_heard_points,b_heard_points⟩:=T.f_heard_points
 have G_heard_points:=za3 (P:=P) (w:=w) (base:=base) T F_heard_points
 obtain⟨fd_fits,F_fits,b_fits⟩:=T.f_fits
 have G_fits:=zgx (P:=P) (w:=w) (base:=base) T F_fits
 obtain⟨fd_all_through,F_all_through,b_all_through⟩:=T.f_all_through
 have G_all_through:=zeR (P:=P) (w:=w) (base:=base) T F_all_through
 refine F.ok zbT (fun vs H Q E h=>?_) (fun cdv A outer s H vs Q E hr h=>?_)
 ·obtain⟨c,tt,r,p,k,T',pl,rw,rfl,_⟩:=h
  rfl
 ·obtain⟨c,tt,r,p,k,T',pl,rw,rfl,hc,hra,hrl,hn,hp,hnd,hpl,hrw,k0,k1,h1,q⟩:=h
  refine⟨_,#[zd,#[zo,3,zbT.nd,(aq rfl),#[zM,#[zb8],#[pvx,0],#[zf]]],by exact #[zd,#[za6,#[zC,#[zfh],#[pvx,2],#[pvx,3],(zQ _)],#[zfd],#[zab]],by exact #[zd,#[zo,4,zbT.nd,(aq rfl),#[zr,G_heard_points,(hr.mono (by decide)),T.m_heard_points,F_heard_points.kp,b_heard_points,#[zG],#[za,#[pvx,0],#[za,#[pvx,1],#[ze]]]]],by exact #[zd,#[za6,#[zC,#[zc2],#[pvx,2],#[zA,#[zu],T.len_,b9,#[za,#[pvx,4],#[ze]]],(zQ _)],#[zn,#[zE,#[zX,#[ze]]]],#[zab]],by exact #[zd,#[zo,5,zbT.nd,(aq rfl),#[zax,zba,#[pvx,4],#[za1],#[zaH,#[zj,#[zO],#[zj,#[zaV],#[zA,#[zu],T.len_,b9,#[za,#[pvx,4],#[ze]]],#[pvx,2]],#[pvx,3]]]]],by exact #[zn,#[zE,#[z0,(CompSc.of (N':=["polynomial","code","row","t"]) (ix:=[none,some 0,some 1,some 2]) (zh zbL) ["code","row","t","k","points","first"] rfl rfl (by decide +kernel)),#[zap],#[zS,#[zr,G_all_through,(hr.mono (by decide)),T.m_all_through,F_all_through.kp,b_all_through,#[zG],#[za,#[pvx,0],#[za,#[pvx,5],#[ze]]]]],(fun _ _ _ _=>#[zg,0,(show (["polynomial","code","row","t"]:List Str).Nodup by decide +kernel),(aq rfl)]),(fun _ _ _ _=>#[zbq,#[zC,#[znk],#[zA,#[zbX,(K)],T.len_,b9,#[za,#[zr,G_fits,(hr.mono (by decide)),T.m_fits,F_fits.kp,b_fits,#[zG],#[za,#[pvx,1],#[za,#[pvx,2],#[za,#[pvx,0],#[ze]]]]],#[ze]]],#[pvx,3],(zQ _)]]),(fun _ _ _ _=>#[pvx,0])]]]]]]]],?_⟩
  have hsl:=aV
  have rp:=zp hp
  have hR:RowAt K H r pl.length rw:=⟨SqL.of hra,hrl⟩
  have hP:=zd7 hnd hpl hrw
  have hhl:=zbO pl rw
  refine⟨_,rfl,c,_,_,_,rfl,rfl,SqT.of hc.1,rfl,?_⟩
  refine⟨_,rfl,_,rfl,_,_,rfl,rfl,_,rfl,?_⟩
  ·refine zaI (fun h=>absurd (of_decide_eq_true h) (by lia)) (fun _=>?_)
   refine⟨_,rfl,_,rfl,c,tt,r,p,k,pl,rw,rfl,hc,hR,by lia,fun l bs H1 hl1 s1 h1l hB=>?_⟩
   have hbl:bs.length=(hps pl rw).length:=hB.length
   refine⟨_,rfl,_,rfl,l,_,rfl,.inl (SqL.of h1l),_,_,rfl,rfl,_,rfl,?_⟩
   rw [ab]
   refine zaI (fun hlt=>?_) (fun hge=>?_)
   ·have hlt:=of_decide_eq_true hlt
    refine⟨aY _,fun z hz=>q z [] [] _ (s1.free hz) (s1.trans (zb hz)) zc .nil ⟨by simp,.nil⟩ fun x=>?_⟩
    have:=c9 (hit p x) (hps pl rw)
    constructor
    ·intro h; cases h
    ·rintro⟨_,h⟩
     unfold hits at h
     lia
   ·have hge:¬ T' > (bs.length:Int):=fun h=>hge (decide_eq_true h)
    obtain⟨tn,rfl⟩:∃ tn:Nat,T'=tn:=⟨T'.toNat,by lia⟩
    refine⟨_,rfl,_,rfl,l,_,rfl,.inl (SqL.of h1l),_,rfl,_,_,rfl,rfl,_,rfl,_,_,rfl,rfl,_,rfl,l,_,rfl,SqL.of h1l,fun z hz=>?_⟩
    have ecut:((bs.map V.ref).length:Int) - (tn:Int)+(k:Int)=((bs.length - tn+k:Nat):Int):=by rw [ab]; lia
    rw [ecut,zgv,← cX]
    have v1:=zb (o:=.lst ((bs.take (bs.length - tn+k)).map V.ref)) hz
    have hzz:upd H1 z (.lst ((bs.take (bs.length - tn+k)).map V.ref)) z=some (.lst ((bs.take (bs.length - tn+k)).map V.ref)):=zc
    have s2:=s1.trans v1
    have hB2:=(hB.same v1).take (bs.length - tn+k)
    generalize upd H1 z (.lst ((bs.take (bs.length - tn+k)).map V.ref))=H2 at v1 hzz s2 hB2 ⊢
    have hPt:Pts p ((hps pl rw).take (bs.length - tn+k)):=hP.sub (bU _ _)
    refine⟨_,rfl,_,rfl,c,tt,z,p,k,pl,_,_,rfl,hc.same s2,SqL.of hzz,hB2,by rw [aA]; lia,hp,hPt,k0,k1,fun l2 rs qs H3 hl2 s3 h3l hT hql hRise hmem=>?_⟩
    have hrq:=hT.length
    have s13:=s2.trans s3
    refine⟨l2,rfl,⟨_,SqL.of h3l⟩,zT (n:=rs.length) (fun i ys H'=>zt H3 H'∧∃ us:List Addr,ys=us.map V.ref∧us.length≤i∧zbE H' us ((qs.take i).filter fun x=>decide ((tn:Int)≤(hits p x (hps pl rw):Int)))) ⟨fun _ _ e=>e,[],rfl,af _,.nil⟩ ?_ ?_ ?_ ?_⟩
    ·rintro i ys H4 hi ⟨s4,_⟩
     exact⟨_,.ref rs[i],SqL.of (s4 _ _ h3l),by rw [ah,am hi]; rfl⟩
    ·rintro ys H4 ⟨s4,_⟩
     exact⟨_,SqL.of (s4 _ _ h3l),by rw [ab]; exact af _⟩
    ·rintro i y ys H4 H5 hi ⟨s4,us,rfl,hul,hus⟩ ⟨rfl,hy⟩
     obtain⟨rb,rfl,hrb⟩:=zY (hy _ (SqL.of (s4 _ _ h3l)))
     obtain⟨qq,hqq,hat⟩:=Paired.get hT hrb
     have s14:=s13.trans s4
     refine⟨_,rfl,_,rfl,_,rfl,c,tt,r,rb,p,k,pl,qq,rw,rfl,hc.same s14,s14 _ _ hra,hrl,s4 _ _ hat,by lia,by lia,hpl,by lia,fun fl H6 hfl s6 h6=>?_⟩
     refine⟨fl,_,rfl,.inl (SqL.of h6),_,rfl,_,_,rfl,rfl,_,rfl,?_⟩
     have ef:((zdp p pl rw qq pl.length).map V.int).length=hits p qq (hps pl rw):=by rw [ab]; exact zgh hrl
     rw [ef]
     have hsn:(qs.take (i+1)).filter (fun x=>decide ((tn:Int)≤(hits p x (hps pl rw):Int)))=(qs.take i).filter (fun x=>decide ((tn:Int)≤(hits p x (hps pl rw):Int)))++[qq].filter (fun x=>decide ((tn:Int)≤(hits p x (hps pl rw):Int))):=by rw [take_snoc hqq,cq]
     refine zaI (fun h=>⟨_,rfl,?_,s4.trans s6,us++[rb],by rw [ar]; rfl,by rw [ao]; exact eX hul,?_⟩) (fun h=>⟨s4.trans s6,us,rfl,by lia,?_⟩)
     ·rw [ab]; lia
     ·rw [hsn,bS (p:=fun x=>decide ((tn:Int)≤(hits p x (hps pl rw):Int))) h]
      exact bI (hus.same s6) ((s4.trans s6) _ _ hat)
     ·rw [hsn,bT (p:=fun x=>decide ((tn:Int)≤(hits p x (hps pl rw):Int))) h,fu,bO]
      exact hus.same s6
    ·rintro ys H4 D ⟨s4,us,rfl,hul,hus⟩ hD
     rw [hrq,bo] at hus
     have s14:=s13.trans s4
     refine q D us _ _ (s14.free hD) (s14.trans (zb hD)) zc (hus.same (zb hD)) (hRise.filter _) fun x=>?_
     rw [bz,hmem x,decide_eq_true_iff]
     constructor
     ·rintro⟨⟨pk,h1,rfl⟩,h2⟩
      exact⟨ziW hp hPt h1,h2⟩
     ·rintro⟨h1',h2⟩
      exact⟨zh2 hp hP h1' (t:=tn) (by lia) (by lia) (by lia),h2⟩
end
end My
end
section
namespace My
open PySem L2 PyProof.Rows
section
variable {p:Int} {k:Nat} {pts:List (Int×Int)} {f:List Int}
def zc1 (p:Int) (f:List Int) (pts:List (Int×Int)):List Int:=(pts.filter fun a=>!hit p f a).map (·.1)
theorem zcM (p:Int) (f:List Int) (pts:List (Int×Int)):hits p f pts+(zc1 p f pts).length=pts.length:=by
 unfold hits zc1
 rw [ab]
 induction pts with
 | nil=>rfl
 | cons a l ih =>
  cases h:hit p f a
  ·rw [bT (by simp [h]),bS (by simp [h]),aX,aX]
   lia
  ·rw [bS h,bT (by simp [h]),aX,aX]
   lia
theorem zm8 (hp:p∈zm) (hf:IsP p k f):Good p k (zc1 p f pts).length [pts] (zcR p (zc1 p f pts)):=by
 have rp:=zp hp
 intro q hq
 obtain rfl:q=pts:=by simpa using hq
 have hw:=zeK hp (zc1 p f q)
 refine⟨(zdy f (zcR p (zc1 p f q)) (k+(zc1 p f q).length) ((zc1 p f q).length+1)).map (· % p),⟨by rw [ab]; unfold zdy; rw [ab,aT],fun c hc=>?_⟩,fun a ha=>?_⟩
 ·obtain⟨d,_,rfl⟩:=aE.mp hc
  exact⟨aH _ (by lia),aC _ (by lia)⟩
 ·refine Cg.eq ?_ (zar (by lia) _) (zas (by lia) _) (aH _ (by lia)) (aC _ (by lia))
  refine (zfG _).trans ((zlv (by rw [hf.1]; exact af _) (by rw [hw.1]; exact af _)).trans (Cg.trans ?_ (Cg.emod _ _).symm))
  cases hh:hit p f a
  ·have hz:Cg p (zl p a.1 (zcR p (zc1 p f q))) 0:=(zgm _).trans (Cg.of_eq (zeJ (aE.mpr ⟨a,bz.mpr ⟨ha,by rw [hh]; rfl⟩,rfl⟩)))
   exact (hz.mul (Cg.refl p _)).trans ((Cg.of_eq (by lia)).trans (hz.mul (Cg.refl p a.2)).symm)
  ·have:zl p a.1 f=a.2:=of_decide_eq_true hh
   rw [this]
   exact Cg.refl _ _
theorem zo9 (hP:Pts p pts) {a b:Int×Int} (ha:a∈pts) (hb:b∈pts) (e:a.1=b.1):a=b:=by
 obtain⟨i,hi⟩:=cJ ha
 (obtain⟨j,hj⟩:=cJ hb)
 have h1:(pts.map (·.1))[i]? = some a.1:=by rw [ah,hi]; rfl
 have h2:(pts.map (·.1))[j]? = some b.1:=by rw [ah,hj]; rfl
 have hij:i=j:=(List.getElem?_inj (az.mp h1).1 hP.nd).mp (by rw [h1,h2,e])
 subst hij
 rw [hi] at hj
 exact aO hj
theorem zlP (hp:p∈zm) (hP:Pts p pts) (hlt:(zc1 p f pts).length < pts.length):∃ i,gl (zcR p (zc1 p f pts)) i≠0:=by
 have rp:=zp hp
 refine df fun hno=>?_
 have hall:∀ i,gl (zcR p (zc1 p f pts)) i=0:=fun i=>df fun h=>hno ⟨i,h⟩
 have hs:=zcM p f pts
 have hpos:0 < (pts.filter (hit p f)).length:=by unfold hits at hs; lia
 obtain⟨a,ha⟩:=List.exists_mem_of_length_pos hpos
 obtain⟨h1,h2⟩:=bz.mp ha
 obtain⟨x0,x1,_⟩:=hP.rg a h1
 refine zht hp ⟨x0,x1⟩ (xs:=zc1 p f pts) (fun x hx=>?_) ((zgm (zc1 p f pts)).symm.trans (zeI fun c hc=>?_))
 ·obtain⟨b,hb,rfl⟩:=aE.mp hx
  obtain⟨b1,b2⟩:=bz.mp hb
  obtain⟨y0,y1,_⟩:=hP.rg b b1
  refine⟨y0,y1,fun e=>?_⟩
  have hab:=zo9 hP b1 h1 e
  rw [hab,h2] at b2
  cases b2
 ·obtain⟨j,hj⟩:=cJ hc
  have:=hall j
  rw [zbP hj] at this
  exact Cg.of_eq this
theorem zjb (hp:p∈zm) (hP:Pts p pts) (hf:IsP p k f) (hk:1≤k) (hh:pts.length+k≤2*hits p f pts) {e:Nat} {left right:List Int} (L:LocOk p k [pts] e left [right]):e≤(zc1 p f pts).length:=by
 have hs:=zcM p f pts
 refine eY fun hlt=>?_
 obtain⟨i,hi⟩:=zlP hp hP (f:=f) (by lia)
 exact hi (L.mn _ hlt _ (zeK hp _) (zm8 hp hf) i)
theorem zig (hp:p∈zm) (hP:Pts p pts) (hf:IsP p k f) (hk:1≤k) (hh:pts.length+k≤2*hits p f pts) {e:Nat} {left right:List Int} (L:LocOk p k [pts] e left [right]) (hr:IsP p (k+e) right) (hev:∀ a∈pts,zl p a.1 right=zl p a.1 left*a.2 % p) (z:Int):zl p z right=zl p z left*zl p z f % p:=by
 have rp:=zp hp
 have he:=zjb hp hP hf hk hh L
 have hs:=zcM p f pts
 have hl:=L.lf
 have hC:(zdy f left (k+e) (e+1)).length=k+e:=by unfold zdy; rw [ab,aT]
 have hme:∀ z,Cg p (zl p z (zdy f left (k+e) (e+1))) (zl p z left*zl p z f):=fun z=>zlv (by rw [hf.1]; exact af _) (by rw [hl.1]; exact af _)
 have hD:=zcf hp (k+e) (bf (· - ·) right (zdy f left (k+e) (e+1))) ((pts.filter (hit p f)).map (·.1)) (by rw [eg,hC,hr.1,Nat.min_self]) (by rw [ab]; unfold hits at hs hh; lia)
  ((cQ.map _).nodup hP.nd) (fun x hx=>by
   obtain⟨a,ha,rfl⟩:=aE.mp hx
   have:=hP.rg a (bz.mp ha).1
   exact⟨this.1,this.2.1⟩) fun x hx=>by
   obtain⟨a,ha,rfl⟩:=aE.mp hx
   obtain⟨h1,h2⟩:=bz.mp ha
   have h3:=hev a h1
   have h4:zl p a.1 f=a.2:=of_decide_eq_true h2
   rw [← h4] at h3
   refine (zdf (by rw [hr.1,hC])).trans ?_
   rw [h3]
   exact ((Cg.emod _ _).sub (hme _)).trans (Cg.of_eq (by lia))
 have hz:=zeI (z:=z) hD
 have h4:=(zdf (p:=p) (x:=z) (a:=right) (b:=zdy f left (k+e) (e+1)) (by rw [hr.1,hC])).symm.trans hz
 refine Cg.eq ?_ (zar (by lia) _) (zas (by lia) _) (aH _ (by lia)) (aC _ (by lia))
 have h5:=h4.add (hme z)
 exact (Cg.of_eq (by lia)).trans (h5.trans ((Cg.of_eq (by lia)).trans (Cg.emod _ _).symm))
def zdl (p:Int) (left:List Int) (pts:List (Int×Int)):List (Int×Int):=pts.filter fun a=>decide (zl p a.1 left≠0)
theorem zlQ (hp:p∈zm) (hP:Pts p pts) (hf:IsP p k f) (hk:1≤k) (hh:pts.length+k≤2*hits p f pts) {e:Nat} {left right:List Int} (L:LocOk p k [pts] e left [right]) (hr:IsP p (k+e) right) (hev:∀ a∈pts,zl p a.1 right=zl p a.1 left*a.2 % p):∀ a∈zdl p left pts,zl p a.1 f=a.2:=fun a ha=>by
 have rp:=zp hp
 obtain⟨h1,h2⟩:=bz.mp ha
 have h2:zl p a.1 left≠0:=by simpa using h2
 have h3:=hev a h1
 rw [zig hp hP hf hk hh L hr hev] at h3
 have h4:Cg p (zl p a.1 left*zl p a.1 f) (zl p a.1 left*a.2):=Cg.of_mod h3
 have h5:Cg p (zl p a.1 left*(zl p a.1 f - a.2)) 0:=by
  have:=h4.sub (Cg.refl p (zl p a.1 left*a.2))
  exact (Cg.of_eq (by rw [Int.mul_sub])).trans (this.trans (Cg.of_eq (by lia)))
 have v0:=zar (x:=a.1) (show 0 < p by lia) left
 have v1:=zas (x:=a.1) (show 0 < p by lia) left
 have h6:=zdt hp (a:=zl p a.1 left) (by rw [ck v0 v1]; exact h2) h5
 have h7:Cg p (zl p a.1 f) a.2:=by
  have:=h6.add (Cg.refl p a.2)
  exact (Cg.of_eq (by lia)).trans (this.trans (Cg.of_eq (by lia)))
 obtain⟨_,_,y0,y1⟩:=hP.rg a h1
 exact h7.eq (zar (by lia) _) (zas (by lia) _) y0 y1
theorem zj9 (hp:p∈zm) (hP:Pts p pts) {e:Nat} {left:List Int} (hl:IsP p (e+1) left) (hnz:∃ i,gl left i≠0):pts.length≤(zdl p left pts).length+e:=by
 have rp:=zp hp
 have hs:(zdl p left pts).length+(pts.filter fun a=>decide (zl p a.1 left=0)).length=pts.length:=by
  unfold zdl
  clear hP
  induction pts with
  | nil=>rfl
  | cons a l ih =>
   by_cases h:zl p a.1 left=0
   ·rw [bT (by simp [h]),bS (by simp [h]),aX,aX]
    lia
   ·rw [bS (by simp [h]),bT (by simp [h]),aX,aX]
    lia
 refine eY fun hlt=>?_
 have h:=zcf hp (e+1) left ((pts.filter fun a=>decide (zl p a.1 left=0)).map (·.1)) hl.1 (by rw [ab]; lia) ((cQ.map _).nodup hP.nd) (fun x hx=>by
  obtain⟨a,ha,rfl⟩:=aE.mp hx
  have:=hP.rg a (bz.mp ha).1
  exact⟨this.1,this.2.1⟩) fun x hx=>by
  obtain⟨a,ha,rfl⟩:=aE.mp hx
  exact Cg.of_eq (by simpa using (bz.mp ha).2)
 obtain⟨i,hi⟩:=hnz
 refine hi ?_
 by_cases hil:i < left.length
 ·have hm:=aB (zbi hil)
  obtain⟨c0,c1⟩:=hl.2 _ hm
  exact (h _ hm).eq c0 c1 (bH _) (by lia)
 ·exact zaY (by lia)
theorem zm9 (hp:p∈zm) (hP:Pts p pts) (hf:IsP p k f) (hk:1≤k) (hh:pts.length+k≤2*hits p f pts) {e:Nat} {left right:List Int} (L:LocOk p k [pts] e left [right]) (hr:IsP p (k+e) right) (hev:∀ a∈pts,zl p a.1 right=zl p a.1 left*a.2 % p) :
  k≤(zdl p left pts).length∧f=thr p ((zdl p left pts).take k):=by
 have he:=zjb hp hP hf hk hh L
 have hs:=zcM p f pts
 have hm:=zj9 hp hP L.lf L.nz
 have hk':k≤(zdl p left pts).length:=by lia
 refine⟨hk',zge hp (hP.sub ((bU _ _).trans cQ)) (by rw [aA,hf.1]; exact (cp hk').symm) hf.2 fun a ha=>?_⟩
 exact zlQ hp hP hf hk hh L hr hev a (dt ha)
end
end My
end
section
namespace My
open PySem L2 PyProof.Rows
section
variable {P:Program} {w:World} {K:ag} {mg:Str→Option Value} {base:Heap} {t:Adr}
def zpa (p:Int) (k:Nat) (pts:List (Int×Int)) (H':Hp) (v:V):Prop:=(∃ (z:Addr) (q:List Int),v = .ref z∧H' z=some (.tup (q.map V.int))∧IsP p k q∧pts.length+k≤2*hits p q pts∧∀ f,IsP p k f→pts.length+k≤2*hits p f pts→f=q)∨(v = .non∧∀ f,IsP p k f→¬ pts.length+k≤2*hits p f pts)
def zna (K:ag):Sp:=fun vs H Q _=>∃ (c tt r:Addr) (p:Int) (k:Nat) (pl:List Int) (rw:List (Option Int)),vs = [.ref c,.ref r]∧zbh H c tt p k pl∧H r=some (.lst (rw.map enc))∧rw.length=pl.length∧pl.length≤16∧p∈zm∧pl.Nodup∧(∀ x∈pl,0≤x∧x < p)∧(∀ z,some z∈rw→0≤z∧z < p)∧1≤k∧k≤100∧∀ v H',zt H H'→zpa p k (hps pl rw) H' v→Q v H'
theorem zbn:FnScope ["code","row","p","k","places","points","e","left","right","right_points","polynomial"] ["code","row"] (zh zeO):=⟨rfl,rfl,rfl,by decide +kernel,rfl,by decide +kernel,by decide +kernel⟩
theorem znb {fd:FuncData} (T:Txt K mg t) (F:Fun K "half" "half" zeO t.half fd):FnOk P w K mg base CX0 7 t.half fd ["code","row"] (zna K):=by
 obtain⟨fd_heard_points,F_heard_points,b_heard_points⟩:=T.f_heard_points
 have G_heard_points:=za3 (P:=P) (w:=w) (base:=base) T F_heard_points
 obtain⟨fd_locator_of,F_locator_of,b_locator_of⟩:=T.f_locator_of
 have G_locator_of:=zcT (P:=P) (w:=w) (base:=base) T F_locator_of
 obtain⟨fd_value_at,F_value_at,b_value_at⟩:=T.f_value_at
 have G_value_at:=zbR (P:=P) (w:=w) (base:=base) T F_value_at
 obtain⟨fd_through,F_through,b_through⟩:=T.f_through
 have G_through:=zcZ (P:=P) (w:=w) (base:=base) T F_through
 obtain⟨fd_fits,F_fits,b_fits⟩:=T.f_fits
 have G_fits:=zgx (P:=P) (w:=w) (base:=base) T F_fits
 refine F.ok zbn (fun vs H Q E h=>?_) (fun cdv A outer s H vs Q E hr h=>?_)
 ·obtain⟨c,tt,r,p,k,pl,rw,rfl,_⟩:=h
  rfl
 ·obtain⟨c,tt,r,p,k,pl,rw,rfl,hc,hra,hrl,hn,hp,hnd,hpl,hrw,k0,k1,q⟩:=h
  have q1:∀ (z:Addr) (qq:List Int) (H':Hp),zt H H'→H' z=some (.tup (qq.map V.int))→IsP p k qq→(hps pl rw).length+k≤2*hits p qq (hps pl rw)→(∀ f,IsP p k f→(hps pl rw).length+k≤2*hits p f (hps pl rw)→f=qq)→Q (.ref z) H':=fun z qq H' s a b c d=>q (.ref z) H' s (.inl ⟨z,qq,rfl,a,b,c,d⟩)
  have q2:∀ H',zt H H'→(∀ f,IsP p k f→¬ (hps pl rw).length+k≤2*hits p f (hps pl rw))→Q .non H':=fun H' s a=>q .non H' s (.inr ⟨rfl,a⟩)
  refine⟨_,#[zd,#[za8,#[pvx,0],#[zaU,#[zi,#[zg,2,zbn.nd,(bX rfl)],#[zi,#[zg,3,zbn.nd,(aq rfl)],#[zi,#[zg,4,zbn.nd,(aq rfl)],#[zJ]]]]]],by exact #[zd,#[zo,5,zbn.nd,(aq rfl),#[zr,G_heard_points,(hr.mono (by decide)),T.m_heard_points,F_heard_points.kp,b_heard_points,#[zG],#[za,#[pvx,0],#[za,#[pvx,1],#[ze]]]]],by exact #[zd,#[za8,#[zr,G_locator_of,(hr.mono (by decide)),T.m_locator_of,F_locator_of.kp,b_locator_of,#[zG],#[za,#[pvx,0],#[za,#[pvx,1],#[ze]]]],#[zaU,#[zi,#[zg,6,zbn.nd,(aq rfl)],#[zi,#[zg,7,zbn.nd,(bX rfl)],#[zi,#[zg,8,zbn.nd,(aq rfl)],#[zJ]]]]]],by exact #[zd,#[zaA,9,zbn.nd,(aq rfl),(CompSc.of (N':=["x","y","p","left"]) (ix:=[none,none,some 2,some 7]) (zh zeO) ["code","row","p","k","places","points","e","left","right","right_points","polynomial"] rfl rfl (by decide +kernel)),#[zaX,#[zw,#[zw,#[zav]]]],#[zS,#[pvx,5]],(fun _ _ _ _=>#[zaq,(K),2,#[zi,#[zg,0,(show (["x","y","p","left"]:List Str).Nodup by decide +kernel),(aq rfl)],#[zi,#[zg,1,(show (["x","y","p","left"]:List Str).Nodup by decide +kernel),(aq rfl)],#[zJ]]]]),(fun _ _ _ _=>#[zbq,#[zC,#[znj],#[zr,G_value_at,(hr.mono (by decide)),T.m_value_at,F_value_at.kp,b_value_at,#[zG],#[za,#[pvx,2],#[za,#[pvx,3],#[za,#[pvx,0],#[ze]]]]],#[zf],(zQ _)]]),(fun _ _ _ _=>#[zaG,#[za,#[pvx,0],#[za,#[pvx,1],#[ze]]]])],by exact #[zd,#[za6,#[zC,#[zfh],#[zA,#[zu],T.len_,b9,#[za,#[pvx,9],#[ze]]],#[pvx,3],(zQ _)],#[zn,#[zE,#[zbJ]]],#[zab]],by exact #[zd,#[zo,10,zbn.nd,(aq rfl),#[zr,G_through,(hr.mono (by decide)),T.m_through,F_through.kp,b_through,#[zG],#[za,#[pvx,2],#[za,#[zax,zba,#[pvx,9],#[za1],#[zaH,#[pvx,3]]],#[ze]]]]],by exact #[zd,#[za6,#[zC,#[zfh],#[zj,#[zZ],#[zf],#[zA,#[zu],T.len_,b9,#[za,#[zr,G_fits,(hr.mono (by decide)),T.m_fits,F_fits.kp,b_fits,#[zG],#[za,#[pvx,0],#[za,#[pvx,1],#[za,#[pvx,10],#[ze]]]]],#[ze]]]],#[zj,#[zO],#[zA,#[zu],T.len_,b9,#[za,#[pvx,5],#[ze]]],#[pvx,3]],(zQ _)],#[zn,#[zE,#[zbJ]]],#[zab]],by exact #[zn,#[zE,#[pvx,10]]]]]]]]]],?_⟩
  have hsl:=aV
  have rp:=zp hp
  have p0:0 < p:=by lia
  have hP:=zd7 hnd hpl hrw
  have hhl:=zbO pl rw
  have hR:RowAt K H r pl.length rw:=⟨SqL.of hra,hrl⟩
  refine⟨_,rfl,c,_,rfl,SqT.of hc.1,rfl,_,_,rfl,_,_,rfl,_,_,rfl,rfl,?_⟩
  refine⟨_,rfl,_,rfl,c,tt,r,p,k,pl,rw,rfl,hc,hR,by lia,fun l bs H1 hl1 s1 h1l hB=>?_⟩
  have hbl:bs.length=(hps pl rw).length:=hB.length
  have hc1:=hc.same s1
  refine⟨_,rfl,_,rfl,c,tt,r,p,k,pl,rw,rfl,hc1,s1 _ _ hra,hrl,hn,hp,hnd,hpl,hrw,k0,k1,fun z la rb e left right H2 s2 h2z h2l h2r he16 L=>?_⟩
  obtain⟨hright,hrev⟩:=L.ok (hps pl rw) (by simp)
  have hrt:right=szd (thr p (tmP p left (hps pl rw))) (k+e):=by
   have:=L.rt
   simpa using this
  rw [← hrt] at hright hrev
  have his:=fun (f:List Int) (hf:IsP p k f) (hh:(hps pl rw).length+k≤2*hits p f (hps pl rw))=>zm9 hp hP hf k0 hh L hright hrev
  refine⟨z,_,rfl,SqT.of h2z,rfl,_,_,rfl,_,_,rfl,_,_,rfl,rfl,?_⟩
  have h2p:=s2 _ _ h1l
  have hB2:=hB.same s2
  refine⟨_,rfl,l,rfl,⟨_,SqL.of h2p⟩,zT (n:=bs.length) (fun i ys H'=>zt H2 H'∧∃ us:List Addr,ys=us.map V.ref∧us.length≤i∧PtB H' us (zdl p left ((hps pl rw).take i))) ⟨fun _ _ e=>e,[],rfl,af _,.nil⟩ ?_ ?_ ?_ ?_⟩
  ·rintro i ys H3 hi ⟨s3,_⟩
   exact⟨_,.ref bs[i],SqL.of (s3 _ _ h2p),by rw [ah,am hi]; rfl⟩
  ·rintro ys H3 ⟨s3,_⟩
   exact⟨_,SqL.of (s3 _ _ h2p),by rw [ab]; exact af _⟩
  ·rintro i y ys H3 H4 hi ⟨s3,us,rfl,hul,hus⟩ ⟨rfl,hy⟩
   obtain⟨b,rfl,hb⟩:=zY (hy _ (SqL.of (s3 _ _ h2p)))
   obtain⟨pt,hpt,hat⟩:=Paired.get hB2 hb
   obtain⟨x0,x1,_⟩:=hP.rg pt (aB hpt)
   have hsn:zdl p left ((hps pl rw).take (i+1))=zdl p left ((hps pl rw).take i)++[pt].filter fun a=>decide (zl p a.1 left≠0):=by
    unfold zdl
    rw [take_snoc hpt,cq]
   refine⟨b,_,rfl,SqT.of (s3 _ _ hat),rfl,_,_,rfl,_,_,rfl,rfl,?_⟩
   refine⟨_,rfl,_,rfl,_,rfl,p,pt.1,la,left,rfl,.inr (SqT.of (s3 _ _ h2l)),p0,by lia,x0,x1,rfl,_,rfl,?_⟩
   by_cases h0:zl p pt.1 left=0
   ·refine zaI (fun h=>absurd h (by rw [h0]; simp)) (fun _=>?_)
    refine⟨s3,us,rfl,by lia,?_⟩
    rw [hsn,bT (by simp [h0]),fu,bO]
    exact hus
   ·refine zaI (fun _=>?_) (fun h=>absurd (by simpa using h0) h)
    refine⟨_,rfl,_,rfl,by show 2≤sizeLine; lia,fun w hw=>?_⟩
    refine⟨by rw [ab]; lia,s3.trans (zb hw),us++[w],by rw [ar]; rfl,by rw [ao]; exact eX hul,?_⟩
    rw [hsn,bS (by simp [h0]),fu]
    exact bI (hus.same (zb hw)) zc
  ·rintro ys H3 rpA ⟨s3,us,rfl,hul,hus⟩ hrpA
   rw [hbl,bo] at hus
   have t4:=zb (o:=.lst (us.map V.ref)) hrpA
   have h4r:upd H3 rpA (.lst (us.map V.ref)) rpA=some (.lst (us.map V.ref)):=zc
   have hus4:=hus.same t4
   have s4:=(s1.trans s2).trans (s3.trans t4)
   have s24:=s3.trans t4
   generalize upd H3 rpA (.lst (us.map V.ref))=H4 at t4 h4r hus4 s4 s24 ⊢
   have hrpl:=hus4.length
   refine⟨_,rfl,rpA,_,rfl,.inl (SqL.of h4r),_,rfl,_,_,rfl,rfl,_,rfl,?_⟩
   rw [ab]
   refine zaI (fun hlt=>?_) (fun hge=>?_)
   ·have hlt:=of_decide_eq_true hlt
    refine q2 H4 s4 fun f hf hh=>?_
    have:=(his f hf hh).1
    lia
   ·have hge:¬ (us.length:Int) < (k:Int):=fun h=>hge (decide_eq_true h)
    refine⟨_,rfl,_,rfl,_,rfl,_,rfl,rpA,_,rfl,SqL.of h4r,fun w hw=>?_⟩
    rw [zgv,← cX]
    have t5:=zb (o:=.lst ((us.take k).map V.ref)) hw
    have h5w:upd H4 w (.lst ((us.take k).map V.ref)) w=some (.lst ((us.take k).map V.ref)):=zc
    have hus5:=(hus4.same t5).take k
    generalize upd H4 w (.lst ((us.take k).map V.ref))=H5 at t5 h5w hus5 ⊢
    have hPk:Pts p ((zdl p left (hps pl rw)).take k):=hP.sub ((bU _ _).trans cQ)
    refine⟨p,w,_,rfl,hus5.pts h5w,by rw [aA]; lia,hp,(by rw [zja hPk]; exact hPk),(fun q hq=>by have:=hPk.rg q hq; lia),fun pz H6 hpz s6 h6=>?_⟩
    rw [zja hPk] at h6
    obtain⟨g1,g2,g3⟩:=zdo hp hPk
    have hqP:IsP p k (thr p ((zdl p left (hps pl rw)).take k)):=⟨by rw [g1,aA]; lia,g2⟩
    generalize hqq:thr p ((zdl p left (hps pl rw)).take k)=qq at h6 hqP
    have s46:=t5.trans s6
    have s06:=s4.trans s46
    refine⟨_,rfl,_,rfl,_,rfl,c,tt,r,pz,p,k,pl,qq,rw,rfl,hc.same s06,s06 _ _ hra,hrl,h6,by lia,by lia,hpl,by lia,fun fl H7 hfl s7 h7=>?_⟩
    refine⟨fl,_,rfl,.inl (SqL.of h7),_,_,rfl,rfl,.inl ⟨by decide,by decide⟩,_,rfl,l,_,rfl,.inl (SqL.of ((s24.trans (s46.trans s7)) _ _ h2p)),_,rfl,_,_,rfl,rfl,_,_,rfl,rfl,_,rfl,?_⟩
    have ef:((zdp p pl rw qq pl.length).map V.int).length=hits p qq (hps pl rw):=by rw [ab]; exact zgh hrl
    rw [ef,ab,hbl]
    refine zaI (fun hlt=>?_) (fun hge2=>?_)
    ·have hlt:=of_decide_eq_true hlt
     refine q2 H7 (s06.trans s7) fun f hf hh=>?_
     have e1:=(his f hf hh).2
     rw [hqq] at e1
     rw [e1] at hh
     lia
    ·have hge2:¬ 2*(hits p qq (hps pl rw):Int) < ((hps pl rw).length:Int)+(k:Int):=fun h=>hge2 (decide_eq_true h)
     refine⟨_,rfl,q1 pz qq H7 (s06.trans s7) (s7 _ _ h6) hqP (by lia) fun f hf hh=>?_⟩
     rw [← hqq]
     exact (his f hf hh).2
end
end My
end
section
namespace My
open PySem L2 PyProof.Rows
section
variable {P:Program} {w:World} {K:ag} {mg:Str→Option Value} {base:Heap} {t:Adr}
def pwr (p x:Int) (kept n:Nat):List Int:=(aL kept).map fun u=>cf x n u % p
def pws (p x:Int) (kept n:Nat):List (List Int):=(aL n).map (pwr p x kept)
theorem zeS (p x:Int) (kept n:Nat):pws p x kept (n+1)=pws p x kept n++[pwr p x kept n]:=by
 unfold pws
 rw [cC,ar]
 rfl
theorem zbg (p x:Int) (kept n:Nat):(pwr p x kept n).length=kept:=by unfold pwr; rw [ab,aT]
theorem zeT {p x:Int} {kept n u:Nat} (h:u < kept):gl (pwr p x kept n) u=cf x n u % p:=zbP (by unfold pwr; rw [ah,bZ h]; rfl)
theorem zlR {p x:Int} {kept n:Nat}:(zbA p (-x) (pwr p x kept n)).take kept=pwr p x kept (n+1):=by
 refine zlb (by rw [aA,zbH,zbg,zbg]; lia) fun u hu=>?_
 have hu:u < kept:=by rw [aA,zbH,zbg] at hu; lia
 rw [zeT hu]
 have e1:gl ((zbA p (-x) (pwr p x kept n)).take kept) u=gl (zbA p (-x) (pwr p x kept n)) u:=by
  unfold gl
  rw [aM,aM,bD hu]
 rw [e1]
 unfold zbA
 rw [zla (by rw [aX,zbg]; lia) (by rw [ao,zbg]; simp; lia)]
 have e2:gl (pwr p x kept n++[0]) u=cf x n u % p:=by
  rw [← zeT hu]
  unfold gl
  rw [aM,aM,bp (by rw [zbg]; exact hu)]
 rw [e2]
 show (_ - (-x)*_) % p=_
 cases u with
 | zero =>
  show (0 - (-x)*(cf x n 0 % p)) % p=cf x (n+1) 0 % p
  rw [zgq,zgq,fF]
  refine Cg.mod_eq ?_
  refine (((Cg.refl p 0).sub ((Cg.refl p (-x)).mul (Cg.emod p _)))).trans (Cg.of_eq (by grind))
 | succ u =>
  have e3:gl (0 :: pwr p x kept n) (u+1)=cf x n u % p:=by
   rw [← zeT (show u < kept by lia)]
   unfold gl
   simp
  rw [e3,zmX]
  refine Cg.mod_eq ?_
  refine ((Cg.emod p _).sub ((Cg.refl p (-x)).mul (Cg.emod p _))).trans (Cg.of_eq (by grind))
theorem zlS {p x:Int} (hp:1 < p) {kept:Nat} (hk:1≤kept):pwr p x kept 0=1 :: ap (kept - 1) 0:=by
 refine zlb (by rw [zbg,aX,aQ]; lia) fun u hu=>?_
 rw [zbg] at hu
 rw [zeT hu]
 cases u with
 | zero =>
  rw [zgq,jI]
  show (1:Int) % p=1
  exact ck (by decide) hp
 | succ u =>
  have e:cf x 0 (u+1)=0:=by show (0:Int)*_=0; simp
  rw [e,Int.zero_emod]
  unfold gl
  rw [aM,cr,cK,if_pos (by lia)]
  rfl
def zdS (K:ag):Sp:=fun vs H Q _=>∃ (p x:Int) (most kept:Nat),vs = [.int p,.int x,.int (most:Int),.int (kept:Int)]∧5≤p∧p≤97∧0≤x∧x < p∧most≤500∧1≤kept∧kept≤100 ∧
 ∀ (l:Addr) (ls:List Addr) (H':Hp),H l=none→zt H H'→H' l=some (.lst (ls.map V.ref))→LsA H' ls (pws p x kept (most+1))→Q (.ref l) H'
theorem zby:FnScope ["p","by","most","kept","powers","power"] ["p","by","most","kept"] (zh zbe):=⟨rfl,rfl,rfl,by decide +kernel,rfl,by decide +kernel,by decide +kernel⟩
theorem zdT {fd:FuncData} (T:Txt K mg t) (F:Fun K "moved_powers" "moved_powers" zbe t.moved_powers fd):FnOk P w K mg base CX0 2 t.moved_powers fd ["p","by","most","kept"] (zdS K):=by
 obtain⟨fd_times_root,F_times_root,b_times_root⟩:=T.f_times_root
 have G_times_root:=zcS (P:=P) (w:=w) (base:=base) T F_times_root
 refine F.ok zby (fun vs H Q E h=>?_) (fun cdv A outer s H vs Q E hr h=>?_)
 ·obtain⟨p,x,most,kept,rfl,_⟩:=h
  rfl
 ·obtain⟨p,x,most,kept,rfl,p5,p97,x0,x1,hm,k1,k2,q⟩:=h
  refine⟨_,#[zd,#[zo,4,zby.nd,(aq rfl),#[zX,#[za,#[zj,#[zb9],#[zX,#[za,#[zf],#[ze]]],#[zj,#[zfT],#[zX,#[za,#[zf],#[ze]]],#[zj,#[zaV],#[pvx,3],#[zf]]]],#[ze]]]],by exact #[zd,#[za9,bA,#[zai,T.range_,#[za,#[pvx,2],#[ze]]],#[zg,5,zby.nd,(aq rfl)],#[zn,#[zcw,#[zfo,cL,du,dv,#[zb2],#[pvx,4],#[za,#[zax,zba,#[zr,G_times_root,(hr.mono (by decide)),T.m_times_root,F_times_root.kp,b_times_root,#[zG],#[za,#[pvx,0],#[za,#[zM,#[zK],#[pvx,4],#[zkf,zhH,#[zf]]],#[za,#[zkf,zhH,#[pvx,1]],#[ze]]]]],#[za1],#[zaH,#[pvx,3]]],#[ze]]]]]],by exact #[zn,#[zE,#[pvx,4]]]]],?_⟩
  have hsl:=aV
  refine⟨by show 1≤sizeLine; lia,fun A1 hA1=>?_⟩
  have u1:=zb (o:=.lst [V.int 1]) hA1
  have v1:upd H A1 (.lst [V.int 1]) A1=some (.lst [V.int 1]):=zc
  generalize upd H A1 (.lst [V.int 1])=H1 at u1 v1 ⊢
  refine⟨by show 1≤sizeLine; lia,fun A2 hA2=>?_⟩
  have u2:=u1.trans (zb (o:=.lst [V.int 0]) hA2)
  have v12:=(zb (o:=.lst [V.int 0]) hA2) _ _ v1
  have v2:upd H1 A2 (.lst [V.int 0]) A2=some (.lst [V.int 0]):=zc
  generalize upd H1 A2 (.lst [V.int 0])=H2 at u2 v12 v2 ⊢
  have ek:((kept:Int) - 1).toNat=kept - 1:=by lia
  refine⟨_,rfl,_,_,rfl,rfl,A2,_,_,rfl,rfl,v2,by lia,by lia,by rw [ek]; show 1*(kept - 1)≤sizeLine; lia,fun A3 hA3=>?_⟩
  rw [ek,List.flatten_replicate_singleton]
  have w3:=zb (o:=.lst (ap (kept - 1) (V.int 0))) hA3
  have v13:=w3 _ _ v12
  have v3:upd H2 A3 (.lst (ap (kept - 1) (V.int 0))) A3=some (.lst (ap (kept - 1) (V.int 0))):=zc
  have u3:=u2.trans w3
  generalize upd H2 A3 (.lst (ap (kept - 1) (V.int 0)))=H3 at u3 v13 v3 ⊢
  refine⟨A1,A3,_,_,rfl,rfl,v13,v3,by rw [aQ]; show 1+(kept - 1)≤sizeLine; lia,fun A4 hA4=>?_⟩
  have ez:[V.int 1]++ap (kept - 1) (V.int 0)=(pwr p x kept 0).map V.int:=by rw [zlS (by lia) k1,aU,List.map_replicate]; rfl
  rw [ez]
  have u4:=u3.trans (zb (o:=.lst ((pwr p x kept 0).map V.int)) hA4)
  have v4:upd H3 A4 (.lst ((pwr p x kept 0).map V.int)) A4=some (.lst ((pwr p x kept 0).map V.int)):=zc
  generalize upd H3 A4 (.lst ((pwr p x kept 0).map V.int))=H4 at u4 v4 ⊢
  refine⟨by show 1≤sizeLine; lia,fun PW hPW=>?_⟩
  have sw:=zb (o:=.lst [V.ref A4]) hPW
  have emt:((most:Int)).toNat=most:=by lia
  refine⟨_,rfl,_,rfl,by lia,by lia,zcx (lo:=0) (n:=((most:Int)).toNat) (fun i σ H'=>∃ (e5:Option V),σ = [some (.int p),some (.int x),some (.int (most:Int)),some (.int (kept:Int)),some (.ref PW),e5]∧zt H H'∧∃ ls:List Addr,H' PW=some (.lst (ls.map V.ref))∧LsA H' ls (pws p x kept (i+1))) ⟨none,rfl,u4.trans sw,[A4],zc,.cons (sw _ _ v4) .nil⟩ ?_ ?_⟩
  ·rintro i σ H5 hi ⟨e5,rfl,s5,ls,h5,hls⟩
   have hll:ls.length=i+1:=by rw [be hls]; unfold pws; rw [ab,aT]
   rw [zeS] at hls
   obtain⟨ls',b,rfl⟩:∃ ls' b,ls=ls'++[b]:=⟨_,_,(List.dropLast_concat_getLast (l:=ls) (fun e=>by rw [e] at hll; simp at hll)).symm⟩
   obtain⟨hA,hB⟩:=zdK hls
   have hat:atI ((ls'++[b]).map V.ref) (-1)=some (.ref b):=by rw [ar]; exact zm3
   refine⟨_,rfl,.inl ⟨rfl,_,SqL.of h5⟩,_,rfl,_,rfl,_,rfl,PW,_,_,_,rfl,rfl,SqL.of h5,hat,_,rfl,_,rfl,p,-x,b,_,rfl,hB,by rw [zbg]; lia,by lia,by lia,by lia,fun l H6 hl s6 h6=>?_⟩
   refine⟨_,rfl,_,rfl,l,_,rfl,SqL.of h6,fun z hz=>?_⟩
   have ec:zaW ((zbA p (-x) (pwr p x kept i)).map V.int) none (some (kept:Int))=(pwr p x kept (i+1)).map V.int:=by
    unfold zaW
    rw [HT.sIx_nat,HT.sIx_none,da,ed,ab,zbH,zbg,cp (by lia),← cX,zlR]
   rw [ec]
   have sz:=zb (o:=.lst ((pwr p x kept (i+1)).map V.int)) hz
   have h6P:=s6 _ _ h5
   have h7P:=sz _ _ h6P
   have zP:z≠PW:=(zy h6P hz).symm
   refine⟨PW,_,_,rfl,rfl,h7P,by rw [ab,hll]; lia,?_⟩
   refine⟨_,rfl,zac ((s5.trans s6).trans sz) (u4.free hPW),(ls'++[b])++[z],by rw [zc]; simp,?_⟩
   rw [zeS]
   refine bI (zoq (D:=PW) (fun hm=>?_) (fun c o hc e=>by rw [zq hc]; exact e) (LsA.same (s6.trans sz) (by rw [zeS]; exact hls))) (by rw [zq zP]; exact zc)
   obtain⟨j,hj⟩:=cF.mp hm
   exact LsA.off hls h5 j PW hj rfl
  ·rintro σ H5 ⟨e5,rfl,s5,ls,h5,hls⟩
   rw [emt] at hls
   exact⟨_,rfl,q PW ls _ (u4.free hPW) s5 h5 hls⟩
def tI (t:Tm):Int×Int:=((t.1:Int),(t.2:Int))
theorem zjc {ns:List Nat} {M:Int} (hM:M∈ns.map fun n:Nat=>(n:Int)) (hM':∀ a∈ns.map (fun n:Nat=>(n:Int)),a≤M):∃ m:Nat,M=m∧m∈ns∧∀ n∈ns,n≤m:=by
 obtain⟨m,hm,rfl⟩:=aE.mp hM
 refine⟨m,rfl,hm,fun n hn=>?_⟩
 have:=hM' _ (aE.mpr ⟨n,hn,rfl⟩)
 lia
theorem zjd {K:ag} {H:Hp} {tl:Addr} {bs:List Addr} {ts:List Tm} (htl:H tl=some (.lst (bs.map V.ref))) (hpt:PtB H bs (ts.map tI)) (hlen:ts.length≤200) {g:TG} {tt:TT} {te:TE} {σ0:L2.St} {Q:VK} (f:Tm→Int)
  (hs:∀ (T:Addr) (t:Tm) (R:VK) (B:L2.St→Hp→Prop),t∈ts→SqT K H T [.int (t.1:Int),.int (t.2:Int)]→R (.int (f t)) H→g (.ref T) σ0 H fun σ2 H2=>tt σ2 H2 fun b H3=>if b=true then te σ2 H3 R else B σ2 H3)
  (hd:∀ D,H D=none→Q (.ref D) (upd H D (.lst ((ts.map f).map V.int)))):cGo g tt te σ0 (Itl K tl) Q H:=by
 have hbl:bs.length=ts.length:=by rw [be hpt,ab]
 refine zcA (fs:=(ts.map f).map V.int) (SqL.of htl) (by rw [ab,ab,ab,hbl]) (by rw [ab]; lia) (fun i x y R B hx hy hR=>?_) hd
 obtain⟨b,rfl,hbi⟩:=zY hx
 obtain⟨q,hq,hT⟩:=Paired.get hpt hbi
 rw [ah] at hq
 obtain⟨t,ht,rfl⟩:=fV.mp hq
 rw [ah,ah,ht] at hy
 have hy:V.int (f t)=y:=by simpa using hy
 subst hy
 exact hs b t R B (aB ht) (SqT.of hT) hR
def nAt (t:Tm) (x y p:Int) (w m:Nat):List Int:=(aL m).flatMap fun u=>(aL (w - u)).map fun v=>cv t ⟨x,y,u,v⟩ % p
theorem zhB (t:Tm) (x y p:Int) (w m:Nat):nAt t x y p w (m+1)=nAt t x y p w m++(aL (w - m)).map fun v=>cv t ⟨x,y,m,v⟩ % p:=by
 unfold nAt
 rw [cC,cP]
 simp
theorem znc (t:Tm) (x y p:Int) (w:Nat):nAt t x y p w w=(pco (x,y,w)).map fun c=>cv t c % p:=by
 unfold nAt pco
 rw [ka]
 congr 1
 funext u
 rw [bv]
 rfl
theorem zje (t:Tm) (x y p:Int) (w:Nat):∀ m,(nAt t x y p w m).length≤w*m
 | 0=>by simp [nAt]
 | m+1=>by
  have ih:=zje t x y p w m
  rw [zhB,ao,ab,aT,Nat.mul_succ]
  lia
theorem zlT {H:Hp} {l:Addr} {ls:List Addr} {p x:Int} {w n i u:Nat} (h:LsA H ls (pws p x w n)) (hi:i < n) (hu:u < w):∃ b,atI (ls.map V.ref) (i:Int)=some (.ref b)∧H b=some (.lst ((pwr p x w i).map V.int))∧atI ((pwr p x w i).map V.int) (u:Int)=some (.int (cf x i u % p)):=by
 have hl:ls.length=n:=by rw [be h]; unfold pws; rw [ab,aT]
 have hb:ls[i]? = some (ls[i]'(by lia)):=am (by lia)
 obtain⟨v,hv,hvb⟩:=Paired.get h hb
 unfold pws at hv
 rw [ah,bZ hi] at hv
 cases hv
 refine⟨_,zaR (by rw [ah,hb]; rfl),hvb,zaR ?_⟩
 rw [ah,zbi (by rw [zbg]; exact hu),zeT hu]
 rfl
def ze7 (K:ag):Sp:=fun vs H Q _=>∃ (p:Int) (tl pt:Addr) (x y:Int) (w:Nat) (bs:List Addr) (ts:List Tm),vs = [.int p,.ref tl,.ref pt]∧5≤p∧p≤97∧0≤x∧x < p∧0≤y∧y < p∧1≤w∧w≤9∧H tl=some (.lst (bs.map V.ref))∧PtB H bs (ts.map tI)∧ts≠[]∧ts.length≤200∧(∀ t∈ts,t.1≤400∧t.2≤400)∧H pt=some (.tup [.int x,.int y,.int (w:Int)]) ∧
 ∀ (l:Addr) (ls:List Addr) (H':Hp),H l=none→zt H H'→H' l=some (.lst (ls.map V.ref))→LsA H' ls (ts.map fun t=>(pco (x,y,w)).map fun c=>cv t c % p)→Q (.ref l) H'
theorem zaF:FnScope ["p","terms","point","x","y","weight","by_x","by_y"] ["p","terms","point"] (zh zaB):=⟨rfl,rfl,rfl,by decide +kernel,rfl,by decide +kernel,by decide +kernel⟩
theorem ze8 {fd:FuncData} (T:Txt K mg t) (F:Fun K "numbers_at" "numbers_at" zaB t.numbers_at fd):FnOk P w K mg base CX0 3 t.numbers_at fd ["p","terms","point"] (ze7 K):=by
 obtain⟨fd_moved_powers,F_moved_powers,b_moved_powers⟩:=T.f_moved_powers
 have G_moved_powers:=zdT (P:=P) (w:=w) (base:=base) T F_moved_powers
 refine F.ok zaF (fun vs H Q E h=>?_) (fun cdv A outer s H vs Q E hr h=>?_)
 ·obtain⟨p,tl,pt,x,y,wt,bs,ts,rfl,_⟩:=h
  rfl
 ·obtain⟨p,tl,pt,x,y,wt,bs,ts,rfl,p5,p97,x0,x1,y0,y1,w1,w9,htl,hpt,hne,hlen,hts,hp,q⟩:=h
  refine⟨_,#[zd,#[za8,#[pvx,2],#[zaU,#[zi,#[zg,3,zaF.nd,(aq rfl)],#[zi,#[zg,4,zaF.nd,(aq rfl)],#[zi,#[zg,5,zaF.nd,(bX rfl)],#[zJ]]]]]],by exact #[zd,#[zo,6,zaF.nd,(bX rfl),#[zr,G_moved_powers,(hr.mono (by decide)),T.m_moved_powers,F_moved_powers.kp,b_moved_powers,#[zG],#[za,#[pvx,0],by exact #[za,#[pvx,3],#[za,#[zA,#[zdx],T.max_,boot_max,#[za,#[z0,(CompSc.of (N':=["i","j"]) (ix:=[none,none]) (zh zaB) ["p","terms","point","x","y","weight","by_x","by_y"] rfl rfl (by decide +kernel)),#[zaX,#[zw,#[zw,#[zav]]]],#[zS,#[pvx,1]],(fun _ _ _ _=>#[zaq,(K),2,#[zi,#[zg,0,(show (["i","j"]:List Str).Nodup by decide +kernel),(aq rfl)],#[zi,#[zg,1,(show (["i","j"]:List Str).Nodup by decide +kernel),(aq rfl)],#[zJ]]]]),(fun _ _ _ _=>#[zB]),(fun _ _ _ _=>#[pvx,0])],#[ze]]],#[za,#[pvx,5],#[ze]]]]]]],by exact #[zd,#[zo,7,zaF.nd,(bX rfl),#[zr,G_moved_powers,(hr.mono (by decide)),T.m_moved_powers,F_moved_powers.kp,b_moved_powers,#[zG],#[za,#[pvx,0],by exact #[za,#[pvx,4],#[za,#[zA,#[zdx],T.max_,boot_max,#[za,#[z0,(CompSc.of (N':=["i","j"]) (ix:=[none,none]) (zh zaB) ["p","terms","point","x","y","weight","by_x","by_y"] rfl rfl (by decide +kernel)),#[zaX,#[zw,#[zw,#[zav]]]],#[zS,#[pvx,1]],(fun _ _ _ _=>#[zaq,(K),2,#[zi,#[zg,0,(show (["i","j"]:List Str).Nodup by decide +kernel),(aq rfl)],#[zi,#[zg,1,(show (["i","j"]:List Str).Nodup by decide +kernel),(aq rfl)],#[zJ]]]]),(fun _ _ _ _=>#[zB]),(fun _ _ _ _=>#[pvx,1])],#[ze]]],#[za,#[pvx,5],#[ze]]]]]]],by exact #[zn,#[zE,#[z0,(CompSc.of (N':=["i","j","weight","by_x","by_y","p"]) (ix:=[none,none,some 5,some 6,some 7,some 0]) (zh zaB) ["p","terms","point","x","y","weight","by_x","by_y"] rfl rfl (by decide +kernel)),#[zaX,#[zw,#[zw,#[zav]]]],#[zS,#[pvx,1]],(fun _ _ _ _=>#[zaq,(K),2,#[zi,#[zg,0,(show (["i","j","weight","by_x","by_y","p"]:List Str).Nodup by decide +kernel),(bX rfl)],#[zi,#[zg,1,(show (["i","j","weight","by_x","by_y","p"]:List Str).Nodup by decide +kernel),(bX rfl)],#[zJ]]]]),(fun _ _ _ _=>#[zB]),(fun _ _ _ _=>#[ziQ,(CompSc.of (N':=["u","v","by_x","i","by_y","j","p","weight"]) (ix:=[none,none,some 3,some 0,some 4,some 1,some 5,some 2]) ({ kind:=.function,names:=[(".0",.local),("i",.cell),("j",.cell),("range",.globalImplicit),("by_x",.cell),("by_y",.cell),("p",.cell),("weight",.cell)],isGenerator:=false,isCoroutine:=false }) ["i","j","weight","by_x","by_y","p"] (by with_unfolding_all rfl) rfl (by decide +kernel)),(zcy (js:=[0]) (i:=0) (by decide)),(zcy (js:=[1]) (i:=1) (by decide)),#[zai,T.range_,#[za,#[pvx,2],#[ze]]],(fun _ _ _ _=>#[zg,0,(show (["u","v","by_x","i","by_y","j","p","weight"]:List Str).Nodup by decide +kernel),(aq rfl)]),(fun _ _ _ _=>#[zB]),(fun _ _ _ _=>#[zai,T.range_,#[za,#[zj,#[zaV],#[pvx,7],#[pvx,0]],#[ze]]]),(fun _ _ _ _=>#[zg,1,(show (["u","v","by_x","i","by_y","j","p","weight"]:List Str).Nodup by decide +kernel),(aq rfl)]),(fun _ _ _ _=>#[zB]),(fun _ _ _ _=>#[zj,#[zH],#[zj,#[zZ],#[zM,#[zbr,(K)],#[zM,#[zbr,(K)],#[pvx,2],#[pvx,3]],#[pvx,0]],#[zM,#[zbr,(K)],#[zM,#[zbr,(K)],#[pvx,4],#[pvx,5]],#[pvx,1]]],#[pvx,6]]),(by intros; rfl)])]]]]]],?_⟩
  have hsl:=aV
  have hbl:bs.length=ts.length:=by rw [be hpt,ab]
  refine⟨_,rfl,pt,_,rfl,SqT.of hp,rfl,_,_,rfl,_,_,rfl,_,_,rfl,rfl,?_⟩
  refine⟨_,rfl,_,rfl,_,rfl,tl,rfl,⟨_,SqL.of htl⟩,zjd htl hpt hlen (fun t=>(t.1:Int)) (fun T t R B ht hT hR=>gY2 hT ⟨_,rfl,hR⟩) fun D hD=>?_⟩
  refine⟨D,ts.map fun t=>(t.1:Int),rfl,SqL.of zc,by simpa using hne,fun M hM hM'=>?_⟩
  obtain⟨mx,rfl,mx1,mx2⟩:=zjc (ns:=ts.map (·.1)) (by rw [bv]; exact hM) (by rw [bv]; exact hM')
  have mx4:mx≤400:=by obtain⟨t,ht,rfl⟩:=aE.mp mx1; exact (hts t ht).1
  have s0:=zb (o:=.lst ((ts.map fun t:Tm=>(t.1:Int)).map V.int)) hD
  generalize upd H D (.lst ((ts.map fun t:Tm=>(t.1:Int)).map V.int))=H0 at s0 ⊢
  refine⟨_,rfl,p,x,mx,wt,rfl,p5,p97,x0,x1,by lia,w1,by lia,fun l1 ls1 H1 hl1 s1 h1 g1=>?_⟩
  have s01:=s0.trans s1
  refine⟨_,rfl,_,rfl,_,rfl,tl,rfl,⟨_,SqL.of (s01 _ _ htl)⟩,zjd (s01 _ _ htl) (hpt.same s01) hlen (fun t=>(t.2:Int)) (fun T t R B ht hT hR=>gY2 hT ⟨_,rfl,hR⟩) fun D2 hD2=>?_⟩
  refine⟨D2,ts.map fun t=>(t.2:Int),rfl,SqL.of zc,by simpa using hne,fun M hM hM'=>?_⟩
  obtain⟨my,rfl,my1,my2⟩:=zjc (ns:=ts.map (·.2)) (by rw [bv]; exact hM) (by rw [bv]; exact hM')
  have my4:my≤400:=by obtain⟨t,ht,rfl⟩:=aE.mp my1; exact (hts t ht).2
  have s2:=zb (o:=.lst ((ts.map fun t:Tm=>(t.2:Int)).map V.int)) hD2
  generalize upd H1 D2 (.lst ((ts.map fun t:Tm=>(t.2:Int)).map V.int))=H2 at s2 ⊢
  refine⟨_,rfl,p,y,my,wt,rfl,p5,p97,y0,y1,by lia,w1,by lia,fun l2 ls2 H3 hl2 s3 h3 g3=>?_⟩
  have s13:=s2.trans s3
  have sA:=s01.trans s13
  have h1:=s13 _ _ h1
  have g1:=g1.same s13
  refine⟨_,rfl,tl,rfl,⟨_,SqL.of (sA _ _ htl)⟩,zT (n:=ts.length) (fun m ys H'=>zt H3 H'∧∃ us:List Addr,ys=us.map V.ref∧LsA H' us ((ts.take m).map fun t=>(pco (x,y,wt)).map fun c=>cv t c % p)) ⟨fun _ _ e=>e,[],rfl,.nil⟩ ?_ ?_ ?_ ?_⟩
  ·rintro m ys H4 hm ⟨s4,_⟩
   exact⟨_,.ref (bs[m]'(by lia)),SqL.of ((sA.trans s4) _ _ htl),by rw [ah,am (by lia)]; rfl⟩
  ·rintro ys H4 ⟨s4,_⟩
   exact⟨_,SqL.of ((sA.trans s4) _ _ htl),by rw [ab]; lia⟩
  ·rintro m z ys H4 H5 hm ⟨s4,us,rfl,hus⟩ ⟨rfl,hx⟩
   have sA4:=sA.trans s4
   obtain⟨b,rfl,hbm⟩:=zY (hx _ (SqL.of (sA4 _ _ htl)))
   obtain⟨q',hq',hT⟩:=Paired.get (hpt.same sA4) hbm
   rw [ah] at hq'
   obtain⟨t,ht,rfl⟩:=fV.mp hq'
   have htm:=aB ht
   have hz:us.length=m:=by rw [be hus,ab,aA]; lia
   have t1:t.1 < mx+1:=hJ (mx2 _ (aE.mpr ⟨t,htm,rfl⟩))
   have t2:t.2 < my+1:=hJ (my2 _ (aE.mpr ⟨t,htm,rfl⟩))
   have h4x:=s4 _ _ h1
   have h4y:=s4 _ _ h3
   have g4x:=g1.same s4
   have g4y:=g3.same s4
   refine gY2 (SqT.of hT) ?_
   have ew:((wt:Int)).toNat=wt:=by lia
   refine⟨_,rfl,_,rfl,by lia,by lia,?_⟩
   rw [ew]
   refine zfC (n:=wt) (fun u ys H'=>H'=H5∧ys=(nAt t x y p wt u).map V.int) ⟨rfl,rfl⟩ (fun i ys H' hi _=>hi) (fun ys H' _=>af _) ?_ ?_
   ·rintro u xx ys H6 H7 hu ⟨rfl,rfl⟩ ⟨rfl,rfl⟩
    rw [show ((0:Int)+(u:Int))=(u:Int) from dw _]
    refine gY ?_
    have ewu:((wt:Int) - (u:Int)).toNat=wt - u:=by lia
    refine⟨_,rfl,_,rfl,_,_,rfl,rfl,_,rfl,by lia,by lia,?_⟩
    rw [ewu]
    refine zfC (n:=wt - u) (fun v ys H'=>H'=H7∧ys=(nAt t x y p wt u++(aL v).map fun v=>cv t ⟨x,y,u,v⟩ % p).map V.int) ⟨rfl,by simp⟩ (fun i ys H' hi _=>hi) (fun ys H' _=>af _) ?_ ?_
    ·rintro v yy ys H8 H9 hv ⟨rfl,rfl⟩ ⟨rfl,rfl⟩
     rw [show ((0:Int)+(v:Int))=(v:Int) from dw _]
     obtain⟨bx,ax1,ax2,ax3⟩:=zlT (l:=l1) g4x t1 hu
     obtain⟨b2,ay1,ay2,ay3⟩:=zlT (l:=l2) g4y t2 (show v < wt by lia)
     have r0:=aH (cf x t.1 u) (show p≠0 by lia)
     have r1:=aC (cf x t.1 u) (show 0 < p by lia)
     have nl:=zje t x y p wt u
     have nm:wt*u≤9*9:=kC (by lia) (by lia)
     refine gY ?_
     refine⟨_,rfl,_,rfl,l1,_,_,_,rfl,rfl,SqL.of h4x,ax1,_,rfl,bx,_,_,_,rfl,rfl,SqL.of ax2,ax3,_,rfl,_,rfl,l2,_,_,_,rfl,rfl,SqL.of h4y,ay1,_,rfl,b2,_,_,_,rfl,rfl,SqL.of ay2,ay3,_,_,rfl,rfl,.inl ⟨by lia,by lia⟩,_,rfl,_,_,rfl,rfl,by lia,?_⟩
     refine⟨by rw [ab,ao,ab,aT]; lia,rfl,?_⟩
     rw [cC,ar,ar,ar,ar,a8]
     have:cf x t.1 u % p*(cf y t.2 v % p) % p=cv t ⟨x,y,u,v⟩ % p:=by unfold cv; rw [← Int.mul_emod]
     show _++(_++[V.int (cf x t.1 u % p*(cf y t.2 v % p) % p)])=_
     rw [this]
     rfl
    ·rintro ys H8 ⟨rfl,rfl⟩
     refine⟨rfl,?_⟩
     rw [zhB]
   ·rintro ys H6 ⟨rfl,rfl⟩ D3 hD3
    refine⟨by rw [ab]; lia,s4.trans (zb hD3),us++[D3],by simp,?_⟩
    rw [take_snoc ht,ar]
    refine bI (hus.same (zb hD3)) ?_
    rw [zc,znc]
  ·rintro ys H4 D3 ⟨s4,us,rfl,hus⟩ hD3
   rw [aK (af _)] at hus
   have sf:=sA.trans s4
   exact q D3 us _ (sf.free hD3) (sf.trans (zb hD3)) zc (hus.same (zb hD3))
def W3 (H:Hp):List Addr→List (Int×Int×Nat)→Prop:=Paired fun b q=>H b=some (.tup [.int q.1,.int q.2.1,.int (q.2.2:Int)])
theorem W3.same {H H':Hp} (s:zt H H') {bs:List Addr} {pts:List (Int×Int×Nat)} (h:W3 H bs pts):W3 H' bs pts:=cI (fun _ _ z=>s _ _ z) h
def zlU (p:Int) (pts:List (Int×Int×Nat)):Prop:=∀ q∈pts,0≤q.1∧q.1 < p∧0≤q.2.1∧q.2.1 < p∧1≤q.2.2∧q.2.2≤9
theorem zlV {p:Int} {pts:List (Int×Int×Nat)} {q:Int×Int×Nat} {t:Tm}:zaK p (pts++[q]) t=zaK p pts t++(pco q).map fun c=>cv t c % p:=by
 unfold zaK cos
 rw [cP,ar]
 simp
theorem zos {pts:List (Int×Int×Nat)} (i:Nat):(cos (pts.take i)).length≤(cos pts).length:=by
 conv=>rhs; rw [← b8 i pts]
 unfold cos
 rw [cP,ao]
 lia
def ze9 (K:ag):Sp:=fun vs H Q _=>∃ (p:Int) (tl pl:Addr) (bs cs:List Addr) (ts:List Tm) (pts:List (Int×Int×Nat)),vs = [.int p,.ref tl,.ref pl]∧5≤p∧p≤97∧H tl=some (.lst (bs.map V.ref))∧PtB H bs (ts.map tI)∧ts≠[]∧ts.length≤200∧(∀ t∈ts,t.1≤400∧t.2≤400)∧H pl=some (.lst (cs.map V.ref))∧W3 H cs pts∧zlU p pts∧(cos pts).length≤800∧pts.length≤1000 ∧
 ∀ (l:Addr) (ls:List Addr) (H':Hp),H l=none→zt H H'→H' l=some (.lst (ls.map V.ref))→LsA H' ls (ts.map (zaK p pts))→Q (.ref l) H'
theorem zbo:FnScope ["p","terms","points","vectors","point"] ["p","terms","points"] (zh zaS):=⟨rfl,rfl,rfl,by decide +kernel,rfl,by decide +kernel,by decide +kernel⟩
theorem zfa {fd:FuncData} (T:Txt K mg t) (F:Fun K "vectors_of" "vectors_of" zaS t.vectors_of fd):FnOk P w K mg base CX0 4 t.vectors_of fd ["p","terms","points"] (ze9 K):=by
 obtain⟨fd_numbers_at,F_numbers_at,b_numbers_at⟩:=T.f_numbers_at
 have G_numbers_at:=ze8 (P:=P) (w:=w) (base:=base) T F_numbers_at
 refine F.ok zbo (fun vs H Q E h=>?_) (fun cdv A outer s H vs Q E hr h=>?_)
 ·obtain⟨p,tl,pl,bs,cs,ts,pts,rfl,_⟩:=h
  rfl
 ·obtain⟨p,tl,pl,bs,cs,ts,pts,rfl,p5,p97,htl,hpt,hne,hlen,hts,hpl,hcs,hg,hL,hn,q⟩:=h
  refine⟨_,#[zd,#[zaA,3,zbo.nd,(aq rfl),(CompSc.of (N':=["term"]) (ix:=[none]) (zh zaS) ["p","terms","points","vectors","point"] rfl rfl (by decide +kernel)),#[zap],#[zS,#[pvx,1]],(fun _ _ _ _=>#[zg,0,(show (["term"]:List Str).Nodup by decide +kernel),(aq rfl)]),(fun _ _ _ _=>#[zB]),(fun _ _ _ _=>#[zX,#[ze]])],by exact #[zd,#[za9,bA,#[zS,#[pvx,2]],#[zg,4,zbo.nd,(aq rfl)],#[zn,#[zaA,3,zbo.nd,(aq rfl),(CompSc.of (N':=["vector","numbers"]) (ix:=[none,none]) (zh zaS) ["p","terms","points","vectors","point"] rfl rfl (by decide +kernel)),#[zaX,#[zw,#[zw,#[zav]]]],#[zdX,T.zip_,#[za,#[pvx,3],#[za,#[zr,G_numbers_at,(hr.mono (by decide)),T.m_numbers_at,F_numbers_at.kp,b_numbers_at,#[zG],#[za,#[pvx,0],#[za,#[pvx,1],#[za,#[pvx,4],#[ze]]]]],#[ze]]]],(fun _ _ _ _=>#[zaq,(K),2,#[zi,#[zg,0,(show (["vector","numbers"]:List Str).Nodup by decide +kernel),(aq rfl)],#[zi,#[zg,1,(show (["vector","numbers"]:List Str).Nodup by decide +kernel),(aq rfl)],#[zJ]]]]),(fun _ _ _ _=>#[zB]),(fun _ _ _ _=>#[zj,#[zb9],#[pvx,0],#[pvx,1]])]]],by exact #[zn,#[zE,#[pvx,3]]]]],?_⟩
  have hsl:=aV
  have hbl:bs.length=ts.length:=by rw [be hpt,ab]
  have hcl:=be hcs
  refine⟨_,rfl,tl,rfl,⟨_,SqL.of htl⟩,zT (n:=ts.length) (fun m ys H'=>zt H H'∧∃ us:List Addr,ys=us.map V.ref∧LsA H' us ((ts.take m).map (zaK p []))) ⟨fun _ _ e=>e,[],rfl,.nil⟩ ?_ ?_ ?_ ?_⟩
  ·rintro m ys H4 hm ⟨s4,_⟩
   exact⟨_,.ref (bs[m]'(by lia)),SqL.of (s4 _ _ htl),by rw [ah,am (by lia)]; rfl⟩
  ·rintro ys H4 ⟨s4,_⟩
   exact⟨_,SqL.of (s4 _ _ htl),by rw [ab]; lia⟩
  ·rintro m z ys H4 H5 hm ⟨s4,us,rfl,hus⟩ ⟨rfl,hx⟩
   have hz:us.length=m:=by rw [be hus,ab,aA]; lia
   refine gY ?_
   refine⟨aY _,fun D hD=>⟨by rw [ab]; lia,s4.trans (zb hD),us++[D],by simp,?_⟩⟩
   have ht:ts[m]? = some (ts[m]'hm):=am hm
   rw [take_snoc ht,ar]
   exact bI (hus.same (zb hD)) zc
  ·rintro ys H4 V0 ⟨s4,us,rfl,hus⟩ hV
   rw [aK (af _)] at hus
   have sV:=s4.trans (zb (o:=.lst (us.map V.ref)) hV)
   refine⟨_,rfl,pl,rfl,⟨_,SqL.of (sV _ _ hpl)⟩,zbp (K:=K) (a:=pl) (xs:=cs.map V.ref) (fun i σ H'=>∃ (vl:Addr) (ls:List Addr) (e4:Option V),σ = [some (.int p),some (.ref tl),some (.ref pl),some (.ref vl),e4]∧zt H H'∧H vl=none∧H' vl=some (.lst (ls.map V.ref))∧LsA H' ls (ts.map (zaK p (pts.take i)))) ⟨V0,us,none,rfl,sV,s4.free hV,zc,hus.same (zb hV)⟩ ?_ ?_ ?_⟩
   ·rintro i σ H' _ ⟨vl,ls,e4,rfl,s,_⟩
    exact SqL.of (s _ _ hpl)
   ·rintro i x σ H5 hx ⟨vl,ls,e4,rfl,s5,hvl,h5,hls⟩
    obtain⟨b,rfl,hb⟩:=zY hx
    obtain⟨⟨px,py,pw⟩,hq,hqb⟩:=Paired.get hcs hb
    obtain⟨g1,g2,g3,g4,g5,g6⟩:=hg _ (aB hq)
    refine⟨_,rfl,_,rfl,_,rfl,_,rfl,p,tl,b,px,py,pw,bs,ts,rfl,p5,p97,g1,g2,g3,g4,g5,g6,s5 _ _ htl,hpt.same s5,hne,hlen,hts,s5 _ _ hqb,fun nl nls H6 hnl s6 h6 g6'=>?_⟩
    have h6v:=s6 _ _ h5
    have hls6:=hls.same s6
    have l1:ls.length=ts.length:=by rw [be hls,ab]
    have l2:nls.length=ts.length:=by rw [be g6',ab]
    refine⟨vl,nl,_,_,rfl,SqL.of h6v,SqL.of h6,zT (n:=ts.length) (fun m ys H'=>zt H6 H'∧∃ us:List Addr,ys=us.map V.ref∧LsA H' us ((ts.take m).map (zaK p (pts.take (i+1))))) ⟨fun _ _ e=>e,[],rfl,.nil⟩ ?_ ?_ ?_ ?_⟩
    ·rintro m ys H7 hm ⟨s7,_⟩
     exact⟨_,_,.ref (ls[m]'(by lia)),.ref (nls[m]'(by lia)),SqL.of (s7 _ _ h6v),SqL.of (s7 _ _ h6),by rw [ah,am (by lia)]; rfl,by rw [ah,am (by lia)]; rfl⟩
    ·rintro ys H7 ⟨s7,_⟩
     exact⟨_,_,SqL.of (s7 _ _ h6v),SqL.of (s7 _ _ h6),by rw [ab,ab]; lia⟩
    ·rintro m z ys H7 H8 hm ⟨s7,us,rfl,hus⟩ ⟨T,u,v,hT,rfl,rfl,hu,hv⟩
     obtain⟨b1,rfl,hb1⟩:=zY (hu _ (SqL.of (s7 _ _ h6v)))
     obtain⟨b2,rfl,hb2⟩:=zY (hv _ (SqL.of (s7 _ _ h6)))
     obtain⟨w1,hw1,hw1b⟩:=Paired.get hls6 hb1
     obtain⟨w2,hw2,hw2b⟩:=Paired.get g6' hb2
     have ht:ts[m]? = some (ts[m]'hm):=am hm
     rw [ah,ht] at hw1 hw2
     cases hw1
     cases hw2
     have hz:us.length=m:=by rw [be hus,ab,aA]; lia
     refine gY2 (SqT.of zc) ?_
     have sT:=s7.trans (zb (o:=.tup [.ref b1,.ref b2]) hT)
     have husT:=hus.same (zb (o:=.tup [.ref b1,.ref b2]) hT)
     generalize upd H7 T (.tup [.ref b1,.ref b2])=H8 at sT husT ⊢
     have lv:=zos (pts:=pts) (i+1)
     have ev:zaK p (pts.take (i+1)) (ts[m]'hm)=zaK p (pts.take i) (ts[m]'hm)++(pco (px,py,pw)).map fun c=>cv (ts[m]'hm) c % p:=by rw [take_snoc hq,zlV]
     have lz:(zaK p (pts.take i) (ts[m]'hm)).length+((pco (px,py,pw)).map fun c=>cv (ts[m]'hm) c % p).length=(cos (pts.take (i+1))).length:=by rw [← ao,← ev,zi8]
     refine⟨_,rfl,_,rfl,b1,b2,_,_,rfl,rfl,sT _ _ hw1b,sT _ _ hw2b,(by simp only [ab] at lz ⊢; lia),fun D hD=>⟨by rw [ab]; lia,sT.trans (zb hD),us++[D],by simp,?_⟩⟩
     rw [take_snoc ht,ar]
     refine bI (husT.same (zb hD)) ?_
     rw [zc,ev,ar]
    ·rintro ys H7 D ⟨s7,us,rfl,hus⟩ hD
     rw [aK (af _)] at hus
     have s57:=s6.trans s7
     exact⟨D,us,_,rfl,(s5.trans s57).trans (zb hD),(s5.trans s57).free hD,zc,hus.same (zb hD)⟩
   ·rintro σ H5 ⟨vl,ls,e4,rfl,s5,hvl,h5,hls⟩
    rw [ab,hcl,aK (af _)] at hls
    exact⟨_,rfl,q vl ls _ hvl s5 h5 hls⟩
def tK (t:Tm):List Key:=[cM (t.1:Int),cM (t.2:Int)]
theorem zlW {t u:Tm} (h:tK t=tK u):t=u:=by
 unfold tK at h
 injection h with h1 h2
 injection h2 with h2 _
 have e1:(t.1:Int)=u.1:=iO h1
 have e2:(t.2:Int)=u.2:=iO h2
 exact jZ (by lia) (by lia)
theorem zlX {ts:List Tm} (h:ts.Nodup):(ts.map tK).Nodup:=by
 rw [cW,dz]
 exact jR (fun hne e=>hne (zlW e)) h
theorem zot {H:Hp} {bs:List Addr} {ts:List Tm} (h:PtB H bs (ts.map tI)):KyA H (bs.map V.ref) (ts.map tK):=by
 induction ts generalizing bs with
 | nil=>cases h; exact .nil
 | cons t ts ih =>
  cases h with
  | cons h1 h2=>exact .cons ⟨_,rfl,h1⟩ (ih h2)
def zgz (K:ag):Sp:=fun vs H Q _=>∃ (p:Int) (tl pl:Addr) (bs cs:List Addr) (ts:List Tm) (pts:List (Int×Int×Nat)),vs = [.int p,.ref tl,.ref pl]∧p∈zm∧H tl=some (.lst (bs.map V.ref))∧PtB H bs (ts.map tI)∧ts.Nodup∧ts.length=(cos pts).length+1∧ts.length≤200∧(∀ t∈ts,t.1≤400∧t.2≤400)∧H pl=some (.lst (cs.map V.ref))∧W3 H cs pts∧zlU p pts∧pts.length≤1000 ∧
 ∀ (D:Addr) (c:List Int) (m:Nat) (H':Hp),H D=none→zt H H'→H' D=some (.dT ((ts.map tK).zip (c.map V.int)))→IsP p (m+1) c→m < ts.length→gl c m=1→Dep p (cos pts).length (ts.map (zaK p pts)) c→zmY p (cos pts).length m (ts.map (zaK p pts))→Q (.ref D) H'
theorem zdm:FnScope ["p","terms","points","relation"] ["p","terms","points"] (zh zbv):=⟨rfl,rfl,rfl,by decide +kernel,rfl,by decide +kernel,by decide +kernel⟩
theorem zgA {fd:FuncData} (T:Txt K mg t) (F:Fun K "first_sum" "first_sum" zbv t.first_sum fd):FnOk P w K mg base CX0 5 t.first_sum fd ["p","terms","points"] (zgz K):=by
 obtain⟨fd_first_relation,F_first_relation,b_first_relation⟩:=T.f_first_relation
 have G_first_relation:=zbS (P:=P) (w:=w) (base:=base) T F_first_relation
 obtain⟨fd_vectors_of,F_vectors_of,b_vectors_of⟩:=T.f_vectors_of
 have G_vectors_of:=zfa (P:=P) (w:=w) (base:=base) T F_vectors_of
 refine F.ok zdm (fun vs H Q E h=>?_) (fun cdv A outer s H vs Q E hr h=>?_)
 ·obtain⟨p,tl,pl,bs,cs,ts,pts,rfl,_⟩:=h
  rfl
 ·obtain⟨p,tl,pl,bs,cs,ts,pts,rfl,hp,htl,hpt,hnd,hlen,hl2,hts,hpl,hcs,hg,hn,q⟩:=h
  have hu:(A.deeper (envOfC (bN "first_sum") (zh zbv) s.heap.objs.size t.first_sum cdv)).units+20 < cLine:=by have:=hr.units; lia
  refine⟨_,#[zd,#[zo,3,zdm.nd,(aq rfl),#[zr,G_first_relation,(hr.mono (by decide)),T.m_first_relation,F_first_relation.kp,b_first_relation,#[zG],#[za,#[pvx,0],#[za,#[zr,G_vectors_of,(hr.mono (by decide)),T.m_vectors_of,F_vectors_of.kp,b_vectors_of,#[zG],#[za,#[pvx,0],#[za,#[pvx,1],#[za,#[pvx,2],#[ze]]]]],#[ze]]]]],by exact #[zn,#[zE,(zia (gG (ju (show 2≤20 by decide) _) hu) rfl rfl T.dict_ rfl T.zip_ #[za,#[pvx,1],#[za,#[pvx,3],#[ze]]])]]],?_⟩
  have hsl:=aV
  have rp:=zp hp
  have hne:ts≠[]:=fun e=>by rw [e] at hlen; simp at hlen
  have hv:∀ v∈ts.map (zaK p pts),v.length=(cos pts).length∧∀ c∈v,0≤c∧c < p:=fun v hv=>by
   obtain⟨t,_,rfl⟩:=aE.mp hv
   exact⟨zi8 p pts t,zm0 (by lia)⟩
  refine⟨_,rfl,_,rfl,_,rfl,_,rfl,p,tl,pl,bs,cs,ts,pts,rfl,by lia,by lia,htl,hpt,hne,hl2,hts,hpl,hcs,hg,by lia,hn,fun vl vls H1 hvl s1 h1 g1=>?_⟩
  refine⟨p,vl,vls,ts.map (zaK p pts),(cos pts).length,rfl,h1,g1,by simpa using hne,by rw [ab]; exact hl2,by lia,hv,hp,fun H2 s2 hI=>?_,fun l c m H2 hl s2 h2 hc hm h1' hD hI=>?_⟩
  ·have:=zlC hp hv hI
   rw [ab] at this
   lia
  ·rw [ab] at hm
   have s12:=s1.trans s2
   exact⟨_,rfl,_,rfl,tl,l,_,_,_,rfl,SqL.of (s12 _ _ htl),SqL.of h2,zot (hpt.same s12),zlX hnd,fun D H3 hD3 s3 h3=>q D c m H3 (s12.free hD3) (s12.trans s3) h3 hc hm h1' hD hI⟩
def zeU (K:ag):Sp:=fun vs H Q _=>∃ (k many:Nat),vs = [.int (k:Int),.int (many:Int)]∧2≤k∧k≤100∧many≤300 ∧
 ∀ (l:Addr) (us:List Addr) (S:Nat) (H':Hp),H l=none→zt H H'→H' l=some (.lst (us.map V.ref))→PtB H' us (((zR k S).take many).map tI)→S≤many→many≤(zR k S).length→Q (.ref l) H'
theorem zgB (k s:Nat):(tms k s).length=s / (k - 1)+1:=by unfold tms; rw [ab,aT]
theorem znd {H:Hp} {us:List Addr} {q:List (Int×Int)} (h:PtB H us q) (m:Nat):PtB H (us.take m) (q.take m):=by
 induction h generalizing m with
 | nil=>simp; exact .nil
 | cons h1 _ ih =>
  cases m with
  | zero=>exact .nil
  | succ m=>exact .cons h1 (ih m)
theorem zlY {H:Hp} {F:Addr} {xs:List V} {o:HO} {us:List Addr} {q:List (Int×Int)} (h:PtB H us q) (hF:H F=some (.lst xs)):PtB (upd H F o) us q:=cI (fun b v z=>by rw [zq (fun e=>by rw [e,hF] at z; cases z)]; exact z) h
theorem zou {H:Hp} {us vs:List Addr} {q r:List (Int×Int)} (h1:PtB H us q) (h2:PtB H vs r):PtB H (us++vs) (q++r):=by
 induction h1 with
 | nil=>exact h2
 | cons a _ ih=>exact .cons a ih
theorem zaO:FnScope ["k","many","terms","size"] ["k","many"] (zh za0):=⟨rfl,rfl,rfl,by decide +kernel,rfl,by decide +kernel,by decide +kernel⟩
theorem zeV {fd:FuncData} (T:Txt K mg t) (F:Fun K "first_terms" "first_terms" za0 t.first_terms fd):FnOk P w K mg base CX0 1 t.first_terms fd ["k","many"] (zeU K):=by
 refine F.ok zaO (fun vs H Q E h=>?_) (fun cdv A outer s H vs Q E hr h=>?_)
 ·obtain⟨k,many,rfl,_⟩:=h
  rfl
 ·obtain⟨k,many,rfl,k2,k100,hm,q⟩:=h
  refine⟨_,#[zd,#[zo,2,zaO.nd,(aq rfl),#[zX,#[ze]]],by exact #[zd,#[zo,3,zaO.nd,(bX rfl),#[zf]],by exact #[zd,#[zed,bA,#[zC,#[zfh],#[zA,#[zu],T.len_,b9,#[za,#[pvx,2],#[ze]]],#[pvx,1],(zQ _)],#[zd,#[zfP,2,zaO.nd,(aq rfl),#[z0,(CompSc.of (N':=["j","size","k"]) (ix:=[none,some 3,some 0]) (zh za0) ["k","many","terms","size"] rfl rfl (by decide +kernel)),#[zap],#[zai,T.range_,#[za,#[zj,#[zO],#[zj,#[zbB],#[pvx,3],#[zj,#[zaV],#[pvx,0],#[zf]]],#[zf]],#[ze]]],(fun _ _ _ _=>#[zg,0,(show (["j","size","k"]:List Str).Nodup by decide +kernel),(aq rfl)]),(fun _ _ _ _=>#[zB]),(fun _ _ _ _=>#[zaG,#[za,#[zj,#[zaV],#[pvx,1],#[zj,#[zZ],#[zj,#[zaV],#[pvx,2],#[zf]],#[pvx,0]]],#[za,#[pvx,0],#[ze]]]])],zlz],by exact #[zn,#[zfP,3,zaO.nd,(bX rfl),#[zf],zii]]]],by exact #[zn,#[zE,#[zax,zba,#[pvx,2],#[za1],#[zaH,#[pvx,1]]]]]]]],?_⟩
  have hsl:=aV
  refine⟨aY _,fun TL hTL=>?_⟩
  refine⟨fun μ σ H'=>∃ (S:Nat) (us:List Addr),μ=many+1 - S∧S≤many∧σ = [some (.int (k:Int)),some (.int (many:Int)),some (.ref TL),some (.int (S:Int))]∧zt H H'∧H' TL=some (.lst (us.map V.ref))∧PtB H' us ((zR k S).map tI),⟨many+1,0,[],rfl,aY _,rfl,zb hTL,zc,.nil⟩,?_⟩
  rintro μ σ H1 ⟨S,us,rfl,hS,rfl,s1,h1,hus⟩
  have hul:us.length=(zR k S).length:=by rw [be hus,ab]
  have hSl:=zfH k S
  refine⟨_,rfl,TL,_,rfl,.inl (SqL.of h1),_,rfl,_,_,rfl,rfl,_,rfl,?_⟩
  rw [ab,hul]
  refine zaI (fun hlt=>?_) (fun hge=>?_)
  ·have hlt:=of_decide_eq_true hlt
   have hlt:(zR k S).length < many:=by lia
   refine⟨fun σ' H'=>∃ m',m' < many+1 - S∧∃ (S:Nat) (us:List Addr),m'=many+1 - S∧S≤many∧σ' = [some (.int (k:Int)),some (.int (many:Int)),some (.ref TL),some (.int (S:Int))]∧zt H H'∧H' TL=some (.lst (us.map V.ref))∧PtB H' us ((zR k S).map tI),fun _ _ z=>z,?_⟩
   have k1:0 < k - 1:=by lia
   have ek:((k:Int) - 1)=((k - 1:Nat):Int):=by lia
   have eN:((S:Int) / ((k:Int) - 1)+1)=((S / (k - 1)+1:Nat):Int):=by
    rw [ek]
    exact congrArg (· + 1) (iw S (k - 1)).symm
   have hq:S / (k - 1)≤S:=ku _ _
   refine⟨_,rfl,_,rfl,_,rfl,_,_,rfl,rfl,_,_,rfl,rfl,⟨by lia,by lia⟩,_,_,rfl,rfl,?_⟩
   refine⟨(S:Int) / ((k:Int) - 1)+1,rfl,by rw [eN]; exact bW (by decide) (jK _),by rw [eN]; exact jL (Int.ofNat_le.mpr (show S / (k - 1)+1≤301 from eX (aZ hq (by lia)))) (by decide),?_⟩
   rw [eN,bm]
   refine zT (n:=S / (k - 1)+1) (fun m ys H'=>zt H1 H'∧∃ vs:List Addr,ys=vs.map V.ref∧PtB H' vs (((tms k S).take m).map tI)) ⟨fun _ _ e=>e,[],rfl,.nil⟩ (fun i ys H' hi _=>hi) (fun ys H' _=>af _) ?_ ?_
   ·rintro j x ys H2 H3 hj ⟨s2,vs,rfl,hvs⟩ ⟨rfl,rfl⟩
    rw [show ((0:Int)+(j:Int))=(j:Int) from dw _]
    have hjs:(k - 1)*j≤S:=by
     have:=(eW k1).mp (show j≤S / (k - 1) by lia)
     rw [eI]; exact this
    have hvl:vs.length=j:=by rw [be hvs,ab,aA,zgB]; lia
    have eV:(S:Int) - ((k:Int) - 1)*(j:Int)=((S - (k - 1)*j:Nat):Int):=by
     rw [ek,kw hjs,fo]
    refine gY ?_
    refine⟨_,rfl,_,rfl,_,_,rfl,rfl,_,rfl,_,_,rfl,rfl,.inl ⟨by lia,by lia⟩,_,_,rfl,rfl,_,rfl,by show 2≤sizeLine; lia,fun T hT=>?_⟩
    have htm:(tms k S)[j]? = some (S - (k - 1)*j,j):=by unfold tms; rw [ah,bZ hj]; rfl
    refine⟨by rw [ab]; lia,s2.trans (zb hT),vs++[T],by simp,?_⟩
    rw [take_snoc htm,ar]
    refine bI (hvs.same (zb hT)) ?_
    rw [zc]
    show some (HO.tup [V.int ((S:Int) - ((k:Int) - 1)*(j:Int)),V.int (j:Int)])=_
    rw [eV]
    rfl
   ·rintro ys H2 D ⟨s2,vs,rfl,hvs⟩ hD
    rw [aK (by rw [zgB]; exact af _)] at hvs
    have sD:=s2.trans (zb (o:=.lst (vs.map V.ref)) hD)
    have hvl:vs.length=S / (k - 1)+1:=by rw [be hvs,ab,zgB]
    refine⟨TL,D,_,_,rfl,rfl,sD _ _ h1,zc,by rw [ab,ab]; lia,?_⟩
    refine⟨_,rfl,_,_,rfl,rfl,?_⟩
    refine⟨many+1 - (S+1),by lia,S+1,us++vs,rfl,by lia,rfl,zac (s1.trans sD) hTL,by rw [zc,ar],?_⟩
    rw [zaL,ar]
    have a1:=zlY (o:=.lst (us.map V.ref++vs.map V.ref)) (hus.same sD) (sD _ _ h1)
    have a2:=zlY (o:=.lst (us.map V.ref++vs.map V.ref)) (hvs.same (zb (o:=.lst (vs.map V.ref)) hD)) (sD _ _ h1)
    exact zou a1 a2
  ·have hge:¬ (((zR k S).length:Int) < (many:Int)):=fun h=>hge (decide_eq_true h)
   refine⟨_,rfl,_,rfl,_,rfl,TL,_,rfl,SqL.of h1,fun z hz=>?_⟩
   have ec:zaW (us.map V.ref) none (some (many:Int))=(us.take many).map V.ref:=by
    unfold zaW
    rw [HT.sIx_nat,HT.sIx_none,da,ed,ab,cp (by lia),cX]
   rw [ec]
   refine q z (us.take many) S _ (s1.free hz) (s1.trans (zb hz)) zc ?_ hS (by lia)
   have:=(znd hus many).same (zb (o:=.lst ((us.take many).map V.ref)) hz)
   rw [← cX] at this
   exact this
theorem gY3 {K:ag} {i j l:Nat} {T:Addr} {x y z:V} {σ:L2.St} {H:Hp} {A B:L2.St→Hp→Prop} (hT:SqT K H T [x,y,z]) (h:A (((σ.set i (some x)).set j (some y)).set l (some z)) H) :
  zgJ K 3 (zb0 (zaT i) (zb0 (zaT j) (zb0 (zaT l) zhE))) (.ref T) σ H (fun σ2 H2=>zmc σ2 H2 fun b H3=>if b=true then A σ2 H3 else B σ2 H3):=by
 refine⟨T,_,rfl,hT,rfl,x,_,rfl,y,_,rfl,z,_,rfl,rfl,?_⟩
 show (if true=true then A (((σ.set i (some x)).set j (some y)).set l (some z)) H else B (((σ.set i (some x)).set j (some y)).set l (some z)) H)
 rw [if_pos rfl]
 exact h
theorem zlZ (w:Nat):(w:Int)*((w:Int)+1) / 2=(tri w:Int):=by
 unfold tri
 rw [show ((w:Int)*((w:Int)+1))=((w*(w+1):Nat):Int) by rw [fo]; rfl]
 exact (iw _ 2).symm
theorem zhC {α:Type} (f:α→Nat):∀ l:List α,(l.map fun q=>(f q:Int)).sum=((l.map f).sum:Int)
 | []=>rfl
 | a :: l=>by
  rw [aU,cY,aU,cY,zhC f l]
  lia
theorem zjf:∀ {ts:List Tm} {c:List Int} {t:Tm},(zcU ((ts.map tK).zip (c.map V.int)) (tK t)).getD (.int 0) = .int (gof ts c t)
 | [],_,_=>rfl
 | _ :: _,[],_=>rfl
 | a :: ts,b :: c,t=>by
  have ih:=zjf (ts:=ts) (c:=c) (t:=t)
  unfold zcU gof at ih ⊢
  rw [aU,aU,dJ,dJ,ba]
  by_cases e:t=a
  ·subst e
   rw [List.find?_cons_of_pos (by simp),beq_self_eq_true]
   rfl
  ·rw [List.find?_cons_of_neg (by simp; exact fun h=>e (zlW h).symm),show (t == a)=false by simpa using e]
   exact ih
theorem zne {k:Nat} (hk:2≤k) (t:Tm):(t.1:Int)+((k:Int) - 1)*(t.2:Int)=(tz k t:Int):=by
 unfold tz
 rw [show ((k:Int) - 1)=((k - 1:Nat):Int) by lia,ft,fo]
theorem zka {k s j:Nat} {g:Tm→Int} (h:j < s / (k - 1)+1):(zgu k s g).take (j+1)=(zgu k s g).take j++[(aL (s - (k - 1)*j+1)).map fun i=>g (i,j)]:=take_snoc (zlG h)
def zeW (K:ag):Sp:=fun vs H Q _=>∃ (p:Int) (k:Nat) (pl:Addr) (cs:List Addr) (pts:List (Int×Int×Nat)),vs = [.int p,.int (k:Int),.ref pl]∧p∈zm∧2≤k∧k≤100∧H pl=some (.lst (cs.map V.ref))∧W3 H cs pts∧zlU p pts∧(cos pts).length≤199∧pts.length≤1000 ∧
 ∀ (z r:Addr) (ls:List Addr) (size:Nat) (g:Tm→Int) (H':Hp),H z=none→zt H H'→H' z=some (.tup [.int (size:Int),.ref r])→H' r=some (.tup (ls.map V.ref))→zbE H' ls (zgu k size g)→Lst p k pts size g→size≤200→Q (.ref z) H'
theorem zaP:FnScope ["p","k","points","asked","found","size","lines"] ["p","k","points"] (zh zag):=⟨rfl,rfl,rfl,by decide +kernel,rfl,by decide +kernel,by decide +kernel⟩
theorem zeX {fd:FuncData} (T:Txt K mg t) (F:Fun K "least_curve" "least_curve" zag t.least_curve fd):FnOk P w K mg base CX0 6 t.least_curve fd ["p","k","points"] (zeW K):=by
 obtain⟨fd_first_sum,F_first_sum,b_first_sum⟩:=T.f_first_sum
 have G_first_sum:=zgA (P:=P) (w:=w) (base:=base) T F_first_sum
 obtain⟨fd_first_terms,F_first_terms,b_first_terms⟩:=T.f_first_terms
 have G_first_terms:=zeV (P:=P) (w:=w) (base:=base) T F_first_terms
 refine F.ok zaP (fun vs H Q E h=>?_) (fun cdv A outer s H vs Q E hr h=>?_)
 ·obtain⟨p,k,pl,cs,pts,rfl,_⟩:=h
  rfl
 ·obtain⟨p,k,pl,cs,pts,rfl,hp,k2,k100,hpl,hcs,hg,hL,hn,q⟩:=h
  have hu:(A.deeper (envOfC (bN "least_curve") (zh zag) s.heap.objs.size t.least_curve cdv)).units+20 < cLine:=by have:=hr.units; lia
  refine⟨_,#[zd,#[zo,3,zaP.nd,(aq rfl),#[zA,(@zjG _ rfl),T.sum_,boot_sum,#[za,#[z0,(CompSc.of (N':=["x","y","weight"]) (ix:=[none,none,none]) (zh zag) ["p","k","points","asked","found","size","lines"] rfl rfl (by decide +kernel)),#[zaX,#[zw,#[zw,#[zw,#[zav]]]]],#[zS,#[pvx,2]],(fun _ _ _ _=>#[zaq,(K),3,#[zi,#[zg,0,(show (["x","y","weight"]:List Str).Nodup by decide +kernel),(aq rfl)],#[zi,#[zg,1,(show (["x","y","weight"]:List Str).Nodup by decide +kernel),(aq rfl)],#[zi,#[zg,2,(show (["x","y","weight"]:List Str).Nodup by decide +kernel),(aq rfl)],#[zJ]]]]]),(fun _ _ _ _=>#[zB]),(fun _ _ _ _=>#[zj,#[zbB],#[zj,#[zZ],#[pvx,2],#[zj,#[zO],#[pvx,2],#[zf]]],#[zf]])],#[ze]]]],by exact #[zd,#[zo,4,zaP.nd,(bX rfl),#[zr,G_first_sum,(hr.mono (by decide)),T.m_first_sum,F_first_sum.kp,b_first_sum,#[zG],#[za,#[pvx,0],#[za,#[zr,G_first_terms,(hr.mono (by decide)),T.m_first_terms,F_first_terms.kp,b_first_terms,#[zG],#[za,#[pvx,1],#[za,#[zj,#[zO],#[pvx,3],#[zf]],#[ze]]]],#[za,#[pvx,2],#[ze]]]]]],by exact #[zd,#[zo,5,zaP.nd,(bX rfl),#[zA,#[zdx],T.max_,boot_max,#[za,#[z0,(CompSc.of (N':=["i","j","k"]) (ix:=[none,none,some 1]) (zh zag) ["p","k","points","asked","found","size","lines"] rfl rfl (by decide +kernel)),#[zaX,#[zw,#[zw,#[zav]]]],(@zo1 _ _ _ _ #[pvx,4]),(fun _ _ _ _=>#[zaq,(K),2,#[zi,#[zg,0,(show (["i","j","k"]:List Str).Nodup by decide +kernel),(aq rfl)],#[zi,#[zg,1,(show (["i","j","k"]:List Str).Nodup by decide +kernel),(aq rfl)],#[zJ]]]]),(fun _ _ _ _=>#[zB]),(fun _ _ _ _=>#[zj,#[zO],#[pvx,0],#[zj,#[zZ],#[zj,#[zaV],#[pvx,2],#[zf]],#[pvx,1]]])],#[ze]]]],by exact #[zd,#[zaA,6,zaP.nd,(aq rfl),(CompSc.of (N':=["j","size","k","found"]) (ix:=[none,some 5,some 1,some 4]) (zh zag) ["p","k","points","asked","found","size","lines"] rfl rfl (by decide +kernel)),#[zap],#[zai,T.range_,#[za,#[zj,#[zO],#[zj,#[zbB],#[pvx,5],#[zj,#[zaV],#[pvx,1],#[zf]]],#[zf]],#[ze]]],(fun _ _ _ _=>#[zg,0,(show (["j","size","k","found"]:List Str).Nodup by decide +kernel),(bX rfl)]),(fun _ _ _ _=>#[zB]),(fun _ _ _ _=>#[zaD,(zeL (K:=K) rfl),T.tuple_,gi,#[za,#[z0,(CompSc.of (N':=["i","found","j"]) (ix:=[none,some 3,some 0]) ({ kind:=.function,names:=[(".0",.local),("j",.cell),("tuple",.globalImplicit),("range",.globalImplicit),("found",.cell),("k",.cell),("size",.cell)],isGenerator:=false,isCoroutine:=false }) ["j","size","k","found"] (by with_unfolding_all rfl) rfl (by decide +kernel)),#[zap],#[zai,T.range_,#[za,#[zj,#[zO],#[zj,#[zaV],#[pvx,1],#[zj,#[zZ],#[zj,#[zaV],#[pvx,2],#[zf]],#[pvx,0]]],#[zf]],#[ze]]],(fun _ _ _ _=>#[zg,0,(show (["i","found","j"]:List Str).Nodup by decide +kernel),(aq rfl)]),(fun _ _ _ _=>#[zB]),(fun _ _ _ _=>(@zkV _ _ _ _ _ _ _ _ _ (gG (ju (show 1≤20 by decide) _) hu) #[pvx,1] #[zaG,#[za,#[pvx,0],#[za,#[pvx,2],#[ze]]]] #[zf] ⟨rfl,rfl,rfl,rfl⟩))],#[ze]]])],by exact #[zn,#[zE,#[zaG,#[za,#[pvx,5],#[za,#[zaD,#[zaE],T.tuple_,gi,#[za,#[pvx,6],#[ze]]],#[ze]]]]]]]]]],?_⟩
  have hsl:=aV
  have rp:=zp hp
  have hcl:=be hcs
  refine⟨_,rfl,pl,rfl,⟨_,SqL.of hpl⟩,zcA (fs:=(pts.map fun q=>(tri q.2.2:Int)).map V.int) (SqL.of hpl) (by rw [ab,ab,ab,hcl]) (by rw [ab]; lia) (fun i x y R B hx hy hR=>?_) (fun D0 hD0=>?_)⟩
  ·obtain⟨b,rfl,hb⟩:=zY hx
   obtain⟨⟨px,py,pw⟩,hq,hqb⟩:=Paired.get hcs hb
   have hw9:=(hg _ (aB hq)).2.2.2.2.2
   rw [ah,ah,hq] at hy
   have hy:V.int (tri pw:Int)=y:=by simpa using hy
   subst hy
   refine gY3 (SqT.of hqb) ?_
   have hw9:pw≤9:=hw9
   refine⟨_,rfl,_,rfl,_,_,rfl,rfl,_,_,rfl,rfl,.inl ⟨by lia,by lia⟩,_,_,rfl,rfl,⟨by decide,by decide⟩,?_⟩
   show R (.int ((pw:Int)*((pw:Int)+1) / 2)) _
   rw [zlZ]
   exact hR
  refine⟨D0,pts.map fun q=>(tri q.2.2:Int),rfl,SqL.of zc,?_⟩
  rw [zhC,show (pts.map fun q=>tri q.2.2).sum=zcu pts from rfl]
  have s0:=zb (o:=.lst ((pts.map fun q=>(tri q.2.2:Int)).map V.int)) hD0
  generalize upd H D0 (.lst ((pts.map fun q=>(tri q.2.2:Int)).map V.int))=H0 at s0 ⊢
  have hcn:=zgt pts
  refine⟨_,rfl,_,rfl,_,rfl,_,_,rfl,rfl,k,zcu pts+1,rfl,k2,k100,by lia,fun tl us S H1 htl s1 h1 hpt hS1 hS2=>?_⟩
  have s01:=s0.trans s1
  have tin:∀ t∈(zR k S).take (zcu pts+1),tz k t < S:=fun t ht=>(za7 k2).mp (dt ht)
  have tle:∀ t:Tm,t.1≤tz k t∧t.2≤tz k t:=fun t=>⟨by unfold tz; lia,by
   unfold tz
   have:1*t.2≤(k - 1)*t.2:=Nat.mul_le_mul_right _ (by lia)
   lia⟩
  have hnd:((zR k S).take (zcu pts+1)).Nodup:=fI (bU _ _) (zbu k2 S)
  have hlen:((zR k S).take (zcu pts+1)).length=zcu pts+1:=by rw [aA]; lia
  refine⟨_,rfl,p,tl,pl,us,cs,(zR k S).take (zcu pts+1),pts,rfl,hp,h1,hpt,hnd,by rw [hlen,hcn],by lia,fun t ht=>?_,s01 _ _ hpl,hcs.same s01,hg,hn,fun D c m H2 hD s2 h2 hc hm h1' hDp hI=>?_⟩
  ·have:=tin t ht
   have:=tle t
   lia
  rw [hlen] at hm
  have s02:=s01.trans s2
  have hDn:H D=none:=s01.free hD
  obtain⟨top,htop⟩:∃ top,((zR k S).take (zcu pts+1))[m]? = some top:=⟨((zR k S).take (zcu pts+1))[m]'(by lia),am _⟩
  have LS:=zop (p:=p) (by lia) k2 (pts:=pts) (S:=S) (ts:=(zR k S).take (zcu pts+1)) (by rw [hcn]) hc htop h1' hDp hI
  have hso:((zR k S).take (zcu pts+1)).Pairwise fun a b=>tz k a≤tz k b:=eS (bU _ _) (zci k2 S)
  have htopS:=tin top (aB htop)
  generalize (zR k S).take (zcu pts+1)=ts at *
  have hcl2:c.length=m+1:=hc.1
  have hzl:((ts.map tK).zip (c.map V.int)).length=m+1:=by rw [kt,ab,ab]; lia
  refine⟨_,rfl,D,_,rfl,h2,fun o=>?_⟩
  have s3:zt H (upd H2 D (.frz o (.dT ((ts.map tK).zip (c.map V.int))))):=zac s02 hDn
  have h3:upd H2 D (.frz o (.dT ((ts.map tK).zip (c.map V.int)))) D=some (.frz o (.dT ((ts.map tK).zip (c.map V.int)))):=zc
  generalize upd H2 D (.frz o (.dT ((ts.map tK).zip (c.map V.int))))=H3 at s3 h3 ⊢
  refine zT (n:=m+1) (fun i ys H'=>H'=H3∧ys=((ts.take i).map fun t=>(tz k t:Int)).map V.int) ⟨rfl,rfl⟩ ?_ ?_ ?_ ?_
  ·rintro i ys H' hi ⟨rfl,_⟩
   exact⟨h3,by lia⟩
  ·rintro ys H' ⟨rfl,_⟩
   exact⟨h3,by lia⟩
  ·rintro i x ys H' H4 hi ⟨rfl,rfl⟩ ⟨rfl,a,ky,rfl,hky,ha⟩
   have hti:ts[i]? = some (ts[i]'(by lia)):=am (by lia)
   have ek:ky=tK (ts[i]'(by lia)):=by
    rw [ah] at hky
    obtain⟨q',hq',rfl⟩:=fV.mp hky
    have hq2:((ts.map tK).zip (c.map V.int))[i]? = some (q'.1,q'.2):=hq'
    rw [fq,ah,hti] at hq2
    exact (aO hq2.1).symm
   subst ek
   generalize ts[i]'(by lia)=tt at hti ha
   have htt:tz k tt < S:=tin tt (aB hti)
   have:=tle tt
   refine gY2 (SqT.of (xs:=[.int (tt.1:Int),.int (tt.2:Int)]) ha) ?_
   refine⟨_,rfl,_,rfl,_,_,rfl,rfl,_,rfl,_,_,rfl,rfl,.inl ⟨by lia,by lia⟩,_,_,rfl,rfl,?_⟩
   refine⟨by rw [ab,ab,aA]; lia,rfl,?_⟩
   show _++[V.int ((tt.1:Int)+((k:Int) - 1)*(tt.2:Int))]=_
   rw [zne k2,take_snoc hti,ar,ar]
   rfl
  rintro ys H' D2 ⟨rfl,rfl⟩ hD2
  refine⟨D2,(ts.take (m+1)).map fun t=>(tz k t:Int),rfl,SqL.of zc,fun e=>?_,fun M hM hM'=>?_⟩
  ·have:(ts.take (m+1)).length=0:=by rw [← ab (f:=fun t=>(tz k t:Int)),e]; rfl
   rw [aA] at this
   lia
  have eM:M=(tz k top:Int):=by
   obtain⟨t',ht',rfl⟩:=aE.mp hM
   obtain⟨i',hi'⟩:=cF.mp ht'
   have hlt':i' < m+1:=by have:=(az.mp hi').1; rw [aA] at this; lia
   rw [bD hlt'] at hi'
   have b1:=zdz hso hi' htop (by lia)
   have b2:=hM' (tz k top:Int) (aE.mpr ⟨top,cF.mpr ⟨m,by rw [bD (by lia)]; exact htop⟩,rfl⟩)
   lia
  subst eM
  have w4:=zb (o:=.lst (((ts.take (m+1)).map fun t=>(tz k t:Int)).map V.int)) hD2
  have s4:=s3.trans w4
  have h4:=w4 _ _ h3
  generalize upd H' D2 (.lst (((ts.take (m+1)).map fun t=>(tz k t:Int)).map V.int))=H4 at s4 h4 ⊢
  have k1:0 < k - 1:=by lia
  have ek1:((k:Int) - 1)=((k - 1:Nat):Int):=by lia
  obtain⟨sz,esz⟩:∃ sz,tz k top=sz:=⟨_,rfl⟩
  rw [esz] at LS htopS ⊢
  have eN:((sz:Int) / ((k:Int) - 1)+1)=((sz / (k - 1)+1:Nat):Int):=by
   rw [ek1]
   exact congrArg (· + 1) (iw sz (k - 1)).symm
  have hqs:sz / (k - 1)≤sz:=ku _ _
  have hget:=fun t=>zjf (ts:=ts) (c:=c) (t:=t)
  generalize (ts.map tK).zip (c.map V.int)=kvs at *
  generalize gof ts c=g at *
  refine⟨_,rfl,_,rfl,_,_,rfl,rfl,_,_,rfl,rfl,⟨by lia,by lia⟩,_,_,rfl,rfl,?_⟩
  refine⟨(sz:Int) / ((k:Int) - 1)+1,rfl,by rw [eN]; exact bW (by decide) (jK _),by rw [eN]; exact jL (Int.ofNat_le.mpr (show sz / (k - 1)+1≤301 from eX (aZ hqs (by lia)))) (by decide),?_⟩
  rw [eN,bm]
  refine zT (n:=sz / (k - 1)+1) (fun j ys H'=>zt H4 H'∧∃ us:List Addr,ys=us.map V.ref∧zbE H' us ((zgu k sz g).take j)) ⟨fun _ _ e=>e,[],rfl,.nil⟩ (fun i ys H' hi _=>hi) (fun ys H' _=>af _) ?_ ?_
  ·rintro j x ys H5 H6 hj ⟨s5,us,rfl,hus⟩ ⟨rfl,rfl⟩
   rw [show ((0:Int)+(j:Int))=(j:Int) from dw _]
   have hjs:(k - 1)*j≤sz:=by
    have:=(eW k1).mp (show j≤sz / (k - 1) by lia)
    rw [eI]; exact this
   have hul:us.length=j:=by rw [be hus,aA,zhx]; lia
   have eV:(sz:Int) - ((k:Int) - 1)*(j:Int)+1=((sz - (k - 1)*j+1:Nat):Int):=by
    rw [ek1,ft,kw hjs,fo]
    rfl
   refine gY ?_
   refine⟨_,rfl,_,rfl,_,_,rfl,rfl,_,rfl,_,_,rfl,rfl,.inl ⟨by lia,by lia⟩,_,_,rfl,rfl,_,_,rfl,rfl,?_⟩
   refine⟨(sz:Int) - ((k:Int) - 1)*(j:Int)+1,rfl,by rw [eV]; lia,by rw [eV]; lia,?_⟩
   rw [eV,bm]
   refine zT (n:=sz - (k - 1)*j+1) (fun i ys H'=>zt H6 H'∧ys=((aL i).map fun i=>g (i,j)).map V.int) ⟨fun _ _ e=>e,rfl⟩ (fun i ys H' hi _=>hi) (fun ys H' _=>af _) ?_ ?_
   ·rintro i x ys H7 H8 hi ⟨s7,rfl⟩ ⟨rfl,rfl⟩
    rw [show ((0:Int)+(i:Int))=(i:Int) from dw _]
    have h7:=(s5.trans s7) _ _ h4
    refine gY ?_
    refine⟨_,rfl,D,rfl,.inr ⟨kvs,.inr ⟨o,h7⟩⟩,_,rfl,_,rfl,by show 2≤sizeLine; lia,fun T hT=>?_⟩
    have wT:=zb (o:=.tup [.int (i:Int),.int (j:Int)]) hT
    refine⟨_,.inr ⟨kvs,tK (i,j),T,.inr ⟨o,wT _ _ h7⟩,rfl,zc,rfl⟩,?_⟩
    rw [hget]
    refine⟨by rw [ab,ab,aT]; lia,s7.trans wT,?_⟩
    rw [cC,ar,ar]
    rfl
   ·rintro ys H7 D5 ⟨s7,rfl⟩ hD5
    refine⟨D5,_,rfl,.inl ⟨SqL.of zc,fun l hl=>?_⟩⟩
    have w7:=(s7.trans (zb (o:=.lst (((aL (sz - (k - 1)*j+1)).map fun i=>g (i,j)).map V.int)) hD5)).trans (zb (o:=.tup (((aL (sz - (k - 1)*j+1)).map fun i=>g (i,j)).map V.int)) hl)
    refine⟨by rw [ab]; lia,s5.trans w7,us++[l],by simp,?_⟩
    rw [zka hj]
    exact bI (hus.same w7) zc
  ·rintro ys H5 L1 ⟨s5,us,rfl,hus⟩ hL1
   rw [aK (by rw [zhx]; exact af _)] at hus
   have w5:=s5.trans (zb (o:=.lst (us.map V.ref)) hL1)
   have hus5:=hus.same (zb (o:=.lst (us.map V.ref)) hL1)
   refine⟨_,rfl,_,rfl,L1,_,rfl,.inl ⟨SqL.of zc,fun r hr=>?_⟩⟩
   have w6:=w5.trans (zb (o:=.tup (us.map V.ref)) hr)
   have hus6:=hus5.same (zb (o:=.tup (us.map V.ref)) hr)
   refine⟨by show 2≤sizeLine; lia,fun z hz=>?_⟩
   have sf:=s4.trans w6
   have wz:=zb (o:=.tup [.int (sz:Int),.ref r]) hz
   exact q z r us sz g _ (sf.free hz) (sf.trans wz) zc (wz _ _ zc) (hus6.same wz) LS (by lia)
def zdU (K:ag):Sp:=fun vs H Q _=>∃ (k:Nat),vs = [.int (k:Int)]∧2≤k∧Q .non H
theorem zdV:FnScope ["k"] ["k"] (zh zbf):=⟨rfl,rfl,rfl,by decide +kernel,rfl,by decide +kernel,by decide +kernel⟩
theorem zdW {fd:FuncData} (T:Txt K mg t) (F:Fun K "check_curves" "check_curves" zbf t.check_curves fd):FnOk P w K mg base CX0 1 t.check_curves fd ["k"] (zdU K):=by
 refine F.ok zdV (fun vs H Q E h=>?_) (fun cdv A outer s H vs Q E hr h=>?_)
 ·obtain⟨k,rfl,_⟩:=h
  rfl
 ·obtain⟨k,rfl,h1,q⟩:=h
  refine⟨_,#[zn,#[za6,#[zC,#[zfh],#[pvx,0],#[zf],(zQ _)],#[zfd],#[zab]]],?_⟩
  refine⟨_,rfl,_,_,rfl,rfl,_,rfl,?_⟩
  exact zaI (fun h=>absurd (of_decide_eq_true h) (by lia)) (fun _=>q)
def wpt (m:Nat) (l:List (Int×Int)):List (Int×Int×Nat):=l.map fun q=>(q.1,q.2,m)
theorem zhD (m:Nat):∀ l,zcu (wpt m l)=l.length*tri m
 | []=>by simp [zcu,wpt]
 | a :: l=>by
  have ih:=zhD m l
  unfold zcu wpt at ih ⊢
  (simp only [aU,cY,aX])
  rw [ih,Nat.add_mul]
  lia
def zgC (K:ag):Sp:=fun vs H Q _=>∃ (c tt r:Addr) (p:Int) (k m:Nat) (pl:List Int) (rw:List (Option Int)),vs = [.ref c,.ref r,.int (m:Int)]∧zbh H c tt p k pl∧H r=some (.lst (rw.map enc))∧rw.length=pl.length∧pl.length≤16∧p∈zm∧pl.Nodup∧(∀ x∈pl,0≤x∧x < p)∧(∀ z,some z∈rw→0≤z∧z < p)∧2≤k∧k≤100∧1≤m∧m≤9∧(hps pl rw).length*tri m≤199 ∧
 ∀ (z r:Addr) (ls:List Addr) (size:Nat) (g:Tm→Int) (H':Hp),H z=none→zt H H'→H' z=some (.tup [.int (size:Int),.ref r])→H' r=some (.tup (ls.map V.ref))→zbE H' ls (zgu k size g)→Lst p k (wpt m (hps pl rw)) size g→size≤200→Q (.ref z) H'
theorem zbG:FnScope ["code","row","m","p","k","places"] ["code","row","m"] (zh zbw):=⟨rfl,rfl,rfl,by decide +kernel,rfl,by decide +kernel,by decide +kernel⟩
theorem zgD {fd:FuncData} (T:Txt K mg t) (F:Fun K "curve_for" "curve_for" zbw t.curve_for fd):FnOk P w K mg base CX0 7 t.curve_for fd ["code","row","m"] (zgC K):=by
 obtain⟨fd_check_curves,F_check_curves,b_check_curves⟩:=T.f_check_curves
 have G_check_curves:=zdW (P:=P) (w:=w) (base:=base) T F_check_curves
 obtain⟨fd_least_curve,F_least_curve,b_least_curve⟩:=T.f_least_curve
 have G_least_curve:=zeX (P:=P) (w:=w) (base:=base) T F_least_curve
 obtain⟨fd_heard_points,F_heard_points,b_heard_points⟩:=T.f_heard_points
 have G_heard_points:=za3 (P:=P) (w:=w) (base:=base) T F_heard_points
 refine F.ok zbG (fun vs H Q E h=>?_) (fun cdv A outer s H vs Q E hr h=>?_)
 ·obtain⟨c,tt,r,p,k,m,pl,rw,rfl,_⟩:=h
  rfl
 ·obtain⟨c,tt,r,p,k,m,pl,rw,rfl,hc,hra,hrl,hn,hp,hnd,hpl,hrw,h1,k1,m1,m9,hA,q⟩:=h
  refine⟨_,#[zd,#[za8,#[pvx,0],#[zaU,#[zi,#[zg,3,zbG.nd,(aq rfl)],#[zi,#[zg,4,zbG.nd,(aq rfl)],#[zi,#[zg,5,zbG.nd,(aq rfl)],#[zJ]]]]]],by exact #[zd,#[zcw,#[zr,G_check_curves,(hr.mono (by decide)),T.m_check_curves,F_check_curves.kp,b_check_curves,#[zG],#[za,#[pvx,4],#[ze]]]],by exact #[zn,#[zE,#[zr,G_least_curve,(hr.mono (by decide)),T.m_least_curve,F_least_curve.kp,b_least_curve,#[zG],#[za,#[pvx,3],#[za,#[pvx,4],#[za,#[z0,(CompSc.of (N':=["place","entry","m"]) (ix:=[none,none,some 2]) (zh zbw) ["code","row","m","p","k","places"] rfl rfl (by decide +kernel)),#[zaX,#[zw,#[zw,#[zav]]]],#[zS,#[zr,G_heard_points,(hr.mono (by decide)),T.m_heard_points,F_heard_points.kp,b_heard_points,#[zG],#[za,#[pvx,0],#[za,#[pvx,1],#[ze]]]]],(fun _ _ _ _=>#[zaq,(K),2,#[zi,#[zg,0,(show (["place","entry","m"]:List Str).Nodup by decide +kernel),(aq rfl)],#[zi,#[zg,1,(show (["place","entry","m"]:List Str).Nodup by decide +kernel),(aq rfl)],#[zJ]]]]),(fun _ _ _ _=>#[zB]),(fun _ _ _ _=>#[zaG,#[za,#[pvx,0],#[za,#[pvx,1],#[za,#[pvx,2],#[ze]]]]])],#[ze]]]]]]]]],?_⟩
  have hsl:=aV
  have rp:=zp hp
  have hR:RowAt K H r pl.length rw:=⟨SqL.of hra,hrl⟩
  have hP:=zd7 hnd hpl hrw
  have hhl:=zbO pl rw
  refine⟨_,rfl,c,_,rfl,SqT.of hc.1,rfl,_,_,rfl,_,_,rfl,_,_,rfl,rfl,?_⟩
  refine⟨_,rfl,k,rfl,h1,?_⟩
  refine⟨_,rfl,_,rfl,_,rfl,_,rfl,c,tt,r,p,k,pl,rw,rfl,hc,hR,by lia,fun l bs H1 hl1 s1 h1l hB=>?_⟩
  have hbl:bs.length=(hps pl rw).length:=hB.length
  refine⟨l,rfl,⟨_,SqL.of h1l⟩,zT (n:=bs.length) (fun i ys H'=>zt H1 H'∧∃ us:List Addr,ys=us.map V.ref∧W3 H' us (wpt m ((hps pl rw).take i))) ⟨fun _ _ e=>e,[],rfl,.nil⟩ ?_ ?_ ?_ ?_⟩
  ·rintro i ys H4 hi ⟨s4,_⟩
   exact⟨_,.ref (bs[i]'(by lia)),SqL.of (s4 _ _ h1l),by rw [ah,am (by lia)]; rfl⟩
  ·rintro ys H4 ⟨s4,_⟩
   exact⟨_,SqL.of (s4 _ _ h1l),by rw [ab]; exact af _⟩
  ·rintro i z ys H4 H5 hi ⟨s4,us,rfl,hus⟩ ⟨rfl,hx⟩
   obtain⟨b,rfl,hbm⟩:=zY (hx _ (SqL.of (s4 _ _ h1l)))
   obtain⟨q',hq',hT⟩:=Paired.get (hB.same s4) hbm
   have hz:us.length=i:=by rw [be hus]; unfold wpt; rw [ab,aA]; lia
   refine gY2 (SqT.of hT) ?_
   refine⟨_,rfl,_,rfl,_,rfl,by show 3≤sizeLine; lia,fun T hT'=>⟨by rw [ab]; lia,s4.trans (zb hT'),us++[T],by simp,?_⟩⟩
   rw [take_snoc hq']
   unfold wpt
   rw [ar]
   exact bI (hus.same (zb hT')) zc
  ·rintro ys H4 D ⟨s4,us,rfl,hus⟩ hD
   rw [aK (by lia)] at hus
   have w4:=s4.trans (zb (o:=.lst (us.map V.ref)) hD)
   refine⟨p,k,D,us,wpt m (hps pl rw),rfl,hp,h1,k1,zc,hus.same (zb hD),fun q' hq'=>?_,by rw [zgt,zhD]; exact hA,by unfold wpt; rw [ab]; lia,fun z r' ls size g H5 hz s5 h5 h6 h7 hL hs=>?_⟩
   ·obtain⟨a,ha,rfl⟩:=aE.mp hq'
    obtain⟨g1,g2,g3,g4⟩:=hP.rg a ha
    exact⟨g1,g2,g3,g4,m1,m9⟩
   ·have s14:=s1.trans w4
    exact q z r' ls size g H5 (s14.free hz) (s14.trans s5) h5 h6 h7 hL hs
end
end My
end
section
namespace My
open PySem L2 PyProof.Rows
theorem zjg:∀ {pl:List Int} {rw:List (Option Int)} {j:Nat} {y:Int},rw.length=pl.length→rw[j]? = some (some y)→∃ A B x,hps pl rw=A++(x,y) :: B∧hps pl (rw.set j none)=A++B
 | [],[],_,_,_,h=>by simp at h
 | [],_ :: _,_,_,h,_=>by simp at h
 | _ :: _,[],_,_,h,_=>by simp at h
 | x :: pl,o :: rw,0,y,hl,h=>by
  have h:o=some y:=by simpa using h
  subst h
  exact⟨[],hps pl rw,x,rfl,rfl⟩
 | x :: pl,o :: rw,j+1,y,hl,h=>by
  obtain⟨A,B,z,h1,h2⟩:=zjg (pl:=pl) (rw:=rw) (j:=j) (y:=y) (by simpa using hl) (by simpa using h)
  cases o with
  | none=>exact⟨A,B,z,by rw [hps]; exact h1,by rw [jM,hps]; exact h2⟩
  | some v=>exact⟨(x,v) :: A,B,z,by rw [hps,h1]; rfl,by rw [jM,hps,h2]; rfl⟩
theorem zeY (p:Int) (q:List Int) (A B:List (Int×Int)) (a:Int×Int):hits p q (A++B)≤hits p q (A++a :: B)∧hits p q (A++a :: B)≤hits p q (A++B)+1:=by
 unfold hits
 rw [cq,cq,ao,ao,List.filter_cons]
 split
 ·rw [aX]; lia
 ·lia
theorem znf (p:Int) (q:List Int) (A:List (Int×Int)):hits p q A≤A.length:=c9 _ _
theorem zov {p:Int} {k e e':Nat} {A B:List (Int×Int)} {a:Int×Int} {l l':List Int} {r r':List (List Int)} (L:LocOk p k [A++a :: B] e l r) (L':LocOk p k [A++B] e' l' r'):e'≤e:=by
 refine df fun h=>?_
 obtain⟨i,hi⟩:=L.nz
 refine hi (L'.mn e (by lia) l L.lf (fun pts hpts=>?_) i)
 obtain⟨h1,h2⟩:=L.ok (A++a :: B) (by simp)
 rw [a7.mp hpts]
 exact⟨_,h1,fun z hz=>h2 z ((aW.mp hz).elim (fun m=>by simp [m]) fun m=>by simp [m])⟩
theorem zfK {k a:Nat} {f:Tm→Int} (hk:2≤k) (hf:∀ t,a≤tz k t→f t=0):∀ {b:Nat},a≤b→lsum (zR k b) f=lsum (zR k a) f
 | 0,h=>by rw [show a=0 by lia]
 | b+1,h=>by
  by_cases e:a=b+1
  ·rw [e]
  ·have ih:=zfK hk hf (b:=b) (by lia)
   rw [zaL,zhv,ih,zfJ (l:=tms k b) fun t ht=>hf t ?_,Int.add_zero]
   have h1:t∈zR k (b+1):=by rw [zaL]; exact aG _ ht
   have h2:¬ t∈zR k b:=fun z=>by
    have nd:=zbu hk (b+1)
    rw [zaL,eG] at nd
    exact nd.2.2 t z t ht rfl
   have h3:¬ tz k t < b:=fun z=>h2 ((za7 hk).mpr z)
   lia
theorem zow {p:Int} {k s s':Nat} {pts pts':List (Int×Int×Nat)} {g g':Tm→Int} (hk:2≤k) (h:∀ c∈cos pts',c∈cos pts) (L:Lst p k pts s g) (L':Lst p k pts' s' g') (hp:0 < p):s'≤s:=by
 refine df fun hs=>?_
 obtain⟨t,ht,h0⟩:=L.top
 refine h0 ?_
 have:=L'.least g (fun c hc=>by
  rw [zfK (a:=s+1) hk (fun t ht=>by rw [L.out t (by lia),dI]) (by lia)]
  exact L.ok c (h c hc)) t (by lia)
 exact this.eq (L.rg t).1 (L.rg t).2 (bH _) hp
theorem zng {A B:List (Int×Int×Nat)} (h:∀ a∈A,a∈B):∀ c∈cos A,c∈cos B:=fun c hc=>by
 obtain⟨a,ha,hc⟩:=c6.mp hc
 exact c6.mpr ⟨a,h a ha,hc⟩
end My
end
section
namespace My
open PySem PySem.Spec L2 PyProof.Rows
noncomputable def isAt (H:Hp) (q:List Int) (u:Value):Bool:=@decide (∃ b,u = .ref b∧H b=some (.tup (q.map V.int))) (iE _)
theorem zjh {p q:List Int} (h:some (HO.tup (p.map V.int))=some (HO.tup (q.map V.int))):p=q :=
 (List.map_inj_right fun a b z=>by simpa using z).mp (HO.tup.inj (aO h))
theorem zji {H:Hp} {q q':List Int} {b:Addr} (h:H b=some (.tup (q'.map V.int))):isAt H q (.ref b)=decide (q'=q):=by
 unfold isAt
 rw [cm,@decide_eq_true_iff _ (iE _),decide_eq_true_iff]
 constructor
 ·rintro⟨b',eb,hb⟩
  cases eb
  exact zjh (h.symm.trans hb)
 ·rintro rfl
  exact⟨b,rfl,h⟩
theorem zdL {H:Hp} {q:List Int}:∀ {rs:List Addr} {qs:List (List Int)} {us:List Value},zbE H rs qs→zL (rs.map V.ref) us→us.any (isAt H q)=decide (q∈qs)
 | _,_,_,.nil,.nil=>by simp
 | r :: rs,q' :: qs,u :: us,.cons h t,.cons ru tu=>by
  have ih:=zdL (q:=q) t tu
  cases ru
  rw [gP,ih,zji h,cm,km,decide_eq_true_iff,decide_eq_true_iff,decide_eq_true_iff,aD]
  exact⟨fun z=>z.imp Eq.symm id,fun z=>z.imp Eq.symm id⟩
theorem zfL {X:Cx} {K:ag} (hK:X.K=K) (hu:X.A.units+20 < cLine):OpR X (compareOp .NotIn) (fun x y H Q=>∃ (a l:Addr) (q:List Int) (rs:List Addr) (qs:List (List Int)),x = .ref a∧y = .ref l∧H a=some (.tup (q.map V.int))∧SqL K H l (rs.map V.ref)∧zbE H rs qs∧Q (.bl (!decide (q∈qs))) H):=by
 subst hK
 intro pins s σ H x y v u Q I rx ry h
 obtain⟨a,l,q,rs,qs,rfl,rfl,ha,hl,hT,hQ⟩:=h
 cases rx
 cases ry
 obtain⟨its,r,pl,hz⟩:=I.list hl
 refine SeqAt.notIn_listAt (isAt H q) pl.isList (fun w hw=>?_) ⟨.bl _,H,I,rfl,?_⟩
 ·have hw:w∈its:=by simpa using hw
  obtain⟨j,hj⟩:=cF.mp hw
  obtain⟨hj1,hj2⟩:=az.mp hj
  obtain⟨z,hz1,rz⟩:=r.getE (j:=j) hj1
  obtain⟨b,rfl,hb⟩:=zY hz1
  obtain⟨q',hq',hH⟩:=Paired.get hT hb
  have hj3:its.toArray[j]=w:=by simpa using hj2
  rw [hj3] at rz
  cases rz
  have hH:H b=some (.tup (q'.map V.int)):=hH
  rw [zji hH]
  by_cases e:b=a
  ·subst e
   rw [zjh (hH.symm.trans ha),decide_eq_true rfl]
   exact (EqD.same (K:=X.K) (H:=H) (d:=8) (a:=b)).at I X.A.in1 (.ref b) (.ref b) rfl rfl (by simp only [ci]; lia)
  ·have e2:=(EqD.tups (d:=8) e (SqT.of hH) (SqT.of ha) zek).at I X.A.in1 (.ref b) (.ref a) rfl rfl (by simp only [ci]; lia)
   have e4:((aL (min (q'.map V.int).length (q.map V.int).length)).all (fun j=>decide (q'[j]? = q[j]?)) && (q'.map V.int).length == (q.map V.int).length)=decide (q'=q):=by
    rw [ab,ab,cm]
    simp only [dY,d7,bF,decide_eq_true_eq,beq_iff_eq]
    constructor
    ·rintro⟨h1,h2⟩
     refine eF fun j=>?_
     by_cases hj:j < q'.length
     ·exact h1 j (by lia)
     ·rw [b7 (by lia),b7 (by lia)]
    ·rintro rfl
     exact⟨fun _ _=>rfl,rfl⟩
   rw [← e4]
   exact e2
 ·rw [List.any_toArray,zdL hT r]
  exact hQ
end My
end
section
namespace My
open PySem L2 PyProof.Rows
section
variable {P:Program} {w:World} {K:ag} {mg:Str→Option Value} {base:Heap} {t:Adr}
theorem zfM {H:Hp} {Q:VK} {a b:Addr} {xs ys:List V} (ha:SqL K H a xs) (hb:SqL K H b ys) (hl:xs.length=ys.length) (he:∀ (j:Nat) x y,xs[j]? = some x→ys[j]? = some y→EqD K H 8 x y true) (q:Q (.bl false) H):zku K true (.ref a) (.ref b) H Q:=by
 refine⟨a,b,_,_,rfl,rfl,.inl ⟨ha,hb⟩,.inr ⟨hl,fun _=>true,he,?_⟩⟩
 have:(aL xs.length).all (fun _=>true)=true:=by simp
 rw [this]
 exact q
theorem zl0 {H:Hp} {Q:VK} {a b:Addr} {ms:List Int} (ha:H a=some (.tup (ms.map V.int))) (hb:H b=some (.tup (ms.map V.int))) (q:Q (.bl false) H):zku K true (.ref a) (.ref b) H Q:=by
 refine⟨a,b,_,_,rfl,rfl,.inr ⟨SqT.of ha,SqT.of hb⟩,.inr ⟨rfl,fun _=>true,fun j x y e1 e2=>?_,?_⟩⟩
 ·rw [e1] at e2
  cases e2
  obtain⟨z,rfl,_⟩:=zal e1
  exact zlH rfl
 ·have:(aL (ms.map V.int).length).all (fun _=>true)=true:=by simp
  rw [this]
  exact q
theorem zpb (xs:List V) (i:Nat):zaW xs (some (i:Int)) none=xs.drop i:=by
 unfold zaW
 have e:HT.sIx xs.length 0 (some (i:Int))=min i xs.length:=by
  unfold HT.sIx
  simp only
  rw [if_neg (by lia)]
  lia
 rw [e]
 show ((xs.drop (min i xs.length)).take (xs.length - min i xs.length))=_
 by_cases h:i≤xs.length
 ·rw [show min i xs.length=i by lia,aK (by rw [bK]; lia)]
 ·rw [show min i xs.length=xs.length by lia,cw (af _),cw (show xs.length≤i by lia),fX]
theorem znh (rw:List (Option Int)) {j:Nat} (h:j < rw.length):(rw.map enc).take j++[V.non]++(rw.map enc).drop (j+1)=(rw.set j none).map enc:=by
 rw [List.set_eq_take_append_cons_drop,if_pos h,ar,aU,cX,fW]
 simp [enc]
theorem zaQ:FnScope ["script","code","p","k","places","row","draw","some","number","less","t","more","fewer","m","one"] ["script"] (zh zb6):=⟨rfl,rfl,rfl,by decide +kernel,rfl,by decide +kernel,by decide +kernel⟩
theorem zox {fd:FuncData} (T:Txt K mg t) (F:Fun K "law" "law" zb6 t.law fd):FnOk P w K mg base CX0 8 t.law fd ["script"] (zf2 K):=by
 obtain⟨fd_l_code,F_l_code,b_l_code⟩:=T.f_l_code
 have G_l_code:=zj5 (P:=P) (w:=w) (base:=base) T F_l_code
 obtain⟨fd_l_row,F_l_row,b_l_row⟩:=T.f_l_row
 have G_l_row:=zlK (P:=P) (w:=w) (base:=base) T F_l_row
 obtain⟨fd_l_draws,F_l_draws,b_l_draws⟩:=T.f_l_draws
 have G_l_draws:=zcY (P:=P) (w:=w) (base:=base) T F_l_draws
 obtain⟨fd_all_near,F_all_near,b_all_near⟩:=T.f_all_near
 have G_all_near:=zhA (P:=P) (w:=w) (base:=base) T F_all_near
 obtain⟨fd_locator_of,F_locator_of,b_locator_of⟩:=T.f_locator_of
 have G_locator_of:=zcT (P:=P) (w:=w) (base:=base) T F_locator_of
 obtain⟨fd_curve_for,F_curve_for,b_curve_for⟩:=T.f_curve_for
 have G_curve_for:=zgD (P:=P) (w:=w) (base:=base) T F_curve_for
 obtain⟨fd_half,F_half,b_half⟩:=T.f_half
 have G_half:=znb (P:=P) (w:=w) (base:=base) T F_half
 obtain⟨fd_fits,F_fits,b_fits⟩:=T.f_fits
 have G_fits:=zgx (P:=P) (w:=w) (base:=base) T F_fits
 refine F.ok zaQ (fun vs H Q E h=>?_) (fun cdv A outer s H vs Q E hr h=>?_)
 ·obtain⟨a,ns,rfl,_⟩:=h
  rfl
 ·obtain⟨a,ns,rfl,hS,hlen,q⟩:=h
  have hu:(A.deeper (envOfC (bN "law") (zh zb6) s.heap.objs.size t.law cdv)).units+20 < cLine:=by have:=hr.units; lia
  refine⟨_,#[zd,#[zo,1,zaQ.nd,(aq rfl),#[zr,G_l_code,(hr.mono (by decide)),T.m_l_code,F_l_code.kp,b_l_code,#[zG],#[za,#[pvx,0],by exact #[za,#[zf],#[za,#[zf],#[za,#[zf],#[ze]]]]]]],by exact #[zd,#[za8,#[pvx,1],#[zaU,#[zi,#[zg,2,zaQ.nd,(aq rfl)],#[zi,#[zg,3,zaQ.nd,(aq rfl)],#[zi,#[zg,4,zaQ.nd,(aq rfl)],#[zJ]]]]]],by exact #[zd,#[zo,5,zaQ.nd,(bX rfl),#[zr,G_l_row,(hr.mono (by decide)),T.m_l_row,F_l_row.kp,b_l_row,#[zG],#[za,#[pvx,0],#[za,#[zf],#[za,#[pvx,1],#[ze]]]]]],by exact #[zd,#[za9,bA,#[zS,#[zr,G_l_draws,(hr.mono (by decide)),T.m_l_draws,F_l_draws.kp,b_l_draws,#[zG],#[za,#[pvx,0],by exact #[za,#[zf],#[za,#[zf],#[za,#[zf],#[ze]]]]]]],#[zg,6,zaQ.nd,(aq rfl)],#[zd,#[zaA,7,zaQ.nd,(aq rfl),(CompSc.of (N':=["number","row"]) (ix:=[none,some 5]) (zh zb6) ["script","code","p","k","places","row","draw","some","number","less","t","more","fewer","m","one"] rfl rfl (by decide +kernel)),#[zap],#[zai,T.range_,#[za,#[zA,#[zu],T.len_,b9,#[za,#[pvx,5],#[ze]]],#[ze]]],(fun _ _ _ _=>#[zg,0,(show (["number","row"]:List Str).Nodup by decide +kernel),(aq rfl)]),(fun _ _ _ _=>#[zbq,#[zC,#[zfQ],#[zM,#[zbr,(K)],#[pvx,1],#[pvx,0]],#[zbJ],(zQ _)]]),(fun _ _ _ _=>#[pvx,0])],by exact #[zd,#[za6,#[zC,(@znX _ hu),#[pvx,7],#[zX,#[ze]],(zQ _)],#[zn,#[zE,#[zdD]]],#[zab]],by exact #[zd,#[zo,8,zaQ.nd,(aq rfl),#[zM,#[zK],#[pvx,7],#[zj,#[zH],#[pvx,6],#[zA,#[zu],T.len_,b9,#[za,#[pvx,7],#[ze]]]]]],by exact #[zd,#[zo,9,zaQ.nd,(aq rfl),#[zj,#[zb9],#[zj,#[zb9],#[zax,zba,#[pvx,5],#[za1],#[zaH,#[pvx,8]]],#[zX,#[za,#[zbJ],#[ze]]]],#[zax,zba,#[pvx,5],#[zaH,#[zj,#[zO],#[pvx,8],#[zf]]],#[za1]]]],by exact #[zd,#[za9,bA,#[zS,#[zX,#[za,#[pvx,3],#[za,#[zj,#[zO],#[pvx,3],#[zf]],#[za,#[zj,#[zO],#[pvx,3],#[zf]],#[ze]]]]]],#[zg,10,zaQ.nd,(aq rfl)],#[zd,#[zo,11,zaQ.nd,(bX rfl),#[zr,G_all_near,(hr.mono (by decide)),T.m_all_near,F_all_near.kp,b_all_near,#[zG],#[za,#[pvx,1],#[za,#[pvx,5],#[za,#[pvx,10],#[ze]]]]]],by exact #[zd,#[za6,#[zC,#[zhR,hu],#[z0,(CompSc.of (N':=["one","more"]) (ix:=[none,some 11]) (zh zb6) ["script","code","p","k","places","row","draw","some","number","less","t","more","fewer","m","one"] rfl rfl (by decide +kernel)),#[zap],#[zS,#[zr,G_all_near,(hr.mono (by decide)),T.m_all_near,F_all_near.kp,b_all_near,#[zG],#[za,#[pvx,1],#[za,#[pvx,9],#[za,#[pvx,10],#[ze]]]]]],(fun _ _ _ _=>#[zg,0,(show (["one","more"]:List Str).Nodup by decide +kernel),(aq rfl)]),(fun _ _ _ _=>#[zbq,#[zC,(zfL rfl hu),#[pvx,0],#[pvx,1],(by with_unfolding_all rfl)]]),(fun _ _ _ _=>#[pvx,0])],#[zX,#[ze]],(zQ _)],#[zn,#[zE,#[zdD]]],#[zab]],by exact #[zd,(zh5 #[zo,12,zaQ.nd,(bX rfl),#[zgI,#[zC,#[zc2],#[pvx,10],#[pvx,3],(zQ _)],#[zr,G_all_near,(hr.mono (by decide)),T.m_all_near,F_all_near.kp,b_all_near,#[zG],#[za,#[pvx,1],#[za,#[pvx,9],#[za,#[zj,#[zaV],#[pvx,10],#[zf]],#[ze]]]]],#[pvx,11]]]),by exact #[zn,#[za6,#[zC,#[zhR,hu],#[z0,(CompSc.of (N':=["one","fewer"]) (ix:=[none,some 12]) (zh zb6) ["script","code","p","k","places","row","draw","some","number","less","t","more","fewer","m","one"] rfl rfl (by decide +kernel)),#[zap],#[zS,#[pvx,11]],(fun _ _ _ _=>#[zg,0,(show (["one","fewer"]:List Str).Nodup by decide +kernel),(aq rfl)]),(fun _ _ _ _=>#[zbq,#[zC,(zfL rfl hu),#[pvx,0],#[pvx,1],(by with_unfolding_all rfl)]]),(fun _ _ _ _=>#[pvx,0])],#[zX,#[ze]],(zQ _)],#[zn,#[zE,#[zdD]]],#[zab]]]]]]],by exact #[zd,#[za6,#[zC,#[zc2],#[zM,#[zb8],#[zr,G_locator_of,(hr.mono (by decide)),T.m_locator_of,F_locator_of.kp,b_locator_of,#[zG],#[za,#[pvx,1],#[za,#[pvx,9],#[ze]]]],#[zf]],#[zM,#[zb8],#[zr,G_locator_of,(hr.mono (by decide)),T.m_locator_of,F_locator_of.kp,b_locator_of,#[zG],#[za,#[pvx,1],#[za,#[pvx,5],#[ze]]]],#[zf]],(zQ _)],#[zn,#[zE,#[zdD]]],#[zab]],by exact #[zd,#[za9,bA,#[zS,#[zax,zba,#[zX,#[za,#[zf],#[za,#[zf],#[ze]]]],#[za1],#[zaH,#[zj,#[zZ],#[zf],#[zaD,(@zjn _),T.int_,boot_int,#[za,(@zl5 _ _ _ _ _ _ _ _ #[zc2] #[pvx,3] #[zf] (zQ _)),#[ze]]]]]]],#[zg,13,zaQ.nd,(aq rfl)],#[zn,#[za6,#[zC,#[zc2],#[zM,#[zb8],#[zr,G_curve_for,(hr.mono (by decide)),T.m_curve_for,F_curve_for.kp,b_curve_for,#[zG],#[za,#[pvx,1],#[za,#[pvx,9],#[za,#[pvx,13],#[ze]]]]],#[zf]],#[zM,#[zb8],#[zr,G_curve_for,(hr.mono (by decide)),T.m_curve_for,F_curve_for.kp,b_curve_for,#[zG],#[za,#[pvx,1],#[za,#[pvx,5],#[za,#[pvx,13],#[ze]]]]],#[zf]],(zQ _)],#[zn,#[zE,#[zdD]]],#[zab]]]],by exact #[zd,#[zo,14,zaQ.nd,(aq rfl),#[zr,G_half,(hr.mono (by decide)),T.m_half,F_half.kp,b_half,#[zG],#[za,#[pvx,1],#[za,#[pvx,5],#[ze]]]]],by exact #[zd,(zh5 #[za6,(@PW.pt _ _ _ #[zfO,#[zC,#[zfQ],#[pvx,14],#[zbJ],(zQ _)],#[zfO,#[zC,#[zdE],#[zA,#[zu],T.len_,b9,#[za,#[zr,G_fits,(hr.mono (by decide)),T.m_fits,F_fits.kp,b_fits,#[zG],#[za,#[pvx,1],#[za,#[pvx,5],#[za,#[pvx,14],#[ze]]]]],#[ze]]],#[zA,#[zu],T.len_,b9,#[za,#[pvx,7],#[ze]]],(zQ _)],#[zfO,#[zC,#[zc2],#[zA,#[zu],T.len_,b9,#[za,#[pvx,7],#[ze]]],#[pvx,3],(zQ _)],#[zih,#[zC,#[zhR,hu],#[zr,G_half,(hr.mono (by decide)),T.m_half,F_half.kp,b_half,#[zG],#[za,#[pvx,1],#[za,#[pvx,9],#[ze]]]],#[pvx,14],(zQ _)]]]]]),#[zn,#[zE,#[zdD]]],#[zab]]),by exact #[zd,#[zo,5,zaQ.nd,(bX rfl),#[pvx,9]],by exact #[zn,#[za6,#[zC,#[zdE],#[zj,#[zH],#[zj,#[zbB],#[pvx,6],#[zf]],#[zf]],#[zf],(zQ _)],#[zd,#[zo,5,zaQ.nd,(bX rfl),#[zaD,(@zfS _),T.list_,boot_list,#[za,#[pvx,9],#[ze]]]],by exact #[zn,#[za8,#[zj,#[zH],#[zj,#[zbB],#[pvx,6],#[zf]],#[pvx,2]],#[zkc,#[pvx,5],#[pvx,8],set_list]]]],#[zab]]]]]]]]]]]]]],by exact #[zn,#[zE,#[zdD]]]]]]],?_⟩
  have hsl:=aV
  refine⟨_,rfl,a,ns,0,4,10,rfl,hS,hlen,by decide,by decide,by decide,by decide,by decide,by decide,fun c tt p kI pl H1 hc1 s1 co h1c h1t=>?_⟩
  have rp:=zp co.pr
  have k1:=co.k1
  have kk:=co.kk
  have kn:=co.kl
  have ln:=co.ln
  have p0:0 < p:=by lia
  obtain⟨k,rfl⟩:∃ k:Nat,kI=k:=⟨kI.toNat,by lia⟩
  have hcA:zbh H1 c tt p k pl:=⟨h1c,h1t⟩
  refine⟨_,rfl,c,_,rfl,SqT.of h1c,rfl,_,_,rfl,_,_,rfl,_,_,rfl,rfl,?_⟩
  refine⟨_,rfl,_,rfl,a,c,tt,ns,1,p,k,pl,rfl,s1.seq hS,hlen,by decide,by decide,hcA,by lia,by lia,co.rg,by lia,fun r0 rw0 H2 hr2 s2 hrl0 hrw0 h2r0=>?_⟩
  have hcB:=hcA.same s2
  have s12:=s1.trans s2
  refine⟨_,rfl,a,ns,3,4,27720,rfl,s12.seq hS,hlen,by decide,by decide,by decide,by decide,by decide,by decide,fun dl ds H3 hdl s3 ok h3=>?_⟩
  have hcC:=hcB.same s3
  refine⟨dl,rfl,⟨_,SqL.of h3⟩,zbp (K:=K) (a:=dl) (xs:=ds.map V.int) (fun i σ H'=>∃ (r:Addr) (rw:List (Option Int)) (e6 e7 e8 e9 e10 e11 e12 e13 e14:Option V),σ = [some (.ref a),some (.ref c),some (.int p),some (.int (k:Int)),some (.ref tt),some (.ref r),e6,e7,e8,e9,e10,e11,e12,e13,e14]∧zt H3 H'∧H' r=some (.lst (rw.map enc))∧rw.length=pl.length∧∀ z,some z∈rw→0≤z∧z < p)
   ⟨r0,rw0,none,none,none,none,none,none,none,none,none,rfl,fun _ _ e=>e,s3 _ _ h2r0,hrl0,hrw0⟩ (fun i σ H' _ ⟨_,_,_,_,_,_,_,_,_,_,_,_,s4,_⟩=>SqL.of (s4 _ _ h3)) ?_ ?_⟩
  ·rintro i y σ H4 hy ⟨r,rw,e6,e7,e8,e9,e10,e11,e12,e13,e14,rfl,s4,h4r,hrl,hrw⟩
   obtain⟨d,rfl,hd⟩:=zal hy
   obtain⟨d0,d1⟩:=ok.2 d (aB hd)
   refine⟨_,rfl,r,_,rfl,.inl (SqL.of h4r),_,rfl,by rw [ab]; lia,by rw [ab]; lia,?_⟩
   rw [ab,bm]
   refine zT (n:=rw.length) (fun i ys H'=>ys=(zaz rw i).map V.int∧H'=H4) ⟨rfl,rfl⟩ (fun i ys H' hi _=>hi) (fun ys H' _=>af _) ?_ ?_
   ·rintro i xx ys H5 H6 hi ⟨rfl,rfl⟩ ⟨rfl,rfl⟩
    obtain⟨o,ho⟩:∃ o,rw[i]? = some o:=⟨rw[i]'(by lia),by simp⟩
    have hat:atI (rw.map enc) (0+(i:Int))=some (enc o):=by
     rw [dw]
     exact zaR (by rw [ah,ho]; rfl)
    refine⟨_,rfl,_,rfl,r,_,_,_,rfl,rfl,SqL.of h4r,hat,rfl,_,rfl,?_⟩
    have hl:=zf4 rw i
    rw [zet,ho,ar]
    refine zaI (fun h1=>⟨_,rfl,zad (by rw [ab]; lia),?_,rfl⟩) (fun h1=>⟨?_,rfl⟩)
    ·cases o with
     | none=>exact absurd h1 (by simp [enc])
     | some z=>rw [dw]; rfl
    ·cases o with
     | none=>simp
     | some z=>exact absurd (by simp [enc]) h1
   rintro ys H5 D ⟨rfl,rfl⟩ hD
   have sD:=zb (o:=.lst ((zaz rw rw.length).map V.int)) hD
   have hDD:upd H5 D (.lst ((zaz rw rw.length).map V.int)) D=some (.lst ((zaz rw rw.length).map V.int)):=zc
   generalize upd H5 D (.lst ((zaz rw rw.length).map V.int))=H6 at sD hDD ⊢
   refine⟨_,rfl,aY _,fun Z hZ=>?_⟩
   have sZ:=zb (o:=.lst []) hZ
   have hZZ:upd H6 Z (.lst []) Z=some (.lst (([]:List Int).map V.int)):=zc
   have hDZ:=sZ _ _ hDD
   generalize upd H6 Z (.lst [])=H7 at sZ hZZ hDZ ⊢
   refine zjy (.inl ⟨SqL.of hDZ,SqL.of hZZ⟩) ⟨_,rfl,?_⟩
   refine zaI (fun _=>q _) (fun hne=>?_)
   have hne:zaz rw rw.length≠[]:=by simpa using hne
   have hpos:0 < (zaz rw rw.length).length:=gm.mpr hne
   have m0:=aH d (show ((zaz rw rw.length).length:Int)≠0 by lia)
   have m1:=aC d (show 0 < ((zaz rw rw.length).length:Int) by lia)
   obtain⟨mj,hmj⟩:∃ mj:Nat,d % ((zaz rw rw.length).length:Int)=mj:=⟨(d % ((zaz rw rw.length).length:Int)).toNat,by lia⟩
   obtain⟨z,hz⟩:∃ z,(zaz rw rw.length)[mj]? = some z:=⟨(zaz rw rw.length)[mj]'(by lia),by simp⟩
   obtain⟨j,yv,rfl,hj,hjy⟩:=zlh (aB hz)
   have hat:atI ((zaz rw rw.length).map V.int) (d % ((zaz rw rw.length).length:Int))=some (.int (j:Int)):=by
    rw [hmj]
    exact zaR (by rw [ah,hz]; rfl)
   refine⟨_,rfl,_,rfl,_,rfl,D,_,rfl,.inl (SqL.of hDZ),?_⟩
   rw [ab]
   refine⟨_,_,rfl,rfl,by lia,D,_,_,_,rfl,rfl,SqL.of hDZ,hat,?_⟩
   have s47:=sD.trans sZ
   have h7r:=s47 _ _ h4r
   refine⟨_,rfl,_,rfl,_,rfl,r,_,rfl,SqL.of h7r,fun l1 hl1=>?_⟩
   rw [zgv]
   have w1:=zb (o:=.lst ((rw.map enc).take j)) hl1
   have g1:upd H7 l1 (.lst ((rw.map enc).take j)) l1=some (.lst ((rw.map enc).take j)):=zc
   generalize upd H7 l1 (.lst ((rw.map enc).take j))=Ha at w1 g1 ⊢
   refine⟨by show 1≤sizeLine; lia,fun l2 hl2=>?_⟩
   have w2:=zb (o:=.lst [V.non]) hl2
   have g2:upd Ha l2 (.lst [V.non]) l2=some (.lst [V.non]):=zc
   generalize upd Ha l2 (.lst [V.non])=Hb at w2 g2 ⊢
   refine⟨l1,l2,_,_,rfl,rfl,w2 _ _ g1,g2,by rw [aA,ab]; show min j rw.length+1≤sizeLine; lia,fun l3 hl3=>?_⟩
   have w3:=zb (o:=.lst ((rw.map enc).take j++[V.non])) hl3
   have g3:upd Hb l3 (.lst ((rw.map enc).take j++[V.non])) l3=some (.lst ((rw.map enc).take j++[V.non])):=zc
   generalize upd Hb l3 (.lst ((rw.map enc).take j++[V.non]))=Hc at w3 g3 ⊢
   have s7c:=(w1.trans w2).trans w3
   refine⟨_,rfl,_,rfl,_,_,rfl,rfl,_,rfl,r,_,rfl,SqL.of (s7c _ _ h7r),fun l4 hl4=>?_⟩
   rw [show ((j:Int)+1)=((j+1:Nat):Int) by lia,zpb]
   have w4:=zb (o:=.lst ((rw.map enc).drop (j+1))) hl4
   have g4:upd Hc l4 (.lst ((rw.map enc).drop (j+1))) l4=some (.lst ((rw.map enc).drop (j+1))):=zc
   generalize upd Hc l4 (.lst ((rw.map enc).drop (j+1)))=Hd at w4 g4 ⊢
   refine⟨l3,l4,_,_,rfl,rfl,w4 _ _ g3,g4,by rw [ao,aA,bK,ab]; show min j rw.length+1+_≤sizeLine; lia,fun L hL=>?_⟩
   rw [znh rw hj]
   obtain⟨less,eless⟩:∃ less,less=rw.set j none:=⟨_,rfl⟩
   rw [← eless]
   have w5:=zb (o:=.lst (less.map enc)) hL
   have hLL:upd Hd L (.lst (less.map enc)) L=some (.lst (less.map enc)):=zc
   generalize upd Hd L (.lst (less.map enc))=He at w5 hLL ⊢
   have s4e:=(s47.trans s7c).trans (w4.trans w5)
   have hre:=s4e _ _ h4r
   have hce:=(hcC.same s4).same s4e
   have hll:less.length=pl.length:=by rw [eless,fj]; exact hrl
   have hlw:∀ z,some z∈less→0≤z∧z < p:=fun z hz=>by
    rw [eless] at hz
    exact hrw z ((fm hz).resolve_right (by simp))
   obtain⟨PA',PB',px,eP,eL⟩:=zjg hrl hjy
   rw [← eless] at eL
   have hDe:=(s7c.trans (w4.trans w5)) _ _ hDZ
   have hsm:(zaz rw rw.length).length=(hps pl rw).length:=by rw [zmH hrl,ab]
   have hse:=s4.trans s4e
   refine⟨_,rfl,_,rfl,_,_,rfl,rfl,_,rfl,_,_,rfl,rfl,by show 3≤sizeLine; lia,fun TL hTL=>?_⟩
   have w6:=zb (o:=.lst [V.int (k:Int),V.int ((k:Int)+1),V.int ((k:Int)+2)]) hTL
   have hT:upd He TL (.lst [V.int (k:Int),V.int ((k:Int)+1),V.int ((k:Int)+2)]) TL=some (.lst ([(k:Int),(k:Int)+1,(k:Int)+2].map V.int)):=zc
   generalize upd He TL (.lst [V.int (k:Int),V.int ((k:Int)+1),V.int ((k:Int)+2)])=Hf at w6 hT ⊢
   have hcf:=hce.same w6
   have hrf:=w6 _ _ hre
   have hLf:=w6 _ _ hLL
   have hDf:=w6 _ _ hDe
   have hsf:=hse.trans w6
   refine⟨TL,rfl,⟨_,SqL.of hT⟩,zbp (K:=K) (a:=TL) (xs:=[(k:Int),(k:Int)+1,(k:Int)+2].map V.int) (fun i σ H'=>∃ (e10 e11 e12:Option V),σ = [some (.ref a),some (.ref c),some (.int p),some (.int (k:Int)),some (.ref tt),some (.ref r),some (.int d),some (.ref D),some (.int (j:Int)),some (.ref L),e10,e11,e12,e13,e14]∧zt Hf H')
    ⟨e10,e11,e12,rfl,fun _ _ e=>e⟩ (fun i σ H' _ ⟨_,_,_,_,s8⟩=>SqL.of (s8 _ _ hT)) ?_ ?_⟩
   ·rintro i' y σ H8 hy ⟨e10,e11,e12,rfl,s8⟩
    obtain⟨T',rfl,hT'⟩:=zal hy
    have hTk:(k:Int)≤T':=by
     have:=aB hT'
     simp only [aD,aR,or_false] at this
     lia
    refine⟨_,rfl,_,rfl,_,rfl,c,tt,r,p,k,T',pl,rw,rfl,hcf.same s8,s8 _ _ hrf,hrl,by lia,co.pr,co.nd,co.rg,hrw,by lia,by lia,hTk,fun ml mrs mqs H9 hml s9 h9m hmT hmR hmm=>?_⟩
    have s89:=s8.trans s9
    refine⟨_,rfl,_,rfl,_,rfl,c,tt,L,p,k,T',pl,less,rfl,hcf.same s89,s89 _ _ hLf,hll,by lia,co.pr,co.nd,co.rg,hlw,by lia,by lia,hTk,fun nl nrs nqs H10 hnl s10 h10n hnT hnR hnm=>?_⟩
    have hml10:=s10 _ _ h9m
    have hmT10:=hmT.same s10
    refine⟨nl,rfl,⟨_,SqL.of h10n⟩,zT (n:=nrs.length) (fun i ys H'=>ys = []∧H'=H10) ⟨rfl,rfl⟩ ?_ ?_ ?_ ?_⟩
    ·rintro i ys H' hi ⟨_,rfl⟩
     exact⟨_,.ref (nrs[i]'(by lia)),SqL.of h10n,by rw [ah,am (by lia)]; rfl⟩
    ·rintro ys H' ⟨_,rfl⟩
     exact⟨_,SqL.of h10n,by rw [ab]; exact af _⟩
    ·rintro i zz ys H11 H12 hi ⟨rfl,rfl⟩ ⟨rfl,hx⟩
     obtain⟨b,rfl,hb⟩:=zY (hx _ (SqL.of h10n))
     obtain⟨q',hq',hqa⟩:=Paired.get hnT hb
     obtain⟨n1,n2⟩:=(hnm q').mp (aB hq')
     have hin:q'∈mqs:=(hmm q').mpr ⟨n1,by
      have:=(zeY p q' PA' PB' (px,yv)).1
      rw [eP]
      rw [eL] at n2
      lia⟩
     refine⟨_,rfl,_,rfl,b,ml,q',mrs,mqs,rfl,rfl,hqa,SqL.of hml10,hmT10,_,rfl,?_⟩
     rw [decide_eq_true hin]
     exact ze0 ⟨rfl,rfl⟩
    rintro ys H11 D1 ⟨rfl,rfl⟩ hD1
    refine⟨aY _,fun Z1 hZ1=>?_⟩
    have wz:=(zb (o:=.lst []) hD1).trans (zb (o:=.lst []) hZ1)
    have z1:upd (upd H11 D1 (.lst [])) Z1 (.lst []) D1=some (.lst []):=(zb (o:=.lst []) hZ1) _ _ zc
    have z2:upd (upd H11 D1 (.lst [])) Z1 (.lst []) Z1=some (.lst []):=zc
    generalize upd (upd H11 D1 (.lst [])) Z1 (.lst [])=H12 at wz z1 z2 ⊢
    refine zfM (SqL.of z1) (SqL.of z2) rfl (fun j x y hx _=>by simp at hx) ⟨_,rfl,ze0 ?_⟩
    have s812:=s89.trans (s10.trans wz)
    have hml12:=wz _ _ hml10
    have hmT12:=hmT10.same wz
    refine⟨fun σ H'=>∃ (fl:Addr) (frs:List Addr) (fqs:List (List Int)),σ = [some (.ref a),some (.ref c),some (.int p),some (.int (k:Int)),some (.ref tt),some (.ref r),some (.int d),some (.ref D),some (.int (j:Int)),some (.ref L),some (.int T'),some (.ref ml),some (.ref fl),e13,e14]∧zt H12 H'∧H' fl=some (.lst (frs.map V.ref))∧zbE H' frs fqs∧∀ q'∈mqs,q'∈fqs,?_,?_⟩
    ·refine⟨_,rfl,_,rfl,_,_,rfl,rfl,_,rfl,?_⟩
     refine zaI (fun h=>?_) (fun h=>⟨_,rfl,ml,mrs,mqs,rfl,fun _ _ e=>e,hml12,hmT12,fun _ h=>h⟩)
     have h:=of_decide_eq_true h
     refine⟨_,rfl,_,rfl,_,rfl,_,_,rfl,rfl,c,tt,L,p,k,T' - 1,pl,less,rfl,hcf.same s812,s812 _ _ hLf,hll,by lia,co.pr,co.nd,co.rg,hlw,by lia,by lia,by lia,fun fl frs fqs H13 hfl s13 h13 hfT hfR hfm=>?_⟩
     refine⟨fl,frs,fqs,rfl,s13,h13,hfT,fun q' hq'=>?_⟩
     obtain⟨n1,n2⟩:=(hmm q').mp hq'
     have:=(zeY p q' PA' PB' (px,yv)).2
     rw [← eP,← eL] at this
     exact (hfm q').mpr ⟨n1,by lia⟩
    rintro σ' H13 ⟨fl,frs,fqs,rfl,s13,h13,hfT,hsub⟩
    have hml13:=s13 _ _ hml12
    have hmT13:=hmT12.same s13
    refine⟨_,rfl,ml,rfl,⟨_,SqL.of hml13⟩,zT (n:=mrs.length) (fun i ys H'=>ys = []∧H'=H13) ⟨rfl,rfl⟩ ?_ ?_ ?_ ?_⟩
    ·rintro i ys H' hi ⟨_,rfl⟩
     exact⟨_,.ref (mrs[i]'(by lia)),SqL.of hml13,by rw [ah,am (by lia)]; rfl⟩
    ·rintro ys H' ⟨_,rfl⟩
     exact⟨_,SqL.of hml13,by rw [ab]; exact af _⟩
    ·rintro i zz ys H14 H15 hi ⟨rfl,rfl⟩ ⟨rfl,hx⟩
     obtain⟨b,rfl,hb⟩:=zY (hx _ (SqL.of hml13))
     obtain⟨q',hq',hqa⟩:=Paired.get hmT13 hb
     refine⟨_,rfl,_,rfl,b,fl,q',frs,fqs,rfl,rfl,hqa,SqL.of h13,hfT,_,rfl,?_⟩
     rw [decide_eq_true (hsub q' (aB hq'))]
     exact ze0 ⟨rfl,rfl⟩
    rintro ys H14 D2 ⟨rfl,rfl⟩ hD2
    refine⟨aY _,fun Z2 hZ2=>?_⟩
    have wz2:=(zb (o:=.lst []) hD2).trans (zb (o:=.lst []) hZ2)
    refine zfM (SqL.of ((zb (o:=.lst []) hZ2) _ _ zc)) (SqL.of zc) rfl (fun j x y hx _=>by simp at hx) ⟨_,rfl,ze0 ?_⟩
    exact⟨_,_,_,rfl,s812.trans (s13.trans wz2)⟩
   rintro σ H8 ⟨e10,e11,e12,rfl,s8⟩
   have hc8:=hcf.same s8
   refine⟨_,rfl,_,rfl,c,tt,L,p,k,pl,less,rfl,hc8,s8 _ _ hLf,hll,by lia,co.pr,co.nd,co.rg,hlw,by lia,by lia,fun z1 la1 rb1 f1 left1 right1 H9 s9 h9z h9l h9r he1 L1=>?_⟩
   refine⟨z1,_,_,_,rfl,rfl,SqT.of h9z,rfl,?_⟩
   have s89:=s8.trans s9
   refine⟨_,rfl,_,rfl,c,tt,r,p,k,pl,rw,rfl,hcf.same s89,s89 _ _ hrf,hrl,by lia,co.pr,co.nd,co.rg,hrw,by lia,by lia,fun z2 la2 rb2 f2 left2 right2 H10 s10 h10z h10l h10r he2 L2=>?_⟩
   refine⟨z2,_,_,_,rfl,rfl,SqT.of h10z,rfl,_,_,rfl,rfl,_,rfl,?_⟩
   rw [eP] at L2
   rw [eL] at L1
   have hle:=zov L2 L1
   refine zaI (fun h=>absurd (of_decide_eq_true h) (by lia)) (fun _=>?_)
   have s810:=s89.trans s10
   refine⟨by show 2≤sizeLine; lia,fun ML hML=>?_⟩
   have w11:=zb (o:=.lst [V.int 1,V.int 2]) hML
   have g11:upd H10 ML (.lst [V.int 1,V.int 2]) ML=some (.lst [V.int 1,V.int 2]):=zc
   generalize upd H10 ML (.lst [V.int 1,V.int 2])=H11 at w11 g11 ⊢
   refine⟨_,rfl,_,_,rfl,rfl,.inr ⟨_,rfl,_,_,rfl,rfl,.inl ⟨by decide,by decide⟩,_,rfl,ML,_,rfl,SqL.of g11,fun S hS=>?_⟩⟩
   obtain⟨ms,hms,hm2⟩:∃ ms:List Int,zaW [V.int 1,V.int 2] none (some (2*(if decide (1 < (k:Int))=true then 1 else 0)))=ms.map V.int∧∀ m∈ms,(m=1∨m=2)∧2≤k:=by
    by_cases h:1 < (k:Int)
    ·exact⟨[1,2],by rw [decide_eq_true h]; rfl,fun m hm=>⟨by simpa using hm,by lia⟩⟩
    ·exact⟨[],by rw [decide_eq_false h]; rfl,fun m hm=>by cases hm⟩
   rw [hms]
   have w12:=zb (o:=.lst (ms.map V.int)) hS
   have g12:upd H11 S (.lst (ms.map V.int)) S=some (.lst (ms.map V.int)):=zc
   generalize upd H11 S (.lst (ms.map V.int))=H12 at w12 g12 ⊢
   have s812:=s810.trans (w11.trans w12)
   refine⟨S,rfl,⟨_,SqL.of g12⟩,zbp (K:=K) (a:=S) (xs:=ms.map V.int) (fun i σ H'=>∃ (e13:Option V),σ = [some (.ref a),some (.ref c),some (.int p),some (.int (k:Int)),some (.ref tt),some (.ref r),some (.int d),some (.ref D),some (.int (j:Int)),some (.ref L),e10,e11,e12,e13,e14]∧zt H12 H')
    ⟨e13,rfl,fun _ _ e=>e⟩ (fun i σ H' _ ⟨_,_,s8⟩=>SqL.of (s8 _ _ g12)) ?_ ?_⟩
   ·rintro i' y σ H13 hy ⟨e13,rfl,s13⟩
    obtain⟨m',rfl,hm'⟩:=zal hy
    obtain⟨hm12,hk2⟩:=hm2 m' (aB hm')
    obtain⟨mn,rfl,hmn1,hmn2⟩:∃ mn:Nat,m'=mn∧1≤mn∧mn≤2:=⟨m'.toNat,by lia,by lia,by lia⟩
    have htri:tri mn≤3:=by
     rcases (show mn=1∨mn=2 by lia) with rfl | rfl <;> decide
    have hA:∀ rw':List (Option Int),(hps pl rw').length*tri mn≤199:=fun rw'=>aZ (kC (aZ (zbO pl rw') (show pl.length≤10 by lia)) htri) (by decide)
    have s813:=s812.trans s13
    refine⟨_,rfl,_,rfl,_,rfl,c,tt,L,p,k,mn,pl,less,rfl,hcf.same s813,s813 _ _ hLf,hll,by lia,co.pr,co.nd,co.rg,hlw,hk2,by lia,hmn1,by lia,hA less,fun z1 r1 ls1 size1 g1 H14 hz1 s14 h14z _ _ Q1 _=>?_⟩
    refine⟨z1,_,_,_,rfl,rfl,SqT.of h14z,rfl,?_⟩
    have s814:=s813.trans s14
    refine⟨_,rfl,_,rfl,_,rfl,c,tt,r,p,k,mn,pl,rw,rfl,hcf.same s814,s814 _ _ hrf,hrl,by lia,co.pr,co.nd,co.rg,hrw,hk2,by lia,hmn1,by lia,hA rw,fun z2 r2 ls2 size2 g2 H15 hz2 s15 h15z _ _ Q2 _=>?_⟩
    refine⟨z2,_,_,_,rfl,rfl,SqT.of h15z,rfl,_,_,rfl,rfl,_,rfl,?_⟩
    rw [eL] at Q1
    rw [eP] at Q2
    have hle:=zow hk2 (zng fun x hx=>by
     (obtain⟨b,hb,rfl⟩:=aE.mp hx)
     exact aE.mpr ⟨b,(aW.mp hb).elim (fun m=>by simp [m]) (fun m=>by simp [m]),rfl⟩) Q2 Q1 p0
    refine zaI (fun h=>absurd (of_decide_eq_true h) (by lia)) (fun _=>?_)
    exact⟨_,rfl,s13.trans (s14.trans s15)⟩
   rintro σ H13 ⟨e13,rfl,s13⟩
   have s813:=s812.trans s13
   refine⟨_,rfl,_,rfl,c,tt,r,p,k,pl,rw,rfl,hcf.same s813,s813 _ _ hrf,hrl,by lia,co.pr,co.nd,co.rg,hrw,by lia,by lia,fun v H14 s14 hv=>?_⟩
   have s814:=s813.trans s14
   refine⟨fun σ H'=>σ = [some (.ref a),some (.ref c),some (.int p),some (.int (k:Int)),some (.ref tt),some (.ref r),some (.int d),some (.ref D),some (.int (j:Int)),some (.ref L),e10,e11,e12,e13,some v]∧zt H14 H',?_,?_⟩
   ·refine⟨_,rfl,rfl,_,rfl,?_⟩
    refine zaI (fun hn=>?_) (fun _=>ze0 ⟨rfl,fun _ _ e=>e⟩)
    rcases hv with ⟨z,qq,rfl,h14z,hqP,hqh,huq⟩ | ⟨rfl,hno⟩
    ·refine⟨_,rfl,_,rfl,_,rfl,c,tt,r,z,p,k,pl,qq,rw,rfl,hcf.same s814,s814 _ _ hrf,hrl,h14z,by lia,by lia,co.rg,by lia,fun fl H15 hfl s15 h15=>?_⟩
     have ef:((zdp p pl rw qq pl.length).map V.int).length=hits p qq (hps pl rw):=by rw [ab]; exact zgh hrl
     have s815:=s814.trans s15
     refine⟨fl,_,rfl,.inl (SqL.of h15),_,rfl,D,_,rfl,.inl (SqL.of (s815 _ _ hDf)),rfl,_,rfl,?_⟩
     rw [ef,ab,hsm]
     refine zaI (fun heq=>?_) (fun _=>ze0 ⟨rfl,s15⟩)
     have heq:((hits p qq (hps pl rw):Nat):Int)=((hps pl rw).length:Int):=by simpa [eqV] using heq
     refine⟨_,rfl,D,_,rfl,.inl (SqL.of (s815 _ _ hDf)),_,rfl,_,_,rfl,rfl,_,rfl,?_⟩
     rw [ab,hsm]
     refine zaI (fun hgt=>?_) (fun _=>ze0 ⟨rfl,s15⟩)
     have hgt:=of_decide_eq_true hgt
     refine⟨_,rfl,_,rfl,c,tt,L,p,k,pl,less,rfl,hcf.same s815,s815 _ _ hLf,hll,by lia,co.pr,co.nd,co.rg,hlw,by lia,by lia,fun v2 H16 s16 hv2=>?_⟩
     have hlen1:(hps pl rw).length=(hps pl less).length+1:=by rw [eP,eL,ao,ao,aX]; lia
     have hh1:=(zeY p qq PA' PB' (px,yv)).2
     rw [← eP,← eL] at hh1
     have hh2:=znf p qq (hps pl less)
     rcases hv2 with ⟨z2,q2,rfl,h16z,hq2P,hq2h,huq2⟩ | ⟨rfl,hno2⟩
     ·obtain rfl:=huq2 qq hqP (by lia)
      exact⟨_,rfl,zl0 h16z ((s15.trans s16) _ _ h14z) ⟨_,rfl,ze0 ⟨rfl,s15.trans s16⟩⟩⟩
     ·exact absurd (by lia) (hno2 qq hqP)
    ·exact absurd hn (by simp)
   rintro σ' H15 ⟨rfl,s15⟩
   have s815:=s814.trans s15
   refine⟨_,rfl,_,rfl,_,_,rfl,rfl,⟨by decide,by decide⟩,_,_,rfl,rfl,by show (0:Int) < 2; decide,rfl,_,rfl,?_⟩
   have hLx:=s815 _ _ hLf
   have hsx:=hsf.trans s815
   refine zaI (fun _=>?_) (fun _=>⟨L,less,_,_,_,_,_,_,_,_,_,rfl,hsx,hLx,hll,hlw⟩)
   refine⟨_,rfl,L,_,rfl,.inl (SqL.of hLx),fun R hR=>?_⟩
   have wR:=zb (o:=.lst (less.map enc)) hR
   have v0:=aH (d / 18) (show p≠0 by lia)
   have v1:=aC (d / 18) p0
   refine⟨_,rfl,_,_,rfl,rfl,⟨by decide,by decide⟩,_,rfl,_,_,rfl,rfl,by lia,?_⟩
   refine⟨_,rfl,_,rfl,R,_,_,j,rfl,rfl,zc,?_,?_⟩
   ·unfold ixN
    rw [ab,hll,if_pos (by lia),if_pos (by lia)]
    simp
   ·refine⟨R,less.set j (some (d / 18 % p)),_,_,_,_,_,_,_,_,_,rfl,zac (hsx.trans wR) (hsx.free hR),?_,by rw [fj]; exact hll,fun z hz=>?_⟩
    ·rw [zc,List.map_set]
     rfl
    ·rcases fm hz with h | h
     ·exact hlw z h
     ·cases h
      exact⟨v0,v1⟩
  ·rintro σ H4 ⟨r,rw,e6,e7,e8,e9,e10,e11,e12,e13,e14,rfl,s4,h4r,hrl,hrw⟩
   exact q _
end
end My
end
section
namespace My
open PySem L2 PyProof.Rows
structure Dn (K:ag) (x:Str) (st:Stmt) (f:Addr) (fd:FuncData):Prop where
 a:bE K mainGlobals x=some (some (.ref f))
 f:Fun K x x st f fd
theorem zah {K:ag} {x:Str} {st:Stmt} {f:Addr} {od an:Option Addr} {sl:Array (Option Value)} {oc kV dc pm cd ct:Value} (a:bE K mainGlobals x=some (some (.ref f))) (l:K.lookup f=some ⟨oc,od,.func (dh x x (zbN st) (zbC st) (zh st) .none kV dc pm an cd ct),sl⟩) (c:fK K cd x=true) (k:fJ K (.ref f)=true):Dn K x st f (dh x x (zbN st) (zbC st) (zh st) .none kV dc pm an cd ct):=⟨a,zkn l c k⟩
theorem el1 {us:List Value} (e:us.length=1):∃ a,us = [a]:=match us,e with | [a],_=>⟨a,rfl⟩
theorem el2 {us:List Value} (e:us.length=2):∃ a b,us = [a,b]:=match us,e with | [a,b],_=>⟨a,b,rfl⟩
theorem el3 {us:List Value} (e:us.length=3):∃ a b c,us = [a,b,c]:=match us,e with | [a,b,c],_=>⟨a,b,c,rfl⟩
theorem el4 {us:List Value} (e:us.length=4):∃ a b c d,us = [a,b,c,d]:=match us,e with | [a,b,c,d],_=>⟨a,b,c,d,rfl⟩
theorem zoy {l:iJ} {w:World} {K:ag} {h:Heap} {mg:Str→Option Value} {fa fl A_SlipError A_TooFew A_NoCurve:Addr} (X:K.In h) (G:h.Ns mainGlobals mg) (hfa:mg "law" = some (.ref fa))
  {od an:Option Addr} {sl:Array (Option Value)} {oc kV dc pm cd ct:Value} (a_SlipError:bE K mainGlobals "SlipError" = some (some (.ref A_SlipError))) (a_TooFew:bE K mainGlobals "TooFew" = some (some (.ref A_TooFew))) (a_NoCurve:bE K mainGlobals "NoCurve" = some (some (.ref A_NoCurve))) (d_value_at:∃ f fd,Dn K "value_at" zcj f fd) (d_inverse:∃ f fd,Dn K "inverse" zcH f fd) (d_times_root:∃ f fd,Dn K "times_root" zbd f fd) (d_bent:∃ f fd,Dn K "bent" zeM f fd) (d_through:∃ f fd,Dn K "through" zcI f fd) (d_heard_points:∃ f fd,Dn K "heard_points" zaM f fd) (d_fits:∃ f fd,Dn K "fits" zeN f fd) (d_choices:∃ f fd,Dn K "choices" zbI f fd) (d_all_through:∃ f fd,Dn K "all_through" zaZ f fd) (d_all_near:∃ f fd,Dn K "all_near" zbL f fd) (d_moved_powers:∃ f fd,Dn K "moved_powers" zbe f fd) (d_numbers_at:∃ f fd,Dn K "numbers_at" zaB f fd) (d_vectors_of:∃ f fd,Dn K "vectors_of" zaS f fd) (d_without:∃ f fd,Dn K "without" zb5 f fd) (d_first_relation:∃ f fd,Dn K "first_relation" zaj f fd) (d_first_sum:∃ f fd,Dn K "first_sum" zbv f fd) (d_first_terms:∃ f fd,Dn K "first_terms" za0 f fd) (d_least_curve:∃ f fd,Dn K "least_curve" zag f fd) (d_check_curves:∃ f fd,Dn K "check_curves" zbf f fd) (d_curve_for:∃ f fd,Dn K "curve_for" zbw f fd) (d_times_entries:∃ f fd,Dn K "times_entries" zaC f fd) (d_beyond:∃ f fd,Dn K "beyond" s_beyond f fd) (d_sized:∃ f fd,Dn K "sized" zea f fd) (d_joint_locator:∃ f fd,Dn K "joint_locator" z8 f fd) (d_locator_of:∃ f fd,Dn K "locator_of" zbF f fd) (d_half:∃ f fd,Dn K "half" zeO f fd) (d_l_cell:∃ f fd,Dn K "_law_cell" zdj f fd) (d_l_draws:∃ f fd,Dn K "_law_draws" zcJ f fd) (d_l_code:∃ f fd,Dn K "_law_code" zcv f fd) (d_l_value:∃ f fd,Dn K "_law_value" zcK f fd) (d_l_polynomial:∃ f fd,Dn K "_law_polynomial" zaN f fd) (d_l_row:∃ f fd,Dn K "_law_row" zdk f fd)   (sb:kH K A_SlipError (.type "BaseException")=some true)
  (al:bE K mainGlobals "law" = some (some (.ref fl))) (ll:K.lookup fl=some ⟨oc,od,.func (dh "law" "law" (zbN zb6) (zbC zb6) (zh zb6) .none kV dc pm an cd ct),sl⟩) (cl:fK K cd "law" = true) (kl:fJ K (.ref fl)=true) (z_len:bE K mainGlobals "len" = some none) (z_range:bE K mainGlobals "range" = some none) (z_list:bE K mainGlobals "list" = some none) (z_tuple:bE K mainGlobals "tuple" = some none) (z_min:bE K mainGlobals "min" = some none) (z_max:bE K mainGlobals "max" = some none) (z_int:bE K mainGlobals "int" = some none) (z_zip:bE K mainGlobals "zip" = some none) (z_enumerate:bE K mainGlobals "enumerate" = some none) (z_sum:bE K mainGlobals "sum" = some none) (z_dict:bE K mainGlobals "dict" = some none) (z_reversed:bE K mainGlobals "reversed" = some none) (z_sorted:bE K mainGlobals "sorted" = some none) (z_ValueError:bE K mainGlobals "ValueError" = some none) :
  ∃ fd:FuncData,(∀ (s:Shared) (v:Value),BindsTo s fd ⟨[v],[]⟩ [("script",v)])∧∀ base:Heap,K.In base→base.Ns mainGlobals mg→FnOk l.prog w K mg base CX0 8 fa fd ["script"] (zf2 K):=by
 cases hfa.symm.trans (aP X G al)
 obtain⟨f_value_at,fd_value_at,D_value_at⟩:=d_value_at
 have b_value_at:=D_value_at.f.binds (ps:=["p","polynomial","x"]) fun _ _ _ _ _ _ _ h=>by obtain⟨_,_,_,rfl⟩:=el3 h; exact rfl
 obtain⟨f_inverse,fd_inverse,D_inverse⟩:=d_inverse
 have b_inverse:=D_inverse.f.binds (ps:=["p","number"]) fun _ _ _ _ _ _ _ h=>by obtain⟨_,_,rfl⟩:=el2 h; exact rfl
 obtain⟨f_times_root,fd_times_root,D_times_root⟩:=d_times_root
 have b_times_root:=D_times_root.f.binds (ps:=["p","polynomial","root"]) fun _ _ _ _ _ _ _ h=>by obtain⟨_,_,_,rfl⟩:=el3 h; exact rfl
 obtain⟨f_bent,fd_bent,D_bent⟩:=d_bent
 have b_bent:=D_bent.f.binds (ps:=["p","polynomial","vanishing","point"]) fun _ _ _ _ _ _ _ h=>by obtain⟨_,_,_,_,rfl⟩:=el4 h; exact rfl
 obtain⟨f_through,fd_through,D_through⟩:=d_through
 have b_through:=D_through.f.binds (ps:=["p","points"]) fun _ _ _ _ _ _ _ h=>by obtain⟨_,_,rfl⟩:=el2 h; exact rfl
 obtain⟨f_heard_points,fd_heard_points,D_heard_points⟩:=d_heard_points
 have b_heard_points:=D_heard_points.f.binds (ps:=["code","row"]) fun _ _ _ _ _ _ _ h=>by obtain⟨_,_,rfl⟩:=el2 h; exact rfl
 obtain⟨f_fits,fd_fits,D_fits⟩:=d_fits
 have b_fits:=D_fits.f.binds (ps:=["code","row","polynomial"]) fun _ _ _ _ _ _ _ h=>by obtain⟨_,_,_,rfl⟩:=el3 h; exact rfl
 obtain⟨f_choices,fd_choices,D_choices⟩:=d_choices
 have b_choices:=D_choices.f.binds (ps:=["things","many"]) fun _ _ _ _ _ _ _ h=>by obtain⟨_,_,rfl⟩:=el2 h; exact rfl
 obtain⟨f_all_through,fd_all_through,D_all_through⟩:=d_all_through
 have b_all_through:=D_all_through.f.binds (ps:=["code","points"]) fun _ _ _ _ _ _ _ h=>by obtain⟨_,_,rfl⟩:=el2 h; exact rfl
 obtain⟨f_all_near,fd_all_near,D_all_near⟩:=d_all_near
 have b_all_near:=D_all_near.f.binds (ps:=["code","row","t"]) fun _ _ _ _ _ _ _ h=>by obtain⟨_,_,_,rfl⟩:=el3 h; exact rfl
 obtain⟨f_moved_powers,fd_moved_powers,D_moved_powers⟩:=d_moved_powers
 have b_moved_powers:=D_moved_powers.f.binds (ps:=["p","by","most","kept"]) fun _ _ _ _ _ _ _ h=>by obtain⟨_,_,_,_,rfl⟩:=el4 h; exact rfl
 obtain⟨f_numbers_at,fd_numbers_at,D_numbers_at⟩:=d_numbers_at
 have b_numbers_at:=D_numbers_at.f.binds (ps:=["p","terms","point"]) fun _ _ _ _ _ _ _ h=>by obtain⟨_,_,_,rfl⟩:=el3 h; exact rfl
 obtain⟨f_vectors_of,fd_vectors_of,D_vectors_of⟩:=d_vectors_of
 have b_vectors_of:=D_vectors_of.f.binds (ps:=["p","terms","points"]) fun _ _ _ _ _ _ _ h=>by obtain⟨_,_,_,rfl⟩:=el3 h; exact rfl
 obtain⟨f_without,fd_without,D_without⟩:=d_without
 have b_without:=D_without.f.binds (ps:=["p","vector","times","other"]) fun _ _ _ _ _ _ _ h=>by obtain⟨_,_,_,_,rfl⟩:=el4 h; exact rfl
 obtain⟨f_first_relation,fd_first_relation,D_first_relation⟩:=d_first_relation
 have b_first_relation:=D_first_relation.f.binds (ps:=["p","vectors"]) fun _ _ _ _ _ _ _ h=>by obtain⟨_,_,rfl⟩:=el2 h; exact rfl
 obtain⟨f_first_sum,fd_first_sum,D_first_sum⟩:=d_first_sum
 have b_first_sum:=D_first_sum.f.binds (ps:=["p","terms","points"]) fun _ _ _ _ _ _ _ h=>by obtain⟨_,_,_,rfl⟩:=el3 h; exact rfl
 obtain⟨f_first_terms,fd_first_terms,D_first_terms⟩:=d_first_terms
 have b_first_terms:=D_first_terms.f.binds (ps:=["k","many"]) fun _ _ _ _ _ _ _ h=>by obtain⟨_,_,rfl⟩:=el2 h; exact rfl
 obtain⟨f_least_curve,fd_least_curve,D_least_curve⟩:=d_least_curve
 have b_least_curve:=D_least_curve.f.binds (ps:=["p","k","points"]) fun _ _ _ _ _ _ _ h=>by obtain⟨_,_,_,rfl⟩:=el3 h; exact rfl
 obtain⟨f_check_curves,fd_check_curves,D_check_curves⟩:=d_check_curves
 have b_check_curves:=D_check_curves.f.binds (ps:=["k"]) fun _ _ _ _ _ _ _ h=>by obtain⟨_,rfl⟩:=el1 h; exact rfl
 obtain⟨f_curve_for,fd_curve_for,D_curve_for⟩:=d_curve_for
 have b_curve_for:=D_curve_for.f.binds (ps:=["code","row","m"]) fun _ _ _ _ _ _ _ h=>by obtain⟨_,_,_,rfl⟩:=el3 h; exact rfl
 obtain⟨f_times_entries,fd_times_entries,D_times_entries⟩:=d_times_entries
 have b_times_entries:=D_times_entries.f.binds (ps:=["p","left","points"]) fun _ _ _ _ _ _ _ h=>by obtain⟨_,_,_,rfl⟩:=el3 h; exact rfl
 obtain⟨f_beyond,fd_beyond,D_beyond⟩:=d_beyond
 have b_beyond:=D_beyond.f.binds (ps:=["rights","many"]) fun _ _ _ _ _ _ _ h=>by obtain⟨_,_,rfl⟩:=el2 h; exact rfl
 obtain⟨f_sized,fd_sized,D_sized⟩:=d_sized
 have b_sized:=D_sized.f.binds (ps:=["polynomial","many"]) fun _ _ _ _ _ _ _ h=>by obtain⟨_,_,rfl⟩:=el2 h; exact rfl
 obtain⟨f_joint_locator,fd_joint_locator,D_joint_locator⟩:=d_joint_locator
 have b_joint_locator:=D_joint_locator.f.binds (ps:=["code","rows"]) fun _ _ _ _ _ _ _ h=>by obtain⟨_,_,rfl⟩:=el2 h; exact rfl
 obtain⟨f_locator_of,fd_locator_of,D_locator_of⟩:=d_locator_of
 have b_locator_of:=D_locator_of.f.binds (ps:=["code","row"]) fun _ _ _ _ _ _ _ h=>by obtain⟨_,_,rfl⟩:=el2 h; exact rfl
 obtain⟨f_half,fd_half,D_half⟩:=d_half
 have b_half:=D_half.f.binds (ps:=["code","row"]) fun _ _ _ _ _ _ _ h=>by obtain⟨_,_,rfl⟩:=el2 h; exact rfl
 obtain⟨f_l_cell,fd_l_cell,D_l_cell⟩:=d_l_cell
 have b_l_cell:=D_l_cell.f.binds (ps:=["script","k"]) fun _ _ _ _ _ _ _ h=>by obtain⟨_,_,rfl⟩:=el2 h; exact rfl
 obtain⟨f_l_draws,fd_l_draws,D_l_draws⟩:=d_l_draws
 have b_l_draws:=D_l_draws.f.binds (ps:=["script","k","many","base"]) fun _ _ _ _ _ _ _ h=>by obtain⟨_,_,_,_,rfl⟩:=el4 h; exact rfl
 obtain⟨f_l_code,fd_l_code,D_l_code⟩:=d_l_code
 have b_l_code:=D_l_code.f.binds (ps:=["script","at","most_k","most_n"]) fun _ _ _ _ _ _ _ h=>by obtain⟨_,_,_,_,rfl⟩:=el4 h; exact rfl
 obtain⟨f_l_value,fd_l_value,D_l_value⟩:=d_l_value
 have b_l_value:=D_l_value.f.binds (ps:=["p","polynomial","x"]) fun _ _ _ _ _ _ _ h=>by obtain⟨_,_,_,rfl⟩:=el3 h; exact rfl
 obtain⟨f_l_polynomial,fd_l_polynomial,D_l_polynomial⟩:=d_l_polynomial
 have b_l_polynomial:=D_l_polynomial.f.binds (ps:=["draws","p","k"]) fun _ _ _ _ _ _ _ h=>by obtain⟨_,_,_,rfl⟩:=el3 h; exact rfl
 obtain⟨f_l_row,fd_l_row,D_l_row⟩:=d_l_row
 have b_l_row:=D_l_row.f.binds (ps:=["script","at","code"]) fun _ _ _ _ _ _ _ h=>by obtain⟨_,_,_,rfl⟩:=el3 h; exact rfl
 let t:Adr:=⟨A_SlipError,A_TooFew,A_NoCurve,f_value_at,f_inverse,f_times_root,f_bent,f_through,f_heard_points,f_fits,f_choices,f_all_through,f_all_near,f_moved_powers,f_numbers_at,f_vectors_of,f_without,f_first_relation,f_first_sum,f_first_terms,f_least_curve,f_check_curves,f_curve_for,f_times_entries,f_beyond,f_sized,f_joint_locator,f_locator_of,f_half,f_l_cell,f_l_draws,f_l_code,f_l_value,f_l_polynomial,f_l_row,fa⟩
 have T:Txt K mg t:=⟨bC X G z_len,bC X G z_range,bC X G z_list,bC X G z_tuple,bC X G z_min,bC X G z_max,bC X G z_int,bC X G z_zip,bC X G z_enumerate,bC X G z_sum,bC X G z_dict,bC X G z_reversed,bC X G z_sorted,bC X G z_ValueError,aP X G a_SlipError,aP X G a_TooFew,aP X G a_NoCurve,sb,aP X G D_value_at.a,aP X G D_inverse.a,aP X G D_times_root.a,aP X G D_bent.a,aP X G D_through.a,aP X G D_heard_points.a,aP X G D_fits.a,aP X G D_choices.a,aP X G D_all_through.a,aP X G D_all_near.a,aP X G D_moved_powers.a,aP X G D_numbers_at.a,aP X G D_vectors_of.a,aP X G D_without.a,aP X G D_first_relation.a,aP X G D_first_sum.a,aP X G D_first_terms.a,aP X G D_least_curve.a,aP X G D_check_curves.a,aP X G D_curve_for.a,aP X G D_times_entries.a,aP X G D_beyond.a,aP X G D_sized.a,aP X G D_joint_locator.a,aP X G D_locator_of.a,aP X G D_half.a,aP X G D_l_cell.a,aP X G D_l_draws.a,aP X G D_l_code.a,aP X G D_l_value.a,aP X G D_l_polynomial.a,aP X G D_l_row.a,⟨_,D_value_at.f,b_value_at⟩,⟨_,D_inverse.f,b_inverse⟩,⟨_,D_times_root.f,b_times_root⟩,⟨_,D_bent.f,b_bent⟩,⟨_,D_through.f,b_through⟩,⟨_,D_heard_points.f,b_heard_points⟩,⟨_,D_fits.f,b_fits⟩,⟨_,D_choices.f,b_choices⟩,⟨_,D_all_through.f,b_all_through⟩,⟨_,D_all_near.f,b_all_near⟩,⟨_,D_moved_powers.f,b_moved_powers⟩,⟨_,D_numbers_at.f,b_numbers_at⟩,⟨_,D_vectors_of.f,b_vectors_of⟩,⟨_,D_without.f,b_without⟩,⟨_,D_first_relation.f,b_first_relation⟩,⟨_,D_first_sum.f,b_first_sum⟩,⟨_,D_first_terms.f,b_first_terms⟩,⟨_,D_least_curve.f,b_least_curve⟩,⟨_,D_check_curves.f,b_check_curves⟩,⟨_,D_curve_for.f,b_curve_for⟩,⟨_,D_times_entries.f,b_times_entries⟩,⟨_,D_beyond.f,b_beyond⟩,⟨_,D_sized.f,b_sized⟩,⟨_,D_joint_locator.f,b_joint_locator⟩,⟨_,D_locator_of.f,b_locator_of⟩,⟨_,D_half.f,b_half⟩,⟨_,D_l_cell.f,b_l_cell⟩,⟨_,D_l_draws.f,b_l_draws⟩,⟨_,D_l_code.f,b_l_code⟩,⟨_,D_l_value.f,b_l_value⟩,⟨_,D_l_polynomial.f,b_l_polynomial⟩,⟨_,D_l_row.f,b_l_row⟩⟩
 have FL:=zkn (st:=zb6) ll cl kl
 exact⟨dh "law" "law" (zbN zb6) (zbC zb6) (zh zb6) .none kV dc pm an cd ct,fun s v=>.of_eq rfl,fun base _ _=>zox (t:=t) T FL⟩
theorem walk {l:iJ} {q:Program} {loose:List Str} {XP:(Str→Option Value)→Heap→Prop} {YP:World→Heap→Prop} {d:DefRec} {K:Params→ag} (hn:l.most=some 63) (hdf:d.params.defaults = []) (hY:∀ (w:World) (h:Heap),YP w h→(K w.params).In h)
  (F:∀ (w:World) (mg:Str→Option Value) (fa:Addr) (h:Heap),(K w.params).In h→h.Ns mainGlobals mg→mg d.name=some (.ref fa)→∃ fd:FuncData,(∀ (s:Shared) (u:Value),BindsTo s fd ⟨[u],[]⟩ [("script",u)])∧∀ base:Heap,(K w.params).In base→base.Ns mainGlobals mg→FnOk l.prog w (K w.params) mg base CX0 8 fa fd ["script"] (zf2 (K w.params))):kF q loose XP YP l.row.toRowW d [] (fun f vs=>kj f vs) :=
 L2.zmb (n:=63) (k:=8) (x:="script") (CX:=fun _=>CX0) (sp:=fun w=>zf2 (K w.params)) hn (by decide) hdf ⟨rfl,by decide,by decide⟩ hY F (fun _ _ a ns hl _ hS=>⟨a,ns,rfl,hS,hl,fun _=>rfl⟩) fun _ _ _ _ _ z=>z
end My
namespace PySem.W.Fast
def tw11410417126071563342:Unit:=()
def tw14285656726351554452:Unit:=()
def tw13621115417791786035:Unit:=()
def tw547655105395646808:Unit:=()
def tw453390372821478038:Unit:=()
def tw3943621475291375340:Unit:=()
def tw10052699712594808463:Unit:=()
def tw16831443653536126009:Unit:=()
def tw1553348433066131041:Unit:=()
def tw7965331700569278615:Unit:=()
def tw3977484816662601962:Unit:=()
def tw11460252103558580129:Unit:=()
def tw958381829351097470:Unit:=()
def tw12526291133925150709:Unit:=()
def tw12892775625724039977:Unit:=()
def tw1594282897272370964:Unit:=()
def tw15683248593193931740:Unit:=()
def tw9989131804523060656:Unit:=()
def tw9592429147575001864:Unit:=()
def tw3343815765299197225:Unit:=()
def tw14840282734687494621:Unit:=()
def tw8217425682519545894:Unit:=()
def tw10956853737542853769:Unit:=()
def tw13415472980419932050:Unit:=()
def tw16178176542449391585:Unit:=()
def tw11440882066025515564:Unit:=()
def tw4461786617816624244:Unit:=()
def tw18215508735605872486:Unit:=()
def tw16209503197281237807:Unit:=()
def tw5145348810230439089:Unit:=()
def tw10532238216206816576:Unit:=()
def tw5662878237423389723:Unit:=()
def tw16825997406315699905:Unit:=()
def tw11206491470573586483:Unit:=()
def tw8094459077960015206:Unit:=()
def tw10277936820774274476:Unit:=()
def tw6443691923954350859:Unit:=()
def tw5370567025420749714:Unit:=()
def tw17349660343475957802:Unit:=()
def tw1830716655724420112:Unit:=()
def tw4205558792782080284:Unit:=()
def tw8950466142923793406:Unit:=()
def tw5131202542934898591:Unit:=()
def tw11422298279607142288:Unit:=()
def tw8254983514931548455:Unit:=()
def tw537889457136668144:Unit:=()
def tw5260689178810017511:Unit:=()
def tw167275022602330728:Unit:=()
def tw18121125710386774806:Unit:=()
def tw4395940866975604309:Unit:=()
def tw14252825261432402617:Unit:=()
def tw7643317915852930966:Unit:=()
def tw10629654218958034522:Unit:=()
def tw9774172855523237264:Unit:=()
def tw7557135479843346503:Unit:=()
def tw17432103796175181824:Unit:=()
def tw7694157960007826197:Unit:=()
def tw15950620024160498673:Unit:=()
def tw14586956551029904965:Unit:=()
def tw12883693995344468266:Unit:=()
def tw5601132605664579957:Unit:=()
def tw6654865151524845259:Unit:=()
def tw17182625842312911061:Unit:=()
def tw7881167740332330087:Unit:=()
def tw10721065995306595791:Unit:=()
def tw14094012039052301422:Unit:=()
def tw10642959447235052477:Unit:=()
def tw12375566854558303660:Unit:=()
def tw16703195345647993330:Unit:=()
def tw4675423883793133121:Unit:=()
def tw1402229767085421563:Unit:=()
def tw7040699754420475432:Unit:=()
def tw3886344104637237010:Unit:=()
def tw16657976974612101660:Unit:=()
def tw4994630357015778021:Unit:=()
def tw14561540880861533649:Unit:=()
def tw9211445004102158646:Unit:=()
def tw12176318826925150051:Unit:=()
def tw5641776946932150029:Unit:=()
def tw18165498342288655304:Unit:=()
def tw4232804148969799521:Unit:=()
def tw16645422068435610063:Unit:=()
def tw3085367437135038083:Unit:=()
def tw2162851064633481762:Unit:=()
def tw13520834681374883567:Unit:=()
def tw2220527488566083254:Unit:=()
def tw14920348643886839582:Unit:=()
def tw9960515019933321711:Unit:=()
def tw14171202737560596350:Unit:=()
def tw5563194072655111811:Unit:=()
end PySem.W.Fast
open PySem PySem.W
open PyProof.Rows
set_option maxHeartbeats 0 in
theorem PySem.Challenge.cw_slipcurve_k20_whole_more_heard_holds : PySem.Challenge.rw_slipcurve_k20_whole_more_heard.Holds := by
 w_on; o_law; k_head; (case hw=>w_witness2)
 k_fill
 refine My.walk (l:=PySem.Challenge.rw_slipcurve_k20_whole_more_heard) rfl rfl (fun w h Y=>PySem.W.kIn_of Y) ?F
 case F =>
  intro w mg fa h KX G hmg
  refine' My.zoy KX G hmg ?a_SlipError ?a_TooFew ?a_NoCurve ⟨_,_,My.zah ?da_value_at ?dl_value_at ?dc_value_at ?dk_value_at⟩ ⟨_,_,My.zah ?da_inverse ?dl_inverse ?dc_inverse ?dk_inverse⟩ ⟨_,_,My.zah ?da_times_root ?dl_times_root ?dc_times_root ?dk_times_root⟩ ⟨_,_,My.zah ?da_bent ?dl_bent ?dc_bent ?dk_bent⟩ ⟨_,_,My.zah ?da_through ?dl_through ?dc_through ?dk_through⟩ ⟨_,_,My.zah ?da_heard_points ?dl_heard_points ?dc_heard_points ?dk_heard_points⟩ ⟨_,_,My.zah ?da_fits ?dl_fits ?dc_fits ?dk_fits⟩ ⟨_,_,My.zah ?da_choices ?dl_choices ?dc_choices ?dk_choices⟩ ⟨_,_,My.zah ?da_all_through ?dl_all_through ?dc_all_through ?dk_all_through⟩ ⟨_,_,My.zah ?da_all_near ?dl_all_near ?dc_all_near ?dk_all_near⟩ ⟨_,_,My.zah ?da_moved_powers ?dl_moved_powers ?dc_moved_powers ?dk_moved_powers⟩ ⟨_,_,My.zah ?da_numbers_at ?dl_numbers_at ?dc_numbers_at ?dk_numbers_at⟩ ⟨_,_,My.zah ?da_vectors_of ?dl_vectors_of ?dc_vectors_of ?dk_vectors_of⟩ ⟨_,_,My.zah ?da_without ?dl_without ?dc_without ?dk_without⟩ ⟨_,_,My.zah ?da_first_relation ?dl_first_relation ?dc_first_relation ?dk_first_relation⟩ ⟨_,_,My.zah ?da_first_sum ?dl_first_sum ?dc_first_sum ?dk_first_sum⟩ ⟨_,_,My.zah ?da_first_terms ?dl_first_terms ?dc_first_terms ?dk_first_terms⟩ ⟨_,_,My.zah ?da_least_curve ?dl_least_curve ?dc_least_curve ?dk_least_curve⟩ ⟨_,_,My.zah ?da_check_curves ?dl_check_curves ?dc_check_curves ?dk_check_curves⟩ ⟨_,_,My.zah ?da_curve_for ?dl_curve_for ?dc_curve_for ?dk_curve_for⟩ ⟨_,_,My.zah ?da_times_entries ?dl_times_entries ?dc_times_entries ?dk_times_entries⟩ ⟨_,_,My.zah ?da_beyond ?dl_beyond ?dc_beyond ?dk_beyond⟩ ⟨_,_,My.zah ?da_sized ?dl_sized ?dc_sized ?dk_sized⟩ ⟨_,_,My.zah ?da_joint_locator ?dl_joint_locator ?dc_joint_locator ?dk_joint_locator⟩ ⟨_,_,My.zah ?da_locator_of ?dl_locator_of ?dc_locator_of ?dk_locator_of⟩ ⟨_,_,My.zah ?da_half ?dl_half ?dc_half ?dk_half⟩ ⟨_,_,My.zah ?da_l_cell ?dl_l_cell ?dc_l_cell ?dk_l_cell⟩ ⟨_,_,My.zah ?da_l_draws ?dl_l_draws ?dc_l_draws ?dk_l_draws⟩ ⟨_,_,My.zah ?da_l_code ?dl_l_code ?dc_l_code ?dk_l_code⟩ ⟨_,_,My.zah ?da_l_value ?dl_l_value ?dc_l_value ?dk_l_value⟩ ⟨_,_,My.zah ?da_l_polynomial ?dl_l_polynomial ?dc_l_polynomial ?dk_l_polynomial⟩ ⟨_,_,My.zah ?da_l_row ?dl_l_row ?dc_l_row ?dk_l_row⟩ ?sb ?al ?ll ?cl ?kl ?z_len ?z_range ?z_list ?z_tuple ?z_min ?z_max ?z_int ?z_zip ?z_enumerate ?z_sum ?z_dict ?z_reversed ?z_sorted ?z_ValueError
  (case a_SlipError=>k_is)
  (case a_TooFew=>k_is)
  (case a_NoCurve=>k_is)
  (case da_value_at=>k_is)
  (case dl_value_at=>k_is)
  (case dc_value_at=>k_is)
  (case dk_value_at=>k_is)
  (case da_inverse=>k_is)
  (case dl_inverse=>k_is)
  (case dc_inverse=>k_is)
  (case dk_inverse=>k_is)
  (case da_times_root=>k_is)
  (case dl_times_root=>k_is)
  (case dc_times_root=>k_is)
  (case dk_times_root=>k_is)
  (case da_bent=>k_is)
  (case dl_bent=>k_is)
  (case dc_bent=>k_is)
  (case dk_bent=>k_is)
  (case da_through=>k_is)
  (case dl_through=>k_is)
  (case dc_through=>k_is)
  (case dk_through=>k_is)
  (case da_heard_points=>k_is)
  (case dl_heard_points=>k_is)
  (case dc_heard_points=>k_is)
  (case dk_heard_points=>k_is)
  (case da_fits=>k_is)
  (case dl_fits=>k_is)
  (case dc_fits=>k_is)
  (case dk_fits=>k_is)
  (case da_choices=>k_is)
  (case dl_choices=>k_is)
  (case dc_choices=>k_is)
  (case dk_choices=>k_is)
  (case da_all_through=>k_is)
  (case dl_all_through=>k_is)
  (case dc_all_through=>k_is)
  (case dk_all_through=>k_is)
  (case da_all_near=>k_is)
  (case dl_all_near=>k_is)
  (case dc_all_near=>k_is)
  (case dk_all_near=>k_is)
  (case da_moved_powers=>k_is)
  (case dl_moved_powers=>k_is)
  (case dc_moved_powers=>k_is)
  (case dk_moved_powers=>k_is)
  (case da_numbers_at=>k_is)
  (case dl_numbers_at=>k_is)
  (case dc_numbers_at=>k_is)
  (case dk_numbers_at=>k_is)
  (case da_vectors_of=>k_is)
  (case dl_vectors_of=>k_is)
  (case dc_vectors_of=>k_is)
  (case dk_vectors_of=>k_is)
  (case da_without=>k_is)
  (case dl_without=>k_is)
  (case dc_without=>k_is)
  (case dk_without=>k_is)
  (case da_first_relation=>k_is)
  (case dl_first_relation=>k_is)
  (case dc_first_relation=>k_is)
  (case dk_first_relation=>k_is)
  (case da_first_sum=>k_is)
  (case dl_first_sum=>k_is)
  (case dc_first_sum=>k_is)
  (case dk_first_sum=>k_is)
  (case da_first_terms=>k_is)
  (case dl_first_terms=>k_is)
  (case dc_first_terms=>k_is)
  (case dk_first_terms=>k_is)
  (case da_least_curve=>k_is)
  (case dl_least_curve=>k_is)
  (case dc_least_curve=>k_is)
  (case dk_least_curve=>k_is)
  (case da_check_curves=>k_is)
  (case dl_check_curves=>k_is)
  (case dc_check_curves=>k_is)
  (case dk_check_curves=>k_is)
  (case da_curve_for=>k_is)
  (case dl_curve_for=>k_is)
  (case dc_curve_for=>k_is)
  (case dk_curve_for=>k_is)
  (case da_times_entries=>k_is)
  (case dl_times_entries=>k_is)
  (case dc_times_entries=>k_is)
  (case dk_times_entries=>k_is)
  (case da_beyond=>k_is)
  (case dl_beyond=>k_is)
  (case dc_beyond=>k_is)
  (case dk_beyond=>k_is)
  (case da_sized=>k_is)
  (case dl_sized=>k_is)
  (case dc_sized=>k_is)
  (case dk_sized=>k_is)
  (case da_joint_locator=>k_is)
  (case dl_joint_locator=>k_is)
  (case dc_joint_locator=>k_is)
  (case dk_joint_locator=>k_is)
  (case da_locator_of=>k_is)
  (case dl_locator_of=>k_is)
  (case dc_locator_of=>k_is)
  (case dk_locator_of=>k_is)
  (case da_half=>k_is)
  (case dl_half=>k_is)
  (case dc_half=>k_is)
  (case dk_half=>k_is)
  (case da_l_cell=>k_is)
  (case dl_l_cell=>k_is)
  (case dc_l_cell=>k_is)
  (case dk_l_cell=>k_is)
  (case da_l_draws=>k_is)
  (case dl_l_draws=>k_is)
  (case dc_l_draws=>k_is)
  (case dk_l_draws=>k_is)
  (case da_l_code=>k_is)
  (case dl_l_code=>k_is)
  (case dc_l_code=>k_is)
  (case dk_l_code=>k_is)
  (case da_l_value=>k_is)
  (case dl_l_value=>k_is)
  (case dc_l_value=>k_is)
  (case dk_l_value=>k_is)
  (case da_l_polynomial=>k_is)
  (case dl_l_polynomial=>k_is)
  (case dc_l_polynomial=>k_is)
  (case dk_l_polynomial=>k_is)
  (case da_l_row=>k_is)
  (case dl_l_row=>k_is)
  (case dc_l_row=>k_is)
  (case dk_l_row=>k_is)
  (case sb=>k_is)
  (case al=>k_is)
  (case ll=>k_is)
  (case cl=>k_is)
  (case kl=>k_is)
  (case z_len=>k_is)
  (case z_range=>k_is)
  (case z_list=>k_is)
  (case z_tuple=>k_is)
  (case z_min=>k_is)
  (case z_max=>k_is)
  (case z_int=>k_is)
  (case z_zip=>k_is)
  (case z_enumerate=>k_is)
  (case z_sum=>k_is)
  (case z_dict=>k_is)
  (case z_reversed=>k_is)
  (case z_sorted=>k_is)
  (case z_ValueError=>k_is)
#print axioms PySem.Challenge.cw_slipcurve_k20_whole_more_heard_holds
end